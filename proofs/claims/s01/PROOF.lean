import PyProof.Rows.All
import Wide.All
import OpenK.AllK
import Wide.FinOn
import Open.SpecLaws
import KE.OsGo
import HandS.ForSpec
import HandS.ForMost
import HandS.Walk
import HandS.Steps
import HandS.Evl
import KE.SortKeyHeap
import KE.DataMinKey
import KE.DataCmp
import HandS.SortKw
import HandS.More
import PySem.Challenge.RW_markstretch_s01_answers
section
set_option linter.all false
namespace Mk
open Ue02
/-- the changes lie apart, from a place on, within a text of n bytes -/
def Lie : Nat → Nat → List Change → Prop
  | _, _, [] => True
  | lo, n, c :: l => lo ≤ c.at_ ∧ c.at_ + c.out ≤ n ∧ Lie (c.at_ + c.out + 1) n l
def lieB : Nat → Nat → List Change → Bool
  | _, _, [] => true
  | lo, n, c :: l => if c.at_ < lo ∨ n < c.at_ + c.out then false else lieB (c.at_ + c.out + 1) n l
theorem lieB_iff : ∀ (l : List Change) (lo n : Nat), lieB lo n l = true ↔ Lie lo n l
  | [], _, _ => by simp [lieB, Lie]
  | c :: l, lo, n => by
    simp only [lieB, Lie]
    split
    · constructor
      · intro h; cases h
      · intro h; omega
    · rw [lieB_iff l]
      constructor
      · intro h; exact ⟨by omega, by omega, h⟩
      · intro h; exact h.2.2
theorem Lie.mono : ∀ {l : List Change} {lo lo' n : Nat}, lo' ≤ lo → Lie lo n l → Lie lo' n l
  | [], _, _, _, _, _ => trivial
  | _ :: _, _, _, _, h, ⟨a, b, c⟩ => ⟨Nat.le_trans h a, b, c⟩
theorem lie_apart : ∀ (l : List Change) (lo n : Nat), Lie lo n l → apart l = true ∧ within_ n l = true
  | [], _, _, _ => ⟨rfl, rfl⟩
  | [c], lo, n, h => by
    refine ⟨rfl, ?_⟩
    simp only [within_, List.all_cons, List.all_nil, Bool.and_true, decide_eq_true_eq]
    exact h.2.1
  | c :: d :: l, lo, n, h => by
    obtain ⟨h1, h2, h3⟩ := h
    have ih := lie_apart (d :: l) _ n h3
    refine ⟨?_, ?_⟩
    · simp only [apart, Bool.and_eq_true, decide_eq_true_eq]
      refine ⟨?_, ih.1⟩
      have := h3.1
      omega
    · have := ih.2
      simp only [within_, List.all_cons, Bool.and_eq_true, decide_eq_true_eq] at this ⊢
      exact ⟨h2, this⟩
theorem apart_lie : ∀ (l : List Change) (lo n : Nat), apart l = true → within_ n l = true → (∀ c ∈ l.head?, lo ≤ c.at_) → Lie lo n l
  | [], _, _, _, _, _ => trivial
  | [c], lo, n, _, hw, h => by
    simp only [within_, List.all_cons, List.all_nil, Bool.and_true, decide_eq_true_eq] at hw
    exact ⟨h c (by simp), hw, trivial⟩
  | c :: d :: l, lo, n, ha, hw, h => by
    simp only [apart, Bool.and_eq_true, decide_eq_true_eq] at ha
    have hw' : within_ n (d :: l) = true := by
      simp only [within_, List.all_cons, Bool.and_eq_true, decide_eq_true_eq] at hw ⊢
      exact hw.2
    have hc : c.at_ + c.out ≤ n := by
      simp only [within_, List.all_cons, Bool.and_eq_true, decide_eq_true_eq] at hw
      exact hw.1
    refine ⟨h c (by simp), hc, apart_lie (d :: l) _ n ha.2 hw' ?_⟩
    intro x hx
    simp at hx
    subst hx
    omega
theorem lieB_eq (n : Nat) (l : List Change) : lieB 0 n l = (apart l && within_ n l) := by
  by_cases h : Lie 0 n l
  · have q := lie_apart l 0 n h
    rw [(lieB_iff l 0 n).mpr h, q.1, q.2]
    rfl
  · have e : lieB 0 n l = false := by
      cases q : lieB 0 n l with
      | false => rfl
      | true => exact absurd ((lieB_iff l 0 n).mp q) h
    rw [e]
    cases q1 : apart l with
    | false => rfl
    | true =>
      cases q2 : within_ n l with
      | false => rfl
      | true => exact absurd (apart_lie l 0 n q1 q2 (fun _ _ => Nat.zero_le _)) h
/-! the text, forward -/
def fwd (t : Bytes) : Nat → List Change → Bytes
  | i, [] => t.drop i
  | i, c :: l => (t.drop i).take (c.at_ - i) ++ (c.in_ ++ fwd t (c.at_ + c.out) l)
theorem take_split {α : Type} (t : List α) {i j : Nat} (h : i ≤ j) : t.take j = t.take i ++ (t.drop i).take (j - i) := by
  have := List.take_add (l := t) (i := i) (j := j - i)
  rw [show i + (j - i) = j by omega] at this
  exact this
theorem changed_fwd : ∀ (l : List Change) (t : Bytes) (i : Nat), Lie i t.length l → i ≤ t.length → changed t l = t.take i ++ fwd t i l
  | [], t, i, _, _ => by
    show t = _
    simp [fwd]
  | c :: l, t, i, h, hi => by
    obtain ⟨h1, h2, h3⟩ := h
    have ih := changed_fwd l t (c.at_ + c.out) (h3.mono (by omega)) h2
    show (changed t l).take c.at_ ++ (c.in_ ++ (changed t l).drop (c.at_ + c.out)) = _
    have e1 : (changed t l).take c.at_ = t.take c.at_ := by
      rw [ih, List.take_append_of_le_length (by rw [List.length_take]; omega), List.take_take]
      congr 1
      omega
    have e2 : (changed t l).drop (c.at_ + c.out) = fwd t (c.at_ + c.out) l := by
      rw [ih, List.drop_append_of_le_length (by rw [List.length_take]; omega)]
      rw [List.drop_eq_nil_of_le (by rw [List.length_take]; omega)]
      rfl
    rw [e1, e2, take_split t h1]
    simp only [fwd, List.append_assoc]
theorem changed_eq {l : List Change} {t : Bytes} (h : Lie 0 t.length l) : changed t l = fwd t 0 l := by
  rw [changed_fwd l t 0 h (Nat.zero_le _)]
  rfl
/-- how much goes in, and out -/
def ins (l : List Change) : Nat := (l.map fun c => c.in_.length).sum
def outs (l : List Change) : Nat := (l.map fun c => c.out).sum
theorem fwd_length : ∀ (l : List Change) (t : Bytes) (i : Nat), Lie i t.length l → i ≤ t.length → (fwd t i l).length + i + outs l = t.length + ins l
  | [], t, i, _, hi => by
    simp [fwd, outs, ins]
    omega
  | c :: l, t, i, h, hi => by
    obtain ⟨h1, h2, h3⟩ := h
    have ih := fwd_length l t (c.at_ + c.out) (h3.mono (by omega)) h2
    simp only [fwd, outs, ins, List.map_cons, List.sum_cons, List.length_append, List.length_take, List.length_drop] at ih ⊢
    omega
theorem changed_length {l : List Change} {t : Bytes} (h : Lie 0 t.length l) : (changed t l).length + outs l = t.length + ins l := by
  have := fwd_length l t 0 h (Nat.zero_le _)
  rw [changed_eq h]
  omega
/-! what takes it back -/
theorem back_text : ∀ (l : List Change) (t s : Bytes) (i more less : Nat), Lie i t.length l → i ≤ t.length → less ≤ i → s.drop (i + more - less) = fwd t i l →
    fwd s (i + more - less) (inverse t more less l) = t.drop i
  | [], t, s, i, more, less, _, _, _, e => e
  | c :: l, t, s, i, more, less, h, hi, hl, e => by
    obtain ⟨h1, h2, h3⟩ := h
    have e2 : s.drop (c.at_ + c.out + (more + c.in_.length) - (less + c.out)) = fwd t (c.at_ + c.out) l := by
      have q : c.at_ + c.out + (more + c.in_.length) - (less + c.out) = (i + more - less) + ((c.at_ - i) + c.in_.length) := by omega
      rw [q, ← List.drop_drop, e]
      show ((t.drop i).take (c.at_ - i) ++ (c.in_ ++ fwd t (c.at_ + c.out) l)).drop (c.at_ - i + c.in_.length) = _
      rw [← List.drop_drop]
      have z1 : ((t.drop i).take (c.at_ - i) ++ (c.in_ ++ fwd t (c.at_ + c.out) l)).drop (c.at_ - i) = c.in_ ++ fwd t (c.at_ + c.out) l :=
        List.drop_left' (by rw [List.length_take, List.length_drop]; omega)
      rw [z1]
      exact List.drop_left' rfl
    have ih := back_text l t s (c.at_ + c.out) (more + c.in_.length) (less + c.out) (h3.mono (by omega)) h2 (by omega) e2
    simp only [inverse, fwd]
    have q3 : c.at_ + more - less + c.in_.length = c.at_ + c.out + (more + c.in_.length) - (less + c.out) := by omega
    rw [q3, ih, e]
    have q4 : c.at_ + more - less - (i + more - less) = c.at_ - i := by omega
    rw [q4]
    show ((t.drop i).take (c.at_ - i) ++ (c.in_ ++ fwd t (c.at_ + c.out) l)).take (c.at_ - i) ++ _ = _
    rw [List.take_append_of_le_length (by rw [List.length_take, List.length_drop]; omega), List.take_take, Nat.min_self]
    have q5 : t.drop c.at_ = (t.drop c.at_).take c.out ++ t.drop (c.at_ + c.out) := by
      rw [← List.drop_drop]
      exact (List.take_append_drop _ _).symm
    rw [← q5]
    have q6 : t.drop c.at_ = (t.drop i).drop (c.at_ - i) := by
      rw [List.drop_drop]
      congr 1
      omega
    rw [q6, List.take_append_drop]
theorem back_lie : ∀ (l : List Change) (t : Bytes) (n i lo more less : Nat), Lie lo t.length l → i ≤ lo → i ≤ t.length → less ≤ i → (fwd t i l).length + (i + more - less) = n →
    Lie (lo + more - less) n (inverse t more less l)
  | [], _, _, _, _, _, _, _, _, _, _, _ => trivial
  | c :: l, t, n, i, lo, more, less, h, hil, hi, hl, e => by
    obtain ⟨h1, h2, h3⟩ := h
    have e' : (fwd t (c.at_ + c.out) l).length + ((c.at_ + c.out) + (more + c.in_.length) - (less + c.out)) = n := by
      simp only [fwd, List.length_append, List.length_take, List.length_drop] at e
      omega
    have ih := back_lie l t n (c.at_ + c.out) (c.at_ + c.out + 1) (more + c.in_.length) (less + c.out) h3 (by omega) h2 (by omega) e'
    refine ⟨by show lo + more - less ≤ c.at_ + more - less; omega, ?_, ?_⟩
    · show c.at_ + more - less + c.in_.length ≤ n
      omega
    · show Lie (c.at_ + more - less + c.in_.length + 1) n _
      rw [show c.at_ + more - less + c.in_.length + 1 = c.at_ + c.out + 1 + (more + c.in_.length) - (less + c.out) by omega]
      exact ih
theorem inverse_lie {l : List Change} {t : Bytes} (h : Lie 0 t.length l) : Lie 0 (changed t l).length (inverse t 0 0 l) := by
  have := back_lie l t (changed t l).length 0 0 0 0 h (Nat.le_refl _) (Nat.zero_le _) (Nat.le_refl _) (by rw [changed_eq h]; rfl)
  exact this
theorem undo_text {l : List Change} {t : Bytes} (h : Lie 0 t.length l) : changed (changed t l) (inverse t 0 0 l) = t := by
  rw [changed_eq (inverse_lie h)]
  have := back_text l t (changed t l) 0 0 0 h (Nat.zero_le _) (Nat.le_refl _) (by rw [changed_eq h]; rfl)
  exact this
end Mk
end

section
set_option linter.all false
set_option maxHeartbeats 1000000
namespace Mk
open Ue02
/-- what never changes of a stretch -/
def Alike (o s : Stretch) : Prop := o.leanA = s.leanA ∧ o.leanB = s.leanB ∧ o.vanish = s.vanish ∧ o.rank = s.rank ∧ o.value = s.value
def UChain : Bytes → List Done → Prop
  | _, [] => True
  | t, d :: l => ∃ t0, Lie 0 t0.length d.changes ∧ t = changed t0 d.changes ∧ d.back = inverse t0 0 0 d.changes ∧ t0.length ≤ 600 ∧ UChain t0 l
def RChain : Bytes → List (List Change) → Prop
  | _, [] => True
  | t, c :: l => Lie 0 t.length c ∧ (changed t c).length ≤ 600 ∧ RChain (changed t c) l
/-- what holds of the house at every time -/
structure PInv (g : House) : Prop where
  txt : g.text.length ≤ 600
  num : (g.marks.map (·.number)).Nodup
  lt : ∀ s ∈ g.marks, s.number < g.given
  giv : g.given ≤ 40
  stp : (g.marks.map (·.stamp)).Nodup
  slt : ∀ s ∈ g.marks, s.stamp < g.stamps
  und : UChain g.text g.undo
  red : RChain g.text g.redo
  bnd : ∀ d ∈ g.undo, (d.before.map (·.number)).Nodup
  blt : ∀ d ∈ g.undo, ∀ o ∈ d.before, o.number < g.given
  bal : ∀ d ∈ g.undo, ∀ o ∈ d.before, ∀ s ∈ g.marks, o.number = s.number → Alike o s
theorem init_inv : PInv init := ⟨by decide, List.nodup_nil, (fun _ h => by cases h), by decide, List.nodup_nil, (fun _ h => by cases h), trivial, trivial, (fun _ h => by cases h), (fun _ h => by cases h), (fun _ h => by cases h)⟩
theorem moved_number (l : List Change) (s : Stretch) : (moved l s).number = s.number := by
  unfold moved; split <;> rfl
theorem moved_stamp (l : List Change) (s : Stretch) : (moved l s).stamp = s.stamp := by
  unfold moved; split <;> rfl
theorem moved_alike (l : List Change) (s : Stretch) : Alike (moved l s) s := by
  unfold moved; split <;> exact ⟨rfl, rfl, rfl, rfl, rfl⟩
theorem Alike.refl (s : Stretch) : Alike s s := ⟨rfl, rfl, rfl, rfl, rfl⟩
theorem Alike.symm {s t : Stretch} (h : Alike s t) : Alike t s := ⟨h.1.symm, h.2.1.symm, h.2.2.1.symm, h.2.2.2.1.symm, h.2.2.2.2.symm⟩
theorem Alike.trans {s t u : Stretch} (h : Alike s t) (k : Alike t u) : Alike s u := ⟨h.1.trans k.1, h.2.1.trans k.2.1, h.2.2.1.trans k.2.2.1, h.2.2.2.1.trans k.2.2.2.1, h.2.2.2.2.trans k.2.2.2.2⟩
/-- marks changed one by one, each with its number, its stamp and what never changes -/
theorem PInv.remark {g : House} (p : PInv g) (f : Stretch → Stretch) (hn : ∀ s ∈ g.marks, (f s).number = s.number) (hs : ∀ s ∈ g.marks, (f s).stamp = s.stamp) (ha : ∀ s ∈ g.marks, Alike (f s) s) {t : Bytes} {u : List Done} {r : List (List Change)}
    (ht : t.length ≤ 600) (hu : UChain t u) (hr : RChain t r) (hb : ∀ d ∈ u, d ∈ g.undo ∨ d.before = g.marks) : PInv { g with text := t, marks := g.marks.map f, undo := u, redo := r } := by
  have e1 : (g.marks.map f).map (·.number) = g.marks.map (·.number) := by
    rw [List.map_map]
    exact List.map_congr_left fun s h => hn s h
  have e2 : (g.marks.map f).map (·.stamp) = g.marks.map (·.stamp) := by
    rw [List.map_map]
    exact List.map_congr_left fun s h => hs s h
  refine ⟨ht, by show ((g.marks.map f).map (·.number)).Nodup; rw [e1]; exact p.num, ?_, p.giv, by show ((g.marks.map f).map (·.stamp)).Nodup; rw [e2]; exact p.stp, ?_, hu, hr, ?_, ?_, ?_⟩
  · intro s h
    obtain ⟨s0, h0, rfl⟩ := List.mem_map.mp h
    rw [hn s0 h0]
    exact p.lt s0 h0
  · intro s h
    obtain ⟨s0, h0, rfl⟩ := List.mem_map.mp h
    rw [hs s0 h0]
    exact p.slt s0 h0
  · intro d h
    rcases hb d h with q | q
    · exact p.bnd d q
    · rw [q]; exact p.num
  · intro d h o ho
    rcases hb d h with q | q
    · exact p.blt d q o ho
    · rw [q] at ho; exact p.lt o ho
  · intro d h o ho s hs' e
    obtain ⟨s0, h0, rfl⟩ := List.mem_map.mp hs'
    rw [hn s0 h0] at e
    rcases hb d h with q | q
    · exact (p.bal d q o ho s0 h0 e).trans (ha s0 h0).symm
    · rw [q] at ho
      have : o = s0 := by
        have nd := p.num
        exact eq_of_map_nodup nd ho h0 e
      rw [this]
      exact (ha s0 h0).symm
where
  eq_of_map_nodup {l : List Stretch} (nd : (l.map (·.number)).Nodup) {a b : Stretch} (ha : a ∈ l) (hb : b ∈ l) (e : a.number = b.number) : a = b := by
    induction l with
    | nil => cases ha
    | cons c l ih =>
      rw [List.map_cons, List.nodup_cons] at nd
      rcases List.mem_cons.mp ha with rfl | ha'
      · rcases List.mem_cons.mp hb with rfl | hb'
        · rfl
        · exact absurd (List.mem_map.mpr ⟨b, hb', e.symm⟩) nd.1
      · rcases List.mem_cons.mp hb with rfl | hb'
        · exact absurd (List.mem_map.mpr ⟨a, ha', e⟩) nd.1
        · exact ih nd.2 ha' hb'
theorem does_inv {g : House} (p : PInv g) {l : List Change} {r : List (List Change)} (hl : Lie 0 g.text.length l) (hz : (changed g.text l).length ≤ 600) (hr : RChain (changed g.text l) r) : PInv (does g l r) :=
  p.remark (moved l) (fun s _ => moved_number l s) (fun s _ => moved_stamp l s) (fun s _ => moved_alike l s) hz ⟨g.text, hl, rfl, rfl, p.txt, p.und⟩ hr (fun d h => by
    rcases List.mem_cons.mp h with rfl | h
    · exact .inr rfl
    · exact .inl h)
/-- what a snapshot gives back -/
theorem restored_eq {g : House} (p : PInv g) {d : Done} (hd : d ∈ g.undo) {s : Stretch} (hs : s ∈ g.marks) :
    restored d s = match d.before.find? (fun o => o.number == s.number) with
      | none => moved d.back s
      | some o => if o.stamp = s.stamp then { s with a := o.a, b := o.b, gone := o.gone } else moved d.back s := by
  have nd := p.bnd d hd
  have al := fun o ho => p.bal d hd o ho s hs
  unfold restored
  have key : ∀ l : List Stretch, (l.map (·.number)).Nodup → (∀ o ∈ l, o.number = s.number → Alike o s) →
      (match l.find? (fun o => o.number == s.number && o.stamp == s.stamp) with | some o => o | none => moved d.back s) =
      match l.find? (fun o => o.number == s.number) with
      | none => moved d.back s
      | some o => if o.stamp = s.stamp then { s with a := o.a, b := o.b, gone := o.gone } else moved d.back s := by
    intro l
    induction l with
    | nil => intro _ _; rfl
    | cons o l ih =>
      intro nd al
      rw [List.map_cons, List.nodup_cons] at nd
      rw [List.find?_cons, List.find?_cons]
      by_cases e : o.number = s.number
      · have e1 : (o.number == s.number) = true := by rw [e]; exact beq_self_eq_true _
        rw [e1]
        by_cases e2 : o.stamp = s.stamp
        · have e3 : (o.stamp == s.stamp) = true := by rw [e2]; exact beq_self_eq_true _
          rw [e3]
          simp only [Bool.and_self, if_pos e2]
          obtain ⟨a1, a2, a3, a4, a5⟩ := al o List.mem_cons_self e
          cases o; cases s
          simp only at e e2 a1 a2 a3 a4 a5 ⊢
          subst e e2 a1 a2 a3 a4 a5
          rfl
        · have e3 : (o.stamp == s.stamp) = false := by
            cases q : o.stamp == s.stamp with
            | false => rfl
            | true => exact absurd (eq_of_beq q) e2
          rw [e3]
          simp only [Bool.and_false, if_neg e2]
          have none2 : l.find? (fun o => o.number == s.number && o.stamp == s.stamp) = none := by
            rw [List.find?_eq_none]
            intro x hx q
            simp only [Bool.and_eq_true, beq_iff_eq] at q
            exact nd.1 (List.mem_map.mpr ⟨x, hx, q.1.trans e.symm⟩)
          rw [none2]
      · have e1 : (o.number == s.number) = false := by
          cases q : o.number == s.number with
          | false => rfl
          | true => exact absurd (eq_of_beq q) e
        rw [e1]
        simp only [Bool.false_and]
        exact ih nd.2 (fun x hx => al x (List.mem_cons_of_mem _ hx))
  exact key d.before nd al
theorem restored_keeps {g : House} (p : PInv g) {d : Done} (hd : d ∈ g.undo) {s : Stretch} (hs : s ∈ g.marks) : (restored d s).number = s.number ∧ (restored d s).stamp = s.stamp ∧ Alike (restored d s) s := by
  rw [restored_eq p hd hs]
  split
  · exact ⟨moved_number _ _, moved_stamp _ _, moved_alike _ _⟩
  · split
    · exact ⟨rfl, rfl, ⟨rfl, rfl, rfl, rfl, rfl⟩⟩
    · exact ⟨moved_number _ _, moved_stamp _ _, moved_alike _ _⟩
theorem undone_inv {g : House} (p : PInv g) {d : Done} {l : List Done} (h : g.undo = d :: l) : PInv (undone g d l) ∧ Lie 0 g.text.length d.back := by
  have hd : d ∈ g.undo := by rw [h]; exact List.mem_cons_self
  have hu := p.und
  rw [h] at hu
  obtain ⟨t0, h1, h2, h3, h4, h5⟩ := hu
  have e : changed g.text d.back = t0 := by rw [h2, h3]; exact undo_text h1
  refine ⟨?_, by rw [h2, h3]; exact inverse_lie h1⟩
  refine p.remark (restored d) (fun s hs => (restored_keeps p hd hs).1) (fun s hs => (restored_keeps p hd hs).2.1) (fun s hs => (restored_keeps p hd hs).2.2) (by rw [e]; exact h4) (by rw [e]; exact h5) ?_ (fun x hx => .inl (by rw [h]; exact List.mem_cons_of_mem _ hx))
  rw [e]
  exact ⟨h1, by rw [← h2]; exact p.txt, by rw [← h2]; exact p.red⟩
theorem mark_inv {g : House} (p : PInv g) {s : Stretch} (hg : g.given < 40) (hn : s.number = g.given) (hs : s.stamp = g.stamps) : PInv { g with marks := g.marks ++ [s], given := g.given + 1, stamps := g.stamps + 1 } := by
  refine ⟨p.txt, ?_, ?_, by show g.given + 1 ≤ 40; omega, ?_, ?_, p.und, p.red, p.bnd, fun d hd o ho => Nat.lt_succ_of_lt (p.blt d hd o ho), ?_⟩
  · show ((g.marks ++ [s]).map (·.number)).Nodup
    rw [List.map_append, List.nodup_append]
    refine ⟨p.num, List.nodup_cons.mpr ⟨(fun h => by cases h), List.nodup_nil⟩, ?_⟩
    intro x hx y hy e
    obtain ⟨z, hz, rfl⟩ := List.mem_map.mp hx
    have := p.lt z hz
    simp at hy
    omega
  · intro x hx
    show x.number < g.given + 1
    rcases List.mem_append.mp hx with h | h
    · have := p.lt x h; omega
    · simp at h; subst h; omega
  · show ((g.marks ++ [s]).map (·.stamp)).Nodup
    rw [List.map_append, List.nodup_append]
    refine ⟨p.stp, List.nodup_cons.mpr ⟨(fun h => by cases h), List.nodup_nil⟩, ?_⟩
    intro x hx y hy e
    obtain ⟨z, hz, rfl⟩ := List.mem_map.mp hx
    have := p.slt z hz
    simp at hy
    omega
  · intro x hx
    show x.stamp < g.stamps + 1
    rcases List.mem_append.mp hx with h | h
    · have := p.slt x h; omega
    · simp at h; subst h; omega
  · intro d hd o ho x hx e
    rcases List.mem_append.mp hx with h | h
    · exact p.bal d hd o ho x h e
    · simp at h
      subst h
      have := p.blt d hd o ho
      omega
theorem drop_inv {g : House} (p : PInv g) (n : Nat) : PInv { g with marks := g.marks.filter fun t => t.number != n } := by
  have sub : ∀ {s}, s ∈ g.marks.filter (fun t => t.number != n) → s ∈ g.marks := fun h => (List.mem_filter.mp h).1
  exact ⟨p.txt, p.num.sublist (List.filter_sublist.map _), fun s h => p.lt s (sub h), p.giv, p.stp.sublist (List.filter_sublist.map _), fun s h => p.slt s (sub h), p.und, p.red, p.bnd, p.blt, fun d hd o ho s hs e => p.bal d hd o ho s (sub hs) e⟩
theorem set_inv {g : House} (p : PInv g) (n a b : Nat) : PInv { g with marks := g.marks.map fun t => if t.number = n then { t with a := a, b := b, stamp := g.stamps } else t, stamps := g.stamps + 1 } := by
  have hn : ∀ s : Stretch, (if s.number = n then { s with a := a, b := b, stamp := g.stamps } else s).number = s.number := fun s => by split <;> rfl
  have ha : ∀ s : Stretch, Alike (if s.number = n then { s with a := a, b := b, stamp := g.stamps } else s) s := fun s => by split <;> exact ⟨rfl, rfl, rfl, rfl, rfl⟩
  refine ⟨p.txt, ?_, ?_, p.giv, ?_, ?_, p.und, p.red, p.bnd, p.blt, ?_⟩
  · show ((g.marks.map (fun t : Stretch => if t.number = n then { t with a := a, b := b, stamp := g.stamps } else t)).map (fun s : Stretch => s.number)).Nodup
    rw [List.map_map, show ((fun s => s.number) ∘ fun t : Stretch => if t.number = n then { t with a := a, b := b, stamp := g.stamps } else t) = (fun s => s.number) from funext hn]
    exact p.num
  · intro s h
    obtain ⟨s0, h0, rfl⟩ := List.mem_map.mp h
    rw [hn]
    exact p.lt s0 h0
  · show ((g.marks.map (fun t : Stretch => if t.number = n then { t with a := a, b := b, stamp := g.stamps } else t)).map (fun s : Stretch => s.stamp)).Nodup
    rw [List.map_map]
    have key : ∀ l : List Stretch, (l.map (·.number)).Nodup → (l.map (·.stamp)).Nodup → (∀ s ∈ l, s.stamp < g.stamps) → (l.map ((fun s => s.stamp) ∘ fun t : Stretch => if t.number = n then { t with a := a, b := b, stamp := g.stamps } else t)).Nodup := by
      intro l
      induction l with
      | nil => intro _ _ _; exact List.nodup_nil
      | cons s l ih =>
        intro h1 h2 h3
        rw [List.map_cons, List.nodup_cons] at h1 h2 ⊢
        refine ⟨?_, ih h1.2 h2.2 fun x hx => h3 x (List.mem_cons_of_mem _ hx)⟩
        intro hm
        obtain ⟨x, hx, e⟩ := List.mem_map.mp hm
        simp only [Function.comp] at e
        have s1 := h3 s List.mem_cons_self
        have s2 := h3 x (List.mem_cons_of_mem _ hx)
        by_cases q1 : s.number = n
        · by_cases q2 : x.number = n
          · exact h1.1 (List.mem_map.mpr ⟨x, hx, q2.trans q1.symm⟩)
          · rw [if_pos q1, if_neg q2] at e
            simp only at e
            omega
        · by_cases q2 : x.number = n
          · rw [if_neg q1, if_pos q2] at e
            simp only at e
            omega
          · rw [if_neg q1, if_neg q2] at e
            exact h2.1 (List.mem_map.mpr ⟨x, hx, e⟩)
    exact key g.marks p.num p.stp p.slt
  · intro s h
    obtain ⟨s0, h0, rfl⟩ := List.mem_map.mp h
    have := p.slt s0 h0
    show _ < g.stamps + 1
    split
    · show g.stamps < g.stamps + 1; omega
    · omega
  · intro d hd o ho s h e
    obtain ⟨s0, h0, rfl⟩ := List.mem_map.mp h
    rw [hn] at e
    exact (p.bal d hd o ho s0 h0 e).trans (ha s0).symm
theorem begins_inv {t : Bytes} (h : t.length ≤ 600) : PInv ⟨t, [], 0, 0, [], []⟩ :=
  ⟨h, List.nodup_nil, (fun _ h => by cases h), Nat.zero_le _, List.nodup_nil, (fun _ h => by cases h), trivial, trivial, (fun _ h => by cases h), (fun _ h => by cases h), (fun _ h => by cases h)⟩
/-- every call keeps it -/
theorem step_inv {g : House} (p : PInv g) (c : Call) : PInv (step g c).1 := by
  cases c with
  | begins t =>
    simp only [step]
    split
    · exact p
    · exact begins_inv (by simp only [LONG] at *; omega)
  | mark a b x y v r w =>
    simp only [step]
    split
    · exact p
    · split
      · exact p
      · exact mark_inv p (by simp only [MARKS] at *; omega) rfl rfl
  | set n a b =>
    simp only [step]
    split
    · exact p
    · split
      · exact p
      · split
        · exact p
        · exact set_inv p n a b
  | drop n =>
    simp only [step]
    split
    · exact p
    · exact drop_inv p n
  | change l =>
    simp only [step]
    split
    · exact p
    · split
      · exact p
      · rename_i h1 h2
        have hl : Lie 0 g.text.length l := by
          have e := lieB_eq g.text.length l
          rw [← lieB_iff, e]
          cases q1 : apart l <;> cases q2 : within_ g.text.length l <;> simp_all
        exact does_inv p hl (by simp only [LONG] at h2; omega) trivial
  | undo =>
    simp only [step]
    split
    · exact p
    · rename_i d l h
      exact (undone_inv p h).1
  | redo =>
    simp only [step]
    split
    · exact p
    · rename_i c l h
      have hr := p.red
      rw [h] at hr
      exact does_inv p hr.1 hr.2.1 hr.2.2
  | shows => exact p
  | stretch n => exact p
  | over q => exact p
  | runs a b => exact p
  | next q v => exact p
  | all => exact p
/-- how many can be taken back or done again -/
theorem step_stacks (g : House) (c : Call) : (step g c).1.undo.length + (step g c).1.redo.length ≤ g.undo.length + g.redo.length + 1 := by
  cases c with
  | begins t => simp only [step]; split <;> simp
  | mark a b x y v r w => simp only [step]; split <;> (try split) <;> simp
  | set n a b => simp only [step]; split <;> (try split) <;> (try split) <;> simp
  | drop n => simp only [step]; split <;> simp
  | change l => simp only [step]; split <;> (try split) <;> simp [does]
  | undo =>
    simp only [step]
    split
    · simp
    · rename_i d l h
      simp [undone, h]
      omega
  | redo =>
    simp only [step]
    split
    · simp
    · rename_i d l h
      simp [does, h]
      omega
  | shows => simp [step]
  | stretch n => simp [step]
  | over q => simp [step]
  | runs a b => simp [step]
  | next q v => simp [step]
  | all => simp [step]
end Mk
end

section
set_option linter.all false
set_option maxHeartbeats 1000000
namespace Mk
open Ue02
/-! ### one call out of the list -/
def NUMS : List Nat := [0, 7, 3, 1, 0, 0, 0, 0, 1, 1, 2, 2, 0]
theorem shape_rows {p : Int} {n k : Nat} (h : PyUe02.shape p = some (n, k)) : ∃ q : Nat, p = (q : Int) ∧ q ≤ 12 ∧ NUMS[q]? = some n ∧ k = if q = 0 ∨ q = 4 then 1 else 0 := by
  unfold PyUe02.shape at h
  by_cases e0 : p = 0
  · rw [if_pos e0] at h
    cases h
    exact ⟨0, e0, by decide, rfl, rfl⟩
  rw [if_neg e0] at h
  by_cases e1 : p = 1
  · rw [if_pos e1] at h
    cases h
    exact ⟨1, e1, by decide, rfl, rfl⟩
  rw [if_neg e1] at h
  by_cases e2 : p = 2
  · rw [if_pos e2] at h
    cases h
    exact ⟨2, e2, by decide, rfl, rfl⟩
  rw [if_neg e2] at h
  by_cases e3 : p = 3
  · rw [if_pos e3] at h
    cases h
    exact ⟨3, e3, by decide, rfl, rfl⟩
  rw [if_neg e3] at h
  by_cases e4 : p = 4
  · rw [if_pos e4] at h
    cases h
    exact ⟨4, e4, by decide, rfl, rfl⟩
  rw [if_neg e4] at h
  by_cases e5 : p = 5
  · rw [if_pos e5] at h
    cases h
    exact ⟨5, e5, by decide, rfl, rfl⟩
  rw [if_neg e5] at h
  by_cases e6 : p = 6
  · rw [if_pos e6] at h
    cases h
    exact ⟨6, e6, by decide, rfl, rfl⟩
  rw [if_neg e6] at h
  by_cases e7 : p = 7
  · rw [if_pos e7] at h
    cases h
    exact ⟨7, e7, by decide, rfl, rfl⟩
  rw [if_neg e7] at h
  by_cases e8 : p = 8
  · rw [if_pos e8] at h
    cases h
    exact ⟨8, e8, by decide, rfl, rfl⟩
  rw [if_neg e8] at h
  by_cases e9 : p = 9
  · rw [if_pos e9] at h
    cases h
    exact ⟨9, e9, by decide, rfl, rfl⟩
  rw [if_neg e9] at h
  by_cases e10 : p = 10
  · rw [if_pos e10] at h
    cases h
    exact ⟨10, e10, by decide, rfl, rfl⟩
  rw [if_neg e10] at h
  by_cases e11 : p = 11
  · rw [if_pos e11] at h
    cases h
    exact ⟨11, e11, by decide, rfl, rfl⟩
  rw [if_neg e11] at h
  by_cases e12 : p = 12
  · rw [if_pos e12] at h
    cases h
    exact ⟨12, e12, by decide, rfl, rfl⟩
  rw [if_neg e12] at h
  cases h
/-- how a call lies in the list: its number, its row or its numbers, what comes behind -/
inductive Lies : List Int → Nat → List Int → List Int → Prop
  | row {q : Nat} {args tail : List Int} : (q = 0 ∨ q = 4) → Lies ((q : Int) :: (args.length : Int) :: (args ++ tail)) q args tail
  | nums {q : Nat} {args tail : List Int} : q ≤ 12 → ¬ (q = 0 ∨ q = 4) → NUMS[q]? = some args.length → Lies ((q : Int) :: (args ++ tail)) q args tail
theorem one_call {f : Nat} {l : List Int} {raw : List (List (List Int))} (h : PyFlat.calls PyUe02.shape f l = some raw) (hl : l ≠ []) :
    ∃ (f' q : Nat) (args tail : List Int) (c : List (List Int)) (rest : List (List (List Int))), Lies l q args tail ∧ raw = c :: rest ∧ PyFlat.calls PyUe02.shape f' tail = some rest ∧
      (c = [[(q : Int)], args] ∧ (q = 0 ∨ q = 4) ∨ c = [(q : Int) :: args] ∧ ¬ (q = 0 ∨ q = 4) ∧ q ≤ 12 ∧ NUMS[q]? = some args.length) := by
  cases l with
  | nil => exact absurd rfl hl
  | cons p r =>
    cases f with
    | zero => simp [PyFlat.calls] at h
    | succ f =>
      rw [PyFlat.calls] at h
      cases e : PyFlat.call PyUe02.shape (p :: r) with
      | none => rw [e] at h; cases h
      | some ct =>
        obtain ⟨c, t⟩ := ct
        rw [e] at h
        simp only at h
        cases e2 : PyFlat.calls PyUe02.shape f t with
        | none => rw [e2] at h; cases h
        | some rest =>
          rw [e2] at h
          have h := Option.some.inj h
          subst h
          rw [PyFlat.call] at e
          cases e3 : PyUe02.shape p with
          | none => rw [e3] at e; cases e
          | some nk =>
            obtain ⟨n, k⟩ := nk
            rw [e3] at e
            simp only at e
            obtain ⟨q, rfl, hq, hn, hk⟩ := shape_rows e3
            by_cases hr : r.length < n
            · rw [if_pos hr] at e; cases e
            · rw [if_neg hr] at e
              by_cases hrow : q = 0 ∨ q = 4
              · rw [if_pos hrow] at hk
                subst hk
                have n0 : n = 0 := by rcases hrow with rfl | rfl <;> exact (Option.some.inj hn).symm
                subst n0
                rw [List.drop_zero, List.take_zero] at e
                simp only [PyFlat.rows] at e
                cases r with
                | nil => simp [PyFlat.row] at e
                | cons m r =>
                  simp only [PyFlat.row] at e
                  by_cases hm : 0 ≤ m ∧ m.toNat ≤ r.length
                  · rw [if_pos hm] at e
                    simp only at e
                    have e := Option.some.inj e
                    have e1 : c = [[(q : Int)], r.take m.toNat] := (Prod.mk.inj e).1.symm
                    have e2' : t = r.drop m.toNat := (Prod.mk.inj e).2.symm
                    subst e1 e2'
                    refine ⟨f, q, r.take m.toNat, r.drop m.toNat, _, rest, ?_, rfl, e2, .inl ⟨rfl, hrow⟩⟩
                    have hL := Lies.row (q := q) (args := r.take m.toNat) (tail := r.drop m.toNat) hrow
                    rw [List.take_append_drop, List.length_take, Nat.min_eq_left hm.2, show ((m.toNat : Nat) : Int) = m by omega] at hL
                    exact hL
                  · rw [if_neg hm] at e; cases e
              · rw [if_neg hrow] at hk
                subst hk
                simp only [PyFlat.rows] at e
                have e := Option.some.inj e
                have e1 : c = [(q : Int) :: r.take n] := (Prod.mk.inj e).1.symm
                have e2' : t = r.drop n := (Prod.mk.inj e).2.symm
                subst e1 e2'
                have hlen : (r.take n).length = n := by rw [List.length_take]; omega
                refine ⟨f, q, r.take n, r.drop n, _, rest, ?_, rfl, e2, .inr ⟨rfl, hrow, hq, by rw [hlen]; exact hn⟩⟩
                have hL := Lies.nums (q := q) (args := r.take n) (tail := r.drop n) hq hrow (by rw [hlen]; exact hn)
                rw [List.take_append_drop] at hL
                exact hL
theorem len7 {α : Type} : ∀ {l : List α}, l.length = 7 → ∃ a b c d e f g, l = [a, b, c, d, e, f, g]
  | [a, b, c, d, e, f, g], _ => ⟨a, b, c, d, e, f, g, rfl⟩
theorem len3 {α : Type} : ∀ {l : List α}, l.length = 3 → ∃ a b c, l = [a, b, c]
  | [a, b, c], _ => ⟨a, b, c, rfl⟩
theorem len2 {α : Type} : ∀ {l : List α}, l.length = 2 → ∃ a b, l = [a, b]
  | [a, b], _ => ⟨a, b, rfl⟩
theorem len1 {α : Type} : ∀ {l : List α}, l.length = 1 → ∃ a, l = [a]
  | [a], _ => ⟨a, rfl⟩
theorem whole_row {q : Nat} {args : List Int} (h : q = 0 ∨ q = 4) : (PyUe02.whole [[(q : Int)], args]).headD [] = (q : Int) :: args := by
  rcases h with rfl | rfl <;> rfl
theorem whole_nums {q : Nat} {args : List Int} (h : ¬ (q = 0 ∨ q = 4)) (hq : q ≤ 12) (hn : NUMS[q]? = some args.length) : (PyUe02.whole [(q : Int) :: args]).headD [] = (q : Int) :: args := by
  have e : q = 1 ∨ q = 2 ∨ q = 3 ∨ q = 5 ∨ q = 6 ∨ q = 7 ∨ q = 8 ∨ q = 9 ∨ q = 10 ∨ q = 11 ∨ q = 12 := by omega
  rcases e with rfl | rfl | rfl | rfl | rfl | rfl | rfl | rfl | rfl | rfl | rfl
  · obtain ⟨a, b, c, d, e, f, g, rfl⟩ := len7 (Option.some.inj hn).symm; rfl
  · obtain ⟨a, b, c, rfl⟩ := len3 (Option.some.inj hn).symm; rfl
  · obtain ⟨a, rfl⟩ := len1 (Option.some.inj hn).symm; rfl
  · have := List.eq_nil_of_length_eq_zero (Option.some.inj hn).symm; subst this; rfl
  · have := List.eq_nil_of_length_eq_zero (Option.some.inj hn).symm; subst this; rfl
  · have := List.eq_nil_of_length_eq_zero (Option.some.inj hn).symm; subst this; rfl
  · obtain ⟨a, rfl⟩ := len1 (Option.some.inj hn).symm; rfl
  · obtain ⟨a, rfl⟩ := len1 (Option.some.inj hn).symm; rfl
  · obtain ⟨a, b, rfl⟩ := len2 (Option.some.inj hn).symm; rfl
  · obtain ⟨a, b, rfl⟩ := len2 (Option.some.inj hn).symm; rfl
  · have := List.eq_nil_of_length_eq_zero (Option.some.inj hn).symm; subst this; rfl
/-- the calls that the document tells of, each by its numbers -/
def lines (raw : List (List (List Int))) : List (List Int) := (raw.map PyUe02.whole).map fun c => c.headD []
def st1 (s : House) (c : List Int) : House × List Int := Ue02Neutral.step s c
def played : House → List (List Int) → List (List Int)
  | _, [] => []
  | s, c :: r => (st1 s c).2 :: played (st1 s c).1 r
theorem played_eq : ∀ (s : House) (raw : List (List (List Int))), PyFlat.played (fun s c => Ue02Neutral.step s (c.headD [])) s (raw.map PyUe02.whole) = played s (lines raw)
  | _, [] => rfl
  | s, c :: r => by
    show (Ue02Neutral.step s ((PyUe02.whole c).headD [])).2 :: PyFlat.played _ _ _ = (st1 s ((PyUe02.whole c).headD [])).2 :: played _ _
    rw [played_eq _ r]
    rfl
/-- what a list of calls asks, from a state on -/
structure Asks (g : House) (ls : List (List Int)) : Prop where
  ok : ∀ c ∈ ls, (Ue02Neutral.callOf c).isSome = true
theorem many_eq : ∀ (s : House) (ls : List (List Int)), Ue02Neutral.many s ls = ((played s ls).map List.length).sum
  | _, [] => rfl
  | s, c :: r => by
    show (Ue02Neutral.step s c).2.length + Ue02Neutral.many (Ue02Neutral.step s c).1 r = _
    rw [many_eq _ r]
    rfl
theorem told_len (ls : List (List Int)) : (PyFlat.told ls).length = (ls.map List.length).sum + ls.length := by
  unfold PyFlat.told
  induction ls with
  | nil => rfl
  | cons a ls ih =>
    rw [List.flatMap_cons, List.length_append, ih]
    simp only [List.length_cons, List.map_cons, List.sum_cons]
    omega
end Mk
end

section
set_option linter.all false
set_option maxHeartbeats 1000000
namespace Mk
open Ue02
/-! ### the order on top -/
theorem above_iff {s t : Stretch} : above s t = true ↔ t.rank < s.rank ∨ (s.rank = t.rank ∧ t.stamp < s.stamp) := by
  unfold above
  simp
theorem above_total {s t : Stretch} (h : s.stamp ≠ t.stamp) : above s t = true ∨ above t s = true := by
  rw [above_iff, above_iff]
  omega
theorem above_asymm {s t : Stretch} (h : above s t = true) : above t s = false := by
  cases e : above t s with
  | false => rfl
  | true =>
    rw [above_iff] at h e
    omega
theorem above_trans {s t u : Stretch} (h : above s t = true) (k : above t u = true) : above s u = true := by
  rw [above_iff] at h k ⊢
  omega
theorem insertBy_perm (s : Stretch) : ∀ l : List Stretch, (insertBy s l).Perm (s :: l)
  | [] => List.Perm.refl _
  | t :: l => by
    rw [insertBy]
    split
    · exact List.Perm.refl _
    · exact ((insertBy_perm s l).cons t).trans (List.Perm.swap s t l)
theorem foldl_insert_perm : ∀ (l m : List Stretch), (l.foldl (fun m s => insertBy s m) m).Perm (l ++ m)
  | [], m => List.Perm.refl _
  | s :: l, m => by
    rw [List.foldl_cons]
    refine (foldl_insert_perm l (insertBy s m)).trans ?_
    refine ((insertBy_perm s m).append_left l).trans ?_
    exact List.perm_middle
theorem sorted_perm (l : List Stretch) : (sorted l).Perm l := by
  have := foldl_insert_perm l []
  rw [List.append_nil] at this
  exact this
theorem insertBy_pw (s : Stretch) : ∀ {l : List Stretch}, l.Pairwise (fun a b => above a b = true) → (∀ t ∈ l, t.stamp ≠ s.stamp) → (insertBy s l).Pairwise (fun a b => above a b = true)
  | [], _, _ => List.pairwise_singleton _ _
  | t :: l, h, hs => by
    rw [List.pairwise_cons] at h
    rw [insertBy]
    by_cases e : above s t = true
    · rw [if_pos e]
      refine List.pairwise_cons.mpr ⟨fun u hu => ?_, List.pairwise_cons.mpr h⟩
      rcases List.mem_cons.mp hu with rfl | hu
      · exact e
      · exact above_trans e (h.1 u hu)
    · rw [if_neg e]
      refine List.pairwise_cons.mpr ⟨fun u hu => ?_, insertBy_pw s h.2 fun u hu => hs u (List.mem_cons_of_mem _ hu)⟩
      have hu := (insertBy_perm s l).mem_iff.mp hu
      rcases List.mem_cons.mp hu with rfl | hu
      · rcases above_total (hs t List.mem_cons_self) with q | q
        · exact q
        · exact absurd q e
      · exact h.1 u hu
theorem foldl_insert_pw : ∀ (l m : List Stretch), m.Pairwise (fun a b => above a b = true) → (l.map (·.stamp)).Nodup → (∀ s ∈ l, ∀ t ∈ m, t.stamp ≠ s.stamp) → (l.foldl (fun m s => insertBy s m) m).Pairwise (fun a b => above a b = true)
  | [], m, h, _, _ => h
  | s :: l, m, h, nd, hs => by
    rw [List.map_cons, List.nodup_cons] at nd
    rw [List.foldl_cons]
    refine foldl_insert_pw l _ (insertBy_pw s h (hs s List.mem_cons_self)) nd.2 fun u hu t ht => ?_
    rcases List.mem_cons.mp ((insertBy_perm s m).mem_iff.mp ht) with rfl | ht
    · exact fun e => nd.1 (List.mem_map.mpr ⟨u, hu, e.symm⟩)
    · exact hs u (List.mem_cons_of_mem _ hu) t ht
theorem sorted_pw {l : List Stretch} (nd : (l.map (·.stamp)).Nodup) : (sorted l).Pairwise (fun a b => above a b = true) := foldl_insert_pw l [] List.Pairwise.nil nd (fun _ _ _ h => by cases h)
/-- two rows in this order with the same stretches are one -/
theorem order_unique : ∀ {l m : List Stretch}, l.Perm m → l.Pairwise (fun a b => above a b = true) → m.Pairwise (fun a b => above a b = true) → l = m
  | [], m, p, _, _ => (List.nil_perm.mp p).symm
  | a :: l, [], p, _, _ => absurd p.length_eq (by simp)
  | a :: l, b :: m, p, h1, h2 => by
    rw [List.pairwise_cons] at h1 h2
    have e : a = b := by
      rcases List.mem_cons.mp (p.mem_iff.mp (List.mem_cons_self (a := a) (l := l))) with q | q
      · exact q
      · rcases List.mem_cons.mp (p.symm.mem_iff.mp (List.mem_cons_self (a := b) (l := m))) with r | r
        · exact r.symm
        · have x := h1.1 b r
          have y := h2.1 a q
          rw [above_asymm x] at y
          cases y
    subst e
    rw [order_unique (List.Perm.cons_inv p) h1.2 h2.2]
theorem sorted_is {l m : List Stretch} (nd : (l.map (·.stamp)).Nodup) (p : m.Perm l) (h : m.Pairwise (fun a b => above a b = true)) : sorted l = m := order_unique ((sorted_perm l).trans p.symm) (sorted_pw nd) h
/-- the first of the row is the one above all others -/
theorem sorted_head {l : List Stretch} (nd : (l.map (·.stamp)).Nodup) {s : Stretch} (hs : s ∈ l) (h : ∀ t ∈ l, t = s ∨ above s t = true) : ∃ r, sorted l = s :: r := by
  have hp := sorted_perm l
  have hw := sorted_pw nd
  cases e : sorted l with
  | nil =>
    rw [e] at hp
    have := hp.mem_iff.mpr hs
    cases this
  | cons b m =>
    rw [e] at hp hw
    rw [List.pairwise_cons] at hw
    have hb : b ∈ l := hp.mem_iff.mp List.mem_cons_self
    rcases h b hb with q | q
    · exact ⟨m, by rw [q]⟩
    · rcases List.mem_cons.mp (hp.mem_iff.mpr hs) with r | r
      · exact ⟨m, by rw [r]⟩
      · rw [above_asymm (hw.1 s r)] at q
        cases q
theorem filter_stamps {l : List Stretch} (nd : (l.map (·.stamp)).Nodup) (f : Stretch → Bool) : ((l.filter f).map (·.stamp)).Nodup := nd.sublist (List.filter_sublist.map _)
/-- the value on top -/
theorem top_none {l : List Stretch} {p : Nat} (h : ∀ s ∈ l, covers s p = false) : top l p = 0 := by
  unfold top over
  rw [List.filter_eq_nil_iff.mpr (fun s hs => by rw [h s hs]; decide)]
  rfl
theorem top_some {l : List Stretch} (nd : (l.map (·.stamp)).Nodup) {p : Nat} {s : Stretch} (hs : s ∈ l) (hc : covers s p = true) (h : ∀ t ∈ l, covers t p = true → t = s ∨ above s t = true) : top l p = s.value + 1 := by
  obtain ⟨r, e⟩ := sorted_head (filter_stamps nd fun s => covers s p) (List.mem_filter.mpr ⟨hs, hc⟩) (fun t ht => h t (List.mem_filter.mp ht).1 (List.mem_filter.mp ht).2)
  unfold top over
  rw [e]
theorem top_over {l : List Stretch} {p : Nat} : top l p = match over l p with | [] => 0 | s :: _ => s.value + 1 := rfl
/-! ### runs -/
theorem runs_nil {l : List Stretch} {a b : Nat} (h : b ≤ a) : runs l a b = [] := by
  unfold runs
  rw [Nat.sub_eq_zero_of_le h]
  rfl
theorem runs_step {l : List Stretch} {a b : Nat} (h : a < b) : runs l a b = joinRun a (top l a) (runs l (a + 1) b) := by
  unfold runs
  rw [show b - a = (b - (a + 1)) + 1 by omega, List.range_succ_eq_map, List.foldr_cons, List.foldr_map]
  rw [Nat.add_zero]
  congr 1
  have : (fun k r => joinRun (a + (k + 1)) (top l (a + (k + 1))) r) = (fun k r => joinRun (a + 1 + k) (top l (a + 1 + k)) r) := by
    funext k r
    rw [show a + (k + 1) = a + 1 + k by omega]
  exact congrArg (fun f => List.foldr f [] (List.range (b - (a + 1)))) this
/-- the first run begins where it is asked -/
theorem runs_head {l : List Stretch} {a b : Nat} (h : a < b) : ∃ y r, runs l a b = (a, y, top l a) :: r := by
  rw [runs_step h]
  cases e : runs l (a + 1) b with
  | nil => exact ⟨_, _, rfl⟩
  | cons x r =>
    obtain ⟨x, y, w⟩ := x
    rw [joinRun]
    split
    · exact ⟨_, _, rfl⟩
    · exact ⟨_, _, rfl⟩
/-- a run as long as can be, then the rest -/
theorem runs_run {l : List Stretch} : ∀ (n : Nat) {a c b : Nat}, c - a = n → a < c → c ≤ b → (∀ p, a ≤ p → p < c → top l p = top l a) → (c = b ∨ top l c ≠ top l a) → runs l a b = (a, c, top l a) :: runs l c b
  | 0, a, c, b, hn, h1, _, _, _ => by omega
  | n + 1, a, c, b, hn, h1, h2, h3, h4 => by
    rw [runs_step (by omega)]
    by_cases e : a + 1 = c
    · subst e
      rcases h4 with rfl | h4
      · rw [runs_nil (Nat.le_refl _)]
        rfl
      · by_cases q : a + 1 < b
        · obtain ⟨y, r, hr⟩ := runs_head (l := l) q
          rw [hr, joinRun, if_neg h4]
        · rw [runs_nil (by omega)]
          rfl
    · have t1 : top l (a + 1) = top l a := h3 (a + 1) (by omega) (by omega)
      have ih := runs_run n (a := a + 1) (c := c) (b := b) (by omega) (by omega) h2 (fun p hp hq => (h3 p (by omega) hq).trans t1.symm) (by rw [t1]; exact h4)
      rw [ih, joinRun, if_pos t1]
/-- one byte more at the end -/
theorem runs_snoc {l : List Stretch} : ∀ (n : Nat) {a b : Nat}, b - a = n → a < b → ∃ (r : List (Nat × Nat × Nat)) (x : Nat), runs l a b = r ++ [(x, b, top l (b - 1))] ∧
    runs l a (b + 1) = if top l b = top l (b - 1) then r ++ [(x, b + 1, top l (b - 1))] else r ++ [(x, b, top l (b - 1)), (b, b + 1, top l b)]
  | 0, a, b, hn, h => by omega
  | n + 1, a, b, hn, h => by
    by_cases e : a + 1 = b
    · subst e
      refine ⟨[], a, ?_, ?_⟩
      · rw [runs_step (by omega), runs_nil (Nat.le_refl _)]
        rfl
      · rw [runs_step (by omega), runs_step (by omega), runs_nil (Nat.le_refl _)]
        rw [show a + 1 - 1 = a by omega]
        show joinRun a (top l a) [(a + 1, a + 1 + 1, top l (a + 1))] = _
        rw [joinRun]
        rfl
    · obtain ⟨r, x, h1, h2⟩ := runs_snoc (l := l) n (a := a + 1) (b := b) (by omega) (by omega)
      rw [runs_step (by omega), runs_step (a := a) (b := b + 1) (by omega), h1, h2]
      cases r with
      | nil =>
        rw [List.nil_append]
        by_cases q : top l (b - 1) = top l a
        · refine ⟨[], a, ?_, ?_⟩
          · rw [joinRun, if_pos q, q]; rfl
          · by_cases z : top l b = top l (b - 1)
            · rw [if_pos z, if_pos z, List.nil_append, joinRun, if_pos q, q]; rfl
            · rw [if_neg z, if_neg z, List.nil_append, joinRun, if_pos q, q]; rfl
        · refine ⟨[(a, a + 1, top l a)], x, ?_, ?_⟩
          · rw [joinRun, if_neg q]; rfl
          · by_cases z : top l b = top l (b - 1)
            · rw [if_pos z, if_pos z, List.nil_append, joinRun, if_neg q]; rfl
            · rw [if_neg z, if_neg z, List.nil_append, joinRun, if_neg q]; rfl
      | cons y r =>
        obtain ⟨y0, y1, y2⟩ := y
        by_cases q : y2 = top l a
        · refine ⟨(a, y1, top l a) :: r, x, ?_, ?_⟩
          · rw [List.cons_append, joinRun, if_pos q]; rfl
          · by_cases z : top l b = top l (b - 1)
            · rw [if_pos z, if_pos z, List.cons_append, joinRun, if_pos q]; rfl
            · rw [if_neg z, if_neg z, List.cons_append, joinRun, if_pos q]; rfl
        · refine ⟨(a, a + 1, top l a) :: (y0, y1, y2) :: r, x, ?_, ?_⟩
          · rw [List.cons_append, joinRun, if_neg q]; rfl
          · by_cases z : top l b = top l (b - 1)
            · rw [if_pos z, if_pos z, List.cons_append, joinRun, if_neg q]; rfl
            · rw [if_neg z, if_neg z, List.cons_append, joinRun, if_neg q]; rfl
theorem runs_length {l : List Stretch} : ∀ (n : Nat) {a b : Nat}, b - a = n → (runs l a b).length ≤ n
  | 0, a, b, h => by rw [runs_nil (by omega)]; exact Nat.le_refl _
  | n + 1, a, b, h => by
    rw [runs_step (by omega)]
    have ih := runs_length (l := l) n (a := a + 1) (b := b) (by omega)
    cases e : runs l (a + 1) b with
    | nil => rw [joinRun]; simp
    | cons x r =>
      obtain ⟨x, y, w⟩ := x
      rw [e] at ih
      rw [joinRun]
      simp only [List.length_cons] at ih
      split
      · simp only [List.length_cons]; omega
      · simp only [List.length_cons]; omega
/-! ### the next one -/
def fits (p v : Nat) (s : Stretch) : Prop := s.gone = false ∧ s.value = v ∧ p < s.a
theorem fits_iff {p v : Nat} {s : Stretch} : fits p v s ↔ ¬ (s.gone = true ∨ s.value ≠ v ∨ s.a ≤ p) := by
  unfold fits
  cases s.gone <;> simp <;> omega
def pick (p v : Nat) (o : Option Stretch) (s : Stretch) : Option Stretch := if s.gone = true ∨ s.value ≠ v ∨ s.a ≤ p then o else match o with
  | none => some s
  | some t => if s.a < t.a then some s else some t
theorem nextOf_eq (g : House) (p v : Nat) : nextOf g p v = (sorted g.marks).foldl (pick p v) none := rfl
theorem pick_keep {p v : Nat} {s : Stretch} : ∀ (l : List Stretch), (∀ t ∈ l, fits p v t → s.a ≤ t.a) → l.foldl (pick p v) (some s) = some s
  | [], _ => rfl
  | t :: l, h => by
    rw [List.foldl_cons]
    have e : pick p v (some s) t = some s := by
      unfold pick
      by_cases q : t.gone = true ∨ t.value ≠ v ∨ t.a ≤ p
      · rw [if_pos q]
      · rw [if_neg q]
        have := h t List.mem_cons_self (fits_iff.mpr q)
        simp only
        rw [if_neg (by omega)]
    rw [e]
    exact pick_keep l fun u hu => h u (List.mem_cons_of_mem _ hu)
theorem pick_find {p v : Nat} {s : Stretch} (hs : fits p v s) : ∀ (l : List Stretch) (o : Option Stretch), (∀ t, o = some t → s.a < t.a) → (∃ l1 l2, l = l1 ++ s :: l2 ∧ (∀ t ∈ l1, fits p v t → s.a < t.a) ∧ (∀ t ∈ l2, fits p v t → s.a ≤ t.a)) → l.foldl (pick p v) o = some s := by
  intro l o ho ⟨l1, l2, e, h1, h2⟩
  subst e
  induction l1 generalizing o with
  | nil =>
    rw [List.nil_append, List.foldl_cons]
    have e : pick p v o s = some s := by
      unfold pick
      rw [if_neg (fits_iff.mp hs)]
      cases o with
      | none => rfl
      | some t => simp only; rw [if_pos (ho t rfl)]
    rw [e]
    exact pick_keep l2 h2
  | cons t l1 ih =>
    rw [List.cons_append, List.foldl_cons]
    refine ih (pick p v o t) (fun u hu => ?_) (fun u hu => h1 u (List.mem_cons_of_mem _ hu))
    unfold pick at hu
    by_cases q : t.gone = true ∨ t.value ≠ v ∨ t.a ≤ p
    · rw [if_pos q] at hu
      exact ho u hu
    · rw [if_neg q] at hu
      have ht := h1 t List.mem_cons_self (fits_iff.mpr q)
      cases o with
      | none => have e : t = u := Option.some.inj hu; rw [← e]; exact ht
      | some w =>
        simp only at hu
        by_cases z : t.a < w.a
        · rw [if_pos z] at hu
          have e : t = u := Option.some.inj hu
          rw [← e]; exact ht
        · rw [if_neg z] at hu
          have e : w = u := Option.some.inj hu
          rw [← e]; exact ho w rfl
theorem next_none {g : House} {p v : Nat} (h : ∀ s ∈ g.marks, ¬ fits p v s) : nextOf g p v = none := by
  rw [nextOf_eq]
  have key : ∀ l : List Stretch, (∀ s ∈ l, ¬ fits p v s) → l.foldl (pick p v) none = none := by
    intro l
    induction l with
    | nil => intro _; rfl
    | cons s l ih =>
      intro h
      rw [List.foldl_cons]
      have e : pick p v none s = none := by
        unfold pick
        rw [if_pos]
        have := h s List.mem_cons_self
        rw [fits_iff, Classical.not_not] at this
        exact this
      rw [e]
      exact ih fun t ht => h t (List.mem_cons_of_mem _ ht)
  exact key _ fun s hs => h s ((sorted_perm _).mem_iff.mp hs)
theorem next_some {g : House} (nd : (g.marks.map (·.stamp)).Nodup) {p v : Nat} {s : Stretch} (hs : s ∈ g.marks) (hf : fits p v s) (h : ∀ t ∈ g.marks, fits p v t → t = s ∨ s.a < t.a ∨ (s.a = t.a ∧ above s t = true)) : nextOf g p v = some s := by
  rw [nextOf_eq]
  have hp := sorted_perm g.marks
  have hw := sorted_pw nd
  obtain ⟨l1, l2, e⟩ := List.append_of_mem (hp.mem_iff.mpr hs)
  rw [e] at hp hw ⊢
  rw [List.pairwise_append, List.pairwise_cons] at hw
  obtain ⟨_, ⟨hw2, _⟩, hw3⟩ := hw
  refine pick_find hf _ none (fun _ h => by cases h) ⟨l1, l2, rfl, fun t ht hft => ?_, fun t ht hft => ?_⟩
  · have ab := hw3 t ht s List.mem_cons_self
    rcases h t (hp.mem_iff.mp (List.mem_append.mpr (.inl ht))) hft with q | q | q
    · rw [q] at ab; rw [above_asymm ab] at ab; cases ab
    · exact q
    · rw [above_asymm ab] at q; cases q.2
  · rcases h t (hp.mem_iff.mp (List.mem_append.mpr (.inr (List.mem_cons_of_mem _ ht)))) hft with q | q | q
    · rw [q]; exact Nat.le_refl _
    · omega
    · omega
end Mk
end

section
set_option linter.all false
set_option maxHeartbeats 1000000
namespace Mk
open Ue02
/-! ### the numbers rise; who has not vanished lies within the text -/
def Inside (n : Nat) (s : Stretch) : Prop := s.gone = true ∨ (s.a ≤ s.b ∧ s.b ≤ n)
def WChain : Bytes → List Done → Prop
  | _, [] => True
  | t, d :: l => (∀ o ∈ d.before, Inside (changed t d.back).length o) ∧ WChain (changed t d.back) l
structure QInv (g : House) : Prop where
  asc : (g.marks.map (·.number)).Pairwise (· < ·)
  inn : ∀ s ∈ g.marks, Inside g.text.length s
  wch : WChain g.text g.undo
theorem init_q : QInv init := ⟨List.Pairwise.nil, (fun _ h => by cases h), trivial⟩
theorem changed_ge {l : List Change} {t : Bytes} {i : Nat} (h : Lie i t.length l) (hi : i ≤ t.length) : i ≤ (changed t l).length := by
  rw [changed_fwd l t i h hi, List.length_append, List.length_take]
  omega
theorem places_le : ∀ (l : List Change) (t : Bytes) (lo : Nat) (lean : Bool) (p : Nat), Lie lo t.length l → p ≤ t.length → places l lean p ≤ (changed t l).length
  | [], t, _, _, p, _, hp => hp
  | c :: l, t, lo, lean, p, h, hp => by
    obtain ⟨h1, h2, h3⟩ := h
    have ih := places_le l t _ lean p h3 hp
    have ge := changed_ge (h3.mono (Nat.le_succ _)) h2
    show place c lean (places l lean p) ≤ ((changed t l).take c.at_ ++ (c.in_ ++ (changed t l).drop (c.at_ + c.out))).length
    rw [List.length_append, List.length_append, List.length_take, List.length_drop]
    generalize places l lean p = x at ih
    generalize (changed t l).length = n at ih ge
    unfold place
    split
    · omega
    · split
      · omega
      · split <;> omega
theorem moved_inside {l : List Change} {t : Bytes} {s : Stretch} (hl : Lie 0 t.length l) (h : Inside t.length s) : Inside (changed t l).length (moved l s) := by
  unfold moved
  by_cases e : s.gone = true
  · rw [if_pos e]
    exact .inl e
  · rw [if_neg e]
    rcases h with h | ⟨h1, h2⟩
    · exact absurd h e
    · have x := places_le l t 0 s.leanA s.a hl (by omega)
      have y := places_le l t 0 s.leanB s.b hl h2
      exact .inr ⟨Nat.le_max_left _ _, Nat.max_le.mpr ⟨x, y⟩⟩
theorem does_q {g : House} (q : QInv g) {l : List Change} {r : List (List Change)} (hl : Lie 0 g.text.length l) : QInv (does g l r) := by
  refine ⟨?_, ?_, ?_, ?_⟩
  · show ((g.marks.map (moved l)).map (·.number)).Pairwise (· < ·)
    rw [List.map_map, show ((fun s : Stretch => s.number) ∘ moved l) = fun s => s.number from funext fun s => moved_number l s]
    exact q.asc
  · intro s h
    obtain ⟨s0, h0, rfl⟩ := List.mem_map.mp h
    exact moved_inside hl (q.inn s0 h0)
  · show ∀ o ∈ g.marks, Inside (changed (changed g.text l) (inverse g.text 0 0 l)).length o
    rw [undo_text hl]
    exact q.inn
  · show WChain (changed (changed g.text l) (inverse g.text 0 0 l)) g.undo
    rw [undo_text hl]
    exact q.wch
theorem undone_q {g : House} (p : PInv g) (q : QInv g) {d : Done} {l : List Done} (h : g.undo = d :: l) : QInv (undone g d l) := by
  have hd : d ∈ g.undo := by rw [h]; exact List.mem_cons_self
  have hw := q.wch
  rw [h] at hw
  refine ⟨?_, ?_, hw.2⟩
  · show ((g.marks.map (restored d)).map (·.number)).Pairwise (· < ·)
    rw [List.map_map, show g.marks.map ((fun s : Stretch => s.number) ∘ restored d) = g.marks.map (fun s => s.number) from List.map_congr_left fun s hs => (restored_keeps p hd hs).1]
    exact q.asc
  · intro s hs
    obtain ⟨s0, h0, rfl⟩ := List.mem_map.mp hs
    show Inside (changed g.text d.back).length (restored d s0)
    unfold restored
    split
    · rename_i o e
      exact hw.1 o (List.mem_of_find?_eq_some e)
    · exact moved_inside (undone_inv p h).2 (q.inn s0 h0)
theorem step_q {g : House} (p : PInv g) (q : QInv g) (c : Call) : QInv (step g c).1 := by
  cases c with
  | begins t =>
    simp only [step]
    split
    · exact q
    · exact ⟨List.Pairwise.nil, (fun _ h => by cases h), trivial⟩
  | mark a b x y v r w =>
    simp only [step]
    split
    · exact q
    · split
      · exact q
      · rename_i h1 h2
        refine ⟨?_, ?_, q.wch⟩
        · show ((g.marks ++ [_]).map (fun s : Stretch => s.number)).Pairwise (· < ·)
          rw [List.map_append, List.pairwise_append]
          refine ⟨q.asc, List.pairwise_singleton _ _, fun m hm n hn => ?_⟩
          obtain ⟨s, hs, rfl⟩ := List.mem_map.mp hm
          have e : n = g.given := by simpa using hn
          have := p.lt s hs
          omega
        · intro s hs
          rcases List.mem_append.mp hs with h | h
          · exact q.inn s h
          · have e := List.mem_singleton.mp h
            subst e
            exact .inr ⟨by show a ≤ b; omega, by show b ≤ g.text.length; omega⟩
  | set n a b =>
    simp only [step]
    split
    · exact q
    · split
      · exact q
      · split
        · exact q
        · rename_i h1 h2
          refine ⟨?_, ?_, q.wch⟩
          · show ((g.marks.map (fun t : Stretch => if t.number = n then { t with a := a, b := b, stamp := g.stamps } else t)).map (fun s : Stretch => s.number)).Pairwise (· < ·)
            rw [List.map_map, show ((fun s => s.number) ∘ fun t : Stretch => if t.number = n then { t with a := a, b := b, stamp := g.stamps } else t) = (fun s => s.number) from funext fun s => by show (if s.number = n then { s with a := a, b := b, stamp := g.stamps } else s).number = s.number; split <;> rfl]
            exact q.asc
          · intro s hs
            obtain ⟨s0, h0, rfl⟩ := List.mem_map.mp hs
            have := q.inn s0 h0
            show Inside g.text.length (if s0.number = n then { s0 with a := a, b := b, stamp := g.stamps } else s0)
            split
            · exact .inr ⟨by show a ≤ b; omega, by show b ≤ g.text.length; omega⟩
            · exact this
  | drop n =>
    simp only [step]
    split
    · exact q
    · exact ⟨q.asc.sublist (List.filter_sublist.map _), fun s h => q.inn s (List.mem_filter.mp h).1, q.wch⟩
  | change l =>
    simp only [step]
    split
    · exact q
    · split
      · exact q
      · rename_i h1 h2
        have hl : Lie 0 g.text.length l := by
          have e := lieB_eq g.text.length l
          rw [← lieB_iff, e]
          cases q1 : apart l <;> cases q2 : within_ g.text.length l <;> simp_all
        exact does_q q hl
  | undo =>
    simp only [step]
    split
    · exact q
    · rename_i d l h
      exact undone_q p q h
  | redo =>
    simp only [step]
    split
    · exact q
    · rename_i c l h
      have hr := p.red
      rw [h] at hr
      exact does_q q hr.1
  | shows => exact q
  | stretch n => exact q
  | over _ => exact q
  | runs a b => exact q
  | next _ v => exact q
  | all => exact q
/-! ### those that stand, and the last over a place -/
theorem standing_covers (g : House) (p : Nat) : (standing g).filter (fun s => decide (s.a ≤ p) && decide (p < s.b)) = g.marks.filter fun s => covers s p := by
  unfold standing
  rw [List.filter_filter]
  congr 1
  funext s
  unfold covers
  cases s.gone <;> simp
theorem snoc_ind {α : Type} {P : List α → Prop} (h0 : P []) (h1 : ∀ l a, P l → P (l ++ [a])) (l : List α) : P l := by
  rw [← List.reverse_reverse l]
  induction l.reverse with
  | nil => exact h0
  | cons a l ih => rw [List.reverse_cons]; exact h1 _ _ ih
/-- what is put over a place, one behind another -/
def laid (l : List Stretch) (p : Nat) : Nat := l.foldl (fun v s => if s.a ≤ p ∧ p < s.b then s.value + 1 else v) 0
theorem laid_snoc (l : List Stretch) (s : Stretch) (p : Nat) : laid (l ++ [s]) p = if s.a ≤ p ∧ p < s.b then s.value + 1 else laid l p := by
  unfold laid
  rw [List.foldl_append]
  rfl
theorem laid_top {g : House} (nd : (g.marks.map (·.stamp)).Nodup) {l : List Stretch} (hp : l.Perm (standing g)) (hw : l.Pairwise (fun a b => above b a = true)) (p : Nat) : laid l p = top g.marks p := by
  have cov : ∀ s, covers s p = true ↔ s.gone = false ∧ s.a ≤ p ∧ p < s.b := fun s => by
    unfold covers
    cases s.gone <;> simp
  have mem : ∀ s, s ∈ l ↔ s ∈ g.marks ∧ s.gone = false := fun s => by
    rw [hp.mem_iff]
    unfold standing
    rw [List.mem_filter]
    simp
  -- the last that covers
  have key : ∀ (l : List Stretch), l.Pairwise (fun a b => above b a = true) → (laid l p = 0 ∧ ∀ s ∈ l, ¬ (s.a ≤ p ∧ p < s.b)) ∨ ∃ s ∈ l, (s.a ≤ p ∧ p < s.b) ∧ laid l p = s.value + 1 ∧ ∀ t ∈ l, (t.a ≤ p ∧ p < t.b) → t = s ∨ above s t = true := by
    refine snoc_ind (P := fun l => l.Pairwise (fun a b => above b a = true) → (laid l p = 0 ∧ ∀ s ∈ l, ¬ (s.a ≤ p ∧ p < s.b)) ∨ ∃ s ∈ l, (s.a ≤ p ∧ p < s.b) ∧ laid l p = s.value + 1 ∧ ∀ t ∈ l, (t.a ≤ p ∧ p < t.b) → t = s ∨ above s t = true) (fun _ => .inl ⟨rfl, fun _ h => by cases h⟩) (fun l s ih => ?_)
    · intro hw
      rw [List.pairwise_append] at hw
      obtain ⟨w1, _, w2⟩ := hw
      rw [laid_snoc]
      by_cases c : s.a ≤ p ∧ p < s.b
      · rw [if_pos c]
        refine .inr ⟨s, by simp, c, rfl, fun t ht _ => ?_⟩
        rcases List.mem_append.mp ht with h | h
        · exact .inr (w2 t h s (by simp))
        · exact .inl (List.mem_singleton.mp h)
      · rw [if_neg c]
        rcases ih w1 with ⟨e, h⟩ | ⟨u, hu, cu, e, h⟩
        · refine .inl ⟨e, fun t ht => ?_⟩
          rcases List.mem_append.mp ht with q | q
          · exact h t q
          · rw [List.mem_singleton.mp q]; exact c
        · refine .inr ⟨u, List.mem_append.mpr (.inl hu), cu, e, fun t ht ct => ?_⟩
          rcases List.mem_append.mp ht with q | q
          · exact h t q ct
          · rw [List.mem_singleton.mp q] at ct; exact absurd ct c
  rcases key l hw with ⟨e, h⟩ | ⟨s, hs, cs, e, h⟩
  · rw [e]
    refine (top_none fun s hs => ?_).symm
    cases q : covers s p with
    | false => rfl
    | true =>
      have := (cov s).mp q
      exact absurd this.2 (h s ((mem s).mpr ⟨hs, this.1⟩))
  · rw [e]
    obtain ⟨m1, m2⟩ := (mem s).mp hs
    refine (top_some nd m1 ((cov s).mpr ⟨m2, cs⟩) fun t ht ct => ?_).symm
    have := (cov t).mp ct
    exact h t ((mem t).mpr ⟨ht, this.1⟩) this.2
end Mk
end

section
set_option Elab.async false
set_option linter.all false
set_option maxRecDepth 100000
set_option maxHeartbeats 4000000
namespace Mk
open PySem PySem.Spec PyProof.Rows L2
/-! ### calls by name -/
section
variable (P : Program) (w : World) (K : PySem.W.Frag) (mg : Str → Option Value) (base : Heap)
/-- a def of the top, as it is called -/
def Calls (x : Str) (k : Nat) (ps : List Str) (sp : Sp) : Prop := ∃ f fd, FnOk P w K mg base CX0 k f fd ps sp ∧ mg x = some (.ref f) ∧ PySem.W.keepIn K (.ref f) = true ∧ Binds K fd ps []
/-- a method -/
def Meths (C : Addr) (m : Str) (k : Nat) (ps : List Str) (sp : Sp) : Prop := ∃ f fd, FnOk P w K mg base CX0 k f fd ps sp ∧ Meth K C m f ∧ Binds K fd ps [] ∧ Cls K C
/-- a class that is called -/
def Makes (C : Addr) (x : Str) (k : Nat) (ps : List Str) (sp : Sp) : Prop := ∃ f fd, FnOk P w K mg base CX0 k f fd ps sp ∧ L2.Mk K C f ∧ mg x = some (.ref C) ∧ Binds K fd ps []
end
section
variable {X : Cx} {x m : Str} {k : Nat} {ps : List Str} {sp : Sp} {C : Addr} {e o : Expr} {es : List Expr} {t : TA} {ta : TE} {p pos apos : Pos}
theorem pe_cl (c : Calls X.prog X.w X.K X.mg X.base x k ps sp) (hr : Room k X.A) (hg : Gl X x) (ha : PA X (e :: es) t)
    (hdb : (x == ("__debug__" : Str)) = false := by decide) (he : starEach (e :: es) X.env = (false, eval e X.env) :: starEach es X.env := by rfl) (hpl : (backTo pos (starEach es X.env)).any (·.1) = false := by rfl) :
    PE X (.Call (.Name x p) (e :: es) [] pos) (tCall sp [] E0 t) := by
  obtain ⟨f, fd, F, hm, hk, hb⟩ := c
  exact pe_call F hr hg hm hk hb .nil pass0 ha hdb he hpl
theorem pe_cl0 (c : Calls X.prog X.w X.K X.mg X.base x k ps sp) (hr : Room k X.A) (hg : Gl X x) (hdb : (x == ("__debug__" : Str)) = false := by decide) :
    PE X (.Call (.Name x p) [] [] pos) (tCall sp [] E0 tNil) := by
  obtain ⟨f, fd, F, hm, hk, hb⟩ := c
  exact pe_call0 F hr hg hm hk hb .nil pass0 hdb
theorem pe_mk (c : Makes X.prog X.w X.K X.mg X.base C x k ps sp) (hr : Room (k + 1) X.A) (hg : Gl X x) (ha : PA X (e :: es) t)
    (hdb : (x == ("__debug__" : Str)) = false := by decide) (he : starEach (e :: es) X.env = (false, eval e X.env) :: starEach es X.env := by rfl) (hpl : (backTo pos (starEach es X.env)).any (·.1) = false := by rfl) :
    PE X (.Call (.Name x p) (e :: es) [] pos) (tMake C sp [] E0 t) := by
  obtain ⟨f, fd, F, M, hm, hb⟩ := c
  exact pe_make M F hr hg hm hb .nil pass0 ha hdb he hpl
theorem pe_mk0 (c : Makes X.prog X.w X.K X.mg X.base C x k ps sp) (hr : Room (k + 1) X.A) (hg : Gl X x) (hdb : (x == ("__debug__" : Str)) = false := by decide) :
    PE X (.Call (.Name x p) [] [] pos) (tMake C sp [] E0 tNil) := by
  obtain ⟨f, fd, F, M, hm, hb⟩ := c
  exact pe_make0 M F hr hg hm hb .nil pass0 hdb
theorem pe_mt {pl : Sem Bool} (c : Meths X.prog X.w X.K X.mg X.base C m k ps sp) (he : PE X o ta) (hr : Room k X.A) (ha : PA X (e :: es) t)
    (hst : starEach (e :: es) X.env = (false, eval e X.env) :: starEach es X.env := by rfl) (hpl : (backTo pos (starEach es X.env)).any (·.1) = false := by rfl)
    (ht : eval (.Call (.Attribute o m apos) (e :: es) [] pos) X.env = (do
      let ov ← eval o X.env
      standAt apos.atName
      let (f, first) ← holding [ov] (getMethod ov m pl)
      callWith pos f first (backTo pos (starEach (e :: es) X.env)) (backToKw pos (keywordEach [] X.env))) := by rfl) :
    PE X (.Call (.Attribute o m apos) (e :: es) [] pos) (tMeth C m sp [] E0 ta t) := by
  obtain ⟨f, fd, F, hm, hb, cl⟩ := c
  exact pe_meth he cl hm F hr hb .nil pass0 ha hst hpl ht
theorem pe_mt0 {pl : Sem Bool} (c : Meths X.prog X.w X.K X.mg X.base C m k ps sp) (he : PE X o ta) (hr : Room k X.A)
    (ht : eval (.Call (.Attribute o m apos) [] [] pos) X.env = (do
      let ov ← eval o X.env
      standAt apos.atName
      let (f, first) ← holding [ov] (getMethod ov m pl)
      callWith pos f first (backTo pos (starEach [] X.env)) (backToKw pos (keywordEach [] X.env))) := by rfl) :
    PE X (.Call (.Attribute o m apos) [] [] pos) (tMeth C m sp [] E0 ta tNil) := by
  obtain ⟨f, fd, F, hm, hb, cl⟩ := c
  exact pe_meth0 he cl hm F hr hb .nil pass0 ht
/-- the written part by its own name -/
theorem pe_fldK {K' : PySem.W.Frag} {f : Str} (hK : X.K = K') (he : PE X o ta) (hb : attributeBase o f X.env (eval o X.env) = eval o X.env) : PE X (.Attribute o f pos) (tFld K' ta f) := hK ▸ pe_fld he hb
def rLen (K : PySem.W.Frag) : List V → Hp → VK → Prop := fun xs H Q => ∃ p ys, xs = [.ref p] ∧ (SqL K H p ys ∨ SqT K H p ys) ∧ Q (.int ys.length) H
theorem call_lenK {K' : PySem.W.Frag} (hK : X.K = K') : CallR X (.builtin "len") (rLen K') := hK ▸ call_len_seq
theorem ix_listK {K' : PySem.W.Frag} (hK : X.K = K') : IxR X (rIxL K') := hK ▸ ix_list
theorem ix_tupK {K' : PySem.W.Frag} (hK : X.K = K') : IxR X (rIxT K') := hK ▸ ix_tup
/-- a number of the top -/
def GI (mg : Str → Option Value) (x : Str) (i : Int) : Prop := ∃ t, mg x = some (.int i t)
theorem pe_gi {i : Int} (hg : Gl X x) (h : GI X.mg x i) (hd : (x == ("__debug__" : Str)) = false := by decide) : PE X (.Name x pos) (tC (.int i)) := by
  obtain ⟨t, h⟩ := h
  exact pe_glob hg h ⟨_, rfl⟩ hd
end
def topS (i : Nat) : Stmt := PySem.Challenge.pw_markstretch_s01_answers.main.body.getD i (.Pass ⟨0, 0, 0, 0⟩)
end Mk
end

section
set_option Elab.async false
set_option linter.all false
set_option maxRecDepth 100000
set_option maxHeartbeats 4000000
namespace Mk
open PySem PySem.Spec PyProof.Rows L2
/-! ### a def of one's own as key= -/
/-- what the key's def promises of an item: a new pair of whole numbers -/
def KeySp (sp : Sp) (H : Hp) (x : V) (k : Int × Int) : Prop := ∀ (H' : Hp) (Q : VK), Same H H' → (∀ t, H' t = none → Q (.ref t) (upd H' t (.tup [.int k.1, .int k.2]))) → sp [x] H' Q E0
def leK (p q : Int × Int) : Prop := p.1 < q.1 ∨ (p.1 = q.1 ∧ p.2 ≤ q.2)
/-- a pair of whole numbers stands there -/
def IsPr (h : Heap) (t : Addr) (k : Int × Int) : Prop := ∃ o i j n, h.get? t = some o ∧ o.cls = .type "tuple" ∧ o.data = .seq #[.int k.1 i, .int k.2 j] n
def kd (k : Int × Int) : PyData := .tuple [.int k.1, .int k.2]
theorem IsPr.reads {h : Heap} {t : Addr} {k : Int × Int} (x : IsPr h t k) : Reads h (.ref t) (kd k) [] := by
  obtain ⟨o, i, j, n, h1, h2, h3⟩ := x
  have r : ReadsAll h [Value.int k.1 i, .int k.2 j] [.int k.1, .int k.2] ([] ++ ([] ++ [])) := .cons (.int _ _) (.cons (.int _ _) .nil)
  exact .tuple h1 h2 h3 r
theorem obj_has {P : Program} {w : World} {H : Hp} {h : Heap} {a : Addr} {o : HO} (x : ObjOk P w H h a o) : ∃ u, h.get? a = some u := by
  cases o with
  | lst xs => obtain ⟨_, _, _, _, e⟩ := x; exact ⟨_, e⟩
  | tup xs => obtain ⟨_, _, _, o, e, _⟩ := x; exact ⟨_, e⟩
  | dK kvs => obtain ⟨_, _, _, _, o, _, _, e, _⟩ := x; exact ⟨_, e⟩
  | dT kvs => obtain ⟨_, _, _, _, o, _, _, e, _⟩ := x; exact ⟨_, e⟩
  | set S n => obtain ⟨o, _, _, _, e, _⟩ := x; exact ⟨_, e⟩
  | ins C dx fs => obtain ⟨_, _, _, e, _⟩ := x; exact ⟨_, e⟩
  | own y => obtain ⟨_, e⟩ := x; exact ⟨_, e⟩
  | xd fs => obtain ⟨_, ⟨_, _, _, e, _⟩, _⟩ := x; exact ⟨_, e⟩
  | rng lo hi => obtain ⟨_, _, _, e⟩ := x; exact ⟨_, e⟩
  | frz ob u => obtain ⟨e, _⟩ := x; exact ⟨_, e⟩
  | tbl ps => exact ⟨_, (show h.get? a = some _ from x)⟩
  | met f y => exact ⟨_, (show h.get? a = some _ from x)⟩
  | ext φ => obtain ⟨_, ⟨_, e⟩, _⟩ := x; exact ⟨_, e⟩
theorem pair_pr {P : Program} {w : World} {H : Hp} {h : Heap} {t : Addr} {a b : Int} (x : ObjOk P w H h t (.tup [.int a, .int b])) : IsPr h t (a, b) := by
  obtain ⟨_, its, r, o, e, c, n, d⟩ := x
  cases r with
  | cons r1 r =>
    cases r with
    | cons r2 r =>
      cases r
      obtain ⟨i, rfl⟩ := r1
      obtain ⟨j, rfl⟩ := r2
      exact ⟨o, i, j, n, e, c, d⟩
theorem pr_inj {h : Heap} {t : Addr} {k l : Int × Int} (x : IsPr h t k) (y : IsPr h t l) : k = l := by
  obtain ⟨o, i, j, n, h1, h2, h3⟩ := x
  obtain ⟨o', i', j', n', h1', h2', h3'⟩ := y
  rw [h1] at h1'
  cases h1'
  rw [h3] at h3'
  injection h3' with e _
  have e := congrArg Array.toList e
  injection e with e1 e2
  injection e2 with e2 _
  injection e1 with e1 _
  injection e2 with e2 _
  exact Prod.ext e1 e2
section
variable {X : Cx} {pins : List (Addr × Obj)} {σ : L2.St} {H H' : Hp} {s : Shared} {h' : Heap}
theorem inv_reA (I : Inv X pins σ H s) {A' : Around} (hh : A'.handled = X.A.handled) (hf : A'.frames = X.A.frames) : Inv { X with A := A' } pins σ H s :=
  ⟨⟨I.ok.mod, I.ok.kind, I.ok.glob, I.ok.blt, I.ok.above, I.ok.inj, I.ok.has, I.ok.cab, fun c => hh.trans (I.ok.hd c), hf.trans I.ok.frames, I.ok.stk, I.ok.exf, I.ok.bs, I.ok.bsz, I.ok.noex, I.ok.exfs, I.ok.funs, I.ok.frf⟩,
    I.os, I.bare, I.base, I.loc, I.cell, I.free, I.freeC, I.pin, I.hok, I.len⟩
theorem inv_turned {t' : Nat} {wr : List Addr} (I : Inv X pins σ H s) (hw : ∀ b ∈ wr, FpOk X pins H b) (k : ∀ b o, b ∉ wr → s.heap.get? b = some o → h'.get? b = some o) : Inv X pins σ H { s with heap := h', toks := t' } := by
  have nit : ∀ b u, H b = some u → b ∉ wr := fun b u e z => by rw [(hw b z).1] at e; cases e
  refine I.step (g' := s.gens) (d' := s.drawn) (ch := wr) (fun b hb => ?_) (fun b o _ _ hc e _ => k b o hc e) (fun b o _ _ hc e _ => ⟨o.slots, k b o hc e⟩) (fun _ _ _ _ n => n)
    (fun b o hc e => ⟨o, k b o hc e⟩) (fun _ _ e => e) (fun _ _ _ e => e) (fun b ps e => ⟨#[], by rw [e]; simp⟩) (fun m hm => ?_) (fun b u e => ?_) I.bare
  · obtain ⟨_, h1, _, h2, h3, h4⟩ := hw b hb
    exact ⟨h2, h1, h3, h4⟩
  · obtain ⟨o, es, ep, ho, r⟩ := hm
    exact ⟨o, es, ep, k _ o (fun z => (hw _ z).2.1 rfl) ho, r⟩
  · refine (I.hok b u e).stay (fun c v hc q => k c v ?_ q) (fun _ q => q) fun _ _ q => q
    rcases hc with z | z
    · rw [z]; exact nit b u e
    · exact nit c _ z
/-- a list of one's own comes to be tracked -/
theorem inv_track {b : Addr} {o : HO} (I : Inv X pins σ H s) (f : FpOk X pins H b) (new : ObjOk X.prog X.w (upd H b o) s.heap b o) : Inv X pins σ (upd H b o) s := by
  have ne : ∀ c u, H c = some u → c ≠ b := fun c u e z => by rw [z, f.1] at e; cases e
  refine I.step (g' := s.gens) (d' := s.drawn) (t' := s.toks) (h' := s.heap) (ch := [b]) (fun c hc => ?_) (fun _ _ _ _ _ e _ => e) (fun _ o _ _ _ e _ => ⟨o.slots, e⟩) (fun c u hc _ n => ?_) (fun _ u _ e => ⟨u, e⟩)
    (fun c xs e => by rw [upd_ne (ne c _ e)]; exact e) (fun c u xs e => by rw [upd_ne (ne c _ e)]; exact e) (fun c ps e => ⟨#[], by rw [upd_ne (ne c _ e), e]; simp⟩) (fun _ hm => hm) (fun c u e => ?_) I.bare
  · rw [List.mem_singleton] at hc
    subst hc
    exact ⟨f.2.2.2.1, f.2.1, f.2.2.2.2.1, f.2.2.2.2.2⟩
  · rw [upd_ne (fun z => hc (by simp [z]))]
    exact n
  · by_cases q : c = b
    · subst q
      rw [upd_same] at e
      cases e
      exact new
    · rw [upd_ne q] at e
      exact (I.hok c u e).stay (fun _ _ _ q => q) (fun d q => by rw [upd_ne (ne d _ q)]; exact q) fun d xs q => by rw [upd_ne (ne d _ q)]; exact q
end
/-- what holds while a built-in calls the key's def: h0 the heap at its beginning, wr its own records -/
structure Jn (X : Cx) (pins : List (Addr × Obj)) (σ : L2.St) (H : Hp) (h0 : Heap) (wr : List Addr) (s : Shared) : Prop where
  ex : ∃ H', Inv X pins σ H' s ∧ Same H H' ∧ (∀ t, h0.get? t = none → H' t = none ∨ ∃ a b, H' t = some (.tup [.int a, .int b])) ∧ ∀ b ∈ wr, FpOk X pins H' b
  there : ∀ b o, h0.get? b = some o → ∃ o', s.heap.get? b = some o'
  nw : ∀ b ∈ wr, h0.get? b = none
  fr : ∀ b ∈ frs X.stack, ∃ o, h0.get? b = some o
section
variable {X : Cx} {pins : List (Addr × Obj)} {σ : L2.St} {H : Hp} {s : Shared} {h0 h' : Heap} {wr : List Addr}
theorem Jn.start {h1 : Heap} {t' : Nat} (I : Inv X pins σ H s) (k : ∀ b o, s.heap.get? b = some o → h1.get? b = some o) (hw : ∀ b ∈ wr, s.heap.objs.size ≤ b) : Jn X pins σ H s.heap wr { s with heap := h1, toks := t' } := by
  refine ⟨⟨H, I.kept k, Same.refl H, fun t e => .inl ?_, fun b hb => I.fpOk (hw b hb) (I.hok.fresh (hw b hb))⟩, fun b o e => ⟨o, k b o e⟩, fun b hb => Heap.get?_none_of_le (hw b hb), fun b hb => ?_⟩
  · cases q : H t with
    | none => rfl
    | some o =>
      obtain ⟨u, hu⟩ := obj_has (I.hok t o q)
      rw [e] at hu
      cases hu
  · obtain ⟨_, o, ho, _⟩ := I.stack.mem hb
    exact ⟨o, ho⟩
theorem Jn.turned {t' : Nat} (j : Jn X pins σ H h0 wr s) (k : ∀ b o, b ∉ wr → s.heap.get? b = some o → h'.get? b = some o) : Jn X pins σ H h0 wr { s with heap := h', toks := t' } := by
  obtain ⟨⟨H', I, sm, tr, fp⟩, th, nw, fr⟩ := j
  refine ⟨⟨H', inv_turned I fp k, sm, tr, fp⟩, fun b o e => ?_, nw, fr⟩
  obtain ⟨o', e'⟩ := th b o e
  exact ⟨o', k b o' (fun z => by rw [nw b z] at e; cases e) e'⟩
theorem call_key {f : Addr} {fd : FuncData} {ps : List Str} {sp : Sp} {k : Nat} (F : FnOk X.prog X.w X.K X.mg X.base CX0 k f fd ps sp) (hr : Room k X.A) (hb : Binds X.K fd ps []) (j : Jn X pins σ H h0 wr s) (hw : ∀ b ∈ wr, ∃ o, s.heap.get? b = some o)
    {x : V} {u : Value} (rx : RelV x u) {kk : Int × Int} (hk : KeySp sp H x kk) {Q : Value → Shared → Prop} {E : Value → Shared → Prop}
    (h : ∀ s' t, Jn X pins σ H h0 wr s' → (∀ b ∈ wr, ∀ o, s.heap.get? b = some o → s'.heap.get? b = some o) → IsPr s'.heap t kk → h0.get? t = none → (∀ b ∈ wr, b ≠ t) → (∀ t' k', h0.get? t' = none → IsPr s.heap t' k' → IsPr s'.heap t' k') → Q (.ref t) s') :
    wpAny (model X.prog X.w) X.A (call (.ref f) [u]) Q E s := by
  obtain ⟨⟨H', I, sm, tr, fp⟩, th, nw, fr⟩ := j
  have hsp := hk H' (fun v H2 => ∃ t, v = .ref t ∧ H' t = none ∧ H2 = upd H' t (.tup [.int kk.1, .int kk.2])) sm (fun t ht => ⟨t, rfl, ht, rfl⟩)
  have hl : [u].length = ps.length := F.len _ _ _ _ hsp
  refine wpAny_call (codeAny_mono (F.run X.A X.stack s H' ⟨[u], []⟩ [u] [x] _ E0 hr I.env0 (by have := hb s [u] I.kIn (by rw [List.append_nil]; exact hl); rw [List.append_nil] at this; exact this) (.cons rx .nil) hsp) fun r s' hq => ?_)
  cases r with
  | error e => exact False.elim hq
  | ok fl =>
    cases fl with
    | next => exact False.elim hq
    | brk => exact False.elim hq
    | cont => exact False.elim hq
    | ret u' =>
      obtain ⟨v, H2, os, bare, un, hok, rv, t, rfl, ht, rfl⟩ := hq
      obtain rfl : u' = .ref t := rv
      have hst : s.heap.get? t = none := by
        cases q : s.heap.get? t with
        | none => rfl
        | some o =>
          have := un.free t o q ht (by simp)
          rw [upd_same] at this
          cases this
      have h0t : h0.get? t = none := by
        cases q : h0.get? t with
        | none => rfl
        | some o =>
          obtain ⟨o', e⟩ := th t o q
          rw [hst] at e
          cases e
      have nfr : ∀ b, h0.get? b = none → b ∉ frs X.stack := fun b e z => by
        obtain ⟨o, ho⟩ := fr b z
        rw [e] at ho
        cases ho
      have I' : Inv X pins σ (upd H' t (.tup [.int kk.1, .int kk.2])) s' := by
        obtain ⟨hh, g, d, tt, os'⟩ := s'
        obtain rfl : os' = s.os := os
        exact I.call (h' := hh) (g' := g) (d' := d) (t' := tt) (ch := []) un hok bare (fun b z => absurd z (by simp))
      have nbt : ∀ b o, s.heap.get? b = some o → b ≠ t := fun b o e z => by rw [z, hst] at e; cases e
      refine h s' t ⟨⟨_, I', sm.trans (fun b u e => by rw [upd_ne (ne_of_none e ht)]; exact e), fun t' e => ?_, fun b hb => ?_⟩, fun b o e => ?_, nw, fr⟩ (fun b hb o e => ?_) (pair_pr (hok t _ upd_same)) h0t (fun b hb => by obtain ⟨o, ho⟩ := hw b hb; exact nbt b o ho) (fun t' k' e x => ?_)
      · by_cases q : t' = t
        · exact .inr ⟨kk.1, kk.2, by rw [q]; exact upd_same⟩
        · rw [upd_ne q]
          exact tr t' e
      · obtain ⟨o, ho⟩ := hw b hb
        exact ⟨by rw [upd_ne (nbt b o ho)]; exact (fp b hb).1, (fp b hb).2⟩
      · obtain ⟨o', e'⟩ := th b o e
        exact un.there b o' e' (by simp)
      · exact un.keep b o e (fp b hb).1 (nfr b (nw b hb)) (by simp)
      · rcases tr t' e with q | ⟨a, b, q⟩
        · obtain ⟨o, i, j, n, h1, h2, h3⟩ := x
          exact ⟨o, i, j, n, un.keep t' o h1 q (nfr t' e) (by simp), h2, h3⟩
        · have e1 := pr_inj x (pair_pr (I.hok t' _ q))
          subst e1
          obtain ⟨o, i, j, n, h1, h2, h3⟩ := x
          exact pair_pr (hok t' _ (by rw [upd_ne (nbt t' o h1)]; exact q))
end
end Mk
end

section
set_option Elab.async false
set_option linter.all false
set_option maxRecDepth 100000
set_option maxHeartbeats 4000000
namespace Mk
open PySem PySem.Spec PyProof.Rows L2
theorem each_get {α β : Type} {R : α → β → Prop} : ∀ {as : List α} {bs : List β}, as.length = bs.length → (∀ (i : Nat) a b, as[i]? = some a → bs[i]? = some b → R a b) → PySem.W.EachIs R as bs
  | [], [], _, _ => .nil
  | [], _ :: _, h, _ => by simp at h
  | _ :: _, [], h, _ => by simp at h
  | a :: as, b :: bs, h, k => .cons (k 0 a b rfl rfl) (each_get (by simpa using h) fun i x y hx hy => k (i + 1) x y hx hy)
theorem vals_each : ∀ {xs : List V} {us : List Value}, Vals xs us → PySem.W.EachIs (fun u x => RelV x u) us xs
  | _, _, .nil => .nil
  | _, _, .cons r t => .cons r (vals_each t)
theorem each_vals : ∀ {xs : List V} {us : List Value}, PySem.W.EachIs (fun u x => RelV x u) us xs → Vals xs us
  | _, _, .nil => .nil
  | _, _, .cons r t => .cons r (each_vals t)
theorem IsPr.keep {h h' : Heap} {t : Addr} {k : Int × Int} (x : IsPr h t k) (e : ∀ o, h.get? t = some o → h'.get? t = some o) : IsPr h' t k := by
  obtain ⟨o, i, j, n, h1, h2, h3⟩ := x
  exact ⟨o, i, j, n, e o h1, h2, h3⟩
theorem IsPr.ne_list {h : Heap} {t b : Addr} {k : Int × Int} {kA : Array Value} {e : Nat} (x : IsPr h t k) (y : h.get? b = some (seqObj "list" kA e)) : t ≠ b := by
  rintro rfl
  obtain ⟨o, i, j, n, h1, h2, h3⟩ := x
  rw [y] at h1
  cases h1
  have h2 : Value.type "list" = Value.type "tuple" := h2
  injection h2 with h2
  exact absurd h2 (by decide)
theorem le_kd (b : Bool) (kk : V → Int × Int) (x y : V) (h : PySem.W.dataLe b (fun x => kd (kk x)) x y = true) : if b = true then leK (kk y) (kk x) else leK (kk x) (kk y) := by
  have key : ∀ x y, PySem.W.dataLe false (fun x => kd (kk x)) x y = true → leK (kk x) (kk y) := fun x y h => by
    have e := congrFun (congrFun (PySem.W.dataLe_ii (fun x => (kk x).1) (fun x => (kk x).2)) x) y
    have h : PySem.W.dataLe false (fun x => PyData.tuple [.int (kk x).1, .int (kk x).2]) x y = true := h
    rw [e] at h
    have h := of_decide_eq_true h
    exact h
  cases b with
  | false => exact key x y h
  | true => exact key y x h
section
variable {X : Cx} {f : Addr} {fd : FuncData} {ps : List Str} {sp : Sp} {k : Nat} {pins : List (Addr × Obj)} {s : Shared} {σ : L2.St} {H : Hp} {a : Addr} {xs : List V} {Q : VK}
theorem run_sortF {b : Bool} {kw : List (Str × Value)} (F : FnOk X.prog X.w X.K X.mg X.base CX0 k f fd ps sp) (hr : Room (k + 1) X.A) (hb : Binds X.K fd ps []) (I : Inv X pins σ H s) (hs : SqL X.K H a xs) (kk : V → Int × Int) (hk : ∀ x ∈ xs, KeySp sp H x (kk x))
    (ha1 : argsOk "sorted" ⟨[.ref a], kw⟩) (ha2 : ∀ x, argsOk "list.sort" ⟨[.ref x], kw⟩) (ht : ∀ x, Builtin.«list.sort» ⟨[.ref x], kw⟩ = ksk_tree x (.ref f) b)
    (q : ∀ ys p H2, ys.Perm xs → ys.Pairwise (fun x y => if b = true then leK (kk y) (kk x) else leK (kk x) (kk y)) → Same H H2 → H p = none → H2 p = some (.lst ys) → Q (.ref p) H2) :
    wpAny (model X.prog X.w) X.A (call (.builtin "sorted") [.ref a] kw) (EP X pins σ Q) X.xe s := by
  obtain ⟨its, rv, hl, hz⟩ := I.list hs
  have hlen : its.length = xs.length := rv.length.symm
  have hZ : its.length ≤ sizeLine := by omega
  refine PySem.W.sorted_of_sort hl.isList hZ ha1 ha2 fun E' => ?_
  rw [ht]
  have I2 : Inv { X with A := X.A.in1.in1 } pins σ H s := inv_reA I rfl rfl
  have hr2 : Room k X.A.in1.in1 := ⟨hr.hd, by have := hr.dp; show X.A.depth + 3 * k + 5 < _; omega, by have := hr.un; show X.A.units + 1 + 1 + 16 * k + 200 < _; omega⟩
  have ho := PySem.W.copyHeap_at s.heap its
  have hcs : (PySem.W.copyHeap s.heap its).objs.size = s.heap.objs.size + 1 + 1 := by
    unfold PySem.W.copyHeap
    rw [size_push', Heap.size_update, size_push']
  generalize hCH : PySem.W.copyHeap s.heap its = CH at ho hcs
  have old : ∀ c o, s.heap.get? c = some o → CH.get? c = some o := fun c o e => by rw [← hCH]; exact PySem.W.copyHeap_old e
  obtain ⟨e1, ho1⟩ : ∃ e1, (CH.update (s.heap.objs.size + 1) (Obj.mapSeq fun _ => (#[] : Array Value))).get? (s.heap.objs.size + 1) = some (seqObj "list" #[] e1) := ⟨_, get?_update_seq ho fun _ => #[]⟩
  have hkS : ((CH.update (s.heap.objs.size + 1) (Obj.mapSeq fun _ => (#[] : Array Value))).push (seqObj "tuple" its.toArray 0)).objs.size = s.heap.objs.size + 1 + 1 + 1 := by rw [size_push', Heap.size_update, hcs]
  unfold ksk_tree
  refine wpAny_bind (listItems_at ho rfl (wpAny_bind (listUpdate_at ho rfl (wpAny_bind (seqEpoch_at ho1 rfl (wpAny_bind (wpAny_newTuple (wpAny_bind (wpAny_newList (wpAny_holding ?_) (Nat.zero_le _))) hZ)))) (by rw [List.size_toArray]; exact hZ) (Nat.zero_le _))))
  generalize hh3 : ((CH.update (s.heap.objs.size + 1) (Obj.mapSeq fun _ => (#[] : Array Value))).push (seqObj "tuple" its.toArray 0)).push (seqObj "list" #[] 0) = h3
  have nk0 : h3.get? (s.heap.objs.size + 1 + 1 + 1) = some (seqObj "list" #[] 0) := by
    rw [← hh3, ← hkS]
    exact Heap.get?_push_size _ rfl
  have na0 : h3.get? (s.heap.objs.size + 1) = some (seqObj "list" #[] e1) := by
    rw [← hh3]
    exact Heap.get?_push_of_some _ (Heap.get?_push_of_some _ ho1)
  have k0 : ∀ c o, s.heap.get? c = some o → h3.get? c = some o := fun c o e => by
    rw [← hh3]
    refine Heap.get?_push_of_some _ (Heap.get?_push_of_some _ ?_)
    rw [Heap.get?_update_ne _ _ _ _ (Nat.ne_of_lt (Nat.lt_succ_of_lt (Heap.lt_size e)))]
    exact old c o e
  rw [hkS]
  have j0 : Jn { X with A := X.A.in1.in1 } pins σ H s.heap [s.heap.objs.size + 1, s.heap.objs.size + 1 + 1 + 1] { s with heap := h3 } := Jn.start (t' := s.toks) I2 k0 (fun c hc => by
    simp only [List.mem_cons, List.not_mem_nil, or_false] at hc
    rcases hc with rfl | rfl
    · exact Nat.le_succ _
    · exact Nat.le_trans (Nat.le_succ _) (Nat.le_trans (Nat.le_succ _) (Nat.le_succ _)))
  clear hh3 ho1 ho hCH
  generalize hA : s.heap.objs.size + 1 = A1 at *
  generalize hK : A1 + 1 + 1 = K1 at *
  have hka : K1 ≠ A1 := by omega
  have eqA : ∀ c, c ∈ [A1, K1] ↔ c = A1 ∨ c = K1 := fun c => by simp
  unfold ksk_rest
  refine wpAny_bind (wpAny_rule (?_ : wpAny _ _ (_ >>= _) _ _ _))
  rw [List.forIn_toArray]
  refine wpAny_bind (ksk_fold (fun i s' => ∃ kA e, Jn { X with A := X.A.in1.in1 } pins σ H s.heap [A1, K1] s' ∧ s'.heap.get? K1 = some (seqObj "list" kA e) ∧ s'.heap.get? A1 = some (seqObj "list" #[] e1) ∧ kA.size = i ∧
      ∀ (j : Nat) key, kA.toList[j]? = some key → ∃ x t, xs[j]? = some x ∧ key = .ref t ∧ s.heap.get? t = none ∧ IsPr s'.heap t (kk x)) its 0 _ ⟨#[], 0, j0, nk0, na0, rfl, fun j key h => by simp at h⟩ ?step ?done)
  case step =>
    rintro j x s' hx ⟨kA, e, jn, nk, na, hsz, hkeys⟩
    simp only [Nat.zero_add] at hsz ⊢
    have hj : j < its.length := (List.getElem?_eq_some_iff.mp hx).1
    obtain ⟨y, hy, ry⟩ : ∃ y, xs[j]? = some y ∧ RelV y x := by
      have hj2 : j < xs.length := by omega
      obtain ⟨u, hu, ru⟩ := rv.get (i := j) (List.getElem?_eq_getElem hj2)
      rw [hx] at hu
      cases hu
      exact ⟨_, List.getElem?_eq_getElem hj2, ru⟩
    refine wpAny_bind (wpAny_attempt (call_key (X := { X with A := X.A.in1.in1 }) F hr2 hb jn (fun c hc => ?_) ry (hk y (List.mem_of_getElem? hy)) fun s'' t jn2 kept pr h0t nbt prs => ?_))
    · rcases (eqA c).mp hc with rfl | rfl
      · exact ⟨_, na⟩
      · exact ⟨_, nk⟩
    have nk2 := kept K1 ((eqA K1).mpr (.inr rfl)) _ nk
    have na2 := kept A1 ((eqA A1).mpr (.inl rfl)) _ na
    try dsimp only
    have s1 := Heap.SameBut.update s''.heap K1 (Obj.mapSeq (·.push (.ref t)))
    obtain ⟨c2, hc2⟩ : ∃ c2, (s''.heap.update K1 (Obj.mapSeq (·.push (.ref t)))).get? K1 = some (seqObj "list" (kA.push (.ref t)) c2) := ⟨_, get?_update_seq nk2 (·.push (.ref t))⟩
    have hkz : kA.size ≤ sizeLine := by omega
    refine wpAny_bind (listUpdate_at nk2 rfl ?_ hkz (Nat.le_trans (Nat.le_of_eq (Array.size_push ..)) (Nat.succ_le_succ hkz)))
    refine wpAny_pure ⟨rfl, kA.push (.ref t), c2, jn2.turned (fun c o hc e => (s1.2 c (fun z => hc ((eqA c).mpr (.inr z)))).trans e), hc2, (s1.2 A1 hka.symm).trans na2, by rw [Array.size_push, hsz], fun j' key hkey => ?_⟩
    have keepP : ∀ t' k', IsPr s''.heap t' k' → IsPr (s''.heap.update K1 (Obj.mapSeq (·.push (.ref t)))) t' k' := fun t' k' p => p.keep fun o e => (s1.2 t' (p.ne_list nk2)).trans e
    have ea : (kA.push (Value.ref t)).toList = kA.toList ++ [Value.ref t] := by simp
    rw [ea] at hkey
    by_cases hlt : j' < kA.toList.length
    · rw [List.getElem?_append_left hlt] at hkey
      obtain ⟨x', t', h1, h2, h3, h4⟩ := hkeys j' key hkey
      exact ⟨x', t', h1, h2, h3, keepP _ _ (prs t' _ h3 h4)⟩
    · rw [List.getElem?_append_right (by omega)] at hkey
      have hjl : kA.toList.length = j := by rw [Array.length_toList]; exact hsz
      cases q' : j' - kA.toList.length with
      | zero =>
        rw [q'] at hkey
        have ek : Value.ref t = key := Option.some.inj hkey
        have ej : j' = j := by omega
        subst ej
        exact ⟨y, t, hy, ek.symm, h0t, keepP _ _ pr⟩
      | succ m => rw [q'] at hkey; simp at hkey
  case done =>
    rintro s' ⟨kA, e, jn, nk, na, hsz, hkeys⟩
    have hsz : kA.size = its.length := by omega
    have hk' : PySem.W.EachIs (fun v d => ∃ as, Reads s'.heap v d as) kA.toList (xs.map fun x => kd (kk x)) := by
      refine each_get (by rw [List.length_map, Array.length_toList]; omega) fun i v d hv hd => ?_
      obtain ⟨x, t, h1, h2, h3, h4⟩ := hkeys i v hv
      rw [List.getElem?_map, h1] at hd
      have hd : kd (kk x) = d := Option.some.inj hd
      rw [← hd, h2]
      exact ⟨[], h4.reads⟩
    have hal : PySem.W.AllAlike (xs.map fun x => kd (kk x)) := PySem.W.AllAlike.of fun _ _ => by simp [kd, PySem.W.alike, PySem.W.alikeAll]
    have hsk : PySem.W.Sortable (xs.map fun x => kd (kk x)) := PySem.W.Sortable.tuples fun _ => ⟨_, _, rfl⟩
    have hu : ∀ d, d ∈ (xs.map fun x => kd (kk x)) → X.A.in1.in1.units + d.depth < cLine := fun d hd => by
      obtain ⟨x, _, rfl⟩ := List.mem_map.mp hd
      have hd : (kd (kk x)).depth = 1 := by simp [kd, PyData.depth, PyData.depthAll]
      have := hr2.un
      omega
    try dsimp only
    refine wpAny_bind (listItems_at nk rfl ?_)
    obtain ⟨⟨H', I3, sm, tr, fp⟩, th, nw, fr⟩ := jn
    refine PySem.W.keyH_end (κ := PySem.W.dataKind s'.heap (xs.map fun x => kd (kk x))) (h₁ := PySem.W.hideAll s'.heap [K1]) (fun c o _ e => PySem.W.of_hideAll _ e) (PySem.W.hideAll_none _ (by simp)) nk na hka
      (PySem.W.SortsAt.data (s := s') hk' hal hsk hu) hsz hZ fun h4 tk4 c4 k4 n4 => ⟨rfl, ?_⟩
    have I4 : Inv { X with A := X.A.in1.in1 } pins σ H' { s' with heap := h4, toks := tk4 } := inv_turned I3 fp fun c o hc e => k4 c o (fun z => hc ((eqA c).mpr (.inl z))) (PySem.W.hideAll_get _ e (fun z => hc ((eqA c).mpr (.inr (by simpa using z)))))
    have eo := PySem.W.keyedOut_each (rev := b) (R := fun v x => RelV x v) (bs := xs) (vs := its) (fun x => kd (kk x)) ⟨s'.heap, kA.toList, hal, rfl, hk'⟩ (vals_each rv)
    have hp := List.mergeSort_perm xs (PySem.W.dataLe b fun x => kd (kk x))
    have hw := PySem.W.sort_pairwise (PySem.W.sortLe_total (PyProof.Rows.listOrd PyProof.Rows.itemOrd) b fun x => PySem.W.keyToks (kd (kk x))) xs
    have fa := fp A1 ((eqA A1).mpr (.inl rfl))
    have I5 := inv_track (o := .lst (xs.mergeSort (PySem.W.dataLe b fun x => kd (kk x)))) I4 fa ⟨by rw [hp.length_eq]; exact hz, _, c4, each_vals eo, n4⟩
    have I6 : Inv X pins σ _ _ := inv_reA (X := { X with A := X.A.in1.in1 }) (A' := X.A) I5 rfl rfl
    refine ⟨.ref A1, _, I6, rfl, q _ A1 _ hp (hw.imp fun {x y} h => le_kd b kk x y h) (sm.trans fun c u e => by rw [upd_ne (ne_of_none e fa.1)]; exact e) (I.hok.fresh (by omega)) upd_same⟩
/-- sorted(e, key=g), sorted(e, key=g, reverse=True) -/
def rSortF (K : PySem.W.Frag) (sp : Sp) (b : Bool) (v : V) (H : Hp) (Q : VK) : Prop := ∃ (a : Addr) (xs : List V) (kk : V → Int × Int), v = .ref a ∧ SqL K H a xs ∧ (∀ x ∈ xs, KeySp sp H x (kk x)) ∧
  ∀ ys p H2, ys.Perm xs → ys.Pairwise (fun x y => if b = true then leK (kk y) (kk x) else leK (kk x) (kk y)) → Same H H2 → H p = none → H2 p = some (.lst ys) → Q (.ref p) H2
def tSortF (K : PySem.W.Frag) (sp : Sp) (b : Bool) (te : TE) : TE := fun σ H Q => te σ H fun v H1 => rSortF K sp b v H1 Q
theorem pe_sortF {e : Expr} {te : TE} {g : Str} {p gp kp pos : Pos} (c : Calls X.prog X.w X.K X.mg X.base g k ps sp) (hr : Room (k + 1) X.A) (hgl : Gl X g) (hg : Gl X "sorted") (hm : X.mg "sorted" = none) (he : PE X e te)
    (hgd : (g == ("__debug__" : Str)) = false := by decide) (hs : starEach [e] X.env = [(false, eval e X.env)] := by rfl) :
    PE X (.Call (.Name "sorted" p) [e] [⟨some "key", .Name g gp, kp⟩] pos) (tSortF X.K sp false te) := by
  obtain ⟨f, fd, F, hmf, hkeep, hb⟩ := c
  refine ⟨fun pins s σ H Q I h => ?_⟩
  refine wpAny_Call_Name_kw (ld_blt I hg hm (u := .builtin "sorted") (by decide +kernel) ?_)
  have ha : PA X [e] (tCons te tNil) := pa_cons he pa_nil (by rw [hs]; rfl)
  have hk : PK X [⟨some "key", .Name g gp, kp⟩] (tCons (tC (.ref f)) tNil) := pk_cons (pe_glob (v := .ref f) hgl hmf rfl hgd) pk_nil
  refine PyProof.Rows.callWith_kw (thn (ha.run pos pins s σ H (fun vs H1 => match vs with | [v] => rSortF X.K sp false v H1 Q | _ => False) I h) fun us s1 ⟨vs, H1, I1, r1, q1⟩ => ?_) (by rw [hs]; rfl) (by rw [hs]; rfl)
  match vs, r1, q1 with
  | [v], .cons r .nil, q1 =>
    obtain ⟨a, xs, kk, rfl, hq, hks, q⟩ := q1
    obtain rfl := r
    refine thn (hk.run pos pins s1 σ H1 (fun zs H2 => zs = [.ref f] ∧ H2 = H1) I1 ⟨rfl, rfl⟩) fun ws s2 ⟨zs, H2, I2, r2, q2⟩ => ?_
    obtain ⟨rfl, rfl⟩ := q2
    obtain ⟨w1, rfl, e1⟩ := vals1 r2
    obtain rfl : w1 = Value.ref f := e1
    exact run_sortF (b := false) F hr hb I2 hq kk hks (PyProof.Rows.ksk_s1 _ _) (fun _ => PyProof.Rows.ksk_l1 _ _) (fun _ => PyProof.Rows.ksk_t1 _ _) q
theorem pe_sortFR {e : Expr} {te : TE} {g : Str} {p gp kp kp2 bp pos : Pos} {n : Nat} (c : Calls X.prog X.w X.K X.mg X.base g k ps sp) (hr : Room (k + 1) X.A) (hgl : Gl X g) (hg : Gl X "sorted") (hm : X.mg "sorted" = none) (he : PE X e te)
    (hgd : (g == ("__debug__" : Str)) = false := by decide) (hs : starEach [e] X.env = [(false, eval e X.env)] := by rfl) :
    PE X (.Call (.Name "sorted" p) [e] [⟨some "key", .Name g gp, kp⟩, ⟨some "reverse", .Constant (.bool true) n bp, kp2⟩] pos) (tSortF X.K sp true te) := by
  obtain ⟨f, fd, F, hmf, hkeep, hb⟩ := c
  refine ⟨fun pins s σ H Q I h => ?_⟩
  refine wpAny_Call_Name_kw (ld_blt I hg hm (u := .builtin "sorted") (by decide +kernel) ?_)
  have ha : PA X [e] (tCons te tNil) := pa_cons he pa_nil (by rw [hs]; rfl)
  have hk : PK X [⟨some "key", .Name g gp, kp⟩, ⟨some "reverse", .Constant (.bool true) n bp, kp2⟩] (tCons (tC (.ref f)) (tCons (tC (.bl true)) tNil)) := pk_cons (pe_glob (v := .ref f) hgl hmf rfl hgd) (pk_cons pe_bl pk_nil)
  refine PyProof.Rows.callWith_kw (thn (ha.run pos pins s σ H (fun vs H1 => match vs with | [v] => rSortF X.K sp true v H1 Q | _ => False) I h) fun us s1 ⟨vs, H1, I1, r1, q1⟩ => ?_) (by rw [hs]; rfl) (by rw [hs]; rfl)
  match vs, r1, q1 with
  | [v], .cons r .nil, q1 =>
    obtain ⟨a, xs, kk, rfl, hq, hks, q⟩ := q1
    obtain rfl := r
    refine thn (hk.run pos pins s1 σ H1 (fun zs H2 => zs = [.ref f, .bl true] ∧ H2 = H1) I1 ⟨rfl, rfl⟩) fun ws s2 ⟨zs, H2, I2, r2, q2⟩ => ?_
    obtain ⟨rfl, rfl⟩ := q2
    obtain ⟨w1, w2, rfl, e1, e2⟩ := vals2 r2
    obtain rfl : w1 = Value.ref f := e1
    obtain rfl : w2 = Value.bool true := e2
    exact run_sortF (b := true) F hr hb I2 hq kk hks (PyProof.Rows.ksk_s2 _ _ _) (fun _ => PyProof.Rows.ksk_l2 _ _ _) (fun _ => PyProof.Rows.ksk_t2 _ _ _) q
end
end Mk
end

section
set_option Elab.async false
set_option linter.all false
set_option maxRecDepth 100000
set_option maxHeartbeats 4000000
namespace Mk
open PySem PySem.Spec PyProof.Rows L2
def ltK (p q : Int × Int) : Prop := p.1 < q.1 ∨ (p.1 = q.1 ∧ p.2 < q.2)
instance ltK_dec (p q : Int × Int) : Decidable (ltK p q) := by unfold ltK; infer_instance
theorem best_max (kz : Nat → Int × Int) : ∀ m : Nat, argBest (fun i j => decide (ltK (kz j) (kz i))) m ≤ m ∧ ∀ j, j ≤ m → leK (kz j) (kz (argBest (fun i j => decide (ltK (kz j) (kz i))) m))
  | 0 => ⟨Nat.le_refl _, fun j hj => by
    have e : j = 0 := by omega
    subst e
    exact .inr ⟨rfl, Int.le_refl _⟩⟩
  | m + 1 => by
    obtain ⟨h1, h2⟩ := best_max kz m
    rw [argBest]
    generalize argBest (fun i j => decide (ltK (kz j) (kz i))) m = B at h1 h2 ⊢
    by_cases q : ltK (kz B) (kz (m + 1))
    · rw [if_pos (decide_eq_true q)]
      refine ⟨Nat.le_refl _, fun j hj => ?_⟩
      by_cases e : j = m + 1
      · rw [e]; exact .inr ⟨rfl, Int.le_refl _⟩
      · have := h2 j (by omega)
        unfold ltK at q
        unfold leK at this ⊢
        omega
    · rw [if_neg (by rw [decide_eq_false q]; decide)]
      refine ⟨by omega, fun j hj => ?_⟩
      by_cases e : j = m + 1
      · rw [e]
        unfold ltK at q
        unfold leK
        omega
      · exact h2 j (by omega)
theorem vals_refs : ∀ {as : List Addr} {its : List Value}, Vals (as.map V.ref) its → its = as.map Value.ref
  | [], _, .nil => rfl
  | a :: as, _, .cons r t => by
    obtain rfl := r
    rw [vals_refs t]
    rfl
section
variable {X : Cx} {f : Addr} {fd : FuncData} {ps : List Str} {sp : Sp} {k : Nat} {pins : List (Addr × Obj)} {s : Shared} {σ : L2.St} {H : Hp} {a : Addr} {as : List Addr} {Q : VK}
theorem refs_list {H' : Hp} (I : Inv X pins σ H' s) (hs : H' a = some (.lst (as.map V.ref))) : s.heap.IsList a (as.map Value.ref).toArray := by
  obtain ⟨_, its, n, r, e⟩ := I.hok a _ hs
  rw [vals_refs r] at e
  exact ⟨_, e, rfl, n, rfl⟩
theorem run_maxF (hc : X.calm = true) (F : FnOk X.prog X.w X.K X.mg X.base CX0 k f fd ps sp) (hr : Room (k + 1) X.A) (hb : Binds X.K fd ps []) (I : Inv X pins σ H s) (hs : H a = some (.lst (as.map V.ref))) (hne : as ≠ []) (kk : Addr → Int × Int) (hk : ∀ z ∈ as, KeySp sp H (.ref z) (kk z))
    (q : ∀ z H2, z ∈ as → (∀ y ∈ as, leK (kk y) (kk z)) → Same H H2 → Q (.ref z) H2) :
    wpAny (model X.prog X.w) X.A (call (.builtin "max") [.ref a] [(Str.ofString "key", .ref f)]) (EP X pins σ Q) X.xe s := by
  have hl := refs_list I hs
  have I2 : Inv { X with A := X.A.in1 } pins σ H s := inv_reA I rfl rfl
  have hr2 : Room k X.A.in1 := ⟨hr.hd, by have := hr.dp; show X.A.depth + 3 * k + 5 < _; omega, by have := hr.un; show X.A.units + 1 + 16 * k + 200 < _; omega⟩
  have hh : X.A.in1.handled = none := I.ok.hd hc
  have hne' : 0 < as.length := List.length_pos_iff.mpr hne
  refine PySem.call_max_walkK (wpAny_pyIter_list hl ?_)
  generalize hh1 : s.heap.push { cls := .type "list_iterator", data := .fields #[.ref a, .int 0 0] } = h1
  have hsz1 : h1.objs.size = s.heap.objs.size + 1 := by rw [← hh1]; exact size_push' ..
  have k0 : ∀ c o, s.heap.get? c = some o → h1.get? c = some o := fun c o e => by rw [← hh1]; exact Heap.get?_push_of_some _ e
  have it0 : h1.IsListIter s.heap.objs.size a 0 := by rw [← hh1]; exact ⟨_, Heap.get?_push_size _ rfl, rfl, rfl⟩
  have ax : a < s.heap.objs.size := by obtain ⟨o, ho, _⟩ := hl; exact Heap.lt_size ho
  have hl1 : h1.IsList a (as.map Value.ref).toArray := hl.at fun o e => k0 _ o e
  have j0 : Jn { X with A := X.A.in1 } pins σ H s.heap [h1.objs.size, s.heap.objs.size] { s with heap := h1 } := Jn.start (t' := s.toks) I2 k0 (fun c hc => by
    simp only [List.mem_cons, List.not_mem_nil, or_false] at hc
    rcases hc with rfl | rfl
    · rw [hsz1]; exact Nat.le_succ _
    · exact Nat.le_refl _)
  refine ⟨s.heap.objs.size, _, _, _, _, _, _, Jn { X with A := X.A.in1 } pins σ H s.heap [h1.objs.size, s.heap.objs.size], fun i key s' => ∃ t z, key = .ref t ∧ s.heap.get? t = none ∧ (∀ b ∈ [h1.objs.size, s.heap.objs.size], b ≠ t) ∧ as[i]? = some z ∧ IsPr s'.heap t (kk z),
    fun i j => decide (ltK (kk (as.getD j 0)) (kk (as.getD i 0))), rfl, (Walks.list (A := X.A.in1) hh s.heap.objs.size a (Nat.ne_of_lt ax) (as.map Value.ref).toArray).toS, ⟨it0, hl1⟩, fun b hb => ?_, by simpa using hne', ⟨?_, ?_, ?_, ?_⟩, j0, ?_⟩
  · simp only [List.mem_cons, List.not_mem_nil, or_false] at hb
    show b < h1.objs.size
    rw [hsz1]
    rcases hb with rfl | rfl
    · exact Nat.lt_succ_self _
    · exact Nat.lt_succ_of_lt ax
  · intro s1 s2 j m
    rw [Moved.eq_with m]
    exact j.turned fun b o hb e => m.heap b o hb e
  · rintro i key s1 s2 ⟨t, z, h1', h2, h3, h4, h5⟩ m
    exact ⟨t, z, h1', h2, h3, h4, h5.keep fun o e => m.heap t o (fun hm => h3 t hm rfl) e⟩
  · intro i v s1 o Q1 E1 hi hv j st hS hQ
    have hi2 : i < as.length := by simpa using hi
    have hv2 : v = .ref as[i] := by
      have hv : ((as.map Value.ref).toArray)[i]? = some v := hv
      simp only [List.getElem?_toArray, List.getElem?_map, List.getElem?_eq_getElem hi2, Option.map_some] at hv
      exact (Option.some.inj hv).symm
    obtain ⟨⟨oi, hoi, hci, hdi⟩, hli⟩ := id st
    refine call_key (X := { X with A := X.A.in1 }) F hr2 hb j (fun b hb => ?_) (x := .ref as[i]) hv2 (hk as[i] (List.getElem_mem hi2)) fun s2 t j2 kept pr h0t nbt prs => ?_
    · simp only [List.mem_cons, List.not_mem_nil, or_false] at hb
      rcases hb with rfl | rfl
      · exact ⟨_, hS⟩
      · exact ⟨_, hoi⟩
    refine hQ _ s2 j2 ⟨⟨oi, kept _ (by simp) _ hoi, hci, hdi⟩, ?_⟩ (kept _ (by simp) _ hS) ⟨t, as[i], rfl, h0t, nbt, List.getElem?_eq_getElem hi2, pr⟩ ?_
    · obtain ⟨H', I3, sm, _⟩ := j2.ex
      exact refs_list I3 (sm _ _ hs)
    · rintro j' key ⟨t', z, e1, e2, e3, e4, e5⟩
      exact ⟨t', z, e1, e2, e3, e4, prs t' _ e2 e5⟩
  · rintro i j ki kj s1 Q1 E1 jj ⟨t, z, rfl, e2, e3, e4, e5⟩ ⟨t', z', rfl, e2', e3', e4', e5'⟩ hQ
    refine PySem.W.gt_data e5.reads e5'.reads (by simp [kd, PySem.W.alike, PySem.W.alikeAll]) (by intro q; cases q) ?_ ?_
    · have hd : (kd (kk z)).depth = 1 := by simp [kd, PyData.depth, PyData.depthAll]
      have := hr2.un
      rw [hd]
      have : min 1 (kd (kk z')).depth ≤ 1 := Nat.min_le_left _ _
      omega
    · have e : PySem.W.dataLt (kd (kk z')) (kd (kk z)) = decide (ltK (kk (as.getD j 0)) (kk (as.getD i 0))) := by
        have z1 : as.getD j 0 = z' := by rw [List.getD_eq_getElem?_getD, e4']; rfl
        have z2 : as.getD i 0 = z := by rw [List.getD_eq_getElem?_getD, e4]; rfl
        rw [z1, z2]
        exact PySem.W.dataLt_ii _ _ _ _
      rw [e]
      exact hQ
  · intro v s1 hv j
    obtain ⟨b1, b2⟩ := best_max (fun i => kk (as.getD i 0)) (as.length - 1)
    have hn : ((as.map Value.ref).toArray).size = as.length := by simp
    have hv : ((as.map Value.ref).toArray)[argBest (fun i j => decide (ltK (kk (as.getD j 0)) (kk (as.getD i 0)))) (((as.map Value.ref).toArray).size - 1)]? = some v := hv
    rw [hn] at hv
    generalize argBest (fun i j => decide (ltK (kk (as.getD j 0)) (kk (as.getD i 0)))) (as.length - 1) = B at b1 b2 hv
    have hB : B < as.length := by omega
    simp only [List.getElem?_toArray, List.getElem?_map, List.getElem?_eq_getElem hB, Option.map_some] at hv
    have hv := (Option.some.inj hv).symm
    obtain ⟨H', I3, sm, _⟩ := j.ex
    have I4 : Inv X pins σ H' s1 := inv_reA (X := { X with A := X.A.in1 }) (A' := X.A) I3 rfl rfl
    refine ⟨.ref as[B], H', I4, hv, q as[B] H' (List.getElem_mem hB) (fun y hy => ?_) sm⟩
    obtain ⟨j, hj, e⟩ := List.mem_iff_getElem.mp hy
    have := b2 j (by omega)
    rw [List.getD_eq_getElem?_getD, List.getElem?_eq_getElem hj, List.getD_eq_getElem?_getD, List.getElem?_eq_getElem hB] at this
    rw [← e]
    exact this
/-- max(e, key=g) -/
def rMaxF (sp : Sp) (v : V) (H : Hp) (Q : VK) : Prop := ∃ (a : Addr) (as : List Addr) (kk : Addr → Int × Int), v = .ref a ∧ H a = some (.lst (as.map V.ref)) ∧ as ≠ [] ∧ (∀ z ∈ as, KeySp sp H (.ref z) (kk z)) ∧
  ∀ z H2, z ∈ as → (∀ y ∈ as, leK (kk y) (kk z)) → Same H H2 → Q (.ref z) H2
def tMaxF (sp : Sp) (te : TE) : TE := fun σ H Q => te σ H fun v H1 => rMaxF sp v H1 Q
theorem pe_maxF {e : Expr} {te : TE} {g : Str} {p gp kp pos : Pos} (hc : X.calm = true) (c : Calls X.prog X.w X.K X.mg X.base g k ps sp) (hr : Room (k + 1) X.A) (hgl : Gl X g) (hg : Gl X "max") (hm : X.mg "max" = none) (he : PE X e te)
    (hgd : (g == ("__debug__" : Str)) = false := by decide) (hs : starEach [e] X.env = [(false, eval e X.env)] := by rfl) :
    PE X (.Call (.Name "max" p) [e] [⟨some "key", .Name g gp, kp⟩] pos) (tMaxF sp te) := by
  obtain ⟨f, fd, F, hmf, hkeep, hb⟩ := c
  refine ⟨fun pins s σ H Q I h => ?_⟩
  refine wpAny_Call_Name_kw (ld_blt I hg hm (u := .builtin "max") (by decide +kernel) ?_)
  have ha : PA X [e] (tCons te tNil) := pa_cons he pa_nil (by rw [hs]; rfl)
  have hk : PK X [⟨some "key", .Name g gp, kp⟩] (tCons (tC (.ref f)) tNil) := pk_cons (pe_glob (v := .ref f) hgl hmf rfl hgd) pk_nil
  refine PyProof.Rows.callWith_kw (thn (ha.run pos pins s σ H (fun vs H1 => match vs with | [v] => rMaxF sp v H1 Q | _ => False) I h) fun us s1 ⟨vs, H1, I1, r1, q1⟩ => ?_) (by rw [hs]; rfl) (by rw [hs]; rfl)
  match vs, r1, q1 with
  | [v], .cons r .nil, q1 =>
    obtain ⟨a, as, kk, rfl, hq, hne, hks, q⟩ := q1
    obtain rfl := r
    refine thn (hk.run pos pins s1 σ H1 (fun zs H2 => zs = [.ref f] ∧ H2 = H1) I1 ⟨rfl, rfl⟩) fun ws s2 ⟨zs, H2, I2, r2, q2⟩ => ?_
    obtain ⟨rfl, rfl⟩ := q2
    obtain ⟨w1, rfl, e1⟩ := vals1 r2
    obtain rfl : w1 = Value.ref f := e1
    exact run_maxF hc F hr hb I2 hq hne kk hks q
end
end Mk
end

section
set_option Elab.async false
set_option linter.all false
set_option maxRecDepth 100000
set_option maxHeartbeats 4000000
namespace Mk
open PySem PySem.Spec PyProof.Rows L2
/-- what the top has written -/
structure Txt (K : PySem.W.Frag) (mg : Str → Option Value) (cChange : Addr) (cStretch : Addr) (cStep : Addr) (cSession : Addr) : Prop where
  cl_Change : Cls K cChange
  gc_Change : mg "Change" = some (.ref cChange)
  n_Change_place : NoAttr K cChange "place"
  n_Change_out : NoAttr K cChange "out"
  n_Change_coming : NoAttr K cChange "coming"
  cl_Stretch : Cls K cStretch
  gc_Stretch : mg "Stretch" = some (.ref cStretch)
  n_Stretch_number : NoAttr K cStretch "number"
  n_Stretch_begin : NoAttr K cStretch "begin"
  n_Stretch_end : NoAttr K cStretch "end"
  n_Stretch_lean_begin : NoAttr K cStretch "lean_begin"
  n_Stretch_lean_end : NoAttr K cStretch "lean_end"
  n_Stretch_vanishes : NoAttr K cStretch "vanishes"
  n_Stretch_rank : NoAttr K cStretch "rank"
  n_Stretch_value : NoAttr K cStretch "value"
  n_Stretch_vanished : NoAttr K cStretch "vanished"
  n_Stretch_turn : NoAttr K cStretch "turn"
  cl_Step : Cls K cStep
  gc_Step : mg "Step" = some (.ref cStep)
  n_Step_changes : NoAttr K cStep "changes"
  n_Step_back : NoAttr K cStep "back"
  n_Step_states : NoAttr K cStep "states"
  cl_Session : Cls K cSession
  gc_Session : mg "Session" = some (.ref cSession)
  n_Session_content : NoAttr K cSession "content"
  n_Session_stretches : NoAttr K cSession "stretches"
  n_Session_made : NoAttr K cSession "made"
  n_Session_turns : NoAttr K cSession "turns"
  n_Session_steps : NoAttr K cSession "steps"
  n_Session_taken_back : NoAttr K cSession "taken_back"
  g_MOST_BYTES : GI mg "MOST_BYTES" (600)
  g_MOST_STRETCHES : GI mg "MOST_STRETCHES" (40)
  g_HIGHEST_BYTE : GI mg "HIGHEST_BYTE" (255)
  g_HIGHEST_RANK : GI mg "HIGHEST_RANK" (9)
  g_HIGHEST_VALUE : GI mg "HIGHEST_VALUE" (99)
  g_NOT_FITTING : GI mg "NOT_FITTING" (-1)
  g_NO_SUCH_STRETCH : GI mg "NO_SUCH_STRETCH" (-2)
  g_HAS_VANISHED : GI mg "HAS_VANISHED" (-3)
  g_TOO_MANY_STRETCHES : GI mg "TOO_MANY_STRETCHES" (-5)
  g_TOO_MANY_BYTES : GI mg "TOO_MANY_BYTES" (-6)
  g_NOTHING_TO_BE : GI mg "NOTHING_TO_BE" (-7)
  g_NONE_BEHIND : GI mg "NONE_BEHIND" (-6)
  g_BEGINS : GI mg "BEGINS" (0)
  g_MARK : GI mg "MARK" (1)
  g_SET : GI mg "SET" (2)
  g_DROP : GI mg "DROP" (3)
  g_CHANGE : GI mg "CHANGE" (4)
  g_UNDO : GI mg "UNDO" (5)
  g_REDO : GI mg "REDO" (6)
  g_SHOWS : GI mg "SHOWS" (7)
  g_STRETCH : GI mg "STRETCH" (8)
  g_OVER : GI mg "OVER" (9)
  g_RUNS : GI mg "RUNS" (10)
  g_NEXT : GI mg "NEXT" (11)
  g_NUMBERS : ∃ a, mg "NUMBERS" = some (.ref a) ∧ SqT K (fun _ => none) a [V.int 0, V.int 7, V.int 3, V.int 1, V.int 0, V.int 0, V.int 0, V.int 0, V.int 1, V.int 1, V.int 2, V.int 2, V.int 0]
  b_all : mg "all" = none
  b_len : mg "len" = none
  b_list : mg "list" = none
  b_max : mg "max" = none
  b_min : mg "min" = none
  b_range : mg "range" = none
  b_reversed : mg "reversed" = none
  b_sorted : mg "sorted" = none
  b_sum : mg "sum" = none
/-! Change.__init__: level 1 -/
abbrev s_Change_init : Stmt := inClass (topS 1) 0
abbrev N_Change_init : List Str := ["self", "place", "out", "coming"]
theorem sc_Change_init : FnScope ["self", "place", "out", "coming"] ["self", "place", "out", "coming"] (defScope s_Change_init) := ⟨rfl, rfl, rfl, by decide +kernel, rfl, by decide +kernel, by decide +kernel⟩
/-! read_changes: level 3 -/
abbrev s_read_changes : Stmt := topS 2
abbrev N_read_changes : List Str := ["numbers", "changes", "at", "start", "stop"]
theorem sc_read_changes : FnScope ["numbers", "changes", "at", "start", "stop"] ["numbers"] (defScope s_read_changes) := ⟨rfl, rfl, rfl, by decide +kernel, rfl, by decide +kernel, by decide +kernel⟩
/-! lie_apart_within: level 1 -/
abbrev s_lie_apart_within : Stmt := topS 3
abbrev N_lie_apart_within : List Str := ["changes", "size", "lowest", "change", "behind"]
theorem sc_lie_apart_within : FnScope ["changes", "size", "lowest", "change", "behind"] ["changes", "size"] (defScope s_lie_apart_within) := ⟨rfl, rfl, rfl, by decide +kernel, rfl, by decide +kernel, by decide +kernel⟩
/-! size_behind: level 1 -/
abbrev s_size_behind : Stmt := topS 4
abbrev N_size_behind : List Str := ["changes", "size", "change"]
theorem sc_size_behind : FnScope ["changes", "size", "change"] ["changes", "size"] (defScope s_size_behind) := ⟨rfl, rfl, rfl, by decide +kernel, rfl, by decide +kernel, by decide +kernel⟩
/-! content_behind: level 1 -/
abbrev s_content_behind : Stmt := topS 5
abbrev N_content_behind : List Str := ["changes", "content", "result", "at", "change"]
theorem sc_content_behind : FnScope ["changes", "content", "result", "at", "change"] ["changes", "content"] (defScope s_content_behind) := ⟨rfl, rfl, rfl, by decide +kernel, rfl, by decide +kernel, by decide +kernel⟩
/-! changes_back: level 3 -/
abbrev s_changes_back : Stmt := topS 6
abbrev N_changes_back : List Str := ["changes", "content", "back", "shift", "change", "gone"]
theorem sc_changes_back : FnScope ["changes", "content", "back", "shift", "change", "gone"] ["changes", "content"] (defScope s_changes_back) := ⟨rfl, rfl, rfl, by decide +kernel, rfl, by decide +kernel, by decide +kernel⟩
/-! end_behind_one: level 1 -/
abbrev s_end_behind_one : Stmt := topS 7
abbrev N_end_behind_one : List Str := ["change", "end", "lean"]
theorem sc_end_behind_one : FnScope ["change", "end", "lean"] ["change", "end", "lean"] (defScope s_end_behind_one) := ⟨rfl, rfl, rfl, by decide +kernel, rfl, by decide +kernel, by decide +kernel⟩
/-! end_behind: level 2 -/
abbrev s_end_behind : Stmt := topS 8
abbrev N_end_behind : List Str := ["changes", "end", "lean", "place", "change"]
theorem sc_end_behind : FnScope ["changes", "end", "lean", "place", "change"] ["changes", "end", "lean"] (defScope s_end_behind) := ⟨rfl, rfl, rfl, by decide +kernel, rfl, by decide +kernel, by decide +kernel⟩
/-! Stretch.__init__: level 1 -/
abbrev s_Stretch_init : Stmt := inClass (topS 21) 0
abbrev N_Stretch_init : List Str := ["self", "number", "told", "turn"]
theorem sc_Stretch_init : FnScope ["self", "number", "told", "turn"] ["self", "number", "told", "turn"] (defScope s_Stretch_init) := ⟨rfl, rfl, rfl, by decide +kernel, rfl, by decide +kernel, by decide +kernel⟩
/-! Stretch.go_with: level 3 -/
abbrev s_Stretch_go_with : Stmt := inClass (topS 21) 1
abbrev N_Stretch_go_with : List Str := ["self", "changes", "begin", "end"]
theorem sc_Stretch_go_with : FnScope ["self", "changes", "begin", "end"] ["self", "changes"] (defScope s_Stretch_go_with) := ⟨rfl, rfl, rfl, by decide +kernel, rfl, by decide +kernel, by decide +kernel⟩
/-! Stretch.state: level 1 -/
abbrev s_Stretch_state : Stmt := inClass (topS 21) 2
abbrev N_Stretch_state : List Str := ["self"]
theorem sc_Stretch_state : FnScope ["self"] ["self"] (defScope s_Stretch_state) := ⟨rfl, rfl, rfl, by decide +kernel, rfl, by decide +kernel, by decide +kernel⟩
/-! Stretch.go_back: level 4 -/
abbrev s_Stretch_go_back : Stmt := inClass (topS 21) 3
abbrev N_Stretch_go_back : List Str := ["self", "state", "changes"]
theorem sc_Stretch_go_back : FnScope ["self", "state", "changes"] ["self", "state", "changes"] (defScope s_Stretch_go_back) := ⟨rfl, rfl, rfl, by decide +kernel, rfl, by decide +kernel, by decide +kernel⟩
/-! Step.__init__: level 1 -/
abbrev s_Step_init : Stmt := inClass (topS 22) 0
abbrev N_Step_init : List Str := ["self", "changes", "back", "states"]
theorem sc_Step_init : FnScope ["self", "changes", "back", "states"] ["self", "changes", "back", "states"] (defScope s_Step_init) := ⟨rfl, rfl, rfl, by decide +kernel, rfl, by decide +kernel, by decide +kernel⟩
/-! Session.__init__: level 2 -/
abbrev s_Session_init : Stmt := inClass (topS 23) 0
abbrev N_Session_init : List Str := ["self"]
theorem sc_Session_init : FnScope ["self"] ["self"] (defScope s_Session_init) := ⟨rfl, rfl, rfl, by decide +kernel, rfl, by decide +kernel, by decide +kernel⟩
/-! Session.start_anew: level 1 -/
abbrev s_Session_start_anew : Stmt := inClass (topS 23) 1
abbrev N_Session_start_anew : List Str := ["self", "content"]
theorem sc_Session_start_anew : FnScope ["self", "content"] ["self", "content"] (defScope s_Session_start_anew) := ⟨rfl, rfl, rfl, by decide +kernel, rfl, by decide +kernel, by decide +kernel⟩
/-! Session.begins: level 2 -/
abbrev s_Session_begins : Stmt := inClass (topS 23) 2
abbrev N_Session_begins : List Str := ["self", "content"]
theorem sc_Session_begins : FnScope ["self", "content"] ["self", "content"] (defScope s_Session_begins) := ⟨rfl, rfl, rfl, by decide +kernel, rfl, by decide +kernel, by decide +kernel⟩
/-! Session.mark: level 3 -/
abbrev s_Session_mark : Stmt := inClass (topS 23) 3
abbrev N_Session_mark : List Str := ["self", "told", "stretch"]
theorem sc_Session_mark : FnScope ["self", "told", "stretch"] ["self", "told"] (defScope s_Session_mark) := ⟨rfl, rfl, rfl, by decide +kernel, rfl, by decide +kernel, by decide +kernel⟩
/-! Session.lies_within: level 1 -/
abbrev s_Session_lies_within : Stmt := inClass (topS 23) 4
abbrev N_Session_lies_within : List Str := ["self", "begin", "end"]
theorem sc_Session_lies_within : FnScope ["self", "begin", "end"] ["self", "begin", "end"] (defScope s_Session_lies_within) := ⟨rfl, rfl, rfl, by decide +kernel, rfl, by decide +kernel, by decide +kernel⟩
/-! Session.has_room: level 2 -/
abbrev s_Session_has_room : Stmt := inClass (topS 23) 5
abbrev N_Session_has_room : List Str := ["self", "vanishes", "begin", "end"]
theorem sc_Session_has_room : FnScope ["self", "vanishes", "begin", "end"] ["self", "vanishes", "begin", "end"] (defScope s_Session_has_room) := ⟨rfl, rfl, rfl, by decide +kernel, rfl, by decide +kernel, by decide +kernel⟩
/-! Session.refusal_of: level 1 -/
abbrev s_Session_refusal_of : Stmt := inClass (topS 23) 6
abbrev N_Session_refusal_of : List Str := ["self", "number"]
theorem sc_Session_refusal_of : FnScope ["self", "number"] ["self", "number"] (defScope s_Session_refusal_of) := ⟨rfl, rfl, rfl, by decide +kernel, rfl, by decide +kernel, by decide +kernel⟩
/-! Session.set_to: level 3 -/
abbrev s_Session_set_to : Stmt := inClass (topS 23) 7
abbrev N_Session_set_to : List Str := ["self", "number", "begin", "end", "refusal", "stretch"]
theorem sc_Session_set_to : FnScope ["self", "number", "begin", "end", "refusal", "stretch"] ["self", "number", "begin", "end"] (defScope s_Session_set_to) := ⟨rfl, rfl, rfl, by decide +kernel, rfl, by decide +kernel, by decide +kernel⟩
/-! Session.drop: level 1 -/
abbrev s_Session_drop : Stmt := inClass (topS 23) 8
abbrev N_Session_drop : List Str := ["self", "number"]
theorem sc_Session_drop : FnScope ["self", "number"] ["self", "number"] (defScope s_Session_drop) := ⟨rfl, rfl, rfl, by decide +kernel, rfl, by decide +kernel, by decide +kernel⟩
/-! Session.change: level 5 -/
abbrev s_Session_change : Stmt := inClass (topS 23) 9
abbrev N_Session_change : List Str := ["self", "numbers", "changes", "vanished", "change"]
theorem sc_Session_change : FnScope ["self", "numbers", "changes", "vanished", "change"] ["self", "numbers"] (defScope s_Session_change) := ⟨rfl, rfl, rfl, by decide +kernel, rfl, by decide +kernel, by decide +kernel⟩
/-! Session.do_step: level 4 -/
abbrev s_Session_do_step : Stmt := inClass (topS 23) 10
abbrev N_Session_do_step : List Str := ["self", "changes", "states", "number", "vanished"]
theorem sc_Session_do_step : FnScope ["self", "changes", "states", "number", "vanished"] ["self", "changes"] (defScope s_Session_do_step) := ⟨rfl, rfl, rfl, by decide +kernel, rfl, by decide +kernel, by decide +kernel⟩
/-! Session.undo: level 5 -/
abbrev s_Session_undo : Stmt := inClass (topS 23) 11
abbrev N_Session_undo : List Str := ["self", "step", "number"]
theorem sc_Session_undo : FnScope ["self", "step", "number"] ["self"] (defScope s_Session_undo) := ⟨rfl, rfl, rfl, by decide +kernel, rfl, by decide +kernel, by decide +kernel⟩
/-! Session.redo: level 5 -/
abbrev s_Session_redo : Stmt := inClass (topS 23) 12
abbrev N_Session_redo : List Str := ["self"]
theorem sc_Session_redo : FnScope ["self"] ["self"] (defScope s_Session_redo) := ⟨rfl, rfl, rfl, by decide +kernel, rfl, by decide +kernel, by decide +kernel⟩
/-! are_bytes: level 1 -/
abbrev s_are_bytes : Stmt := topS 24
abbrev N_are_bytes : List Str := ["numbers", "number"]
theorem sc_are_bytes : FnScope ["numbers", "number"] ["numbers"] (defScope s_are_bytes) := ⟨rfl, rfl, rfl, by decide +kernel, rfl, by decide +kernel, by decide +kernel⟩
/-! is_gone: level 1 -/
abbrev s_is_gone : Stmt := topS 25
abbrev N_is_gone : List Str := ["vanishes", "begin", "end"]
theorem sc_is_gone : FnScope ["vanishes", "begin", "end"] ["vanishes", "begin", "end"] (defScope s_is_gone) := ⟨rfl, rfl, rfl, by decide +kernel, rfl, by decide +kernel, by decide +kernel⟩
/-! standing: level 1 -/
abbrev s_standing : Stmt := topS 28
abbrev N_standing : List Str := ["session", "stretches", "number", "stretch"]
theorem sc_standing : FnScope ["session", "stretches", "number", "stretch"] ["session"] (defScope s_standing) := ⟨rfl, rfl, rfl, by decide +kernel, rfl, by decide +kernel, by decide +kernel⟩
/-! height: level 1 -/
abbrev s_height : Stmt := topS 29
abbrev N_height : List Str := ["stretch"]
theorem sc_height : FnScope ["stretch"] ["stretch"] (defScope s_height) := ⟨rfl, rfl, rfl, by decide +kernel, rfl, by decide +kernel, by decide +kernel⟩
/-! bytes_shown: level 1 -/
abbrev s_bytes_shown : Stmt := topS 30
abbrev N_bytes_shown : List Str := ["session"]
theorem sc_bytes_shown : FnScope ["session"] ["session"] (defScope s_bytes_shown) := ⟨rfl, rfl, rfl, by decide +kernel, rfl, by decide +kernel, by decide +kernel⟩
/-! ends_of: level 2 -/
abbrev s_ends_of : Stmt := topS 31
abbrev N_ends_of : List Str := ["session", "number", "refusal", "stretch"]
theorem sc_ends_of : FnScope ["session", "number", "refusal", "stretch"] ["session", "number"] (defScope s_ends_of) := ⟨rfl, rfl, rfl, by decide +kernel, rfl, by decide +kernel, by decide +kernel⟩
/-! covering: level 3 -/
abbrev s_covering : Stmt := topS 32
abbrev N_covering : List Str := ["session", "place", "found", "from_the_top", "stretch"]
theorem sc_covering : FnScope ["session", "place", "found", "from_the_top", "stretch"] ["session", "place"] (defScope s_covering) := ⟨rfl, rfl, rfl, by decide +kernel, rfl, by decide +kernel, by decide +kernel⟩
/-! tops_of: level 3 -/
abbrev s_tops_of : Stmt := topS 33
abbrev N_tops_of : List Str := ["session", "tops", "stretch", "place"]
theorem sc_tops_of : FnScope ["session", "tops", "stretch", "place"] ["session"] (defScope s_tops_of) := ⟨rfl, rfl, rfl, by decide +kernel, rfl, by decide +kernel, by decide +kernel⟩
/-! runs_between: level 4 -/
abbrev s_runs_between : Stmt := topS 34
abbrev N_runs_between : List Str := ["session", "begin", "end", "tops", "rows", "count", "start", "place"]
theorem sc_runs_between : FnScope ["session", "begin", "end", "tops", "rows", "count", "start", "place"] ["session", "begin", "end"] (defScope s_runs_between) := ⟨rfl, rfl, rfl, by decide +kernel, rfl, by decide +kernel, by decide +kernel⟩
/-! first_behind: level 3 -/
abbrev s_first_behind : Stmt := topS 35
abbrev N_first_behind : List Str := ["session", "place", "value", "found", "nearest", "first", "stretch"]
theorem sc_first_behind : FnScope ["session", "place", "value", "found", "nearest", "first", "stretch"] ["session", "place", "value"] (defScope s_first_behind) := ⟨rfl, rfl, rfl, by decide +kernel, rfl, by decide +kernel, by decide +kernel⟩
/-! every_one: level 2 -/
abbrev s_every_one : Stmt := topS 36
abbrev N_every_one : List Str := ["session", "there", "rows", "stretch"]
theorem sc_every_one : FnScope ["session", "there", "rows", "stretch"] ["session"] (defScope s_every_one) := ⟨rfl, rfl, rfl, by decide +kernel, rfl, by decide +kernel, by decide +kernel⟩
/-! answers: level 7 -/
abbrev s_answers : Stmt := topS 51
abbrev N_answers : List Str := ["calls", "session", "result", "at", "kind", "start", "stop", "answer"]
theorem sc_answers : FnScope ["calls", "session", "result", "at", "kind", "start", "stop", "answer"] ["calls"] (defScope s_answers) := ⟨rfl, rfl, rfl, by decide +kernel, rfl, by decide +kernel, by decide +kernel⟩
/-! has_row: level 1 -/
abbrev s_has_row : Stmt := topS 52
abbrev N_has_row : List Str := ["kind"]
theorem sc_has_row : FnScope ["kind"] ["kind"] (defScope s_has_row) := ⟨rfl, rfl, rfl, by decide +kernel, rfl, by decide +kernel, by decide +kernel⟩
/-! answer_of: level 6 -/
abbrev s_answer_of : Stmt := topS 53
abbrev N_answer_of : List Str := ["session", "kind", "numbers"]
theorem sc_answer_of : FnScope ["session", "kind", "numbers"] ["session", "kind", "numbers"] (defScope s_answer_of) := ⟨rfl, rfl, rfl, by decide +kernel, rfl, by decide +kernel, by decide +kernel⟩
/-! seen_of: level 5 -/
abbrev s_seen_of : Stmt := topS 54
abbrev N_seen_of : List Str := ["session", "kind", "numbers"]
theorem sc_seen_of : FnScope ["session", "kind", "numbers"] ["session", "kind", "numbers"] (defScope s_seen_of) := ⟨rfl, rfl, rfl, by decide +kernel, rfl, by decide +kernel, by decide +kernel⟩
end Mk
end

section
set_option Elab.async false
set_option linter.all false
set_option maxRecDepth 100000
set_option maxHeartbeats 4000000
namespace Mk
open PySem PySem.Spec PyProof.Rows L2
/-! ### readings that leave the heap -/
section
variable {σ : L2.St} {H : Hp} {K : PySem.W.Frag} {ta tb te : TE} {t c : TT} {i j : Int} {v x y z : V} {b : Bool} {D : Ends} {t1 t2 : TS} {Q : VK} {a : Addr} {f : Str}
def ValA (ta : TA) (σ : L2.St) (H : Hp) (vs : List V) : Prop := ∀ Q : List V → Hp → Prop, Q vs H → ta σ H Q
theorem va_nil : ValA tNil σ H [] := fun _ q => q
theorem va_cons {tr : TA} {vs : List V} (h : Val te σ H v) (hr : ValA tr σ H vs) : ValA (tCons te tr) σ H (v :: vs) := fun Q q => h _ (hr _ q)
/-- an object's value -/
def Fd (K : PySem.W.Frag) (H : Hp) (a : Addr) (f : Str) (v : V) : Prop := ∃ C dx fs, H a = some (.ins C dx fs) ∧ Cls K C ∧ NoAttr K C f ∧ fs.lookup f = some v
theorem v_fd (h : Val ta σ H (.ref a)) (hf : Fd K H a f v) : Val (tFld K ta f) σ H v := by
  obtain ⟨C, dx, fs, h1, h2, h3, h4⟩ := hf
  exact val_fld h h1 h2 h3 h4
theorem v_I0 {g : Int → Int → V} (ha : Val ta σ H (.int i)) (hb : Val tb σ H (.int j)) : Val (tOp (rI0 g) ta tb) σ H (g i j) := val_op ha hb fun Q q => ⟨i, j, rfl, rfl, q⟩
theorem v_eq (ha : Val ta σ H x) (hb : Val tb σ H y) (hs : scal x y = true) : Val (tOp rEq ta tb) σ H (.bl (decide (x = y))) := val_op ha hb fun Q q => ⟨hs, q⟩
theorem v_len {xs : List V} (ha : Val ta σ H (.ref a)) (h : SqL K H a xs) : Val (tCB (rLen K) (tCons ta tNil)) σ H (.int xs.length) := fun Q q => ha _ ⟨a, xs, rfl, .inl h, q⟩
theorem v_ixL {xs : List V} {n : Nat} (ha : Val ta σ H (.ref a)) (hb : Val tb σ H (.int i)) (h : SqL K H a xs) (e : i = (n : Int)) (hx : xs[n]? = some v) : Val (tOp (rIxL K) ta tb) σ H v := val_op ha hb fun Q q => ⟨a, xs, i, v, rfl, rfl, h, at_of e hx, q⟩
theorem v_ixT {xs : List V} {n : Nat} (ha : Val ta σ H (.ref a)) (hb : Val tb σ H (.int i)) (h : SqT K H a xs) (e : i = (n : Int)) (hx : xs[n]? = some v) : Val (tOp (rIxT K) ta tb) σ H v := val_op ha hb fun Q q => ⟨a, xs, i, v, rfl, rfl, h, at_of e hx, q⟩
theorem a_test (h : Val te σ H (.bl b)) : Ans (tTest te) σ H b := fun Q q => h _ ⟨b, rfl, q⟩
theorem a_val (h : Val te σ H (.bl b)) : Ans (tB te) σ H b := fun Q q => h _ ⟨b, rfl, q⟩
theorem a_or {b1 b2 : Bool} (h1 : Ans t σ H b1) (h2 : b1 = false → Ans c σ H b2) : Ans (tOr t c) σ H (b1 || b2) := by
  cases b1 with
  | true => exact ans_or1 h1
  | false => exact ans_or h1 (h2 rfl)
theorem v_and {b1 b2 : Bool} (h1 : Val ta σ H (.bl b1)) (h2 : b1 = true → Val tb σ H (.bl b2)) : Val (tAndV ta tb) σ H (.bl (b1 && b2)) := fun Q q => h1 _ ⟨b1, rfl, by
  cases b1 with
  | true => exact iteT (h2 rfl Q q)
  | false => exact iteF q⟩
theorem v_or {b1 b2 : Bool} (h1 : Val ta σ H (.bl b1)) (h2 : b1 = false → Val tb σ H (.bl b2)) : Val (tOrV ta tb) σ H (.bl (b1 || b2)) := fun Q q => h1 _ ⟨b1, rfl, by
  cases b1 with
  | true => exact iteT q
  | false => exact iteF (h2 rfl Q q)⟩
theorem v_not (h1 : Val ta σ H (.bl b)) : Val (tNotV ta) σ H (.bl (!b)) := fun Q q => h1 _ ⟨b, rfl, q⟩
theorem v_is {w : V} (h : Val te σ H v) (e : v = w) : Val te σ H w := e ▸ h
theorem v_add (ha : Val ta σ H (.int i)) (hb : Val tb σ H (.int j)) : Val (tOp (rI0 fun i j => .int (i + j)) ta tb) σ H (.int (i + j)) := v_I0 (g := fun i j => .int (i + j)) ha hb
theorem v_sub (ha : Val ta σ H (.int i)) (hb : Val tb σ H (.int j)) : Val (tOp (rI0 fun i j => .int (i - j)) ta tb) σ H (.int (i - j)) := v_I0 (g := fun i j => .int (i - j)) ha hb
theorem v_lt (ha : Val ta σ H (.int i)) (hb : Val tb σ H (.int j)) : Val (tOp (rI0 fun i j => .bl (decide (i < j))) ta tb) σ H (.bl (decide (i < j))) := v_I0 (g := fun i j => .bl (decide (i < j))) ha hb
theorem v_le (ha : Val ta σ H (.int i)) (hb : Val tb σ H (.int j)) : Val (tOp (rI0 fun i j => .bl (decide (i ≤ j))) ta tb) σ H (.bl (decide (i ≤ j))) := v_I0 (g := fun i j => .bl (decide (i ≤ j))) ha hb
theorem v_gt (ha : Val ta σ H (.int i)) (hb : Val tb σ H (.int j)) : Val (tOp (rI0 fun i j => .bl (decide (j < i))) ta tb) σ H (.bl (decide (j < i))) := v_I0 (g := fun i j => .bl (decide (j < i))) ha hb
theorem v_ge (ha : Val ta σ H (.int i)) (hb : Val tb σ H (.int j)) : Val (tOp (rI0 fun i j => .bl (decide (j ≤ i))) ta tb) σ H (.bl (decide (j ≤ i))) := v_I0 (g := fun i j => .bl (decide (j ≤ i))) ha hb
theorem dec_V : decide (V.int i = V.int j) = decide (i = j) := by
  rw [Bool.eq_iff_iff]
  simp
theorem v_eqI (ha : Val ta σ H (.int i)) (hb : Val tb σ H (.int j)) : Val (tOp rEq ta tb) σ H (.bl (decide (i = j))) := v_is (v_eq ha hb rfl) (congrArg V.bl dec_V)
theorem v_neI (ha : Val ta σ H (.int i)) (hb : Val tb σ H (.int j)) : Val (tOp rNe ta tb) σ H (.bl (!decide (i = j))) := val_op ha hb fun Q q => ⟨rfl, by rw [dec_V]; exact q⟩
theorem s_ite (h : Ans c σ H b) (h1 : b = true → t1 D σ H) (h2 : b = false → t2 D σ H) : tIfS c t1 t2 D σ H := by
  refine h _ ?_
  cases b with
  | true => exact iteT (h1 rfl)
  | false => exact iteF (h2 rfl)
theorem s_itd {p : Prop} [Decidable p] (h : Ans c σ H (decide p)) (h1 : p → t1 D σ H) (h2 : ¬ p → t2 D σ H) : tIfS c t1 t2 D σ H := s_ite h (fun e => h1 (of_decide_eq_true e)) (fun e => h2 (of_decide_eq_false e))
theorem call_of {sp : Sp} {E : XK} {t : TA} {vs : List V} (hA : ValA t σ H vs) (h : sp vs H Q E) : tCall sp [] E t σ H Q := hA _ (by rw [List.append_nil]; exact h)
theorem meth_of {C dx : Addr} {m : Str} {sp : Sp} {E : XK} {t : TA} {vs : List V} {fs : List (Str × V)} (ha : Val ta σ H (.ref a)) (ho : H a = some (.ins C dx fs)) (hm : fs.lookup m = none) (hA : ValA t σ H vs) (h : sp (.ref a :: vs) H Q E) :
    tMeth C m sp [] E ta t σ H Q := ha _ ⟨a, dx, fs, rfl, ho, hm, hA _ (by rw [List.append_nil]; exact h)⟩
/-- an __init__ that puts just these values -/
def spIni (C : Addr) (F : Hp → List V → List (Str × V) → Prop) : Sp := fun vs H Q _ => ∃ p dx ws fs, vs = .ref p :: ws ∧ H p = some (.ins C dx []) ∧ F H ws fs ∧ Q .non (upd H p (.ins C dx fs))
theorem make_of {C : Addr} {F : Hp → List V → List (Str × V) → Prop} {E : XK} {t : TA} {vs : List V} {fs : List (Str × V)} (hA : ValA t σ H vs) (hF : ∀ x dx, H x = none → H dx = none → F (upd (upd H dx (.own x)) x (.ins C dx [])) vs fs)
    (h : ∀ x dx, H x = none → H dx = none → dx ≠ x → Q (.ref x) (upd (upd H dx (.own x)) x (.ins C dx fs))) : tMake C (spIni C F) [] E t σ H Q := hA _ fun x dx hx hd hn => by
  rw [List.append_nil]
  exact ⟨x, dx, vs, fs, rfl, upd_same, hF x dx hx hd, rfl, by rw [upd_upd]; exact h x dx hx hd hn⟩
end
theorem cb1 {σ : L2.St} {H : Hp} {te : TE} {Q : VK} {r : List V → Hp → VK → Prop} (h : te σ H fun v H1 => r [v] H1 Q) : tCB r (tCons te tNil) σ H Q := h
/-! ### an object's values by their names -/
def ob (ns : List Str) (vs : List V) : List (Str × V) := ns.zip vs
theorem ob_len {ns : List Str} {vs : List V} (h : ns.length < 1000) : (ob ns vs).length < 1000 := by
  unfold ob
  rw [List.length_zip]
  omega
theorem ob_get : ∀ {ns : List Str} {vs : List V} {f : Str} {i : Nat} {v : V}, ns.findIdx? (· == f) = some i → vs[i]? = some v → (ob ns vs).lookup f = some v
  | [], _, f, i, v, h, _ => by simp at h
  | n :: ns, [], f, i, v, _, hv => by simp at hv
  | n :: ns, x :: vs, f, i, v, h, hv => by
    rw [List.findIdx?_cons] at h
    show List.lookup f ((n, x) :: ns.zip vs) = some v
    cases e : n == f with
    | true =>
      rw [e] at h
      have q : 0 = i := Option.some.inj h
      subst q
      have e2 : (f == n) = true := by rw [eq_of_beq e]; exact beq_self_eq_true f
      simp only [List.lookup, e2]
      simpa using hv
    | false =>
      rw [e] at h
      have e2 : (f == n) = false := by
        cases q : f == n with
        | false => rfl
        | true => rw [eq_of_beq q, beq_self_eq_true] at e; cases e
      simp only [List.lookup, e2]
      cases q : ns.findIdx? (· == f) with
      | none => rw [q] at h; simp at h
      | some j =>
        rw [q] at h
        have r : j + 1 = i := by simpa using h
        subst r
        exact ob_get (ns := ns) (vs := vs) q (by simpa using hv)
theorem ob_no : ∀ {ns : List Str} {vs : List V} {f : Str}, ns.findIdx? (· == f) = none → (ob ns vs).lookup f = none
  | [], _, f, _ => rfl
  | n :: ns, [], f, _ => rfl
  | n :: ns, x :: vs, f, h => by
    rw [List.findIdx?_cons] at h
    show List.lookup f ((n, x) :: ns.zip vs) = none
    cases e : n == f with
    | true => rw [e] at h; simp at h
    | false =>
      rw [e] at h
      have e2 : (f == n) = false := by
        cases q : f == n with
        | false => rfl
        | true => rw [eq_of_beq q, beq_self_eq_true] at e; cases e
      simp only [List.lookup, e2]
      exact ob_no (ns := ns) (vs := vs) (by
        cases q : ns.findIdx? (· == f) with
        | none => rfl
        | some j => rw [q] at h; simp at h)
theorem ob_put : ∀ {ns : List Str} {vs : List V} {f : Str} {i : Nat} {v : V}, ns.findIdx? (· == f) = some i → vs.length = ns.length → putF f v (ob ns vs) = ob ns (vs.set i v)
  | [], _, f, i, v, h, _ => by simp at h
  | n :: ns, [], f, i, v, _, hl => by simp at hl
  | n :: ns, x :: vs, f, i, v, h, hl => by
    rw [List.findIdx?_cons] at h
    show putF f v ((n, x) :: ns.zip vs) = _
    cases e : n == f with
    | true =>
      rw [e] at h
      have q : 0 = i := Option.some.inj h
      subst q
      have e2 : n = f := eq_of_beq e
      subst e2
      exact if_pos rfl
    | false =>
      rw [e] at h
      have e2 : ¬ n = f := fun q => by rw [q, beq_self_eq_true] at e; cases e
      cases q : ns.findIdx? (· == f) with
      | none => rw [q] at h; simp at h
      | some j =>
        rw [q] at h
        have r : j + 1 = i := by simpa using h
        subst r
        have ih := ob_put (ns := ns) (vs := vs) (v := v) q (by simpa using hl)
        refine (if_neg e2).trans ?_
        show (n, x) :: putF f v (ob ns vs) = (n, x) :: ob ns (vs.set j v)
        rw [ih]
theorem ob_new : ∀ {ns : List Str} {vs : List V} {f : Str} {v : V}, ns.findIdx? (· == f) = none → vs.length = ns.length → putF f v (ob ns vs) = ob (ns ++ [f]) (vs ++ [v])
  | [], [], f, v, _, _ => rfl
  | [], _ :: _, f, v, _, hl => by simp at hl
  | n :: ns, [], f, v, _, hl => by simp at hl
  | n :: ns, x :: vs, f, v, h, hl => by
    rw [List.findIdx?_cons] at h
    show putF f v ((n, x) :: ns.zip vs) = _
    cases e : n == f with
    | true => rw [e] at h; simp at h
    | false =>
      rw [e] at h
      have e2 : ¬ n = f := fun q => by rw [q, beq_self_eq_true] at e; cases e
      have ih := ob_new (ns := ns) (vs := vs) (f := f) (v := v) (by
        cases q : ns.findIdx? (· == f) with
        | none => rfl
        | some j => rw [q] at h; simp at h) (by simpa using hl)
      refine (if_neg e2).trans ?_
      show (n, x) :: putF f v (ob ns vs) = (n, x) :: ob (ns ++ [f]) (vs ++ [v])
      rw [ih]
section
variable {σ : L2.St} {H : Hp} {K : PySem.W.Frag} {ta tv : TE} {y x : V} {D : Ends} {a C dx : Addr} {ns : List Str} {vs : List V} {f : Str} {i : Nat}
/-- a value put in its place; a new one -/
theorem s_put (hv : Val tv σ H y) (ha : Val ta σ H (.ref a)) (ho : H a = some (.ins C dx (ob ns vs))) (hc : Cls K C) (hn : NoAttr K C f) (hi : ns.findIdx? (· == f) = some i) (hl : vs.length = ns.length) (hs : ns.length < 1000)
    (q : D.nx σ (upd H a (.ins C dx (ob ns (vs.set i y))))) : sFld K ta tv f D σ H := st_fld hv ha ho hc hn (ob_len hs) (by rw [ob_put hi hl]; exact q)
theorem s_new (hv : Val tv σ H y) (ha : Val ta σ H (.ref a)) (ho : H a = some (.ins C dx (ob ns vs))) (hc : Cls K C) (hn : NoAttr K C f) (hi : ns.findIdx? (· == f) = none) (hl : vs.length = ns.length) (hs : ns.length < 1000)
    (q : D.nx σ (upd H a (.ins C dx (ob (ns ++ [f]) (vs ++ [y]))))) : sFld K ta tv f D σ H := st_fld hv ha ho hc hn (ob_len hs) (by rw [ob_new hi hl]; exact q)
/-- the value made on the way -/
theorem s_putQ (h : tv σ H fun y H1 => ta σ H1 fun z H2 => z = .ref a ∧ H2 a = some (.ins C dx (ob ns vs)) ∧ D.nx σ (upd H2 a (.ins C dx (ob ns (vs.set i y))))) (hc : Cls K C) (hn : NoAttr K C f) (hi : ns.findIdx? (· == f) = some i) (hl : vs.length = ns.length) (hs : ns.length < 1000)
    (mv : ∀ Q Q' : VK, (∀ v H1, Q v H1 → Q' v H1) → tv σ H Q → tv σ H Q') (ma : ∀ H1 (Q Q' : VK), (∀ v H2, Q v H2 → Q' v H2) → ta σ H1 Q → ta σ H1 Q') : sFld K ta tv f D σ H :=
  mv _ _ (fun y H1 q => ma _ _ _ (fun z H2 ⟨e, ho, q⟩ => ⟨a, C, dx, ob ns vs, e, ho, hc, hn, ob_len hs, by rw [ob_put hi hl]; exact q⟩) q) h
theorem fd_ob (ho : H a = some (.ins C dx (ob ns vs))) (hc : Cls K C) (hn : NoAttr K C f) (hi : ns.findIdx? (· == f) = some i) (hv : vs[i]? = some y) : Fd K H a f y := ⟨C, dx, _, ho, hc, hn, ob_get hi hv⟩
end
/-! ### heaps -/
theorem same_upd {H H1 : Hp} {p : Addr} {o : HO} (s : Same H H1) (hp : H p = none) : Same H (upd H1 p o) := fun b u e => by
  rw [upd_ne (ne_of_none e hp)]
  exact s b u e
theorem same_new {H : Hp} {p : Addr} {o : HO} (hp : H p = none) : Same H (upd H p o) := same_upd (Same.refl H) hp
def cut (M : List Addr) (H : Hp) : Hp := fun b => if b ∈ M then none else H b
theorem cut_get {M : List Addr} {H : Hp} {b : Addr} {o : HO} : cut M H b = some o ↔ b ∉ M ∧ H b = some o := by
  unfold cut
  by_cases h : b ∈ M
  · rw [if_pos h]
    constructor
    · intro q; cases q
    · intro q; exact absurd h q.1
  · rw [if_neg h]
    constructor
    · intro q; exact ⟨h, q⟩
    · intro q; exact q.2
theorem cut_sub {M : List Addr} {H : Hp} : Same (cut M H) H := fun _ _ e => (cut_get.mp e).2
theorem cut_same {M M' : List Addr} {H H' : Hp} (k : ∀ b o, H b = some o → b ∉ M → H' b = some o) (n : ∀ b, b ∈ M' → b ∈ M ∨ H b = none) : Same (cut M H) (cut M' H') := fun b o e => by
  obtain ⟨h1, h2⟩ := cut_get.mp e
  refine cut_get.mpr ⟨fun m => ?_, k b o h2 h1⟩
  rcases n b m with q | q
  · exact h1 q
  · rw [q] at h2; cases h2
/-- what is new -/
def fr (H H' : Hp) : Hp := fun b => if (H b).isSome = true then none else H' b
theorem fr_get {H H' : Hp} {b : Addr} {o : HO} : fr H H' b = some o ↔ H b = none ∧ H' b = some o := by
  unfold fr
  cases e : H b with
  | none => simp
  | some u => simp
theorem fr_sub {H H' : Hp} : Same (fr H H') H' := fun _ _ e => (fr_get.mp e).2
theorem fr_same {H H' H2 : Hp} (k : ∀ b o, H' b = some o → H b = none → H2 b = some o) : Same (fr H H') (fr H H2) := fun b o e => fr_get.mpr ⟨(fr_get.mp e).1, k b o (fr_get.mp e).2 (fr_get.mp e).1⟩
theorem fr_cut {M : List Addr} {H H' : Hp} (h : ∀ z ∈ M, ∃ o, H z = some o) : Same (fr H H') (cut M H') := fun b o e => cut_get.mpr ⟨fun m => by
  obtain ⟨u, hu⟩ := h b m
  rw [(fr_get.mp e).1] at hu
  exact absurd hu (by simp), (fr_get.mp e).2⟩
/-! ### loops -/
section
variable {σ : L2.St} {H : Hp} {K : PySem.W.Frag} {tl te : TE} {D : Ends} {tb : TS} {Q : VK} {a : Addr} {g : TG} {xs ys : List V} {j : Nat}
theorem s_for (h : Val tl σ H (.ref a)) (hx : SqL K H a xs) (Pv : Nat → L2.St → Hp → Prop) (h0 : Pv 0 σ H) (hl : ∀ i σ H, i ≤ xs.length → Pv i σ H → SqL K H a xs)
    (hs : ∀ i x σ H, xs[i]? = some x → Pv i σ H → g x σ H fun σ2 H2 => tb { D with nx := Pv (i + 1), ct := Pv (i + 1), bk := D.nx } σ2 H2) (hd : ∀ σ H, Pv xs.length σ H → D.nx σ H) : tFor (iList K tl) g tb D σ H :=
  h _ ⟨a, rfl, ⟨xs, hx⟩, for_list Pv h0 hl hs hd⟩
theorem s_forRev (h : Val tl σ H (.ref a)) (hx : SqL K H a xs) (Pv : Nat → L2.St → Hp → Prop) (h0 : Pv 0 σ H) (hl : ∀ i σ H, i ≤ xs.length → Pv i σ H → SqL K H a xs)
    (hs : ∀ i x σ H, i < xs.length → xs[xs.length - 1 - i]? = some x → Pv i σ H → g x σ H fun σ2 H2 => tb { D with nx := Pv (i + 1), ct := Pv (i + 1), bk := D.nx } σ2 H2) (hd : ∀ σ H, Pv xs.length σ H → D.nx σ H) : tFor (iRev K (tCons tl tNil)) g tb D σ H :=
  h _ ⟨a, xs, rfl, hx, for_it walk_rev Pv h0 hl (fun i x σ H H' hi p ⟨e, y⟩ => by subst e; exact hs i x σ _ hi y p) hd⟩
theorem s_while {c : TT} (W : Nat → L2.St → Hp → Prop) (m0 : Nat) (h0 : W m0 σ H)
    (hs : ∀ m σ H, W m σ H → ∃ b, Ans c σ H b ∧ (b = true → tb { D with nx := fun σ' H' => ∃ m', m' < m ∧ W m' σ' H', ct := fun σ' H' => ∃ m', m' < m ∧ W m' σ' H', bk := D.nx } σ H) ∧ (b = false → D.nx σ H)) : tWhile c tb D σ H :=
  ⟨W, ⟨m0, h0⟩, fun m σ H w => by
    obtain ⟨b, hb, h1, h2⟩ := hs m σ H w
    refine hb _ ?_
    cases b with
    | true => exact iteT ⟨_, fun _ _ n => n, h1 rfl⟩
    | false => exact iteF (h2 rfl)⟩
theorem s_ext {ta : TE} (ha : Val ta σ H (.ref a)) (hl : H a = some (.lst xs)) (h : te σ H fun v H1 => rExtend (.ref a) [v] H1 fun _ H2 => D.nx σ H2) : tDrop (tBM K "list" rExtend ta (tCons te tNil)) D σ H := ha _ ⟨.inl ⟨rfl, _, SqL.of hl⟩, h⟩
theorem s_app {ta : TE} (ha : Val ta σ H (.ref a)) (hl : H a = some (.lst xs)) (h : te σ H fun v H1 => rAppend (.ref a) [v] H1 fun _ H2 => D.nx σ H2) : tDrop (tBM K "list" rAppend ta (tCons te tNil)) D σ H := ha _ ⟨.inl ⟨rfl, _, SqL.of hl⟩, h⟩
theorem sl_of {ta tlo thi : TE} {i j : Int} (ha : Val ta σ H (.ref a)) (hx : SqL K H a xs) (hi : Val tlo σ H (.int i)) (hj : Val thi σ H (.int j)) (k : ∀ p, H p = none → Q (.ref p) (upd H p (.lst (cutV xs (some i) (some j))))) :
    tSl (rSlL K) ta (tPart tlo) (tPart thi) σ H Q := ha _ (hi _ ⟨i, rfl, hj _ ⟨j, rfl, a, xs, rfl, hx, k⟩⟩)
theorem sl_from {ta tlo : TE} {i : Int} (ha : Val ta σ H (.ref a)) (hx : SqL K H a xs) (hi : Val tlo σ H (.int i)) (k : ∀ p, H p = none → Q (.ref p) (upd H p (.lst (cutV xs (some i) none)))) :
    tSl (rSlL K) ta (tPart tlo) tNoPart σ H Q := ha _ (hi _ ⟨i, rfl, a, xs, rfl, hx, k⟩)
theorem s_aug {i j : Int} {n : Nat} (hx : σ[n]? = some (some (.int i))) (h : Val te σ H (.int j)) (k : D.nx (σ.set n (some (.int (i + j)))) H) : tAug n te (ipI (· + ·)) D σ H := ⟨_, hx, h _ ⟨i, j, rfl, rfl, k⟩⟩
/-- an expression that makes new things at most -/
def EvS (te : TE) (σ : L2.St) (H : Hp) (v : V) : Prop := ∀ Q : VK, (∀ H', Same H H' → Q v H') → te σ H Q
theorem Val.s {v : V} (h : Val te σ H v) : EvS te σ H v := fun Q q => h Q (q H (Same.refl H))
theorem lc_ev (h : Val tl σ H (.ref a)) (hx : SqL K H a xs) (hlen : ys.length = xs.length) (hz : xs.length < sizeLine)
    (he : ∀ (i : Nat) x y H', xs[i]? = some x → ys[i]? = some y → Same H H' → EvS te ((σ.set j none).set j (some x)) H' y)
    (k : ∀ l H', H l = none → Same H H' → H' l = some (.lst ys) → Q (.ref l) H') : tLc (iList K tl) (gName j) tYes te [j] σ H Q := by
  refine h _ ⟨a, rfl, ⟨xs, hx⟩, fun l hl => lc_list (K := K) (a := a) (xs := xs) (fun i H' => Same H H' ∧ H' l = some (.lst (ys.take i))) ⟨same_new hl, upd_same⟩ (fun i H' _ p => p.1.seq hx) ?_ ?_⟩
  · rintro i x H' hi ⟨s1, p⟩
    have hi' : i < xs.length := (List.getElem?_eq_some_iff.mp hi).1
    have hy : ys[i]? = some (ys[i]'(by omega)) := List.getElem?_eq_getElem _
    refine ⟨by show ((σ.set j none).set j (some x)).set j none = σ.set j none; rw [List.set_set, List.set_set], ?_⟩
    refine iteT (B := Same H H' ∧ H' l = some (.lst (ys.take (i + 1)))) ?_
    refine he i x _ H' hi hy s1 _ fun H2 s2 => ⟨ys.take i, s2 _ _ p, by rw [List.length_take]; omega, same_upd (s1.trans s2) hl, ?_⟩
    rw [upd_same, List.take_add_one, hy]
    rfl
  · rintro H' ⟨s1, p⟩
    refine k l H' hl s1 ?_
    rw [← hlen, List.take_length] at p
    exact p
end
/-! ### numbers -/
def natV (ns : List Nat) : List V := ns.map fun (n : Nat) => V.int (n : Int)
theorem natV_length (ns : List Nat) : (natV ns).length = ns.length := List.length_map _
theorem natV_append (a b : List Nat) : natV (a ++ b) = natV a ++ natV b := List.map_append
theorem natV_get {ns : List Nat} {i : Nat} {n : Nat} (h : ns[i]? = some n) : (natV ns)[i]? = some (.int (n : Int)) := by
  unfold natV
  rw [List.getElem?_map, h]
  rfl
theorem cutV_nat {xs : List V} {i j : Nat} (hi : i ≤ xs.length) (hj : j ≤ xs.length) : cutV xs (some (i : Int)) (some (j : Int)) = (xs.drop i).take (j - i) := by
  unfold cutV HT.sIx
  have e1 : ¬ ((i : Int) < 0) := by omega
  have e2 : ¬ ((j : Int) < 0) := by omega
  simp only [if_neg e1, if_neg e2, Int.toNat_natCast]
  rw [Nat.min_eq_left hi, Nat.min_eq_left hj]
theorem cutV_from {xs : List V} {i : Nat} (hi : i ≤ xs.length) : cutV xs (some (i : Int)) none = xs.drop i := by
  unfold cutV HT.sIx
  have e1 : ¬ ((i : Int) < 0) := by omega
  simp only [if_neg e1, Int.toNat_natCast]
  rw [Nat.min_eq_left hi, List.take_of_length_le (by rw [List.length_drop]; exact Nat.le_refl _)]
theorem natV_cut (ns : List Nat) (i n : Nat) : ((natV ns).drop i).take n = natV ((ns.drop i).take n) := by
  unfold natV
  rw [← List.map_drop, ← List.map_take]
theorem natV_drop (ns : List Nat) (i : Nat) : (natV ns).drop i = natV (ns.drop i) := by
  unfold natV
  rw [← List.map_drop]
/-! ### changes in the heap -/
abbrev nsChange : List Str := ["place", "out", "coming"]
def chF (c : Ue02.Change) (l : Addr) : List (Str × V) := ob nsChange [.int (c.at_ : Int), .int (c.out : Int), .ref l]
def ChAt (C : Addr) (H : Hp) (a : Addr) (c : Ue02.Change) : Prop := ∃ dx l, H a = some (.ins C dx (chF c l)) ∧ H l = some (.lst (natV c.in_))
def ChsAt (C : Addr) (H : Hp) : List Addr → List Ue02.Change → Prop
  | [], [] => True
  | a :: as, c :: cs => ChAt C H a c ∧ ChsAt C H as cs
  | _, _ => False
def CLst (C : Addr) (H : Hp) (l : Addr) (cs : List Ue02.Change) : Prop := ∃ as, H l = some (.lst (as.map V.ref)) ∧ ChsAt C H as cs
theorem ChAt.mono {C : Addr} {H H' : Hp} {a : Addr} {c : Ue02.Change} (s : Same H H') (h : ChAt C H a c) : ChAt C H' a c := by
  obtain ⟨dx, l, h1, h2⟩ := h
  exact ⟨dx, l, s _ _ h1, s _ _ h2⟩
theorem ChsAt.mono {C : Addr} {H H' : Hp} (s : Same H H') : ∀ {as : List Addr} {cs : List Ue02.Change}, ChsAt C H as cs → ChsAt C H' as cs
  | [], [], _ => trivial
  | _ :: _, _ :: _, ⟨h, r⟩ => ⟨h.mono s, ChsAt.mono s r⟩
  | [], _ :: _, h => h.elim
  | _ :: _, [], h => h.elim
theorem CLst.mono {C : Addr} {H H' : Hp} {l : Addr} {cs : List Ue02.Change} (s : Same H H') (h : CLst C H l cs) : CLst C H' l cs := by
  obtain ⟨as, h1, h2⟩ := h
  exact ⟨as, s _ _ h1, h2.mono s⟩
theorem ChsAt.len {C : Addr} {H : Hp} : ∀ {as : List Addr} {cs : List Ue02.Change}, ChsAt C H as cs → as.length = cs.length
  | [], [], _ => rfl
  | _ :: _, _ :: _, ⟨_, r⟩ => congrArg (· + 1) (ChsAt.len r)
  | [], _ :: _, h => h.elim
  | _ :: _, [], h => h.elim
theorem ChsAt.get {C : Addr} {H : Hp} : ∀ {as : List Addr} {cs : List Ue02.Change} {i : Nat} {a : Addr}, ChsAt C H as cs → as[i]? = some a → ∃ c, cs[i]? = some c ∧ ChAt C H a c
  | [], [], i, a, _, e => by simp at e
  | b :: as, c :: cs, 0, a, ⟨h, _⟩, e => by
    have q : b = a := Option.some.inj e
    subst q
    exact ⟨c, rfl, h⟩
  | b :: as, c :: cs, i + 1, a, ⟨_, r⟩, e => ChsAt.get (as := as) (cs := cs) (i := i) r e
  | [], _ :: _, _, _, h, _ => h.elim
  | _ :: _, [], _, _, h, _ => h.elim
theorem ChsAt.snoc {C : Addr} {H : Hp} {a : Addr} {c : Ue02.Change} (h : ChAt C H a c) : ∀ {as : List Addr} {cs : List Ue02.Change}, ChsAt C H as cs → ChsAt C H (as ++ [a]) (cs ++ [c])
  | [], [], _ => ⟨h, trivial⟩
  | _ :: _, _ :: _, ⟨g, r⟩ => ⟨g, ChsAt.snoc h r⟩
  | [], _ :: _, h => h.elim
  | _ :: _, [], h => h.elim
theorem ref_get {as : List Addr} {i : Nat} {x : V} (h : (as.map V.ref)[i]? = some x) : ∃ a, as[i]? = some a ∧ x = .ref a := by
  rw [List.getElem?_map] at h
  cases e : as[i]? with
  | none => rw [e] at h; cases h
  | some a => rw [e] at h; exact ⟨a, rfl, (Option.some.inj h).symm⟩
section
variable {K : PySem.W.Frag} {mg : Str → Option Value} {cChange cStretch cStep cSession : Addr}
/-- what is read of a change -/
structure ChR (K : PySem.W.Frag) (H : Hp) (a : Addr) (c : Ue02.Change) (l : Addr) : Prop where
  place : Fd K H a "place" (.int (c.at_ : Int))
  out : Fd K H a "out" (.int (c.out : Int))
  coming : Fd K H a "coming" (.ref l)
  lst : H l = some (.lst (natV c.in_))
theorem ChAt.r (T : Txt K mg cChange cStretch cStep cSession) {H : Hp} {a : Addr} {c : Ue02.Change} (h : ChAt cChange H a c) : ∃ l, ChR K H a c l := by
  obtain ⟨dx, l, h1, h2⟩ := h
  exact ⟨l, fd_ob h1 T.cl_Change T.n_Change_place (i := 0) (by decide +kernel) rfl, fd_ob h1 T.cl_Change T.n_Change_out (i := 1) (by decide +kernel) rfl, fd_ob h1 T.cl_Change T.n_Change_coming (i := 2) (by decide +kernel) rfl, h2⟩
end
end Mk
end

section
set_option Elab.async false
set_option linter.all false
set_option maxRecDepth 100000
set_option maxHeartbeats 4000000
namespace Mk
open PySem PySem.Spec PyProof.Rows L2
section
variable {P : Program} {w : World} {K : PySem.W.Frag} {mg : Str → Option Value} {base : Heap} {cChange cStretch cStep cSession : Addr}
/-! ### Change.__init__ -/
def fChange : Hp → List V → List (Str × V) → Prop := fun _ ws fs => ∃ x y z, ws = [x, y, z] ∧ fs = ob nsChange [x, y, z]
theorem ok_Change_init {f : Addr} {fd : FuncData} (F : Fun K "__init__" "Change.__init__" s_Change_init f fd) (T : Txt K mg cChange cStretch cStep cSession) : FnOk P w K mg base CX0 1 f fd ["self", "place", "out", "coming"] (spIni cChange fChange) := by
  refine F.ok sc_Change_init (fun vs H Q E h => ?_) (fun cdv A outer s H vs Q E hr h => ?_)
  · obtain ⟨p, dx, ws, fs, rfl, _, ⟨x, y, z, rfl, rfl⟩, _⟩ := h
    rfl
  · obtain ⟨p, dx, ws, fs, rfl, hp, ⟨x, y, z, rfl, rfl⟩, k⟩ := h
    have nd := sc_Change_init.nd
    refine ⟨_, (pss_cons (ps_fld (pv 0) (pv 1) rfl)
      (pss_cons (ps_fld (pv 0) (pv 2) rfl)
      (pss_one (ps_fld (pv 0) (pv 3) rfl)))), ?_⟩
    refine s_new (ns := []) (vs := []) (val_var rfl) (val_var rfl) hp T.cl_Change T.n_Change_place rfl rfl (by decide) ?_
    refine s_new (val_var rfl) (val_var rfl) upd_same T.cl_Change T.n_Change_out (by decide +kernel) rfl (by decide) ?_
    refine s_new (val_var rfl) (val_var rfl) upd_same T.cl_Change T.n_Change_coming (by decide +kernel) rfl (by decide) ?_
    rw [upd_upd, upd_upd]
    exact k
/-! ### end_behind_one -/
def b2n (b : Bool) : Nat := if b = true then 1 else 0
def spOne (cChange : Addr) : Sp := fun vs H Q _ => ∃ (a : Addr) (c : Ue02.Change) (p : Nat) (l : Bool), vs = [.ref a, .int (p : Int), .int (b2n l : Int)] ∧ ChAt cChange H a c ∧ Q (.int (Ue02.place c l p : Int)) H
theorem ok_end_behind_one {f : Addr} {fd : FuncData} (F : Fun K "end_behind_one" "end_behind_one" s_end_behind_one f fd) (T : Txt K mg cChange cStretch cStep cSession) : FnOk P w K mg base CX0 1 f fd ["change", "end", "lean"] (spOne cChange) := by
  refine F.ok sc_end_behind_one (fun vs H Q E h => ?_) (fun cdv A outer s H vs Q E hr h => ?_)
  · obtain ⟨a, c, p, l, rfl, _⟩ := h
    rfl
  · obtain ⟨a, c, p, l, rfl, hc, k⟩ := h
    obtain ⟨la, r⟩ := hc.r T
    have nd := sc_end_behind_one.nd
    refine ⟨_, (pss_cons (ps_if (pt_cmpR op_lt (pv 1) (pe_fldK (K' := K) rfl (pv 0) rfl) (nomark _))
        (pss_one (ps_ret (pv 1)))
        pss_nil)
      (pss_cons (ps_if (pt_cmpR op_gt (pv 1) (pe_op op_add (pe_fldK (K' := K) rfl (pv 0) rfl) (pe_fldK (K' := K) rfl (pv 0) rfl)) (nomark _))
        (pss_one (ps_ret (pe_op op_sub (pe_op op_add (pv 1) (pe_callB (call_lenK (K' := K) rfl) (by rfl) T.b_len PySem.boot_len (pa_cons (pe_fldK (K' := K) rfl (pv 0) rfl) pa_nil))) (pe_fldK (K' := K) rfl (pv 0) rfl))))
        pss_nil)
      (pss_cons (ps_if (pt_cmpR op_eq (pv 2) pe_int (nomark _))
        (pss_one (ps_ret (pe_fldK (K' := K) rfl (pv 0) rfl)))
        pss_nil)
      (pss_one (ps_ret (pe_op op_add (pe_fldK (K' := K) rfl (pv 0) rfl) (pe_callB (call_lenK (K' := K) rfl) (by rfl) T.b_len PySem.boot_len (pa_cons (pe_fldK (K' := K) rfl (pv 0) rfl) pa_nil)))))))), ?_⟩
    refine s_itd (p := (p : Int) < (c.at_ : Int)) (a_test (v_lt (val_var rfl) (v_fd (val_var rfl) r.place))) (fun e => ?_) (fun e1 => ?_)
    · refine st_ret (val_var rfl) ?_
      have q : Ue02.place c l p = p := if_pos (by omega)
      rw [q] at k
      exact k
    refine s_itd (p := (c.at_ : Int) + (c.out : Int) < (p : Int)) (a_test (v_gt (val_var rfl) (v_add (v_fd (val_var rfl) r.place) (v_fd (val_var rfl) r.out)))) (fun e => ?_) (fun e2 => ?_)
    · refine st_ret (v_sub (v_add (val_var rfl) (v_len (v_fd (val_var rfl) r.coming) (SqL.of r.lst))) (v_fd (val_var rfl) r.out)) ?_
      have q : Ue02.place c l p = p - c.out + c.in_.length := by
        unfold Ue02.place
        rw [if_neg (by omega), if_pos (by omega)]
      rw [q] at k
      have q2 : (p : Int) + ((natV c.in_).length : Int) - (c.out : Int) = ((p - c.out + c.in_.length : Nat) : Int) := by
        rw [natV_length]
        omega
      show Q (.int _) H
      rw [q2]
      exact k
    have q : Ue02.place c l p = if l = true then c.at_ + c.in_.length else c.at_ := by
      unfold Ue02.place
      rw [if_neg (by omega), if_neg (by omega)]
    rw [q] at k
    cases l with
    | false =>
      refine s_itd (p := (b2n false : Int) = 0) (a_test (v_eqI (val_var rfl) val_c)) (fun e => ?_) (fun e => absurd rfl e)
      exact st_ret (v_fd (val_var rfl) r.place) k
    | true =>
      refine s_itd (p := (b2n true : Int) = 0) (a_test (v_eqI (val_var rfl) val_c)) (fun e => by cases e) (fun e => ?_)
      refine st_ret (v_add (v_fd (val_var rfl) r.place) (v_len (v_fd (val_var rfl) r.coming) (SqL.of r.lst))) ?_
      show Q (.int _) H
      rw [natV_length]
      exact k
/-! ### end_behind -/
theorem places_drop {cs : List Ue02.Change} {lean : Bool} {p k : Nat} {c : Ue02.Change} (h : cs[k]? = some c) : Ue02.places (cs.drop k) lean p = Ue02.place c lean (Ue02.places (cs.drop (k + 1)) lean p) := by
  obtain ⟨h1, h2⟩ := List.getElem?_eq_some_iff.mp h
  rw [List.drop_eq_getElem_cons h1, h2]
  rfl
def spEnd (cChange : Addr) : Sp := fun vs H Q _ => ∃ (l : Addr) (cs : List Ue02.Change) (p : Nat) (b : Bool), vs = [.ref l, .int (p : Int), .int (b2n b : Int)] ∧ CLst cChange H l cs ∧ Q (.int (Ue02.places cs b p : Int)) H
theorem ok_end_behind {f : Addr} {fd : FuncData} (F : Fun K "end_behind" "end_behind" s_end_behind f fd) (T : Txt K mg cChange cStretch cStep cSession)
    (c_end_behind_one : Calls P w K mg base "end_behind_one" 1 ["change", "end", "lean"] (spOne cChange)) : FnOk P w K mg base CX0 2 f fd ["changes", "end", "lean"] (spEnd cChange) := by
  refine F.ok sc_end_behind (fun vs H Q E h => ?_) (fun cdv A outer s H vs Q E hr h => ?_)
  · obtain ⟨a, c, p, l, rfl, _⟩ := h
    rfl
  · obtain ⟨l, cs, p, b, rfl, ⟨as, hl, hc⟩, k⟩ := h
    have nd := sc_end_behind.nd
    refine ⟨_, (pss_cons (ps_set (i := 3) nd rfl (Or.inl rfl) (pv 1))
      (pss_cons (ps_for PassesOwn.never rfl (pi_reversed (by rfl) T.b_reversed (pa_cons (pv 0) pa_nil)) (pg_name (i := 4) nd rfl (Or.inl rfl))
        (pss_one (ps_set (i := 3) nd rfl (Or.inl rfl) (pe_cl c_end_behind_one (hr.mono (by decide)) rfl (pa_cons (pv 4) (pa_cons (pv 3) (pa_cons (pv 2) pa_nil)))))))
      (pss_one (ps_ret (pv 3))))), ?_⟩
    refine st_set (val_var rfl) ?_
    have n1 : (as.map V.ref).length = cs.length := by rw [List.length_map, hc.len]
    refine s_forRev (val_var rfl) (SqL.of hl) (fun i σ' H' => H' = H ∧ ∃ v, σ' = [some (.ref l), some (.int (p : Int)), some (.int (b2n b : Int)), some (.int (Ue02.places (cs.drop (cs.length - i)) b p : Int)), v])
      ⟨rfl, none, by rw [Nat.sub_zero, List.drop_length]; rfl⟩ (fun i σ' H' _ q => by rw [q.1]; exact SqL.of hl) ?_ ?_
    · rintro i x σ' H' hi hx ⟨rfl, v, rfl⟩
      rw [n1] at hi hx
      obtain ⟨a, ha, rfl⟩ := ref_get hx
      obtain ⟨c, hcc, hca⟩ := hc.get ha
      refine call_of (va_cons (val_var rfl) (va_cons (val_var rfl) (va_cons (val_var rfl) va_nil))) ⟨a, c, Ue02.places (cs.drop (cs.length - i)) b p, b, rfl, hca, ?_⟩
      refine ⟨rfl, some (.ref a), ?_⟩
      have e := places_drop (lean := b) (p := p) hcc
      rw [show cs.length - 1 - i + 1 = cs.length - i by omega, show cs.length - 1 - i = cs.length - (i + 1) by omega] at e
      rw [e]
      rfl
    · rintro σ' H' ⟨rfl, v, rfl⟩
      rw [n1, Nat.sub_self, List.drop_zero]
      exact st_ret (val_var rfl) k
/-! ### lie_apart_within -/
def spLie (cChange : Addr) : Sp := fun vs H Q _ => ∃ (l : Addr) (cs : List Ue02.Change) (n : Nat), vs = [.ref l, .int (n : Int)] ∧ CLst cChange H l cs ∧ Q (.bl (lieB 0 n cs)) H
theorem ok_lie_apart_within {f : Addr} {fd : FuncData} (F : Fun K "lie_apart_within" "lie_apart_within" s_lie_apart_within f fd) (T : Txt K mg cChange cStretch cStep cSession) : FnOk P w K mg base CX0 1 f fd ["changes", "size"] (spLie cChange) := by
  refine F.ok sc_lie_apart_within (fun vs H Q E h => ?_) (fun cdv A outer s H vs Q E hr h => ?_)
  · obtain ⟨l, cs, n, rfl, _⟩ := h
    rfl
  · obtain ⟨l, cs, n, rfl, ⟨as, hl, hc⟩, k⟩ := h
    have nd := sc_lie_apart_within.nd
    refine ⟨_, (pss_cons (ps_set (i := 2) nd rfl (Or.inl rfl) pe_int)
      (pss_cons (ps_for PassesOwn.never rfl (pi_list (pv 0)) (pg_name (i := 3) nd rfl (Or.inl rfl))
        (pss_cons (ps_set (i := 4) nd rfl (Or.inl rfl) (pe_op op_add (pe_fldK (K' := K) rfl (pv 3) rfl) (pe_fldK (K' := K) rfl (pv 3) rfl)))
        (pss_cons (ps_if (PW.pt (pw_or (pt_cmpR op_lt (pe_fldK (K' := K) rfl (pv 3) rfl) (pv 2) (nomark _)) (pw_or1 (pt_cmpR op_gt (pv 4) (pv 1) (nomark _)))))
          (pss_one (ps_ret pe_bl))
          pss_nil)
        (pss_one (ps_set (i := 2) nd rfl (Or.inl rfl) (pe_op op_add (pv 4) pe_int))))))
      (pss_one (ps_ret pe_bl)))), ?_⟩
    refine st_set val_c ?_
    have n1 : (as.map V.ref).length = cs.length := by rw [List.length_map, hc.len]
    refine s_for (val_var rfl) (SqL.of hl) (fun i σ' H' => H' = H ∧ ∃ (lo : Nat) (v v' : Option V), lieB lo n (cs.drop i) = lieB 0 n cs ∧ σ' = [some (.ref l), some (.int (n : Int)), some (.int (lo : Int)), v, v'])
      ⟨rfl, 0, none, none, rfl, rfl⟩ (fun i σ' H' _ q => by rw [q.1]; exact SqL.of hl) ?_ ?_
    · rintro i x σ' H' hx ⟨rfl, lo, v, v', e, rfl⟩
      obtain ⟨a, ha, rfl⟩ := ref_get hx
      obtain ⟨c, hcc, hca⟩ := hc.get ha
      obtain ⟨la, r⟩ := hca.r T
      obtain ⟨h1, h2⟩ := List.getElem?_eq_some_iff.mp hcc
      rw [List.drop_eq_getElem_cons h1, h2] at e
      refine st_set (v_add (v_fd (val_var rfl) r.place) (v_fd (val_var rfl) r.out)) ?_
      refine s_ite (a_or (a_test (v_lt (v_fd (val_var rfl) r.place) (val_var rfl))) (fun _ => a_test (v_gt (val_var rfl) (val_var rfl)))) (fun q => ?_) (fun q => ?_)
      · refine st_ret val_c ?_
        have z : lieB 0 n cs = false := by
          rw [← e]
          simp only [Bool.or_eq_true, decide_eq_true_eq] at q
          exact if_pos (by omega)
        rw [z] at k
        exact k
      · refine st_set (v_add (val_var rfl) val_c) ?_
        simp only [Bool.or_eq_false_iff, decide_eq_false_iff_not] at q
        refine ⟨rfl, c.at_ + c.out + 1, _, _, ?_, rfl⟩
        rw [← e]
        exact (if_neg (by omega)).symm
    · rintro σ' H' ⟨rfl, lo, v, v', e, rfl⟩
      rw [n1, List.drop_length] at e
      rw [← e] at k
      exact k
/-! ### size_behind -/
def delta (cs : List Ue02.Change) : List Int := cs.map fun c => (c.in_.length : Int) - (c.out : Int)
theorem delta_sum : ∀ cs : List Ue02.Change, (delta cs).sum = (ins cs : Int) - (outs cs : Int)
  | [] => rfl
  | c :: cs => by
    have ih := delta_sum cs
    simp only [delta, ins, outs, List.map_cons, List.sum_cons] at ih ⊢
    omega
def spSize (cChange : Addr) : Sp := fun vs H Q _ => ∃ (l : Addr) (cs : List Ue02.Change) (n : Nat), vs = [.ref l, .int (n : Int)] ∧ CLst cChange H l cs ∧ cs.length < sizeLine ∧ ∀ H', Same H H' → Q (.int ((n : Int) + ((ins cs : Int) - (outs cs : Int)))) H'
theorem ok_size_behind {f : Addr} {fd : FuncData} (F : Fun K "size_behind" "size_behind" s_size_behind f fd) (T : Txt K mg cChange cStretch cStep cSession) : FnOk P w K mg base CX0 1 f fd ["changes", "size"] (spSize cChange) := by
  refine F.ok sc_size_behind (fun vs H Q E h => ?_) (fun cdv A outer s H vs Q E hr h => ?_)
  · obtain ⟨l, cs, n, rfl, _⟩ := h
    rfl
  · obtain ⟨l, cs, n, rfl, ⟨as, hl, hc⟩, hz, k⟩ := h
    have nd := sc_size_behind.nd
    refine ⟨_, (pss_one (ps_ret (pe_op op_add (pv 1) (pe_callB (cr_sum rfl) (by rfl) T.b_sum (by decide +kernel) (pa_cons (pe_lc (own := [("change", 2)]) (g := gName 2) (tt := tYes) rfl nd (pi_list (pv 0)) (blkOk_by (N := N_size_behind) (sc := defScope s_size_behind) (by decide +kernel)) (fun _ _ _ _ _ => pg_name (i := 2) nd rfl (Or.inl rfl)) (fun _ _ _ _ _ => by exact pts_nil) (fun _ _ _ _ _ => by exact (pe_op op_sub (pe_callB (call_lenK (K' := K) rfl) (by rfl) T.b_len PySem.boot_len (pa_cons (pe_fldK (K' := K) rfl (pv 2) rfl) pa_nil)) (pe_fldK (K' := K) rfl (pv 2) rfl)))) pa_nil))))), ?_⟩
    have n1 : (as.map V.ref).length = cs.length := by rw [List.length_map, hc.len]
    refine ⟨_, rfl, ?_⟩
    refine cb1 ?_
    refine lc_ev (val_var rfl) (SqL.of hl) (ys := (delta cs).map V.int) (by rw [List.length_map, n1]; exact List.length_map _) (by rw [n1]; exact hz) (fun i x y H' hx hy s1 => ?_) (fun D H' hD s1 hl' => ?_)
    · obtain ⟨a, ha, rfl⟩ := ref_get hx
      obtain ⟨c, hcc, hca⟩ := hc.get ha
      obtain ⟨la, r⟩ := (hca.mono s1).r T
      have e : y = V.int ((c.in_.length : Int) - (c.out : Int)) := by
        unfold delta at hy
        rw [List.map_map, List.getElem?_map, hcc] at hy
        exact (Option.some.inj hy).symm
      subst e
      refine Val.s (v_is (v_sub (v_len (v_fd (val_var rfl) r.coming) (SqL.of r.lst)) (v_fd (val_var rfl) r.out)) ?_)
      rw [natV_length]
    · refine ⟨D, delta cs, rfl, SqL.of hl', (n : Int), (delta cs).sum, rfl, rfl, ?_⟩
      show Q (.int ((n : Int) + (delta cs).sum)) H'
      rw [delta_sum]
      exact k H' s1
end
end Mk
end

section
set_option Elab.async false
set_option linter.all false
set_option maxRecDepth 100000
set_option maxHeartbeats 4000000
namespace Mk
open PySem PySem.Spec PyProof.Rows L2
section
variable {P : Program} {w : World} {K : PySem.W.Frag} {mg : Str → Option Value} {base : Heap} {cChange cStretch cStep cSession : Addr}
theorem sizeLine_big : 1000000 < sizeLine := by decide
/-! ### content_behind -/
def spContent (K : PySem.W.Frag) (cChange : Addr) : Sp := fun vs H Q _ => ∃ (l t : Addr) (cs : List Ue02.Change) (txt : List Nat), vs = [.ref l, .ref t] ∧ CLst cChange H l cs ∧ SqL K H t (natV txt) ∧ Lie 0 txt.length cs ∧ (Ue02.changed txt cs).length ≤ 100000 ∧
  ∀ (H' : Hp) (p : Addr), Same H H' → H p = none → H' p = some (.lst (natV (Ue02.changed txt cs))) → Q (.ref p) H'
theorem ok_content_behind {f : Addr} {fd : FuncData} (F : Fun K "content_behind" "content_behind" s_content_behind f fd) (T : Txt K mg cChange cStretch cStep cSession) : FnOk P w K mg base CX0 1 f fd ["changes", "content"] (spContent K cChange) := by
  refine F.ok sc_content_behind (fun vs H Q E h => ?_) (fun cdv A outer s H vs Q E hr h => ?_)
  · obtain ⟨l, t, cs, txt, rfl, _⟩ := h
    rfl
  · obtain ⟨l, t, cs, txt, rfl, ⟨as, hl, hc⟩, ht, hlie, hz, k⟩ := h
    have nd := sc_content_behind.nd
    refine ⟨_, (pss_cons (ps_set (i := 2) nd rfl (Or.inl rfl) (pe_lst pa_nil))
      (pss_cons (ps_set (i := 3) nd rfl (Or.inl rfl) pe_int)
      (pss_cons (ps_for PassesOwn.never rfl (pi_list (pv 0)) (pg_name (i := 4) nd rfl (Or.inl rfl))
        (pss_cons (ps_expr (pe_bm PySem.F.plainAttrs_list PySem.F.slot_list_extend PySem.F.type_list_extend mt_extend (pv 2) (pa_cons (pe_slice sl_list (pv 1) (po_some (pv 3)) (po_some (pe_fldK (K' := K) rfl (pv 4) rfl))) pa_nil)))
        (pss_cons (ps_expr (pe_bm PySem.F.plainAttrs_list PySem.F.slot_list_extend PySem.F.type_list_extend mt_extend (pv 2) (pa_cons (pe_fldK (K' := K) rfl (pv 4) rfl) pa_nil)))
        (pss_one (ps_set (i := 3) nd rfl (Or.inl rfl) (pe_op op_add (pe_fldK (K' := K) rfl (pv 4) rfl) (pe_fldK (K' := K) rfl (pv 4) rfl)))))))
      (pss_cons (ps_expr (pe_bm PySem.F.plainAttrs_list PySem.F.slot_list_extend PySem.F.type_list_extend mt_extend (pv 2) (pa_cons (pe_slice sl_list (pv 1) (po_some (pv 3)) po_none) pa_nil)))
      (pss_one (ps_ret (pv 2))))))), ?_⟩
    refine ⟨Nat.zero_le _, fun p hp => ?_⟩
    refine st_set val_c ?_
    have n1 : (as.map V.ref).length = cs.length := by rw [List.length_map, hc.len]
    have hsl := sizeLine_big
    refine s_for (val_var rfl) (SqL.of ((same_new hp) _ _ hl)) (fun i σ' H' => ∃ (n : Nat) (acc : List Nat) (v : Option V), σ' = [some (.ref l), some (.ref t), some (.ref p), some (.int (n : Int)), v] ∧ Same H H' ∧ H' p = some (.lst (natV acc)) ∧
        acc ++ fwd txt n (cs.drop i) = Ue02.changed txt cs ∧ Lie n txt.length (cs.drop i) ∧ n ≤ txt.length)
      ⟨0, [], none, rfl, same_new hp, upd_same, (changed_eq hlie).symm, hlie, Nat.zero_le _⟩ (fun i σ' H' _ ⟨_, _, _, _, s1, _⟩ => SqL.of (s1 _ _ hl)) ?_ ?_
    · rintro i x σ' H' hx ⟨n, acc, v, rfl, s1, hpp, e, li, hn⟩
      obtain ⟨a, ha, rfl⟩ := ref_get hx
      obtain ⟨c, hcc, hca⟩ := hc.get ha
      obtain ⟨h1, h2⟩ := List.getElem?_eq_some_iff.mp hcc
      rw [List.drop_eq_getElem_cons h1, h2] at e li
      obtain ⟨li1, li2, li3⟩ := li
      have el : (acc ++ (((txt.drop n).take (c.at_ - n)) ++ (c.in_ ++ fwd txt (c.at_ + c.out) (cs.drop (i + 1))))).length ≤ 100000 := by
        rw [show acc ++ (((txt.drop n).take (c.at_ - n)) ++ (c.in_ ++ fwd txt (c.at_ + c.out) (cs.drop (i + 1)))) = Ue02.changed txt cs from e]
        exact hz
      simp only [List.length_append] at el
      obtain ⟨la, r⟩ := (hca.mono s1).r T
      refine s_ext (val_var rfl) hpp ?_
      refine sl_of (val_var rfl) (s1.seq ht) (val_var rfl) (v_fd (val_var rfl) r.place) fun q hq => ?_
      have npq : p ≠ q := ne_of_none hpp hq
      rw [cutV_nat (by rw [natV_length]; exact hn) (by rw [natV_length]; omega), natV_cut]
      refine ⟨p, q, _, _, rfl, rfl, by rw [upd_ne npq]; exact hpp, upd_same, by rw [natV_length, natV_length]; omega, ?_⟩
      have s2 : Same H (upd (upd H' q (.lst (natV ((txt.drop n).take (c.at_ - n))))) p (.lst (natV acc ++ natV ((txt.drop n).take (c.at_ - n))))) := same_upd (same_upd s1 (s1.free hq)) hp
      obtain ⟨la2, r2⟩ := (hca.mono s2).r T
      refine s_ext (val_var rfl) upd_same ?_
      refine v_fd (val_var rfl) r2.coming _ ?_
      refine ⟨p, la2, _, _, rfl, rfl, upd_same, r2.lst, ?_, ?_⟩
      · rw [List.length_append, natV_length, natV_length, natV_length]; omega
      have s3 := same_upd (o := .lst (natV acc ++ natV ((txt.drop n).take (c.at_ - n)) ++ natV c.in_)) s2 hp
      obtain ⟨la3, r3⟩ := (hca.mono s3).r T
      refine st_set (v_add (v_fd (val_var rfl) r3.place) (v_fd (val_var rfl) r3.out)) ?_
      refine ⟨c.at_ + c.out, acc ++ (txt.drop n).take (c.at_ - n) ++ c.in_, _, rfl, s3, ?_, ?_, li3.mono (by omega), li2⟩
      · rw [upd_same, natV_append, natV_append]
      · rw [← e]
        simp only [List.append_assoc, fwd]
    · rintro σ' H' ⟨n, acc, v, rfl, s1, hpp, e, li, hn⟩
      rw [n1, List.drop_length] at e
      have el : (acc ++ txt.drop n).length ≤ 100000 := by
        rw [show acc ++ txt.drop n = Ue02.changed txt cs from e]
        exact hz
      simp only [List.length_append] at el
      refine s_ext (val_var rfl) hpp ?_
      refine sl_from (val_var rfl) (s1.seq ht) (val_var rfl) fun q hq => ?_
      have npq : p ≠ q := ne_of_none hpp hq
      rw [cutV_from (by rw [natV_length]; exact hn), natV_drop]
      refine ⟨p, q, _, _, rfl, rfl, by rw [upd_ne npq]; exact hpp, upd_same, by rw [natV_length, natV_length]; omega, ?_⟩
      refine st_ret (val_var rfl) ?_
      refine k _ p (same_upd (same_upd s1 (s1.free hq)) hp) hp ?_
      rw [upd_same, ← natV_append, ← e]
      rfl
/-! ### changes_back -/
def spBack (K : PySem.W.Frag) (cChange : Addr) : Sp := fun vs H Q _ => ∃ (l t : Addr) (cs : List Ue02.Change) (txt : List Nat), vs = [.ref l, .ref t] ∧ CLst cChange H l cs ∧ SqL K H t (natV txt) ∧ Lie 0 txt.length cs ∧ cs.length < sizeLine ∧
  ∀ (H' : Hp) (p : Addr), Same H H' → CLst cChange (fr H H') p (Ue02.inverse txt 0 0 cs) → Q (.ref p) H'
theorem ok_changes_back {f : Addr} {fd : FuncData} (F : Fun K "changes_back" "changes_back" s_changes_back f fd) (T : Txt K mg cChange cStretch cStep cSession)
    (m_Change : Makes P w K mg base cChange "Change" 1 ["self", "place", "out", "coming"] (spIni cChange fChange)) : FnOk P w K mg base CX0 3 f fd ["changes", "content"] (spBack K cChange) := by
  refine F.ok sc_changes_back (fun vs H Q E h => ?_) (fun cdv A outer s H vs Q E hr h => ?_)
  · obtain ⟨l, t, cs, txt, rfl, _⟩ := h
    rfl
  · obtain ⟨l, t, cs, txt, rfl, ⟨as, hl, hc⟩, ht, hlie, hz, k⟩ := h
    have nd := sc_changes_back.nd
    refine ⟨_, (pss_cons (ps_set (i := 2) nd rfl (Or.inl rfl) (pe_lst pa_nil))
      (pss_cons (ps_set (i := 3) nd rfl (Or.inl rfl) pe_int)
      (pss_cons (ps_for PassesOwn.never rfl (pi_list (pv 0)) (pg_name (i := 4) nd rfl (Or.inl rfl))
        (pss_cons (ps_set (i := 5) nd rfl (Or.inl rfl) (pe_slice sl_list (pv 1) (po_some (pe_fldK (K' := K) rfl (pv 4) rfl)) (po_some (pe_op op_add (pe_fldK (K' := K) rfl (pv 4) rfl) (pe_fldK (K' := K) rfl (pv 4) rfl)))))
        (pss_cons (ps_expr (pe_bm PySem.F.plainAttrs_list PySem.F.slot_list_append PySem.F.type_list_append mt_append (pv 2) (pa_cons (pe_mk m_Change (hr.mono (by decide)) rfl (pa_cons (pe_op op_add (pe_fldK (K' := K) rfl (pv 4) rfl) (pv 3)) (pa_cons (pe_callB (call_lenK (K' := K) rfl) (by rfl) T.b_len PySem.boot_len (pa_cons (pe_fldK (K' := K) rfl (pv 4) rfl) pa_nil)) (pa_cons (pv 5) pa_nil)))) pa_nil)))
        (pss_one (ps_aug (i := 3) nd rfl (.inl rfl) (pe_op op_sub (pe_callB (call_lenK (K' := K) rfl) (by rfl) T.b_len PySem.boot_len (pa_cons (pe_fldK (K' := K) rfl (pv 4) rfl) pa_nil)) (pe_fldK (K' := K) rfl (pv 4) rfl)) ip_add)))))
      (pss_one (ps_ret (pv 2)))))), ?_⟩
    refine ⟨Nat.zero_le _, fun p hp => ?_⟩
    refine st_set val_c ?_
    have n1 : (as.map V.ref).length = cs.length := by rw [List.length_map, hc.len]
    refine s_for (val_var rfl) (SqL.of ((same_new hp) _ _ hl)) (fun i σ' H' => ∃ (lo more less : Nat) (acc : List Ue02.Change) (bs : List Addr) (v v' : Option V),
        σ' = [some (.ref l), some (.ref t), some (.ref p), some (.int ((more : Int) - (less : Int))), v, v'] ∧ Same H H' ∧ H' p = some (.lst (bs.map V.ref)) ∧ ChsAt cChange (cut [p] (fr H H')) bs acc ∧ bs.length = i ∧
        acc ++ Ue02.inverse txt more less (cs.drop i) = Ue02.inverse txt 0 0 cs ∧ Lie lo txt.length (cs.drop i) ∧ less ≤ lo)
      ⟨0, 0, 0, [], [], none, none, rfl, same_new hp, upd_same, trivial, rfl, rfl, hlie, Nat.le_refl _⟩ (fun i σ' H' _ ⟨_, _, _, _, _, _, _, _, s1, _⟩ => SqL.of (s1 _ _ hl)) ?_ ?_
    · rintro i x σ' H' hx ⟨lo, more, less, acc, bs, v, v', rfl, s1, hpp, hbs, hbl, e, li, hle⟩
      obtain ⟨a, ha, rfl⟩ := ref_get hx
      obtain ⟨c, hcc, hca⟩ := hc.get ha
      obtain ⟨h1, h2⟩ := List.getElem?_eq_some_iff.mp hcc
      rw [List.drop_eq_getElem_cons h1, h2] at e li
      obtain ⟨li1, li2, li3⟩ := li
      obtain ⟨la, r⟩ := (hca.mono s1).r T
      refine sl_of (val_var rfl) (s1.seq ht) (v_fd (val_var rfl) r.place) (v_add (v_fd (val_var rfl) r.place) (v_fd (val_var rfl) r.out)) fun q hq => ?_
      rw [show (c.at_ : Int) + (c.out : Int) = ((c.at_ + c.out : Nat) : Int) from rfl, cutV_nat (by rw [natV_length]; omega) (by rw [natV_length]; omega), natV_cut, show c.at_ + c.out - c.at_ = c.out by omega]
      have sq : Same H' (upd H' q (.lst (natV ((txt.drop c.at_).take c.out)))) := same_new hq
      have npq : p ≠ q := ne_of_none hpp hq
      obtain ⟨la2, r2⟩ := (hca.mono (s1.trans sq)).r T
      refine s_app (val_var rfl) (sq _ _ hpp) ?_
      refine make_of (va_cons (v_add (v_fd (val_var rfl) r2.place) (val_var rfl)) (va_cons (v_len (v_fd (val_var rfl) r2.coming) (SqL.of r2.lst)) (va_cons (val_var rfl) va_nil))) (fun _ _ _ _ => ⟨_, _, _, rfl, rfl⟩) fun y dy hy hd hn => ?_
      have npy : p ≠ y := ne_of_none (sq _ _ hpp) hy
      have npd : p ≠ dy := ne_of_none (sq _ _ hpp) hd
      have nqy : q ≠ y := ne_of_none upd_same hy
      have nqd : q ≠ dy := ne_of_none upd_same hd
      refine ⟨p, _, _, rfl, rfl, by rw [upd_ne npy, upd_ne npd]; exact sq _ _ hpp, by rw [List.length_map]; omega, ?_⟩
      have s3 : Same H' (upd (upd (upd H' q (.lst (natV ((txt.drop c.at_).take c.out)))) dy (.own y)) y (.ins cChange dy (ob nsChange [V.int ((c.at_ : Int) + ((more : Int) - (less : Int))), V.int ((natV c.in_).length : Int), V.ref q]))) :=
        same_upd (same_upd sq (sq.free hd)) (sq.free hy)
      have s4 := same_upd (o := .lst (bs.map V.ref ++ [V.ref y])) (s1.trans s3) hp
      obtain ⟨la4, r4⟩ := (hca.mono s4).r T
      refine s_aug rfl (v_sub (v_len (v_fd (val_var rfl) r4.coming) (SqL.of r4.lst)) (v_fd (val_var rfl) r4.out)) ?_
      refine ⟨c.at_ + c.out + 1, more + c.in_.length, less + c.out, acc ++ [⟨c.at_ + more - less, c.in_.length, (txt.drop c.at_).take c.out⟩], bs ++ [y], some (.ref a), some (.ref q), ?_, s4, ?_, ?_, ?_, ?_, li3, by omega⟩
      · show [_, _, _, some (V.int ((more : Int) - (less : Int) + (((natV c.in_).length : Int) - (c.out : Int)))), _, _] = _
        rw [natV_length, show (more : Int) - (less : Int) + ((c.in_.length : Int) - (c.out : Int)) = ((more + c.in_.length : Nat) : Int) - ((less + c.out : Nat) : Int) by omega]
      · rw [upd_same, List.map_append]
        rfl
      · refine ChsAt.snoc ?_ (hbs.mono ?_)
        · refine ⟨dy, q, ?_, ?_⟩
          · refine cut_get.mpr ⟨by simpa using npy.symm, fr_get.mpr ⟨s1.free (sq.free hy), ?_⟩⟩
            rw [upd_ne npy.symm, upd_same]
            unfold chF
            rw [natV_length, show (c.at_ : Int) + ((more : Int) - (less : Int)) = ((c.at_ + more - less : Nat) : Int) by omega]
          · refine cut_get.mpr ⟨by simpa using npq.symm, fr_get.mpr ⟨s1.free hq, ?_⟩⟩
            rw [upd_ne npq.symm, upd_ne nqy, upd_ne nqd, upd_same]
        · refine cut_same (fun b o hb nb => fr_get.mpr ⟨(fr_get.mp hb).1, ?_⟩) (fun b hb => .inl hb)
          rw [upd_ne (by simpa using nb)]
          exact s3 b o (fr_get.mp hb).2
      · rw [List.length_append, hbl]
        rfl
      · rw [← e, List.append_assoc]
        rfl
    · rintro σ' H' ⟨lo, more, less, acc, bs, v, v', rfl, s1, hpp, hbs, hbl, e, li, hle⟩
      rw [n1, List.drop_length] at e
      refine st_ret (val_var rfl) ?_
      refine k H' p s1 ⟨bs, fr_get.mpr ⟨hp, hpp⟩, ?_⟩
      rw [← e]
      show ChsAt cChange (fr H H') bs (acc ++ [])
      rw [List.append_nil]
      exact hbs.mono cut_sub
end
end Mk
end

section
set_option Elab.async false
set_option linter.all false
set_option maxRecDepth 100000
set_option maxHeartbeats 4000000
namespace Mk
open PySem PySem.Spec PyProof.Rows L2
section
variable {P : Program} {w : World} {K : PySem.W.Frag} {mg : Str → Option Value} {base : Heap} {cChange cStretch cStep cSession : Addr}
/-! ### read_changes -/
theorem changesIn_cons : ∀ {f : Nat} {ns : List Nat} {cs : List Ue02.Change}, Ue02Neutral.changesIn f ns = some cs → ns ≠ [] →
    ∃ (f' p o k : Nat) (l : List Nat) (rest : List Ue02.Change), ns = p :: o :: k :: l ∧ k ≤ l.length ∧ Ue02Neutral.changesIn f' (l.drop k) = some rest ∧ cs = ⟨p, o, l.take k⟩ :: rest
  | _, [], _, _, hn => absurd rfl hn
  | 0, [_], _, h, _ => by simp [Ue02Neutral.changesIn] at h
  | 0, [_, _], _, h, _ => by simp [Ue02Neutral.changesIn] at h
  | 0, _ :: _ :: _ :: _, _, h, _ => by simp [Ue02Neutral.changesIn] at h
  | f + 1, [_], _, h, _ => by simp [Ue02Neutral.changesIn] at h
  | f + 1, [_, _], _, h, _ => by simp [Ue02Neutral.changesIn] at h
  | f + 1, p :: o :: k :: l, cs, h, _ => by
    rw [Ue02Neutral.changesIn] at h
    by_cases hk : l.length < k
    · rw [if_pos hk] at h; cases h
    · rw [if_neg hk] at h
      cases e : Ue02Neutral.changesIn f (l.drop k) with
      | none => rw [e] at h; cases h
      | some rest =>
        rw [e] at h
        exact ⟨f, p, o, k, l, rest, rfl, by omega, e, (Option.some.inj h).symm⟩
theorem drop3 {ns : List Nat} {i p o k : Nat} {l : List Nat} (h : ns.drop i = p :: o :: k :: l) : ns[i]? = some p ∧ ns[i + 1]? = some o ∧ ns[i + 2]? = some k ∧ ns.drop (i + 3) = l ∧ i + 3 + l.length = ns.length := by
  have e0 : ns[i]? = (ns.drop i)[0]? := by rw [List.getElem?_drop]; rfl
  have e1 : ns[i + 1]? = (ns.drop i)[1]? := by rw [List.getElem?_drop]
  have e2 : ns[i + 2]? = (ns.drop i)[2]? := by rw [List.getElem?_drop]
  have e3 : ns.drop (i + 3) = (ns.drop i).drop 3 := by rw [List.drop_drop]
  have e4 := congrArg List.length h
  rw [List.length_drop] at e4
  simp only [List.length_cons] at e4
  refine ⟨by rw [e0, h]; rfl, by rw [e1, h]; rfl, by rw [e2, h]; rfl, by rw [e3, h]; rfl, by omega⟩
def spRead (K : PySem.W.Frag) (cChange : Addr) : Sp := fun vs H Q _ => ∃ (a : Addr) (ns : List Nat) (f : Nat) (cs : List Ue02.Change), vs = [.ref a] ∧ SqL K H a (natV ns) ∧ Ue02Neutral.changesIn f ns = some cs ∧ ns.length ≤ 100000 ∧
  ∀ (H' : Hp) (p : Addr), Same H H' → CLst cChange (fr H H') p cs → Q (.ref p) H'
theorem ok_read_changes {f : Addr} {fd : FuncData} (F : Fun K "read_changes" "read_changes" s_read_changes f fd) (T : Txt K mg cChange cStretch cStep cSession)
    (m_Change : Makes P w K mg base cChange "Change" 1 ["self", "place", "out", "coming"] (spIni cChange fChange)) : FnOk P w K mg base CX0 3 f fd ["numbers"] (spRead K cChange) := by
  refine F.ok sc_read_changes (fun vs H Q E h => ?_) (fun cdv A outer s H vs Q E hr h => ?_)
  · obtain ⟨l, t, cs, txt, rfl, _⟩ := h
    rfl
  · obtain ⟨a, ns, fu, cs, rfl, ha, hin, hz, k⟩ := h
    have nd := sc_read_changes.nd
    have hsl := sizeLine_big
    refine ⟨_, (pss_cons (ps_set (i := 1) nd rfl (Or.inl rfl) (pe_lst pa_nil))
      (pss_cons (ps_set (i := 2) nd rfl (Or.inl rfl) pe_int)
      (pss_cons (ps_while PassesOwn.never (pt_cmpR op_lt (pv 2) (pe_callB (call_lenK (K' := K) rfl) (by rfl) T.b_len PySem.boot_len (pa_cons (pv 0) pa_nil)) (nomark _))
        (pss_cons (ps_set (i := 3) nd rfl (Or.inl rfl) (pe_op op_add (pv 2) pe_int))
        (pss_cons (ps_set (i := 4) nd rfl (Or.inl rfl) (pe_op op_add (pv 3) (pe_ix (ix_listK (K' := K) rfl) (pv 0) (pe_op op_add (pv 2) pe_int) (fun _ _ => rfl))))
        (pss_cons (ps_expr (pe_bm PySem.F.plainAttrs_list PySem.F.slot_list_append PySem.F.type_list_append mt_append (pv 1) (pa_cons (pe_mk m_Change (hr.mono (by decide)) rfl (pa_cons (pe_ix (ix_listK (K' := K) rfl) (pv 0) (pv 2) (fun _ _ => rfl)) (pa_cons (pe_ix (ix_listK (K' := K) rfl) (pv 0) (pe_op op_add (pv 2) pe_int) (fun _ _ => rfl)) (pa_cons (pe_slice sl_list (pv 0) (po_some (pv 3)) (po_some (pv 4))) pa_nil)))) pa_nil)))
        (pss_one (ps_set (i := 2) nd rfl (Or.inl rfl) (pv 4)))))))
      (pss_one (ps_ret (pv 1)))))), ?_⟩
    refine ⟨Nat.zero_le _, fun p hp => ?_⟩
    refine st_set val_c ?_
    refine s_while (fun m σ' H' => ∃ (i fu : Nat) (rest acc : List Ue02.Change) (bs : List Addr) (v v' : Option V), m = ns.length - i ∧ σ' = [some (.ref a), some (.ref p), some (.int (i : Int)), v, v'] ∧ i ≤ ns.length ∧ Same H H' ∧
        H' p = some (.lst (bs.map V.ref)) ∧ ChsAt cChange (cut [p] (fr H H')) bs acc ∧ bs.length ≤ i ∧ Ue02Neutral.changesIn fu (ns.drop i) = some rest ∧ acc ++ rest = cs)
      ns.length ⟨0, fu, cs, [], [], none, none, rfl, rfl, Nat.zero_le _, same_new hp, upd_same, trivial, Nat.zero_le _, hin, rfl⟩ ?_
    rintro m σ' H' ⟨i, fu, rest, acc, bs, v, v', rfl, rfl, hi, s1, hpp, hbs, hbl, hin, e⟩
    refine ⟨_, a_test (v_lt (val_var rfl) (v_len (val_var rfl) (s1.seq ha))), fun q => ?_, fun q => ?_⟩
    · rw [natV_length] at q
      have q := of_decide_eq_true q
      obtain ⟨f', p0, o0, k0, l0, rest0, en, hk, hin0, er⟩ := changesIn_cons hin (by
        intro z
        have z := congrArg List.length z
        rw [List.length_drop] at z
        simp only [List.length_nil] at z
        omega)
      obtain ⟨d0, d1, d2, d3, d4⟩ := drop3 en
      refine st_set (v_add (val_var rfl) val_c) ?_
      refine st_set (v_add (val_var rfl) (v_ixL (n := i + 2) (val_var rfl) (v_add (val_var rfl) val_c) (s1.seq ha) rfl (natV_get d2))) ?_
      refine s_app (val_var rfl) hpp ?_
      refine (?_ : tMake _ _ _ _ _ _ _ _)
      refine v_ixL (n := i) (val_var rfl) (val_var rfl) (s1.seq ha) rfl (natV_get d0) _ ?_
      refine v_ixL (n := i + 1) (val_var rfl) (v_add (val_var rfl) val_c) (s1.seq ha) rfl (natV_get d1) _ ?_
      refine sl_of (val_var rfl) (s1.seq ha) (val_var rfl) (val_var rfl) fun q hq => ?_
      rw [show (i : Int) + 3 = ((i + 3 : Nat) : Int) from rfl, show ((i + 3 : Nat) : Int) + (k0 : Int) = ((i + 3 + k0 : Nat) : Int) from rfl, cutV_nat (by rw [natV_length]; omega) (by rw [natV_length]; omega), natV_cut, d3, show i + 3 + k0 - (i + 3) = k0 by omega]
      have sq : Same H' (upd H' q (.lst (natV (l0.take k0)))) := same_new hq
      have npq : p ≠ q := ne_of_none hpp hq
      intro y dy hy hd hn
      refine ⟨y, dy, _, _, rfl, upd_same, ⟨_, _, _, rfl, rfl⟩, rfl, ?_⟩
      rw [upd_upd]
      have npy : p ≠ y := ne_of_none (sq _ _ hpp) hy
      have npd : p ≠ dy := ne_of_none (sq _ _ hpp) hd
      have nqy : q ≠ y := ne_of_none upd_same hy
      have nqd : q ≠ dy := ne_of_none upd_same hd
      refine ⟨p, _, _, rfl, rfl, by rw [upd_ne npy, upd_ne npd]; exact sq _ _ hpp, by rw [List.length_map]; omega, ?_⟩
      have s3 : Same H' (upd (upd (upd H' q (.lst (natV (l0.take k0)))) dy (.own y)) y (.ins cChange dy (ob nsChange [V.int (p0 : Int), V.int (o0 : Int), V.ref q]))) := same_upd (same_upd sq (sq.free hd)) (sq.free hy)
      have s4 := same_upd (o := .lst (bs.map V.ref ++ [V.ref y])) (s1.trans s3) hp
      refine st_set (val_var rfl) ?_
      refine ⟨ns.length - (i + 3 + k0), by omega, i + 3 + k0, f', rest0, acc ++ [⟨p0, o0, l0.take k0⟩], bs ++ [y], some (.int ((i : Int) + 3)), some (.int ((i : Int) + 3 + (k0 : Int))), rfl, rfl, by omega, s4, ?_, ?_, by rw [List.length_append]; simp only [List.length_singleton]; omega, ?_, ?_⟩
      · rw [upd_same, List.map_append]
        rfl
      · refine ChsAt.snoc ?_ (hbs.mono ?_)
        · refine ⟨dy, q, ?_, ?_⟩
          · refine cut_get.mpr ⟨by simpa using npy.symm, fr_get.mpr ⟨s1.free (sq.free hy), ?_⟩⟩
            rw [upd_ne npy.symm, upd_same]
            rfl
          · refine cut_get.mpr ⟨by simpa using npq.symm, fr_get.mpr ⟨s1.free hq, ?_⟩⟩
            rw [upd_ne npq.symm, upd_ne nqy, upd_ne nqd, upd_same]
        · refine cut_same (fun b o hb nb => fr_get.mpr ⟨(fr_get.mp hb).1, ?_⟩) (fun b hb => .inl hb)
          rw [upd_ne (by simpa using nb)]
          exact s3 b o (fr_get.mp hb).2
      · rw [show ns.drop (i + 3 + k0) = l0.drop k0 by rw [← List.drop_drop, d3]]
        exact hin0
      · rw [← e, er, List.append_assoc]
        rfl
    · rw [natV_length] at q
      have q := of_decide_eq_false q
      have ei : i = ns.length := by omega
      subst ei
      rw [List.drop_length] at hin
      have er : rest = [] := by
        cases fu <;> exact (Option.some.inj hin).symm
      subst er
      refine ⟨_, rfl, k H' p s1 ⟨bs, fr_get.mpr ⟨hp, hpp⟩, ?_⟩⟩
      rw [← e, List.append_nil]
      exact hbs.mono cut_sub
/-! ### are_bytes, is_gone -/
def spBytes (K : PySem.W.Frag) : Sp := fun vs H Q _ => ∃ (a : Addr) (ns : List Nat), vs = [.ref a] ∧ SqL K H a (natV ns) ∧ ns.length ≤ 100000 ∧ ∀ H', Same H H' → Q (.bl (Ue02.isBytes ns)) H'
theorem ok_are_bytes {f : Addr} {fd : FuncData} (F : Fun K "are_bytes" "are_bytes" s_are_bytes f fd) (T : Txt K mg cChange cStretch cStep cSession) : FnOk P w K mg base CX0 1 f fd ["numbers"] (spBytes K) := by
  refine F.ok sc_are_bytes (fun vs H Q E h => ?_) (fun cdv A outer s H vs Q E hr h => ?_)
  · obtain ⟨a, ns, rfl, _⟩ := h
    rfl
  · obtain ⟨a, ns, rfl, ha, hz, k⟩ := h
    have nd := sc_are_bytes.nd
    have hsl := sizeLine_big
    refine ⟨_, (pss_one (ps_ret (pe_callB (cr_all rfl) (by rfl) T.b_all (by decide +kernel) (pa_cons (pe_lc (own := [("number", 1)]) (g := gName 1) (tt := tYes) rfl nd (pi_list (pv 0)) (blkOk_by (N := N_are_bytes) (sc := defScope s_are_bytes) (by decide +kernel)) (fun _ _ _ _ _ => pg_name (i := 1) nd rfl (Or.inl rfl)) (fun _ _ _ _ _ => by exact pts_nil) (fun _ _ _ _ _ => by exact (pe_cmpR op_le (pv 1) (pe_gi rfl T.g_HIGHEST_BYTE) (nomark _)))) pa_nil)))), ?_⟩
    refine cb1 ?_
    refine lc_ev (val_var rfl) ha (ys := (ns.map fun (n : Nat) => decide (n ≤ 255)).map V.bl) (by rw [List.length_map, List.length_map, natV_length]) (by rw [natV_length]; omega) (fun i x y H' hx hy s1 => ?_) (fun D H' hD s1 hl' => ?_)
    · unfold natV at hx
      rw [List.getElem?_map] at hx
      rw [List.getElem?_map, List.getElem?_map] at hy
      cases e : ns[i]? with
      | none => rw [e] at hx; cases hx
      | some n =>
        rw [e] at hx hy
        have ex : V.int (n : Int) = x := Option.some.inj hx
        have ey : V.bl (decide (n ≤ 255)) = y := Option.some.inj hy
        subst ex ey
        refine Val.s (v_is (v_le (val_var rfl) val_c) ?_)
        congr 1
        rw [Bool.eq_iff_iff]
        simp only [decide_eq_true_eq]
        omega
    · refine ⟨D, _, rfl, SqL.of hl', ?_⟩
      have e : (ns.map fun (n : Nat) => decide (n ≤ 255)).all id = Ue02.isBytes ns := by
        unfold Ue02.isBytes
        rw [List.all_map]
        rfl
      rw [e]
      exact k H' s1
def spGone : Sp := fun vs H Q _ => ∃ (v : Bool) (x y : Nat), vs = [.int (b2n v : Int), .int (x : Int), .int (y : Int)] ∧ Q (.bl (v && x == y)) H
theorem ok_is_gone {f : Addr} {fd : FuncData} (F : Fun K "is_gone" "is_gone" s_is_gone f fd) (T : Txt K mg cChange cStretch cStep cSession) : FnOk P w K mg base CX0 1 f fd ["vanishes", "begin", "end"] spGone := by
  refine F.ok sc_is_gone (fun vs H Q E h => ?_) (fun cdv A outer s H vs Q E hr h => ?_)
  · obtain ⟨v, x, y, rfl, _⟩ := h
    rfl
  · obtain ⟨v, x, y, rfl, k⟩ := h
    have nd := sc_is_gone.nd
    refine ⟨_, (pss_one (ps_ret (pe_and (pe_cmpR op_eq (pv 0) pe_int (nomark _)) (pe_one (pe_cmpR op_eq (pv 1) (pv 2) (nomark _)))))), ?_⟩
    refine st_ret (v_is (v_and (v_eqI (val_var rfl) val_c) fun _ => v_eqI (val_var rfl) (val_var rfl)) ?_) k
    congr 1
    rw [Bool.eq_iff_iff]
    cases v <;> simp [b2n] <;> omega
/-! ### a stretch -/
abbrev nsStretch : List Str := ["number", "begin", "end", "lean_begin", "lean_end", "vanishes", "rank", "value", "vanished", "turn"]
def stV (s : Ue02.Stretch) : List V := [.int (s.number : Int), .int (s.a : Int), .int (s.b : Int), .int (b2n s.leanA : Int), .int (b2n s.leanB : Int), .int (b2n s.vanish : Int), .int (s.rank : Int), .int (s.value : Int), .bl s.gone, .int (s.stamp : Int)]
def fStretch : Hp → List V → List (Str × V) → Prop := fun H ws fs => ∃ n l x0 x1 x2 x3 x4 x5 x6 t, ws = [n, .ref l, t] ∧ H l = some (.lst [x0, x1, x2, x3, x4, x5, x6]) ∧ fs = ob nsStretch [n, x0, x1, x2, x3, x4, x5, x6, .bl false, t]
theorem ok_Stretch_init {f : Addr} {fd : FuncData} (F : Fun K "__init__" "Stretch.__init__" s_Stretch_init f fd) (T : Txt K mg cChange cStretch cStep cSession) : FnOk P w K mg base CX0 1 f fd ["self", "number", "told", "turn"] (spIni cStretch fStretch) := by
  refine F.ok sc_Stretch_init (fun vs H Q E h => ?_) (fun cdv A outer s H vs Q E hr h => ?_)
  · obtain ⟨p, dx, ws, fs, rfl, _, ⟨n, l, x0, x1, x2, x3, x4, x5, x6, t, rfl, _, rfl⟩, _⟩ := h
    rfl
  · obtain ⟨p, dx, ws, fs, rfl, hp, ⟨n, l, x0, x1, x2, x3, x4, x5, x6, t, rfl, hl, rfl⟩, k⟩ := h
    have nd := sc_Stretch_init.nd
    have np : l ≠ p := ne_of hl hp (by intro q; cases q)
    refine ⟨_, (pss_cons (ps_fld (pv 0) (pv 1) rfl)
      (pss_cons (ps_fld (pv 0) (pe_ix (ix_listK (K' := K) rfl) (pv 2) pe_int (fun _ _ => rfl)) rfl)
      (pss_cons (ps_fld (pv 0) (pe_ix (ix_listK (K' := K) rfl) (pv 2) pe_int (fun _ _ => rfl)) rfl)
      (pss_cons (ps_fld (pv 0) (pe_ix (ix_listK (K' := K) rfl) (pv 2) pe_int (fun _ _ => rfl)) rfl)
      (pss_cons (ps_fld (pv 0) (pe_ix (ix_listK (K' := K) rfl) (pv 2) pe_int (fun _ _ => rfl)) rfl)
      (pss_cons (ps_fld (pv 0) (pe_ix (ix_listK (K' := K) rfl) (pv 2) pe_int (fun _ _ => rfl)) rfl)
      (pss_cons (ps_fld (pv 0) (pe_ix (ix_listK (K' := K) rfl) (pv 2) pe_int (fun _ _ => rfl)) rfl)
      (pss_cons (ps_fld (pv 0) (pe_ix (ix_listK (K' := K) rfl) (pv 2) pe_int (fun _ _ => rfl)) rfl)
      (pss_cons (ps_fld (pv 0) pe_bl rfl)
      (pss_one (ps_fld (pv 0) (pv 3) rfl))))))))))), ?_⟩
    refine s_new (ns := []) (vs := []) (val_var rfl) (val_var rfl) hp T.cl_Stretch T.n_Stretch_number rfl rfl (by decide) ?_
    refine s_new (v_ixL (n := 0) (val_var rfl) val_c (SqL.of ((upd_ne np).trans hl)) rfl rfl) (val_var rfl) upd_same T.cl_Stretch T.n_Stretch_begin (by decide +kernel) rfl (by decide) ?_
    rw [upd_upd]
    refine s_new (v_ixL (n := 1) (val_var rfl) val_c (SqL.of ((upd_ne np).trans hl)) rfl rfl) (val_var rfl) upd_same T.cl_Stretch T.n_Stretch_end (by decide +kernel) rfl (by decide) ?_
    rw [upd_upd]
    refine s_new (v_ixL (n := 2) (val_var rfl) val_c (SqL.of ((upd_ne np).trans hl)) rfl rfl) (val_var rfl) upd_same T.cl_Stretch T.n_Stretch_lean_begin (by decide +kernel) rfl (by decide) ?_
    rw [upd_upd]
    refine s_new (v_ixL (n := 3) (val_var rfl) val_c (SqL.of ((upd_ne np).trans hl)) rfl rfl) (val_var rfl) upd_same T.cl_Stretch T.n_Stretch_lean_end (by decide +kernel) rfl (by decide) ?_
    rw [upd_upd]
    refine s_new (v_ixL (n := 4) (val_var rfl) val_c (SqL.of ((upd_ne np).trans hl)) rfl rfl) (val_var rfl) upd_same T.cl_Stretch T.n_Stretch_vanishes (by decide +kernel) rfl (by decide) ?_
    rw [upd_upd]
    refine s_new (v_ixL (n := 5) (val_var rfl) val_c (SqL.of ((upd_ne np).trans hl)) rfl rfl) (val_var rfl) upd_same T.cl_Stretch T.n_Stretch_rank (by decide +kernel) rfl (by decide) ?_
    rw [upd_upd]
    refine s_new (v_ixL (n := 6) (val_var rfl) val_c (SqL.of ((upd_ne np).trans hl)) rfl rfl) (val_var rfl) upd_same T.cl_Stretch T.n_Stretch_value (by decide +kernel) rfl (by decide) ?_
    rw [upd_upd]
    refine s_new val_c (val_var rfl) upd_same T.cl_Stretch T.n_Stretch_vanished (by decide +kernel) rfl (by decide) ?_
    rw [upd_upd]
    refine s_new (val_var rfl) (val_var rfl) upd_same T.cl_Stretch T.n_Stretch_turn (by decide +kernel) rfl (by decide) ?_
    rw [upd_upd]
    exact k
end
end Mk
end

section
set_option Elab.async false
set_option linter.all false
set_option maxRecDepth 100000
set_option maxHeartbeats 4000000
namespace Mk
open PySem PySem.Spec PyProof.Rows L2
section
variable {P : Program} {w : World} {K : PySem.W.Frag} {mg : Str → Option Value} {base : Heap} {cChange cStretch cStep cSession : Addr}
theorem upd_id {H : Hp} {a : Addr} {o : HO} (h : H a = some o) : upd H a o = H := by
  funext b
  unfold upd
  by_cases e : b = a
  · rw [if_pos e, e, h]
  · rw [if_neg e]
theorem v_isN {σ : L2.St} {H : Hp} {ta : TE} {v : V} (h : Val ta σ H v) : Val (tIsN ta) σ H (.bl (decide (v = .non))) := fun Q q => h _ q
theorem v_max {σ : L2.St} {H : Hp} {ta tb : TE} {i j : Int} (ha : Val ta σ H (.int i)) (hb : Val tb σ H (.int j)) : Val (tCB (fun xs H Q => ∃ i j, xs = [.int i, .int j] ∧ Q (.int (if j > i then j else i)) H) (tCons ta (tCons tb tNil))) σ H (.int (if j > i then j else i)) := fun Q q => ha _ (hb _ ⟨i, j, rfl, q⟩)
theorem tup_of {σ : L2.St} {H : Hp} {t : TA} {vs : List V} {Q : VK} (hA : ValA t σ H vs) (hz : vs.length ≤ sizeLine) (k : ∀ p, H p = none → Q (.ref p) (upd H p (.tup vs))) : tTup t σ H Q := hA _ ⟨hz, k⟩
theorem lst_of {σ : L2.St} {H : Hp} {t : TA} {vs : List V} {Q : VK} (hA : ValA t σ H vs) (hz : vs.length ≤ sizeLine) (k : ∀ p, H p = none → Q (.ref p) (upd H p (.lst vs))) : tLst t σ H Q := hA _ ⟨hz, k⟩
/-- a stretch's values, read -/
structure StR (K : PySem.W.Frag) (H : Hp) (a : Addr) (s : Ue02.Stretch) : Prop where
  number : Fd K H a "number" (.int (s.number : Int))
  begin_ : Fd K H a "begin" (.int (s.a : Int))
  end_ : Fd K H a "end" (.int (s.b : Int))
  leanA : Fd K H a "lean_begin" (.int (b2n s.leanA : Int))
  leanB : Fd K H a "lean_end" (.int (b2n s.leanB : Int))
  van : Fd K H a "vanishes" (.int (b2n s.vanish : Int))
  rank : Fd K H a "rank" (.int (s.rank : Int))
  value : Fd K H a "value" (.int (s.value : Int))
  gone : Fd K H a "vanished" (.bl s.gone)
  turn : Fd K H a "turn" (.int (s.stamp : Int))
theorem st_r (T : Txt K mg cChange cStretch cStep cSession) {H : Hp} {a dx : Addr} {s : Ue02.Stretch} (h : H a = some (.ins cStretch dx (ob nsStretch (stV s)))) : StR K H a s :=
  ⟨fd_ob h T.cl_Stretch T.n_Stretch_number (i := 0) (by decide +kernel) rfl, fd_ob h T.cl_Stretch T.n_Stretch_begin (i := 1) (by decide +kernel) rfl, fd_ob h T.cl_Stretch T.n_Stretch_end (i := 2) (by decide +kernel) rfl, fd_ob h T.cl_Stretch T.n_Stretch_lean_begin (i := 3) (by decide +kernel) rfl,
   fd_ob h T.cl_Stretch T.n_Stretch_lean_end (i := 4) (by decide +kernel) rfl, fd_ob h T.cl_Stretch T.n_Stretch_vanishes (i := 5) (by decide +kernel) rfl, fd_ob h T.cl_Stretch T.n_Stretch_rank (i := 6) (by decide +kernel) rfl,
   fd_ob h T.cl_Stretch T.n_Stretch_value (i := 7) (by decide +kernel) rfl, fd_ob h T.cl_Stretch T.n_Stretch_vanished (i := 8) (by decide +kernel) rfl, fd_ob h T.cl_Stretch T.n_Stretch_turn (i := 9) (by decide +kernel) rfl⟩
/-! ### Stretch.go_with -/
def spWith (cChange cStretch : Addr) : Sp := fun vs H Q _ => ∃ (a dx l : Addr) (s : Ue02.Stretch) (cs : List Ue02.Change), vs = [.ref a, .ref l] ∧ H a = some (.ins cStretch dx (ob nsStretch (stV s))) ∧ CLst cChange H l cs ∧
  Q (.bl (!s.gone && (Ue02.moved cs s).gone)) (upd H a (.ins cStretch dx (ob nsStretch (stV (Ue02.moved cs s)))))
theorem max_cast {x y : Nat} : (if (y : Int) > (x : Int) then (y : Int) else (x : Int)) = ((max x y : Nat) : Int) := by
  by_cases h : (y : Int) > (x : Int)
  · rw [if_pos h]; omega
  · rw [if_neg h]; omega
theorem ok_Stretch_go_with {f : Addr} {fd : FuncData} (F : Fun K "go_with" "Stretch.go_with" s_Stretch_go_with f fd) (T : Txt K mg cChange cStretch cStep cSession)
    (c_end_behind : Calls P w K mg base "end_behind" 2 ["changes", "end", "lean"] (spEnd cChange)) (c_is_gone : Calls P w K mg base "is_gone" 1 ["vanishes", "begin", "end"] spGone) :
    FnOk P w K mg base CX0 3 f fd ["self", "changes"] (spWith cChange cStretch) := by
  refine F.ok sc_Stretch_go_with (fun vs H Q E h => ?_) (fun cdv A outer s H vs Q E hr h => ?_)
  · obtain ⟨a, dx, l, s, cs, rfl, _⟩ := h
    rfl
  · obtain ⟨a, dx, l, s, cs, rfl, ha, hl, k⟩ := h
    have nd := sc_Stretch_go_with.nd
    refine ⟨_, (pss_cons (ps_if (pt_val (pe_fldK (K' := K) rfl (pv 0) rfl))
        (pss_one (ps_ret pe_bl))
        pss_nil)
      (pss_cons (ps_set (i := 2) nd rfl (Or.inl rfl) (pe_cl c_end_behind (hr.mono (by decide)) rfl (pa_cons (pv 1) (pa_cons (pe_fldK (K' := K) rfl (pv 0) rfl) (pa_cons (pe_fldK (K' := K) rfl (pv 0) rfl) pa_nil)))))
      (pss_cons (ps_set (i := 3) nd rfl (Or.inl rfl) (pe_cl c_end_behind (hr.mono (by decide)) rfl (pa_cons (pv 1) (pa_cons (pe_fldK (K' := K) rfl (pv 0) rfl) (pa_cons (pe_fldK (K' := K) rfl (pv 0) rfl) pa_nil)))))
      (pss_cons (ps_fld (pv 0) (pv 2) rfl)
      (pss_cons (ps_fld (pv 0) (pe_callB (call_max2 rfl) (by rfl) T.b_max (by decide +kernel) (pa_cons (pv 2) (pa_cons (pv 3) pa_nil))) rfl)
      (pss_cons (ps_fld (pv 0) (pe_cl c_is_gone (hr.mono (by decide)) rfl (pa_cons (pe_fldK (K' := K) rfl (pv 0) rfl) (pa_cons (pe_fldK (K' := K) rfl (pv 0) rfl) (pa_cons (pe_fldK (K' := K) rfl (pv 0) rfl) pa_nil)))) rfl)
      (pss_one (ps_ret (pe_fldK (K' := K) rfl (pv 0) rfl))))))))), ?_⟩
    have r := st_r T ha
    refine s_ite (a_val (v_fd (val_var rfl) r.gone)) (fun e => ?_) (fun e => ?_)
    · refine st_ret val_c ?_
      have q : Ue02.moved cs s = s := if_pos e
      rw [q, upd_id ha, e] at k
      exact k
    have q : Ue02.moved cs s = { s with a := Ue02.places cs s.leanA s.a, b := max (Ue02.places cs s.leanA s.a) (Ue02.places cs s.leanB s.b), gone := s.vanish && Ue02.places cs s.leanA s.a == max (Ue02.places cs s.leanA s.a) (Ue02.places cs s.leanB s.b) } :=
      if_neg (by rw [e]; decide)
    rw [q, e] at k
    refine call_of (va_cons (val_var rfl) (va_cons (v_fd (val_var rfl) r.begin_) (va_cons (v_fd (val_var rfl) r.leanA) va_nil))) ⟨l, cs, s.a, s.leanA, rfl, hl, ?_⟩
    refine call_of (va_cons (val_var rfl) (va_cons (v_fd (val_var rfl) r.end_) (va_cons (v_fd (val_var rfl) r.leanB) va_nil))) ⟨l, cs, s.b, s.leanB, rfl, hl, ?_⟩
    generalize Ue02.places cs s.leanA s.a = x at k ⊢
    generalize Ue02.places cs s.leanB s.b = y at k ⊢
    refine s_put (val_var rfl) (val_var rfl) ha T.cl_Stretch T.n_Stretch_begin (i := 1) (by decide +kernel) rfl (by decide) ?_
    refine s_put (v_max (val_var rfl) (val_var rfl)) (val_var rfl) upd_same T.cl_Stretch T.n_Stretch_end (i := 2) (by decide +kernel) rfl (by decide) ?_
    rw [upd_upd, max_cast]
    have r2 : StR K (upd H a (.ins cStretch dx (ob nsStretch (stV { s with a := x, b := max x y })))) a { s with a := x, b := max x y } := st_r T upd_same
    refine call_of (va_cons (v_fd (val_var rfl) r2.van) (va_cons (v_fd (val_var rfl) r2.begin_) (va_cons (v_fd (val_var rfl) r2.end_) va_nil))) ⟨s.vanish, x, max x y, rfl, ?_⟩
    refine s_put (tv := tC (.bl (s.vanish && x == max x y))) val_c (val_var rfl) upd_same T.cl_Stretch T.n_Stretch_vanished (i := 8) (by decide +kernel) rfl (by decide) ?_
    rw [upd_upd]
    have r3 : StR K (upd H a (.ins cStretch dx (ob nsStretch (stV { s with a := x, b := max x y, gone := s.vanish && x == max x y })))) a { s with a := x, b := max x y, gone := s.vanish && x == max x y } := st_r T upd_same
    refine st_ret (v_fd (val_var rfl) r3.gone) ?_
    exact k
/-! ### Stretch.state -/
def snap (s : Ue02.Stretch) : List V := [.int (s.stamp : Int), .int (s.a : Int), .int (s.b : Int), .bl s.gone]
def spState (cStretch : Addr) : Sp := fun vs H Q _ => ∃ (a dx : Addr) (s : Ue02.Stretch), vs = [.ref a] ∧ H a = some (.ins cStretch dx (ob nsStretch (stV s))) ∧ ∀ p, H p = none → Q (.ref p) (upd H p (.tup (snap s)))
theorem ok_Stretch_state {f : Addr} {fd : FuncData} (F : Fun K "state" "Stretch.state" s_Stretch_state f fd) (T : Txt K mg cChange cStretch cStep cSession) : FnOk P w K mg base CX0 1 f fd ["self"] (spState cStretch) := by
  refine F.ok sc_Stretch_state (fun vs H Q E h => ?_) (fun cdv A outer s H vs Q E hr h => ?_)
  · obtain ⟨a, dx, s, rfl, _⟩ := h
    rfl
  · obtain ⟨a, dx, s, rfl, ha, k⟩ := h
    have nd := sc_Stretch_state.nd
    have r := st_r T ha
    refine ⟨_, (pss_one (ps_ret (pe_tup (pa_cons (pe_fldK (K' := K) rfl (pv 0) rfl) (pa_cons (pe_fldK (K' := K) rfl (pv 0) rfl) (pa_cons (pe_fldK (K' := K) rfl (pv 0) rfl) (pa_cons (pe_fldK (K' := K) rfl (pv 0) rfl) pa_nil))))))), ?_⟩
    refine tup_of (va_cons (v_fd (val_var rfl) r.turn) (va_cons (v_fd (val_var rfl) r.begin_) (va_cons (v_fd (val_var rfl) r.end_) (va_cons (v_fd (val_var rfl) r.gone) va_nil)))) (by show 4 ≤ sizeLine; decide) ?_
    exact k
/-! ### Stretch.go_back -/
def backTo (o : Option (Nat × Nat × Nat × Bool)) (cs : List Ue02.Change) (s : Ue02.Stretch) : Ue02.Stretch := match o with
  | none => Ue02.moved cs s
  | some (k, x, y, g) => if k = s.stamp then { s with a := x, b := y, gone := g } else Ue02.moved cs s
def snapV (H : Hp) : V → Option (Nat × Nat × Nat × Bool) → Prop
  | v, none => v = .non
  | v, some (k, x, y, g) => ∃ t, v = .ref t ∧ H t = some (.tup [.int (k : Int), .int (x : Int), .int (y : Int), .bl g])
def spGoBack (cChange cStretch : Addr) : Sp := fun vs H Q _ => ∃ (a dx l : Addr) (v : V) (o : Option (Nat × Nat × Nat × Bool)) (s : Ue02.Stretch) (cs : List Ue02.Change), vs = [.ref a, v, .ref l] ∧ H a = some (.ins cStretch dx (ob nsStretch (stV s))) ∧ CLst cChange H l cs ∧ snapV H v o ∧
  Q .non (upd H a (.ins cStretch dx (ob nsStretch (stV (backTo o cs s)))))
theorem ok_Stretch_go_back {f : Addr} {fd : FuncData} (F : Fun K "go_back" "Stretch.go_back" s_Stretch_go_back f fd) (T : Txt K mg cChange cStretch cStep cSession)
    (meth_Stretch_go_with : Meths P w K mg base cStretch "go_with" 3 ["self", "changes"] (spWith cChange cStretch)) :
    FnOk P w K mg base CX0 4 f fd ["self", "state", "changes"] (spGoBack cChange cStretch) := by
  refine F.ok sc_Stretch_go_back (fun vs H Q E h => ?_) (fun cdv A outer s H vs Q E hr h => ?_)
  · obtain ⟨a, dx, l, v, o, s, cs, rfl, _⟩ := h
    rfl
  · obtain ⟨a, dx, l, v, o, s, cs, rfl, ha, hl, hv, k⟩ := h
    have nd := sc_Stretch_go_back.nd
    have r := st_r T ha
    refine ⟨_, (pss_cons (ps_if (PW.pt (pw_or (pt_cmp (pc_isN (pv 1))) (pw_or1 (pt_cmpR op_ne (pe_ix (ix_tupK (K' := K) rfl) (pv 1) pe_int (fun _ _ => rfl)) (pe_fldK (K' := K) rfl (pv 0) rfl) (nomark _)))))
        (pss_cons (ps_expr (pe_mt meth_Stretch_go_with (pv 0) (hr.mono (by decide)) (pa_cons (pv 2) pa_nil)))
        (pss_one ps_retN))
        pss_nil)
      (pss_cons (ps_fld (pv 0) (pe_ix (ix_tupK (K' := K) rfl) (pv 1) pe_int (fun _ _ => rfl)) rfl)
      (pss_cons (ps_fld (pv 0) (pe_ix (ix_tupK (K' := K) rfl) (pv 1) pe_int (fun _ _ => rfl)) rfl)
      (pss_one (ps_fld (pv 0) (pe_ix (ix_tupK (K' := K) rfl) (pv 1) pe_int (fun _ _ => rfl)) rfl))))), ?_⟩
    have go : backTo o cs s = Ue02.moved cs s → tMeth cStretch "go_with" (spWith cChange cStretch) [] E0 (tVar 0) (tCons (tVar 2) tNil) (start ["self", "state", "changes"] [.ref a, v, .ref l]) H (fun _ H1 => Q .non H1) := by
      intro e
      refine meth_of (val_var rfl) ha (ob_no (by decide +kernel)) (va_cons (val_var rfl) va_nil) ⟨a, dx, l, s, cs, rfl, ha, hl, ?_⟩
      rw [e] at k
      exact k
    match o, hv with
    | none, hv =>
      have hv : v = .non := hv
      subst hv
      refine s_ite (b := true) (ans_or1 (a_val (v_is (v_isN (val_var rfl)) rfl))) (fun _ => ?_) (fun e => by cases e)
      exact go rfl
    | some (k0, x, y, g), ⟨t, e, ht⟩ =>
      subst e
      refine s_ite (b := !decide ((k0 : Int) = (s.stamp : Int))) (ans_or (a_val (v_is (v_isN (val_var rfl)) rfl)) (a_test (v_neI (v_ixT (n := 0) (val_var rfl) val_c (SqT.of ht) rfl rfl) (v_fd (val_var rfl) r.turn)))) (fun e => ?_) (fun e => ?_)
      · refine go (if_neg ?_)
        simp at e
        omega
      · have hk : k0 = s.stamp := by
          simp at e
          omega
        have eb : backTo (some (k0, x, y, g)) cs s = { s with a := x, b := y, gone := g } := if_pos hk
        rw [eb] at k
        have nt : t ≠ a := ne_of ht ha (by intro q; cases q)
        refine s_put (v_ixT (n := 1) (val_var rfl) val_c (SqT.of ht) rfl rfl) (val_var rfl) ha T.cl_Stretch T.n_Stretch_begin (i := 1) (by decide +kernel) rfl (by decide) ?_
        refine s_put (v_ixT (n := 2) (val_var rfl) val_c (SqT.of ((upd_ne nt).trans ht)) rfl rfl) (val_var rfl) upd_same T.cl_Stretch T.n_Stretch_end (i := 2) (by decide +kernel) rfl (by decide) ?_
        rw [upd_upd]
        refine s_put (v_ixT (n := 3) (val_var rfl) val_c (SqT.of ((upd_ne nt).trans ht)) rfl rfl) (val_var rfl) upd_same T.cl_Stretch T.n_Stretch_vanished (i := 8) (by decide +kernel) rfl (by decide) ?_
        rw [upd_upd]
        exact k
/-! ### Step.__init__ -/
abbrev nsStep : List Str := ["changes", "back", "states"]
def fStep : Hp → List V → List (Str × V) → Prop := fun _ ws fs => ∃ x y z, ws = [x, y, z] ∧ fs = ob nsStep [x, y, z]
theorem ok_Step_init {f : Addr} {fd : FuncData} (F : Fun K "__init__" "Step.__init__" s_Step_init f fd) (T : Txt K mg cChange cStretch cStep cSession) : FnOk P w K mg base CX0 1 f fd ["self", "changes", "back", "states"] (spIni cStep fStep) := by
  refine F.ok sc_Step_init (fun vs H Q E h => ?_) (fun cdv A outer s H vs Q E hr h => ?_)
  · obtain ⟨p, dx, ws, fs, rfl, _, ⟨x, y, z, rfl, rfl⟩, _⟩ := h
    rfl
  · obtain ⟨p, dx, ws, fs, rfl, hp, ⟨x, y, z, rfl, rfl⟩, k⟩ := h
    have nd := sc_Step_init.nd
    refine ⟨_, (pss_cons (ps_fld (pv 0) (pv 1) rfl)
      (pss_cons (ps_fld (pv 0) (pv 2) rfl)
      (pss_one (ps_fld (pv 0) (pv 3) rfl)))), ?_⟩
    refine s_new (ns := []) (vs := []) (val_var rfl) (val_var rfl) hp T.cl_Step T.n_Step_changes rfl rfl (by decide) ?_
    refine s_new (val_var rfl) (val_var rfl) upd_same T.cl_Step T.n_Step_back (by decide +kernel) rfl (by decide) ?_
    refine s_new (val_var rfl) (val_var rfl) upd_same T.cl_Step T.n_Step_states (by decide +kernel) rfl (by decide) ?_
    rw [upd_upd, upd_upd]
    exact k
end
end Mk
end

section
set_option Elab.async false
set_option linter.all false
set_option maxRecDepth 100000
set_option maxHeartbeats 4000000
namespace Mk
open PySem PySem.Spec PyProof.Rows L2
/-! ### rows of addresses and what stands there -/
structure All2 {α : Type} (R : Addr → α → Prop) (as : List Addr) (xs : List α) : Prop where
  len : as.length = xs.length
  at_ : ∀ (i : Nat) a x, as[i]? = some a → xs[i]? = some x → R a x
section
variable {α : Type} {R S : Addr → α → Prop} {as : List Addr} {xs : List α} {a : Addr} {x : α}
theorem All2.nil : All2 R [] ([] : List α) := ⟨rfl, fun i a x h _ => by simp at h⟩
theorem All2.imp (h : All2 R as xs) (k : ∀ a x, a ∈ as → x ∈ xs → R a x → S a x) : All2 S as xs := ⟨h.len, fun i a x ha hx => k a x (List.mem_of_getElem? ha) (List.mem_of_getElem? hx) (h.at_ i a x ha hx)⟩
theorem All2.cons (h : All2 R as xs) (r : R a x) : All2 R (a :: as) (x :: xs) := ⟨by rw [List.length_cons, List.length_cons, h.len], fun i b y hb hy => by
  cases i with
  | zero =>
    have e1 : a = b := Option.some.inj hb
    have e2 : x = y := Option.some.inj hy
    subst e1 e2
    exact r
  | succ i => exact h.at_ i b y hb hy⟩
theorem All2.head (h : All2 R (a :: as) (x :: xs)) : R a x := h.at_ 0 a x rfl rfl
theorem All2.tail (h : All2 R (a :: as) (x :: xs)) : All2 R as xs := ⟨by have := h.len; simpa using this, fun i b y hb hy => h.at_ (i + 1) b y hb hy⟩
theorem All2.snoc (h : All2 R as xs) (r : R a x) : All2 R (as ++ [a]) (xs ++ [x]) := ⟨by rw [List.length_append, List.length_append, h.len]; rfl, fun i b y hb hy => by
  have hl := h.len
  by_cases hi : i < as.length
  · rw [List.getElem?_append_left hi] at hb
    rw [List.getElem?_append_left (by omega)] at hy
    exact h.at_ i b y hb hy
  · rw [List.getElem?_append_right (by omega)] at hb
    rw [List.getElem?_append_right (by omega), ← hl] at hy
    cases q : i - as.length with
    | zero =>
      rw [q] at hb hy
      have e1 : a = b := Option.some.inj hb
      have e2 : x = y := Option.some.inj hy
      subst e1 e2
      exact r
    | succ j => rw [q] at hb; simp at hb⟩
theorem All2.get (h : All2 R as xs) {i : Nat} (hx : xs[i]? = some x) : ∃ a, as[i]? = some a ∧ R a x := by
  obtain ⟨h1, _⟩ := List.getElem?_eq_some_iff.mp hx
  have h2 : i < as.length := by rw [h.len]; exact h1
  exact ⟨as[i], List.getElem?_eq_getElem h2, h.at_ i _ x (List.getElem?_eq_getElem h2) hx⟩
theorem All2.cons_inv (h : All2 R as (x :: xs)) : ∃ b bs, as = b :: bs ∧ R b x ∧ All2 R bs xs := by
  cases as with
  | nil => have := h.len; simp at this
  | cons b bs => exact ⟨b, bs, rfl, h.head, h.tail⟩
theorem All2.nil_inv (h : All2 R as ([] : List α)) : as = [] := List.eq_nil_of_length_eq_zero h.len
end
/-! ### dicts by the stretches' numbers -/
def kvs : List Ue02.Stretch → List Addr → List (L2.Key × V)
  | s :: ms, a :: as => (Sum.inl (s.number : Int), V.ref a) :: kvs ms as
  | _, _ => []
theorem kvs_length : ∀ {ms : List Ue02.Stretch} {as : List Addr}, as.length = ms.length → (kvs ms as).length = ms.length
  | [], [], _ => rfl
  | [], _ :: _, h => by simp at h
  | _ :: _, [], h => by simp at h
  | s :: ms, a :: as, h => by
    show (kvs ms as).length + 1 = ms.length + 1
    rw [kvs_length (by simpa using h)]
theorem kvs_get : ∀ {ms : List Ue02.Stretch} {as : List Addr} {i : Nat} {k : L2.Key} {v : V}, (kvs ms as)[i]? = some (k, v) → ∃ s a, ms[i]? = some s ∧ as[i]? = some a ∧ k = Sum.inl (s.number : Int) ∧ v = .ref a
  | [], _, i, k, v, h => by simp [kvs] at h
  | _ :: _, [], i, k, v, h => by simp [kvs] at h
  | s :: ms, a :: as, 0, k, v, h => by
    have e : (Sum.inl (s.number : Int), V.ref a) = (k, v) := Option.some.inj h
    cases e
    exact ⟨s, a, rfl, rfl, rfl, rfl⟩
  | s :: ms, a :: as, i + 1, k, v, h => kvs_get (ms := ms) (as := as) (i := i) h
theorem kvs_snoc {s : Ue02.Stretch} {a : Addr} : ∀ {ms : List Ue02.Stretch} {as : List Addr}, as.length = ms.length → kvs (ms ++ [s]) (as ++ [a]) = kvs ms as ++ [(Sum.inl (s.number : Int), V.ref a)]
  | [], [], _ => rfl
  | [], _ :: _, h => by simp at h
  | _ :: _, [], h => by simp at h
  | s :: ms, a :: as, h => by
    show _ :: kvs (ms ++ _) (as ++ _) = _ :: (kvs ms as ++ _)
    rw [kvs_snoc (by simpa using h)]
theorem kvs_none {n : Nat} : ∀ {ms : List Ue02.Stretch} {as : List Addr}, (∀ s ∈ ms, s.number ≠ n) → valV (kvs ms as) (Sum.inl (n : Int)) = none
  | [], _, _ => rfl
  | _ :: _, [], _ => rfl
  | s :: ms, a :: as, h => by
    rw [kvs, valV_neg (by intro e; exact h s List.mem_cons_self (by have e : (s.number : Int) = (n : Int) := Sum.inl.inj e; omega))]
    exact kvs_none fun x hx => h x (List.mem_cons_of_mem _ hx)
theorem kvs_some : ∀ {ms : List Ue02.Stretch} {as : List Addr} {i : Nat} {s : Ue02.Stretch} {a : Addr}, (ms.map (·.number)).Nodup → ms[i]? = some s → as[i]? = some a → valV (kvs ms as) (Sum.inl (s.number : Int)) = some (.ref a)
  | [], _, i, s, a, _, h, _ => by simp at h
  | _ :: _, [], i, s, a, _, _, h => by simp at h
  | s0 :: ms, a0 :: as, 0, s, a, _, h1, h2 => by
    have e1 : s0 = s := Option.some.inj h1
    have e2 : a0 = a := Option.some.inj h2
    subst e1 e2
    exact valV_pos rfl
  | s0 :: ms, a0 :: as, i + 1, s, a, nd, h1, h2 => by
    rw [List.map_cons, List.nodup_cons] at nd
    rw [kvs, valV_neg (by
      intro e
      have e : (s0.number : Int) = (s.number : Int) := Sum.inl.inj e
      exact nd.1 (List.mem_map.mpr ⟨s, List.mem_of_getElem? h1, by omega⟩))]
    exact kvs_some nd.2 h1 h2
/-- what a dropped number leaves -/
def asOut (n : Nat) : List Ue02.Stretch → List Addr → List Addr
  | s :: ms, a :: as => if s.number = n then asOut n ms as else a :: asOut n ms as
  | _, _ => []
theorem kvs_drop {n : Nat} : ∀ {ms : List Ue02.Stretch} {as : List Addr}, as.length = ms.length → dropK (kvs ms as) (Sum.inl (n : Int)) = kvs (ms.filter fun t => t.number != n) (asOut n ms as)
  | [], [], _ => rfl
  | [], _ :: _, h => by simp at h
  | _ :: _, [], h => by simp at h
  | s :: ms, a :: as, h => by
    have ih := kvs_drop (n := n) (ms := ms) (as := as) (by simpa using h)
    rw [kvs, asOut]
    by_cases e : s.number = n
    · rw [dropK_pos (by rw [e]), List.filter_cons_of_neg (by rw [e]; simp), if_pos e]
      exact ih
    · rw [dropK_neg (by intro q; have q : (s.number : Int) = (n : Int) := Sum.inl.inj q; omega), List.filter_cons_of_pos (by simpa using e), if_neg e, ih]
      rfl
theorem asOut_sub {n : Nat} : ∀ {ms : List Ue02.Stretch} {as : List Addr}, (asOut n ms as).Sublist as
  | [], _ => by simp [asOut]
  | _ :: _, [] => by simp [asOut]
  | s :: ms, a :: as => by
    rw [asOut]
    split
    · exact (asOut_sub (n := n) (ms := ms) (as := as)).cons _
    · exact (asOut_sub (n := n) (ms := ms) (as := as)).cons₂ _
theorem all2_out {n : Nat} {R : Addr → Ue02.Stretch → Prop} : ∀ {ms : List Ue02.Stretch} {as : List Addr}, All2 R as ms → All2 R (asOut n ms as) (ms.filter fun t => t.number != n)
  | [], as, h => by
    rw [h.nil_inv]
    exact All2.nil
  | s :: ms, as, h => by
    obtain ⟨b, bs, rfl, r, t⟩ := h.cons_inv
    rw [asOut]
    by_cases e : s.number = n
    · rw [if_pos e, List.filter_cons_of_neg (by rw [e]; simp)]
      exact all2_out t
    · rw [if_neg e, List.filter_cons_of_pos (by simpa using e)]
      exact (all2_out t).cons r
/-! ### what is found -/
theorem find_some {ms : List Ue02.Stretch} {n : Nat} {s : Ue02.Stretch} (h : ms.find? (fun t => t.number == n) = some s) : ∃ i : Nat, ms[i]? = some s ∧ s.number = n := by
  have h1 := List.mem_of_find?_eq_some h
  have h2 := List.find?_some h
  obtain ⟨i, hi, e⟩ := List.mem_iff_getElem.mp h1
  exact ⟨i, by rw [List.getElem?_eq_getElem hi, e], by simpa using h2⟩
theorem find_none {ms : List Ue02.Stretch} {n : Nat} (h : ms.find? (fun t => t.number == n) = none) : ∀ s ∈ ms, s.number ≠ n := by
  intro s hs
  have := List.find?_eq_none.mp h s hs
  simpa using this
theorem num_ix {ms : List Ue02.Stretch} (nd : (ms.map (·.number)).Nodup) {i j : Nat} {s t : Ue02.Stretch} (hi : ms[i]? = some s) (hj : ms[j]? = some t) (e : s.number = t.number) : i = j := by
  refine nd_ix nd (i := i) (j := j) (x := s.number) ?_ ?_
  · rw [List.getElem?_map, hi]; rfl
  · rw [List.getElem?_map, hj, e]; rfl
/-! ### the session in the heap -/
def MkAt (cStretch : Addr) (H : Hp) (a : Addr) (s : Ue02.Stretch) : Prop := ∃ dx, H a = some (.ins cStretch dx (ob nsStretch (stV s)))
def StatesAt (F : Hp) (ds : Addr) (ms : List Ue02.Stretch) : Prop := ∃ ts, F ds = some (.dK (kvs ms ts)) ∧ All2 (fun t s => F t = some (.tup (snap s))) ts ms
def DoneAt (cChange cStep : Addr) (F : Hp) (a : Addr) (d : Ue02.Done) : Prop := ∃ dx lc lb ds, F a = some (.ins cStep dx (ob nsStep [.ref lc, .ref lb, .ref ds])) ∧ CLst cChange F lc d.changes ∧ CLst cChange F lb d.back ∧ StatesAt F ds d.before
theorem StatesAt.mono {F F' : Hp} {ds : Addr} {ms : List Ue02.Stretch} (s : Same F F') (h : StatesAt F ds ms) : StatesAt F' ds ms := by
  obtain ⟨ts, h1, h2⟩ := h
  exact ⟨ts, s _ _ h1, h2.imp fun a x _ _ q => s _ _ q⟩
theorem DoneAt.mono {cChange cStep : Addr} {F F' : Hp} {a : Addr} {d : Ue02.Done} (s : Same F F') (h : DoneAt cChange cStep F a d) : DoneAt cChange cStep F' a d := by
  obtain ⟨dx, lc, lb, ds, h1, h2, h3, h4⟩ := h
  exact ⟨dx, lc, lb, ds, s _ _ h1, h2.mono s, h3.mono s, h4.mono s⟩
/-- lists that are none of the session's -/
def XOk (X M : List Addr) (H : Hp) : Prop := ∀ x ∈ X, x ∉ M ∧ ∃ xs, H x = some (.lst xs)
abbrev nsSession : List Str := ["content", "stretches", "made", "turns", "steps", "taken_back"]
def seV (g : Ue02.House) (t d sl tl : Addr) : List V := [.ref t, .ref d, .int (g.given : Int), .int (g.stamps : Int), .ref sl, .ref tl]
structure Sess (cChange cStretch cStep cSession : Addr) (X M : List Addr) (H : Hp) (a : Addr) (g : Ue02.House) (dx t d sl tl : Addr) (as us rs : List Addr) : Prop where
  m : M = a :: d :: sl :: tl :: as
  nd : (a :: d :: sl :: tl :: as).Nodup
  obj : H a = some (.ins cSession dx (ob nsSession (seV g t d sl tl)))
  dic : H d = some (.dK (kvs g.marks as))
  stl : H sl = some (.lst (us.reverse.map V.ref))
  tkl : H tl = some (.lst (rs.reverse.map V.ref))
  mks : All2 (MkAt cStretch H) as g.marks
  txt : cut (M ++ X) H t = some (.lst (natV g.text))
  und : All2 (DoneAt cChange cStep (cut (M ++ X) H)) us g.undo
  red : All2 (CLst cChange (cut (M ++ X) H)) rs g.redo
  xk : XOk X M H
def SessAt (cChange cStretch cStep cSession : Addr) (X M : List Addr) (H : Hp) (a : Addr) (g : Ue02.House) : Prop := ∃ dx t d sl tl as us rs, Sess cChange cStretch cStep cSession X M H a g dx t d sl tl as us rs
/-- what is known stays known -/
def Dom (H H' : Hp) : Prop := ∀ b o, H b = some o → ∃ u, H' b = some u
theorem Dom.refl (H : Hp) : Dom H H := fun _ o h => ⟨o, h⟩
theorem Dom.trans {H H1 H2 : Hp} (h : Dom H H1) (k : Dom H1 H2) : Dom H H2 := fun b o e => by
  obtain ⟨u, hu⟩ := h b o e
  exact k b u hu
theorem dom_same {H H' : Hp} (s : Same H H') : Dom H H' := fun b o e => ⟨o, s b o e⟩
theorem Dom.put {H H1 : Hp} {a : Addr} {o : HO} (h : Dom H H1) : Dom H (upd H1 a o) := fun b u e => by
  by_cases q : b = a
  · rw [q]; exact ⟨o, upd_same⟩
  · rw [upd_ne q]; exact h b u e
theorem Dom.free {H H' : Hp} (h : Dom H H') {b : Addr} (e : H' b = none) : H b = none := by
  cases q : H b with
  | none => rfl
  | some o =>
    obtain ⟨u, hu⟩ := h b o q
    rw [hu] at e
    cases e
/-- all else stands -/
structure Frame (M : List Addr) (H : Hp) (M' : List Addr) (H' : Hp) : Prop where
  keep : ∀ b o, H b = some o → b ∉ M → H' b = some o
  new : ∀ b, b ∈ M' → b ∈ M ∨ H b = none
  stay : Dom H H'
theorem Frame.refl (M : List Addr) (H : Hp) : Frame M H M H := ⟨fun _ _ h _ => h, fun _ h => .inl h, Dom.refl H⟩
theorem Frame.trans {M M1 M2 : List Addr} {H H1 H2 : Hp} (f : Frame M H M1 H1) (k : Frame M1 H1 M2 H2) : Frame M H M2 H2 := by
  refine ⟨fun b o h nb => k.keep b o (f.keep b o h nb) fun m => ?_, fun b h => ?_, f.stay.trans k.stay⟩
  · rcases f.new b m with q | q
    · exact nb q
    · rw [q] at h; cases h
  · rcases k.new b h with q | q
    · exact f.new b q
    · by_cases m : b ∈ M
      · exact .inl m
      · refine .inr ?_
        cases e : H b with
        | none => rfl
        | some o => rw [f.keep b o e m] at q; cases q
theorem Frame.same {M : List Addr} {H H' : Hp} (s : Same H H') : Frame M H M H' := ⟨fun b o h _ => s b o h, fun _ h => .inl h, dom_same s⟩
theorem Frame.cut {X M M' : List Addr} {H H' : Hp} (f : Frame M H M' H') : Same (cut (M ++ X) H) (cut (M' ++ X) H') := cut_same (fun b o h nb => f.keep b o h fun m => nb (List.mem_append.mpr (.inl m))) (fun b hb => by
  rcases List.mem_append.mp hb with h | h
  · rcases f.new b h with q | q
    · exact .inl (List.mem_append.mpr (.inl q))
    · exact .inr q
  · exact .inl (List.mem_append.mpr (.inr h)))
theorem Frame.xok {X M M' : List Addr} {H H' : Hp} (f : Frame M H M' H') (h : XOk X M H) : XOk X M' H' := fun x hx => by
  obtain ⟨h1, xs, h2⟩ := h x hx
  refine ⟨fun m => ?_, xs, f.keep x _ h2 h1⟩
  rcases f.new x m with q | q
  · exact h1 q
  · rw [q] at h2; cases h2
section
variable {K : PySem.W.Frag} {mg : Str → Option Value} {cChange cStretch cStep cSession : Addr} {X M : List Addr} {H H' : Hp} {a dx t d sl tl : Addr} {g : Ue02.House} {as us rs : List Addr}
theorem Sess.same (s : Sess cChange cStretch cStep cSession X M H a g dx t d sl tl as us rs) (e : Same H H') : Sess cChange cStretch cStep cSession X M H' a g dx t d sl tl as us rs := by
  have c : Same (cut (M ++ X) H) (cut (M ++ X) H') := (Frame.same e).cut
  exact ⟨s.m, s.nd, e _ _ s.obj, e _ _ s.dic, e _ _ s.stl, e _ _ s.tkl, s.mks.imp fun b x _ _ ⟨dy, q⟩ => ⟨dy, e _ _ q⟩, c _ _ s.txt, s.und.imp fun _ _ _ _ q => q.mono c, s.red.imp fun _ _ _ _ q => q.mono c, (Frame.same e).xok s.xk⟩
/-- its values, read -/
structure SeR (K : PySem.W.Frag) (H : Hp) (a : Addr) (g : Ue02.House) (t d sl tl : Addr) : Prop where
  content : Fd K H a "content" (.ref t)
  stretches : Fd K H a "stretches" (.ref d)
  made : Fd K H a "made" (.int (g.given : Int))
  turns : Fd K H a "turns" (.int (g.stamps : Int))
  steps : Fd K H a "steps" (.ref sl)
  taken : Fd K H a "taken_back" (.ref tl)
theorem se_r (T : Txt K mg cChange cStretch cStep cSession) (h : H a = some (.ins cSession dx (ob nsSession (seV g t d sl tl)))) : SeR K H a g t d sl tl :=
  ⟨fd_ob h T.cl_Session T.n_Session_content (i := 0) (by decide +kernel) rfl, fd_ob h T.cl_Session T.n_Session_stretches (i := 1) (by decide +kernel) rfl, fd_ob h T.cl_Session T.n_Session_made (i := 2) (by decide +kernel) rfl,
   fd_ob h T.cl_Session T.n_Session_turns (i := 3) (by decide +kernel) rfl, fd_ob h T.cl_Session T.n_Session_steps (i := 4) (by decide +kernel) rfl, fd_ob h T.cl_Session T.n_Session_taken_back (i := 5) (by decide +kernel) rfl⟩
theorem Sess.text (s : Sess cChange cStretch cStep cSession X M H a g dx t d sl tl as us rs) : H t = some (.lst (natV g.text)) := cut_sub _ _ s.txt
theorem Sess.t_out (s : Sess cChange cStretch cStep cSession X M H a g dx t d sl tl as us rs) : t ∉ M ++ X := (cut_get.mp s.txt).1
theorem Sess.lenM (s : Sess cChange cStretch cStep cSession X M H a g dx t d sl tl as us rs) : as.length = g.marks.length := s.mks.len
/-- the places of M, told apart -/
structure Apart (a d sl tl : Addr) (as : List Addr) : Prop where
  da : d ≠ a
  sa : sl ≠ a
  ta : tl ≠ a
  sd : sl ≠ d
  td : tl ≠ d
  ts : tl ≠ sl
  xa : ∀ x ∈ as, x ≠ a
  xd : ∀ x ∈ as, x ≠ d
  xs : ∀ x ∈ as, x ≠ sl
  xt : ∀ x ∈ as, x ≠ tl
  nd : as.Nodup
theorem apart_of (h : (a :: d :: sl :: tl :: as).Nodup) : Apart a d sl tl as := by
  obtain ⟨h1, h⟩ := List.nodup_cons.mp h
  obtain ⟨h2, h⟩ := List.nodup_cons.mp h
  obtain ⟨h3, h⟩ := List.nodup_cons.mp h
  obtain ⟨h4, h⟩ := List.nodup_cons.mp h
  simp only [List.mem_cons, not_or] at h1 h2 h3
  exact ⟨fun e => h1.1 e.symm, fun e => h1.2.1 e.symm, fun e => h1.2.2.1 e.symm, fun e => h2.1 e.symm, fun e => h2.2.1 e.symm, fun e => h3.1 e.symm, fun x m e => h1.2.2.2 (e ▸ m), fun x m e => h2.2.2 (e ▸ m), fun x m e => h3.2 (e ▸ m), fun x m e => h4 (e ▸ m), h⟩
end
/-- what a method gives: the answer, a new list; the session behind it; all else as it was -/
def Gives (cChange cStretch cStep cSession : Addr) (X M : List Addr) (H : Hp) (a : Addr) (g : Ue02.House) (ans : List Int) (Q : VK) : Prop :=
  ∀ (H' : Hp) (M' : List Addr) (p : Addr), SessAt cChange cStretch cStep cSession X M' H' a g → Frame M H M' H' → H p = none → H' p = some (.lst (ans.map V.int)) → Q (.ref p) H'
end Mk
end

section
set_option Elab.async false
set_option linter.all false
set_option maxRecDepth 100000
set_option maxHeartbeats 4000000
namespace Mk
open PySem PySem.Spec PyProof.Rows L2
section
variable {P : Program} {w : World} {K : PySem.W.Frag} {mg : Str → Option Value} {base : Heap} {cChange cStretch cStep cSession : Addr}
/-! ### Session.start_anew -/
/-- behind start_anew -/
structure Anew (cSession : Addr) (H : Hp) (a dx t : Addr) (H' : Hp) (d sl tl : Addr) : Prop where
  obj : H' a = some (.ins cSession dx (ob nsSession [.ref t, .ref d, .int 0, .int 0, .ref sl, .ref tl]))
  dic : H' d = some (.dK [])
  stl : H' sl = some (.lst [])
  tkl : H' tl = some (.lst [])
  nd : (a :: d :: sl :: tl :: []).Nodup
  hd : H d = none
  hs : H sl = none
  ht : H tl = none
  keep : ∀ b o, H b = some o → b ≠ a → H' b = some o
def spAnew (cSession : Addr) : Sp := fun vs H Q _ => ∃ (a dx t : Addr) (fs : List (Str × V)), vs = [.ref a, .ref t] ∧ H a = some (.ins cSession dx fs) ∧ (fs = [] ∨ ∃ v0 v1 v2 v3 v4 v5, fs = ob nsSession [v0, v1, v2, v3, v4, v5]) ∧
  ∀ (H' : Hp) (d sl tl : Addr), Anew cSession H a dx t H' d sl tl → Q .non H'
theorem anew_mk {H : Hp} {a dx t d sl tl : Addr} {fs f0 f1 f2 : List (Str × V)} (ha : H a = some (.ins cSession dx fs)) (hd : (upd H a (.ins cSession dx f0)) d = none)
    (hs : (upd (upd (upd H a (.ins cSession dx f0)) d (.dK [])) a (.ins cSession dx f1)) sl = none)
    (ht : (upd (upd (upd (upd (upd H a (.ins cSession dx f0)) d (.dK [])) a (.ins cSession dx f1)) sl (.lst [])) a (.ins cSession dx f2)) tl = none) :
    Anew cSession H a dx t (upd (upd (upd (upd (upd (upd (upd H a (.ins cSession dx f0)) d (.dK [])) a (.ins cSession dx f1)) sl (.lst [])) a (.ins cSession dx f2)) tl (.lst [])) a (.ins cSession dx (ob nsSession [.ref t, .ref d, .int 0, .int 0, .ref sl, .ref tl]))) d sl tl := by
  have nad : a ≠ d := ne_of_none (o := .ins cSession dx f0) upd_same hd
  have nas : a ≠ sl := ne_of_none (o := .ins cSession dx f1) upd_same hs
  have nat : a ≠ tl := ne_of_none (o := .ins cSession dx f2) upd_same ht
  have nds : d ≠ sl := ne_of_none (o := .dK []) (by rw [upd_ne nad.symm, upd_same]) hs
  have ndt : d ≠ tl := ne_of_none (o := .dK []) (by rw [upd_ne nad.symm, upd_ne nds, upd_ne nad.symm, upd_same]) ht
  have nst : sl ≠ tl := ne_of_none (o := .lst []) (by rw [upd_ne nas.symm, upd_same]) ht
  rw [upd_ne nad.symm] at hd
  rw [upd_ne nas.symm, upd_ne nds.symm, upd_ne nas.symm] at hs
  rw [upd_ne nat.symm, upd_ne nst.symm, upd_ne nat.symm, upd_ne ndt.symm, upd_ne nat.symm] at ht
  refine ⟨upd_same, ?_, ?_, ?_, ?_, hd, hs, ht, ?_⟩
  · rw [upd_ne nad.symm, upd_ne ndt, upd_ne nad.symm, upd_ne nds, upd_ne nad.symm, upd_same]
  · rw [upd_ne nas.symm, upd_ne nst, upd_ne nas.symm, upd_same]
  · rw [upd_ne nat.symm, upd_same]
  · simp [nad, nas, nat, nds, ndt, nst]
  · intro b o e nb
    rw [upd_ne nb, upd_ne (ne_of_none e ht), upd_ne nb, upd_ne (ne_of_none e hs), upd_ne nb, upd_ne (ne_of_none e hd), upd_ne nb]
    exact e
theorem ok_Session_start_anew {f : Addr} {fd : FuncData} (F : Fun K "start_anew" "Session.start_anew" s_Session_start_anew f fd) (T : Txt K mg cChange cStretch cStep cSession) : FnOk P w K mg base CX0 1 f fd ["self", "content"] (spAnew cSession) := by
  refine F.ok sc_Session_start_anew (fun vs H Q E h => ?_) (fun cdv A outer s H vs Q E hr h => ?_)
  · obtain ⟨a, dx, t, fs, rfl, _⟩ := h
    rfl
  · obtain ⟨a, dx, t, fs, rfl, ha, hfs, k⟩ := h
    have nd := sc_Session_start_anew.nd
    refine ⟨_, (pss_cons (ps_fld (pv 0) (pv 1) rfl)
      (pss_cons (ps_fld (pv 0) pe_dnewK rfl)
      (pss_cons (ps_fld (pv 0) pe_int rfl)
      (pss_cons (ps_fld (pv 0) pe_int rfl)
      (pss_cons (ps_fld (pv 0) (pe_lst pa_nil) rfl)
      (pss_one (ps_fld (pv 0) (pe_lst pa_nil) rfl))))))), ?_⟩
    rcases hfs with rfl | ⟨v0, v1, v2, v3, v4, v5, rfl⟩
    · refine s_new (ns := []) (vs := []) (val_var rfl) (val_var rfl) ha T.cl_Session T.n_Session_content rfl rfl (by decide) ?_
      intro d hd
      have nad : a ≠ d := ne_of_none upd_same hd
      refine s_new (tv := tC (.ref d)) val_c (val_var rfl) ((upd_ne nad).trans upd_same) T.cl_Session T.n_Session_stretches (by decide +kernel) rfl (by decide) ?_
      refine s_new val_c (val_var rfl) upd_same T.cl_Session T.n_Session_made (by decide +kernel) rfl (by decide) ?_
      rw [upd_upd]
      refine s_new val_c (val_var rfl) upd_same T.cl_Session T.n_Session_turns (by decide +kernel) rfl (by decide) ?_
      rw [upd_upd]
      refine ⟨Nat.zero_le _, fun sl hs => ?_⟩
      have nas : a ≠ sl := ne_of_none upd_same hs
      refine s_new (tv := tC (.ref sl)) val_c (val_var rfl) ((upd_ne nas).trans upd_same) T.cl_Session T.n_Session_steps (by decide +kernel) rfl (by decide) ?_
      refine ⟨Nat.zero_le _, fun tl ht => ?_⟩
      have nat : a ≠ tl := ne_of_none upd_same ht
      refine s_new (tv := tC (.ref tl)) val_c (val_var rfl) ((upd_ne nat).trans upd_same) T.cl_Session T.n_Session_taken_back (by decide +kernel) rfl (by decide) ?_
      exact k _ d sl tl (anew_mk ha hd hs ht)
    · refine s_put (val_var rfl) (val_var rfl) ha T.cl_Session T.n_Session_content (i := 0) (by decide +kernel) rfl (by decide) ?_
      intro d hd
      have nad : a ≠ d := ne_of_none upd_same hd
      refine s_put (tv := tC (.ref d)) val_c (val_var rfl) ((upd_ne nad).trans upd_same) T.cl_Session T.n_Session_stretches (i := 1) (by decide +kernel) rfl (by decide) ?_
      refine s_put val_c (val_var rfl) upd_same T.cl_Session T.n_Session_made (i := 2) (by decide +kernel) rfl (by decide) ?_
      rw [upd_upd]
      refine s_put val_c (val_var rfl) upd_same T.cl_Session T.n_Session_turns (i := 3) (by decide +kernel) rfl (by decide) ?_
      rw [upd_upd]
      refine ⟨Nat.zero_le _, fun sl hs => ?_⟩
      have nas : a ≠ sl := ne_of_none upd_same hs
      refine s_put (tv := tC (.ref sl)) val_c (val_var rfl) ((upd_ne nas).trans upd_same) T.cl_Session T.n_Session_steps (i := 4) (by decide +kernel) rfl (by decide) ?_
      refine ⟨Nat.zero_le _, fun tl ht => ?_⟩
      have nat : a ≠ tl := ne_of_none upd_same ht
      refine s_put (tv := tC (.ref tl)) val_c (val_var rfl) ((upd_ne nat).trans upd_same) T.cl_Session T.n_Session_taken_back (i := 5) (by decide +kernel) rfl (by decide) ?_
      exact k _ d sl tl (anew_mk ha hd hs ht)
/-- a new text's session -/
theorem Anew.sess {H H' : Hp} {a dx t d sl tl : Addr} {txt : List Nat} (n : Anew cSession H a dx t H' d sl tl) (ht : H t = some (.lst (natV txt))) (nta : t ≠ a) {X : List Addr} (hX : ∀ x ∈ X, x ≠ a ∧ x ≠ t ∧ ∃ xs, H x = some (.lst xs)) :
    Sess cChange cStretch cStep cSession X [a, d, sl, tl] H' a ⟨txt, [], 0, 0, [], []⟩ dx t d sl tl [] [] [] := by
  refine ⟨rfl, n.nd, n.obj, n.dic, n.stl, n.tkl, All2.nil, cut_get.mpr ⟨?_, n.keep _ _ ht nta⟩, All2.nil, All2.nil, fun x hx => ?_⟩
  · rw [List.mem_append]
    simp only [List.mem_cons, List.not_mem_nil, or_false, not_or]
    exact ⟨⟨nta, ne_of_none ht n.hd, ne_of_none ht n.hs, ne_of_none ht n.ht⟩, fun m => (hX t m).2.1 rfl⟩
  · obtain ⟨h1, _, xs, h3⟩ := hX x hx
    refine ⟨?_, xs, n.keep _ _ h3 h1⟩
    simp only [List.mem_cons, List.not_mem_nil, or_false, not_or]
    exact ⟨h1, ne_of_none h3 n.hd, ne_of_none h3 n.hs, ne_of_none h3 n.ht⟩
theorem Anew.dom {H H' : Hp} {a dx t d sl tl : Addr} (n : Anew cSession H a dx t H' d sl tl) : Dom H H' := fun b o e => by
  by_cases q : b = a
  · rw [q]; exact ⟨_, n.obj⟩
  · exact ⟨o, n.keep b o e q⟩
/-! ### Session.__init__ -/
def spSession (cChange cStretch cStep cSession : Addr) : Sp := fun vs H Q _ => ∃ (a dx : Addr), vs = [.ref a] ∧ H a = some (.ins cSession dx []) ∧
  ∀ (H' : Hp) (M' : List Addr), SessAt cChange cStretch cStep cSession [] M' H' a Ue02.init → Frame [a] H M' H' → Q .non H'
theorem ok_Session_init {f : Addr} {fd : FuncData} (F : Fun K "__init__" "Session.__init__" s_Session_init f fd) (T : Txt K mg cChange cStretch cStep cSession)
    (meth_Session_start_anew : Meths P w K mg base cSession "start_anew" 1 ["self", "content"] (spAnew cSession)) : FnOk P w K mg base CX0 2 f fd ["self"] (spSession cChange cStretch cStep cSession) := by
  refine F.ok sc_Session_init (fun vs H Q E h => ?_) (fun cdv A outer s H vs Q E hr h => ?_)
  · obtain ⟨a, dx, rfl, _⟩ := h
    rfl
  · obtain ⟨a, dx, rfl, ha, k⟩ := h
    have nd := sc_Session_init.nd
    refine ⟨_, (pss_one (ps_expr (pe_mt meth_Session_start_anew (pv 0) (hr.mono (by decide)) (pa_cons (pe_lst pa_nil) pa_nil)))), ?_⟩
    refine ⟨_, rfl, a, dx, [], rfl, ha, rfl, ?_⟩
    refine ⟨Nat.zero_le _, fun t ht => ?_⟩
    have nat : a ≠ t := ne_of_none ha ht
    refine ⟨a, dx, t, [], rfl, (upd_ne nat).trans ha, .inl rfl, fun H' d sl tl n => ?_⟩
    refine k H' [a, d, sl, tl] ⟨_, _, _, _, _, _, _, _, n.sess (txt := []) upd_same nat.symm (fun _ h => by cases h)⟩ ⟨fun b o e nb => ?_, fun b hb => ?_, (dom_same (same_new ht)).trans n.dom⟩
    · exact n.keep b o (same_new ht b o e) (by simpa using nb)
    · simp only [List.mem_cons, List.not_mem_nil, or_false] at hb ⊢
      have fr : ∀ x, (upd H t (.lst [])) x = none → H x = none := fun x hx => (same_new ht).free hx
      rcases hb with rfl | rfl | rfl | rfl
      · exact .inl rfl
      · exact .inr (fr _ n.hd)
      · exact .inr (fr _ n.hs)
      · exact .inr (fr _ n.ht)
/-! ### Session.begins -/
def spBegins (cChange cStretch cStep cSession : Addr) : Sp := fun vs H Q _ => ∃ (X M : List Addr) (a t : Addr) (g : Ue02.House) (ns : List Nat), vs = [.ref a, .ref t] ∧ SessAt cChange cStretch cStep cSession X M H a g ∧ H t = some (.lst (natV ns)) ∧ t ∉ M ∧ ns.length ≤ 100000 ∧
  Gives cChange cStretch cStep cSession X M H a (Ue02.step g (.begins ns)).1 (Ue02.step g (.begins ns)).2 Q
theorem ok_Session_begins {f : Addr} {fd : FuncData} (F : Fun K "begins" "Session.begins" s_Session_begins f fd) (T : Txt K mg cChange cStretch cStep cSession)
    (c_are_bytes : Calls P w K mg base "are_bytes" 1 ["numbers"] (spBytes K))
    (meth_Session_start_anew : Meths P w K mg base cSession "start_anew" 1 ["self", "content"] (spAnew cSession)) : FnOk P w K mg base CX0 2 f fd ["self", "content"] (spBegins cChange cStretch cStep cSession) := by
  refine F.ok sc_Session_begins (fun vs H Q E h => ?_) (fun cdv A outer s H vs Q E hr h => ?_)
  · obtain ⟨X, M, a, t, g, ns, rfl, _⟩ := h
    rfl
  · obtain ⟨X, M, a, t, g, ns, rfl, ⟨dx, t0, d, sl, tl, as, us, rs, S⟩, ht, htM, hz, k⟩ := h
    have nd := sc_Session_begins.nd
    refine ⟨_, (pss_cons (ps_if (PW.pt (pw_or (pt_cmpR op_gt (pe_callB (call_lenK (K' := K) rfl) (by rfl) T.b_len PySem.boot_len (pa_cons (pv 1) pa_nil)) (pe_gi rfl T.g_MOST_BYTES) (nomark _)) (pw_or1 (pt_not (pt_val (pe_cl c_are_bytes (hr.mono (by decide)) rfl (pa_cons (pv 1) pa_nil)))))))
        (pss_one (ps_ret (pe_lst (pa_cons (pe_gi rfl T.g_NOT_FITTING) pa_nil))))
        pss_nil)
      (pss_cons (ps_expr (pe_mt meth_Session_start_anew (pv 0) (hr.mono (by decide)) (pa_cons (pe_callTy call_list_of (by rfl) T.b_list (by decide +kernel) (pa_cons (pv 1) pa_nil)) pa_nil)))
      (pss_one (ps_ret (pe_lst (pa_cons (pe_callB (call_lenK (K' := K) rfl) (by rfl) T.b_len PySem.boot_len (pa_cons (pv 1) pa_nil)) pa_nil)))))), ?_⟩
    have step : Ue02.step g (.begins ns) = if Ue02.isBytes ns = false ∨ Ue02.LONG < ns.length then (g, [-1]) else (⟨ns, [], 0, 0, [], []⟩, Ue02.ints [ns.length]) := rfl
    have no : ∀ H1, Same H H1 → (Ue02.isBytes ns = false ∨ Ue02.LONG < ns.length) → tLst (tCons (tC (V.int (-1))) tNil) (start ["self", "content"] [.ref a, .ref t]) H1 Q := by
      intro H1 s1 e
      refine lst_of (va_cons val_c va_nil) (by show 1 ≤ sizeLine; decide) fun p hp => ?_
      rw [step, if_pos e] at k
      exact k _ M p ⟨_, _, _, _, _, _, _, _, S.same (s1.trans (same_new hp))⟩ (Frame.same (s1.trans (same_new hp))) (s1.free hp) upd_same
    refine (?_ : tOr _ _ _ _ _)
    refine a_test (v_gt (v_len (val_var rfl) (SqL.of ht)) val_c) _ ?_
    rw [natV_length]
    by_cases c1 : (600 : Int) < (ns.length : Int)
    · rw [decide_eq_true c1]
      refine iteT (iteT ?_)
      exact no H (Same.refl H) (.inr (by show 600 < ns.length; omega))
    · rw [decide_eq_false c1]
      refine iteF ?_
      refine call_of (va_cons (val_var rfl) va_nil) ⟨t, ns, rfl, SqL.of ht, hz, fun H1 s1 => ⟨_, rfl, ?_⟩⟩
      cases c2 : Ue02.isBytes ns with
      | false => exact iteT (no H1 s1 (.inl c2))
      | true =>
        refine iteF ?_
        rw [step, if_neg (by rw [c2]; simp [Ue02.LONG]; omega)] at k
        have nta : t ≠ a := fun e => htM (by rw [e, S.m]; exact List.mem_cons_self)
        refine ⟨_, rfl, a, dx, _, rfl, s1 _ _ S.obj, ob_no (by decide +kernel), ?_⟩
        refine ⟨_, rfl, t, _, rfl, .inl (SqL.of (s1 _ _ ht)), fun t' ht' => ?_⟩
        have s2 : Same H (upd H1 t' (.lst (natV ns))) := s1.trans (same_new ht')
        have nat' : a ≠ t' := ne_of_none (s1 _ _ S.obj) ht'
        refine ⟨a, dx, t', _, rfl, s2 _ _ S.obj, .inr ⟨_, _, _, _, _, _, rfl⟩, fun H' d' sl' tl' n => ?_⟩
        refine lst_of (va_cons (v_len (val_var rfl) (SqL.of (n.keep _ _ (s2 _ _ ht) nta))) va_nil) (by show 1 ≤ sizeLine; decide) fun p hp => ?_
        have S' : Sess cChange cStretch cStep cSession X _ H' a ⟨ns, [], 0, 0, [], []⟩ _ _ _ _ _ _ _ _ := n.sess upd_same nat'.symm (fun x hx => by
          obtain ⟨h1, xs, h2⟩ := S.xk x hx
          exact ⟨fun e => h1 (by rw [e, S.m]; exact List.mem_cons_self), ne_of_none (s1 _ _ h2) ht', xs, s2 _ _ h2⟩)
        refine k _ [a, d', sl', tl'] p ⟨_, _, _, _, _, _, _, _, S'.same (same_new hp)⟩ ⟨fun b o e nb => ?_, fun b hb => ?_, ((dom_same s2).trans n.dom).trans (dom_same (same_new hp))⟩ ?_ ?_
        · have nb' : b ≠ a := fun e => nb (by rw [e, S.m]; exact List.mem_cons_self)
          exact same_new hp b o (n.keep b o (s2 b o e) nb')
        · simp only [List.mem_cons, List.not_mem_nil, or_false] at hb
          rcases hb with rfl | rfl | rfl | rfl
          · exact .inl (by rw [S.m]; exact List.mem_cons_self)
          · exact .inr (s2.free n.hd)
          · exact .inr (s2.free n.hs)
          · exact .inr (s2.free n.ht)
        · cases q : H p with
          | none => rfl
          | some o =>
            have : p = a := by
              apply Classical.byContradiction
              intro nb
              rw [n.keep p o (s2 p o q) nb] at hp
              cases hp
            rw [this, n.obj] at hp
            cases hp
        · rw [upd_same, natV_length]
          rfl
end
end Mk
end

section
set_option Elab.async false
set_option linter.all false
set_option maxRecDepth 100000
set_option maxHeartbeats 4000000
namespace Mk
open PySem PySem.Spec PyProof.Rows L2
section
variable {σ : L2.St} {H : Hp} {K : PySem.W.Frag} {ta tb td ty tv : TE} {D : Ends} {Q : VK} {a d C dx : Addr} {kv : List (L2.Key × V)} {n : Nat} {v : V} {ns : List Str} {vs : List V} {f : Str} {i : Nat} {x y : Int}
theorem v_dget (h1 : Val td σ H (.ref d)) (h2 : Val ty σ H (.int (n : Int))) (hd : Rd H d (.dK kv)) (hv : valV kv (Sum.inl (n : Int)) = some v) : Val (tDGet td ty) σ H v :=
  fun Q q => h1 _ (h2 _ ⟨d, v, rfl, .inl ⟨kv, Sum.inl (n : Int), hd, rfl, hv.symm⟩, q⟩)
theorem a_notin (h2 : Val ty σ H (.int (n : Int))) (h1 : Val td σ H (.ref d)) (hd : Rd H d (.dK kv)) : Ans (tB (tDNotIn ty td)) σ H (!(valV kv (Sum.inl (n : Int))).isSome) :=
  fun Q q => h2 _ (h1 _ ⟨d, _, rfl, .inl ⟨kv, Sum.inl (n : Int), hd, rfl, rfl⟩, _, rfl, q⟩)
theorem s_dput (hv : Val tv σ H v) (h1 : Val td σ H (.ref d)) (h2 : Val ty σ H (.int (n : Int))) (hd : H d = some (.dK kv)) (hl : kv.length < sizeLine) (q : D.nx σ (upd H d (.dK (putK kv (Sum.inl (n : Int)) v)))) : sDPut td ty tv D σ H :=
  hv _ (h1 _ (h2 _ ⟨d, _, rfl, DPut.k (k := Sum.inl (n : Int)) hd hl, q⟩))
theorem s_asgQ {te : TE} (h : te σ H fun x H1 => D.nx (σ.set i (some x)) H1) : tAsg te (gName i) D σ H := h
theorem nodup_small : ∀ {n : Nat} {l : List Nat}, l.Nodup → (∀ x ∈ l, x < n) → l.length ≤ n
  | 0, [], _, _ => Nat.le_refl _
  | 0, x :: _, _, h => by have := h x List.mem_cons_self; omega
  | n + 1, l, nd, h => by
    have ih := nodup_small (n := n) (l := l.erase n) (nd.erase n) (fun x hx => by
      rw [nd.mem_erase_iff] at hx
      have := h x hx.2
      omega)
    have := List.length_erase (a := n) (l := l)
    rw [this] at ih
    split at ih <;> omega
theorem s_inc (ha : Val ta σ H (.ref a)) (ho : H a = some (.ins C dx (ob ns vs))) (hc : Cls K C) (hn : NoAttr K C f) (hi : ns.findIdx? (· == f) = some i) (hx : vs[i]? = some (.int x)) (hl : vs.length = ns.length) (hs : ns.length < 1000) (hv : Val tv σ H (.int y))
    (q : D.nx σ (upd H a (.ins C dx (ob ns (vs.set i (.int (x + y))))))) : sFldAug K ta tv rAdd f D σ H :=
  st_aug ha ho hc hn (ob_get hi hx) hv (fun Q q => ⟨x, y, rfl, rfl, q⟩) (ob_len hs) (by rw [ob_put hi hl]; exact q)
end
section
variable {P : Program} {w : World} {K : PySem.W.Frag} {mg : Str → Option Value} {base : Heap} {cChange cStretch cStep cSession : Addr}
theorem v_gone {σ : L2.St} {H : Hp} {t : TA} {v : Bool} {x y : Nat} (h : ValA t σ H [.int (b2n v : Int), .int (x : Int), .int (y : Int)]) : Val (tCall spGone [] E0 t) σ H (.bl (v && x == y)) := fun Q q => call_of h ⟨v, x, y, rfl, q⟩
/-! ### Session.has_room -/
def room (n : Nat) (v : Bool) (x y : Nat) : Bool := decide (x ≤ y) && (decide (y ≤ n) && !(v && x == y))
theorem room_true {n : Nat} {v : Bool} {x y : Nat} : room n v x y = true ↔ ¬ (y < x ∨ n < y ∨ (v = true ∧ x = y)) := by
  unfold room
  cases v <;> simp <;> omega
def spRoom (cChange cStretch cStep cSession : Addr) : Sp := fun vs H Q _ => ∃ (X M : List Addr) (a : Addr) (g : Ue02.House) (v : Bool) (x y : Nat), vs = [.ref a, .int (b2n v : Int), .int (x : Int), .int (y : Int)] ∧ SessAt cChange cStretch cStep cSession X M H a g ∧ Q (.bl (room g.text.length v x y)) H
/-! ### Session.lies_within -/
def spWithin (cChange cStretch cStep cSession : Addr) : Sp := fun vs H Q _ => ∃ (X M : List Addr) (a : Addr) (g : Ue02.House) (x y : Nat), vs = [.ref a, .int (x : Int), .int (y : Int)] ∧ SessAt cChange cStretch cStep cSession X M H a g ∧ Q (.bl (decide (x ≤ y) && decide (y ≤ g.text.length))) H
theorem ok_Session_lies_within {f : Addr} {fd : FuncData} (F : Fun K "lies_within" "Session.lies_within" s_Session_lies_within f fd) (T : Txt K mg cChange cStretch cStep cSession) : FnOk P w K mg base CX0 1 f fd ["self", "begin", "end"] (spWithin cChange cStretch cStep cSession) := by
  refine F.ok sc_Session_lies_within (fun vs H Q E h => ?_) (fun cdv A outer s H vs Q E hr h => ?_)
  · obtain ⟨X, M, a, g, x, y, rfl, _⟩ := h
    rfl
  · obtain ⟨X, M, a, g, x, y, rfl, ⟨dx, t0, d, sl, tl, as, us, rs, S⟩, k⟩ := h
    have nd := sc_Session_lies_within.nd
    have R := se_r T S.obj
    refine ⟨_, (pss_one (ps_ret (pe_and (pe_cmpR op_le (pv 1) (pv 2) (nomark _)) (pe_one (pe_cmpR op_le (pv 2) (pe_callB (call_lenK (K' := K) rfl) (by rfl) T.b_len PySem.boot_len (pa_cons (pe_fldK (K' := K) rfl (pv 0) rfl) pa_nil)) (nomark _)))))), ?_⟩
    refine st_ret (v_is (v_and (v_le (val_var rfl) (val_var rfl)) fun _ => v_le (val_var rfl) (v_len (v_fd (val_var rfl) R.content) (SqL.of S.text))) ?_) k
    congr 1
    rw [natV_length]
    congr 1
    · rw [Bool.eq_iff_iff]; simp
    · rw [Bool.eq_iff_iff]; simp
theorem v_within {σ : L2.St} {H : Hp} {ta : TE} {t : TA} {X M : List Addr} {a dx : Addr} {g : Ue02.House} {x y : Nat} {vs : List V} (S : SessAt cChange cStretch cStep cSession X M H a g) (ha : Val ta σ H (.ref a)) (ho : H a = some (.ins cSession dx (ob nsSession vs))) (h : ValA t σ H [.int (x : Int), .int (y : Int)]) :
    Val (tMeth cSession "lies_within" (spWithin cChange cStretch cStep cSession) [] E0 ta t) σ H (.bl (decide (x ≤ y) && decide (y ≤ g.text.length))) := fun Q q => meth_of ha ho (ob_no (by decide +kernel)) h ⟨X, M, a, g, x, y, rfl, S, q⟩
theorem ok_Session_has_room {f : Addr} {fd : FuncData} (F : Fun K "has_room" "Session.has_room" s_Session_has_room f fd) (T : Txt K mg cChange cStretch cStep cSession)
    (c_is_gone : Calls P w K mg base "is_gone" 1 ["vanishes", "begin", "end"] spGone) (meth_Session_lies_within : Meths P w K mg base cSession "lies_within" 1 ["self", "begin", "end"] (spWithin cChange cStretch cStep cSession)) : FnOk P w K mg base CX0 2 f fd ["self", "vanishes", "begin", "end"] (spRoom cChange cStretch cStep cSession) := by
  refine F.ok sc_Session_has_room (fun vs H Q E h => ?_) (fun cdv A outer s H vs Q E hr h => ?_)
  · obtain ⟨X, M, a, g, v, x, y, rfl, _⟩ := h
    rfl
  · obtain ⟨X, M, a, g, v, x, y, rfl, hS, k⟩ := h
    obtain ⟨dx, t0, d, sl, tl, as, us, rs, S⟩ := id hS
    have nd := sc_Session_has_room.nd
    refine ⟨_, (pss_one (ps_ret (pe_and (pe_mt meth_Session_lies_within (pv 0) (hr.mono (by decide)) (pa_cons (pv 2) (pa_cons (pv 3) pa_nil))) (pe_one (pe_not (pe_cl c_is_gone (hr.mono (by decide)) rfl (pa_cons (pv 1) (pa_cons (pv 2) (pa_cons (pv 3) pa_nil))))))))), ?_⟩
    refine st_ret (v_is (v_and (v_within hS (val_var rfl) S.obj (va_cons (val_var rfl) (va_cons (val_var rfl) va_nil))) fun _ => v_not (v_gone (va_cons (val_var rfl) (va_cons (val_var rfl) (va_cons (val_var rfl) va_nil))))) ?_) k
    congr 1
    unfold room
    rw [Bool.and_assoc]
theorem v_room {σ : L2.St} {H : Hp} {ta : TE} {t : TA} {X M : List Addr} {a dx : Addr} {g : Ue02.House} {v : Bool} {x y : Nat} {vs : List V} (S : SessAt cChange cStretch cStep cSession X M H a g) (ha : Val ta σ H (.ref a)) (ho : H a = some (.ins cSession dx (ob nsSession vs))) (h : ValA t σ H [.int (b2n v : Int), .int (x : Int), .int (y : Int)]) :
    Val (tMeth cSession "has_room" (spRoom cChange cStretch cStep cSession) [] E0 ta t) σ H (.bl (room g.text.length v x y)) := fun Q q => meth_of ha ho (ob_no (by decide +kernel)) h ⟨X, M, a, g, v, x, y, rfl, S, q⟩
/-- an answer that changes nothing -/
theorem says {σ : L2.St} {H H1 : Hp} {X M : List Addr} {a : Addr} {g : Ue02.House} {i : Int} {Q : VK} {te : TE} {dx t d sl tl : Addr} {as us rs : List Addr} (S : Sess cChange cStretch cStep cSession X M H a g dx t d sl tl as us rs) (s1 : Same H H1) (h : Val te σ H1 (.int i)) (k : Gives cChange cStretch cStep cSession X M H a g [i] Q) : tLst (tCons te tNil) σ H1 Q :=
  lst_of (va_cons h va_nil) (by show 1 ≤ sizeLine; decide) fun p hp => k _ M p ⟨_, _, _, _, _, _, _, _, S.same (s1.trans (same_new hp))⟩ (Frame.same (s1.trans (same_new hp))) (s1.free hp) upd_same
/-! ### Session.mark -/
def spMark (cChange cStretch cStep cSession : Addr) : Sp := fun vs H Q _ => ∃ (X M : List Addr) (a l : Addr) (g : Ue02.House) (x y r w : Nat) (la lb v : Bool), vs = [.ref a, .ref l] ∧ SessAt cChange cStretch cStep cSession X M H a g ∧ PInv g ∧ H l = some (.lst (natV [x, y, b2n la, b2n lb, b2n v, r, w])) ∧
  Gives cChange cStretch cStep cSession X M H a (Ue02.step g (.mark x y la lb v r w)).1 (Ue02.step g (.mark x y la lb v r w)).2 Q
theorem ok_Session_mark {f : Addr} {fd : FuncData} (F : Fun K "mark" "Session.mark" s_Session_mark f fd) (T : Txt K mg cChange cStretch cStep cSession)
    (m_Stretch : Makes P w K mg base cStretch "Stretch" 1 ["self", "number", "told", "turn"] (spIni cStretch fStretch))
    (meth_Session_has_room : Meths P w K mg base cSession "has_room" 2 ["self", "vanishes", "begin", "end"] (spRoom cChange cStretch cStep cSession)) : FnOk P w K mg base CX0 3 f fd ["self", "told"] (spMark cChange cStretch cStep cSession) := by
  refine F.ok sc_Session_mark (fun vs H Q E h => ?_) (fun cdv A outer s H vs Q E hr h => ?_)
  · obtain ⟨X, M, a, l, g, x, y, r, w, la, lb, v, rfl, _⟩ := h
    rfl
  · obtain ⟨X, M, a, l, g, x, y, r, w, la, lb, v, rfl, ⟨dx, t0, d, sl, tl, as, us, rs, S⟩, I, hl, k⟩ := h
    have nd := sc_Session_mark.nd
    have hu := hu_of hr
    refine ⟨_, (pss_cons (ps_set (i := 2) nd rfl (Or.inl rfl) (pe_mk m_Stretch (hr.mono (by decide)) rfl (pa_cons (pe_fldK (K' := K) rfl (pv 0) rfl) (pa_cons (pv 1) (pa_cons (pe_fldK (K' := K) rfl (pv 0) rfl) pa_nil)))))
      (pss_cons (ps_if (pt_not (pt_val (pe_mt meth_Session_has_room (pv 0) (hr.mono (by decide)) (pa_cons (pe_fldK (K' := K) rfl (pv 2) rfl) (pa_cons (pe_fldK (K' := K) rfl (pv 2) rfl) (pa_cons (pe_fldK (K' := K) rfl (pv 2) rfl) pa_nil))))))
        (pss_one (ps_ret (pe_lst (pa_cons (pe_gi rfl T.g_NOT_FITTING) pa_nil))))
        pss_nil)
      (pss_cons (ps_if (PW.pt (pw_or (pt_cmpR op_gt (pe_fldK (K' := K) rfl (pv 2) rfl) (pe_gi rfl T.g_HIGHEST_RANK) (nomark _)) (pw_or1 (pt_cmpR op_gt (pe_fldK (K' := K) rfl (pv 2) rfl) (pe_gi rfl T.g_HIGHEST_VALUE) (nomark _)))))
        (pss_one (ps_ret (pe_lst (pa_cons (pe_gi rfl T.g_NOT_FITTING) pa_nil))))
        pss_nil)
      (pss_cons (ps_if (pt_cmpR op_eq (pe_fldK (K' := K) rfl (pv 0) rfl) (pe_gi rfl T.g_MOST_STRETCHES) (nomark _))
        (pss_one (ps_ret (pe_lst (pa_cons (pe_gi rfl T.g_TOO_MANY_STRETCHES) pa_nil))))
        pss_nil)
      (pss_cons (ps_dput hu (pe_fldK (K' := K) rfl (pv 0) rfl) (pe_fldK (K' := K) rfl (pv 2) rfl) (pv 2) rfl)
      (pss_cons (ps_fldaug (pv 0) pe_int in_add)
      (pss_cons (ps_fldaug (pv 0) pe_int in_add)
      (pss_one (ps_ret (pe_lst (pa_cons (pe_fldK (K' := K) rfl (pv 2) rfl) pa_nil))))))))))), ?_⟩
    have R := se_r T S.obj
    refine s_asgQ ?_
    refine make_of (va_cons (v_fd (val_var rfl) R.made) (va_cons (val_var rfl) (va_cons (v_fd (val_var rfl) R.turns) va_nil))) (fun y0 dy hy hd => ⟨_, l, _, _, _, _, _, _, _, _, rfl, by rw [upd_ne (ne_of_none hl hy), upd_ne (ne_of_none hl hd)]; exact hl, rfl⟩) fun p dy hp hdy nyy => ?_
    have s1 : Same H (upd (upd H dy (.own p)) p (.ins cStretch dy (ob nsStretch (stV ⟨g.given, x, y, la, lb, v, r, w, g.stamps, false⟩)))) := same_upd (same_new hdy) hp
    have S1 := S.same s1
    have R1 := se_r T S1.obj
    have r1 : StR K _ p ⟨g.given, x, y, la, lb, v, r, w, g.stamps, false⟩ := st_r (H := upd (upd H dy (.own p)) p (.ins cStretch dy (ob nsStretch (stV ⟨g.given, x, y, la, lb, v, r, w, g.stamps, false⟩)))) T upd_same
    have step : Ue02.step g (.mark x y la lb v r w) = if y < x ∨ g.text.length < y ∨ 9 < r ∨ 99 < w ∨ (v = true ∧ x = y) then (g, [-1]) else if Ue02.MARKS ≤ g.given then (g, [-5]) else ({ g with marks := g.marks ++ [⟨g.given, x, y, la, lb, v, r, w, g.stamps, false⟩], given := g.given + 1, stamps := g.stamps + 1 }, Ue02.ints [g.given]) := rfl
    generalize eH1 : upd (upd H dy (.own p)) p (.ins cStretch dy (ob nsStretch (stV ⟨g.given, x, y, la, lb, v, r, w, g.stamps, false⟩))) = H1 at s1 S1 R1 r1
    have e1 : H1 p = some (.ins cStretch dy (ob nsStretch (stV ⟨g.given, x, y, la, lb, v, r, w, g.stamps, false⟩))) := by rw [← eH1]; exact upd_same
    rw [show upd (upd H dy (.own p)) p (.ins cStretch dy (ob nsStretch [V.int (g.given : Int), V.int (x : Int), V.int (y : Int), V.int (b2n la : Int), V.int (b2n lb : Int), V.int (b2n v : Int), V.int (r : Int), V.int (w : Int), .bl false, V.int (g.stamps : Int)])) = H1 from eH1]
    refine s_ite (ans_not (a_val (v_room ⟨_, _, _, _, _, _, _, _, S1⟩ (val_var rfl) S1.obj (va_cons (v_fd (val_var rfl) r1.van) (va_cons (v_fd (val_var rfl) r1.begin_) (va_cons (v_fd (val_var rfl) r1.end_) va_nil)))))) (fun c => ?_) (fun c => ?_)
    · have c : ¬ room g.text.length v x y = true := by
        intro q
        rw [show room g.text.length { number := g.given, a := x, b := y, leanA := la, leanB := lb, vanish := v, rank := r, value := w, stamp := g.stamps, gone := false : Ue02.Stretch }.vanish x y = room g.text.length v x y from rfl, q] at c
        cases c
      rw [room_true, Classical.not_not] at c
      rw [step, if_pos (by rcases c with c | c | c; exact .inl c; exact .inr (.inl c); exact .inr (.inr (.inr (.inr c))))] at k
      exact says S s1 val_c k
    have c : room g.text.length v x y = true := by
      cases q : room g.text.length v x y with
      | true => rfl
      | false =>
        rw [show room g.text.length { number := g.given, a := x, b := y, leanA := la, leanB := lb, vanish := v, rank := r, value := w, stamp := g.stamps, gone := false : Ue02.Stretch }.vanish x y = room g.text.length v x y from rfl, q] at c
        cases c
    rw [room_true] at c
    refine s_ite (a_or (a_test (v_gt (v_fd (val_var rfl) r1.rank) val_c)) fun _ => a_test (v_gt (v_fd (val_var rfl) r1.value) val_c)) (fun c2 => ?_) (fun c2 => ?_)
    · simp only [Bool.or_eq_true, decide_eq_true_eq] at c2
      rw [step, if_pos (by rcases c2 with c2 | c2; exact .inr (.inr (.inl (by omega))); exact .inr (.inr (.inr (.inl (by omega)))))] at k
      exact says S s1 val_c k
    simp only [Bool.or_eq_false_iff, decide_eq_false_iff_not] at c2
    have c3 : ¬ (y < x ∨ g.text.length < y ∨ 9 < r ∨ 99 < w ∨ (v = true ∧ x = y)) := by
      intro q
      rcases q with q | q | q | q | q
      · exact c (.inl q)
      · exact c (.inr (.inl q))
      · omega
      · omega
      · exact c (.inr (.inr q))
    rw [step, if_neg c3] at k
    refine s_itd (p := (g.given : Int) = 40) (a_test (v_eqI (v_fd (val_var rfl) R1.made) val_c)) (fun c4 => ?_) (fun c4 => ?_)
    · rw [if_pos (by show 40 ≤ g.given; omega)] at k
      exact says S s1 val_c k
    have gl := I.giv
    rw [if_neg (by show ¬ 40 ≤ g.given; omega)] at k
    -- self.stretches[number] = stretch
    have ap := apart_of S.nd
    have hpM : p ∉ M := by
      intro m
      rw [S.m] at m
      simp only [List.mem_cons] at m
      rcases m with e | e | e | e | e
      · rw [e] at hp; rw [S.obj] at hp; cases hp
      · rw [e] at hp; rw [S.dic] at hp; cases hp
      · rw [e] at hp; rw [S.stl] at hp; cases hp
      · rw [e] at hp; rw [S.tkl] at hp; cases hp
      · obtain ⟨j, hj, ej⟩ := List.mem_iff_getElem.mp e
        have hj2 : j < g.marks.length := by rw [← S.lenM]; exact hj
        obtain ⟨dz, hz⟩ := S.mks.at_ j p g.marks[j] (by rw [List.getElem?_eq_getElem hj, ej]) (List.getElem?_eq_getElem hj2)
        rw [hz] at hp; cases hp
    have hml : g.marks.length ≤ 40 := by
      have := nodup_small (n := g.given) I.num (fun x hx => by
        obtain ⟨s, hs, rfl⟩ := List.mem_map.mp hx
        exact I.lt s hs)
      rw [List.length_map] at this
      omega
    have hkv : valV (kvs g.marks as) (Sum.inl (g.given : Int)) = none := kvs_none fun s hs e => by
      have := I.lt s hs
      omega
    have hap : ∀ b, b ∈ M → b ≠ p := fun b hb e => hpM (e ▸ hb)
    have mem : ∀ b, b ∈ a :: d :: sl :: tl :: as → b ≠ p := fun b hb => hap b (by rw [S.m]; exact hb)
    refine s_dput (val_var rfl) (v_fd (val_var rfl) R1.stretches) (v_fd (val_var rfl) r1.number) S1.dic (by rw [kvs_length S.lenM]; have := sizeLine_big; omega) ?_
    rw [putK_new _ hkv, show [((Sum.inl (g.given : Int) : L2.Key), V.ref p)] = [(Sum.inl ((⟨g.given, x, y, la, lb, v, r, w, g.stamps, false⟩ : Ue02.Stretch).number : Int), V.ref p)] from rfl, ← kvs_snoc S.lenM]
    refine s_inc (val_var rfl) ((upd_ne ap.da.symm).trans S1.obj) T.cl_Session T.n_Session_made (i := 2) (by decide +kernel) rfl rfl (by decide) val_c ?_
    refine s_inc (val_var rfl) upd_same T.cl_Session T.n_Session_turns (i := 3) (by decide +kernel) rfl rfl (by decide) val_c ?_
    rw [upd_upd]
    have npa : p ≠ a := (mem a (by simp)).symm
    have npd : p ≠ d := (mem d (by simp)).symm
    refine lst_of (va_cons (v_fd (val_var rfl) (st_r T ((upd_ne npa).trans ((upd_ne npd).trans e1))).number) va_nil) (by show 1 ≤ sizeLine; decide) fun q hq => ?_
    have s2 : Frame M H (a :: d :: sl :: tl :: (as ++ [p])) (upd (upd (upd H1 d (.dK (kvs (g.marks ++ [⟨g.given, x, y, la, lb, v, r, w, g.stamps, false⟩]) (as ++ [p])))) a (.ins cSession dx (ob nsSession (seV { g with marks := g.marks ++ [⟨g.given, x, y, la, lb, v, r, w, g.stamps, false⟩], given := g.given + 1, stamps := g.stamps + 1 } t0 d sl tl)))) q (.lst [V.int (g.given : Int)])) := by
      refine ⟨fun b o e nb => ?_, fun b hb => ?_, (((dom_same s1).put).put).put⟩
      · have nba : b ≠ a := fun z => nb (by rw [z, S.m]; exact List.mem_cons_self)
        have nbd : b ≠ d := fun z => nb (by rw [z, S.m]; exact List.mem_cons_of_mem _ List.mem_cons_self)
        have nbq : b ≠ q := ne_of_none (o := o) (by rw [upd_ne nba, upd_ne nbd]; exact s1 b o e) hq
        rw [upd_ne nbq, upd_ne nba, upd_ne nbd]
        exact s1 b o e
      · have hb : b ∈ a :: d :: sl :: tl :: as ∨ b = p := by
          simp only [List.mem_cons, List.mem_append, List.not_mem_nil, or_false] at hb ⊢
          rcases hb with h | h | h | h | h | h
          · exact .inl (.inl h)
          · exact .inl (.inr (.inl h))
          · exact .inl (.inr (.inr (.inl h)))
          · exact .inl (.inr (.inr (.inr (.inl h))))
          · exact .inl (.inr (.inr (.inr (.inr h))))
          · exact .inr h
        rcases hb with h | h
        · exact .inl (by rw [S.m]; exact h)
        · exact .inr (by rw [h]; exact hp)
    refine k _ _ q ⟨dx, t0, d, sl, tl, as ++ [p], us, rs, rfl, ?_, ?_, ?_, ?_, ?_, ?_, ?_, ?_, ?_, s2.xok S.xk⟩ s2 ?_ upd_same
    · show ((a :: d :: sl :: tl :: as) ++ [p]).Nodup
      rw [List.nodup_append]
      exact ⟨S.nd, List.nodup_cons.mpr ⟨(fun h => by cases h), List.nodup_nil⟩, fun b hb c hc e => mem b hb (by simp at hc; rw [e, hc])⟩
    · have naq : a ≠ q := ne_of_none (o := _) upd_same hq
      rw [upd_ne naq]
      exact upd_same
    · have ndq : d ≠ q := ne_of_none (o := _) ((upd_ne ap.da).trans upd_same) hq
      rw [upd_ne ndq, upd_ne ap.da]
      exact upd_same
    · have nq : sl ≠ q := ne_of_none (o := _) (by rw [upd_ne ap.sa, upd_ne ap.sd]; exact S1.stl) hq
      rw [upd_ne nq, upd_ne ap.sa, upd_ne ap.sd]
      exact S1.stl
    · have nq : tl ≠ q := ne_of_none (o := _) (by rw [upd_ne ap.ta, upd_ne ap.td]; exact S1.tkl) hq
      rw [upd_ne nq, upd_ne ap.ta, upd_ne ap.td]
      exact S1.tkl
    · have npa : p ≠ a := (mem a List.mem_cons_self).symm
      have npd : p ≠ d := (mem d (List.mem_cons_of_mem _ List.mem_cons_self)).symm
      have npq : p ≠ q := ne_of_none (o := _) (by rw [upd_ne npa, upd_ne npd]; exact e1) hq
      refine All2.snoc (S1.mks.imp fun b z hb hz ⟨dz, q1⟩ => ?_) ⟨dy, by rw [upd_ne npq, upd_ne npa, upd_ne npd]; exact e1⟩
      have nbq : b ≠ q := ne_of_none (o := _) (by rw [upd_ne (ap.xa b hb), upd_ne (ap.xd b hb)]; exact q1) hq
      exact ⟨dz, by rw [upd_ne nbq, upd_ne (ap.xa b hb), upd_ne (ap.xd b hb)]; exact q1⟩
    · exact s2.cut _ _ S.txt
    · exact S.und.imp fun _ _ _ _ z => z.mono s2.cut
    · exact S.red.imp fun _ _ _ _ z => z.mono s2.cut
    · cases z : H q with
      | none => rfl
      | some o =>
        by_cases m : q ∈ M
        · rw [S.m] at m
          exfalso
          have hq2 := hq
          by_cases za : q = a
          · rw [za, upd_same] at hq2; cases hq2
          · rw [upd_ne za] at hq2
            by_cases zd : q = d
            · rw [zd, upd_same] at hq2; cases hq2
            · rw [upd_ne zd, s1 q o z] at hq2; cases hq2
        · have za : q ≠ a := fun e => m (by rw [e, S.m]; exact List.mem_cons_self)
          have zd : q ≠ d := fun e => m (by rw [e, S.m]; exact List.mem_cons_of_mem _ List.mem_cons_self)
          rw [upd_ne za, upd_ne zd, s1 q o z] at hq
          cases hq
end
end Mk
end

section
set_option Elab.async false
set_option linter.all false
set_option maxRecDepth 100000
set_option maxHeartbeats 4000000
namespace Mk
open PySem PySem.Spec PyProof.Rows L2
theorem upd_none {H : Hp} {a b : Addr} {o : HO} (h : upd H a o b = none) : b ≠ a ∧ H b = none := by
  have n : b ≠ a := fun e => by rw [e, upd_same] at h; cases h
  exact ⟨n, by rw [upd_ne n] at h; exact h⟩
section
variable {P : Program} {w : World} {K : PySem.W.Frag} {mg : Str → Option Value} {base : Heap} {cChange cStretch cStep cSession : Addr}
theorem marks_small {g : Ue02.House} (I : PInv g) : g.marks.length ≤ 40 := by
  have := nodup_small (n := g.given) I.num (fun x hx => by
    obtain ⟨s, hs, rfl⟩ := List.mem_map.mp hx
    exact I.lt s hs)
  rw [List.length_map] at this
  have := I.giv
  omega
theorem dpop_of {σ : L2.St} {H : Hp} {td ty : TE} {d : Addr} {n : Nat} {kv : List (L2.Key × V)} {v : V} {Q : VK} (h1 : Val td σ H (.ref d)) (h2 : Val ty σ H (.int (n : Int))) (hd : H d = some (.dK kv)) (hv : valV kv (Sum.inl (n : Int)) = some v) (q : Q v (upd H d (.dK (dropK kv (Sum.inl (n : Int)))))) : tDPop1 td ty σ H Q :=
  h1 _ ⟨d, rfl, .inl ⟨kv, .inl hd⟩, h2 _ ⟨kv, Sum.inl (n : Int), v, hd, rfl, hv, q⟩⟩
theorem s_dropQ {σ : L2.St} {H : Hp} {te : TE} {D : Ends} (h : te σ H fun _ H1 => D.nx σ H1) : tDrop te D σ H := h
/-- the session behind changes of its own parts alone: its object, its dict, its two lists, its stretches -/
theorem Sess.re {X M M' : List Addr} {H H' : Hp} {a dx t d sl tl : Addr} {g g' : Ue02.House} {as us rs : List Addr} (S : Sess cChange cStretch cStep cSession X M H a g dx t d sl tl as us rs) {t' d' sl' tl' : Addr} {as' us' rs' : List Addr} (fr : Frame M H M' H') (m : M' = a :: d' :: sl' :: tl' :: as') (nd : (a :: d' :: sl' :: tl' :: as').Nodup)
    (obj : H' a = some (.ins cSession dx (ob nsSession (seV g' t' d' sl' tl')))) (dic : H' d' = some (.dK (kvs g'.marks as'))) (stl : H' sl' = some (.lst (us'.reverse.map V.ref))) (tkl : H' tl' = some (.lst (rs'.reverse.map V.ref))) (mks : All2 (MkAt cStretch H') as' g'.marks)
    (txt : cut (M' ++ X) H' t' = some (.lst (natV g'.text))) (und : All2 (DoneAt cChange cStep (cut (M' ++ X) H')) us' g'.undo) (red : All2 (CLst cChange (cut (M' ++ X) H')) rs' g'.redo) : SessAt cChange cStretch cStep cSession X M' H' a g' :=
  ⟨dx, t', d', sl', tl', as', us', rs', m, nd, obj, dic, stl, tkl, mks, txt, und, red, fr.xok S.xk⟩
/-! ### Session.refusal_of -/
def refV (g : Ue02.House) (n : Nat) : V := match g.marks.find? fun s => s.number == n with
  | none => .int (-2)
  | some s => if s.gone = true then .int (-3) else .non
def spRefusal (cChange cStretch cStep cSession : Addr) : Sp := fun vs H Q _ => ∃ (X M : List Addr) (a : Addr) (g : Ue02.House) (n : Nat), vs = [.ref a, .int (n : Int)] ∧ SessAt cChange cStretch cStep cSession X M H a g ∧ PInv g ∧ Q (refV g n) H
theorem ok_Session_refusal_of {f : Addr} {fd : FuncData} (F : Fun K "refusal_of" "Session.refusal_of" s_Session_refusal_of f fd) (T : Txt K mg cChange cStretch cStep cSession) : FnOk P w K mg base CX0 1 f fd ["self", "number"] (spRefusal cChange cStretch cStep cSession) := by
  refine F.ok sc_Session_refusal_of (fun vs H Q E h => ?_) (fun cdv A outer s H vs Q E hr h => ?_)
  · obtain ⟨X, M, a, g, n, rfl, _⟩ := h
    rfl
  · obtain ⟨X, M, a, g, n, rfl, ⟨dx, t0, d, sl, tl, as, us, rs, S⟩, I, k⟩ := h
    have nd := sc_Session_refusal_of.nd
    have hu := hu_of hr
    refine ⟨_, (pss_cons (ps_if (pt_cmp (pc_dnotin hu (pv 1) (pe_fldK (K' := K) rfl (pv 0) rfl)))
        (pss_one (ps_ret (pe_gi rfl T.g_NO_SUCH_STRETCH)))
        pss_nil)
      (pss_cons (ps_if (pt_val (pe_fldK (K' := K) rfl (pe_dget hu (pe_fldK (K' := K) rfl (pv 0) rfl) (pv 1) (fun _ _ => rfl)) rfl))
        (pss_one (ps_ret (pe_gi rfl T.g_HAS_VANISHED)))
        pss_nil)
      (pss_one (ps_ret pe_non)))), ?_⟩
    have R := se_r T S.obj
    unfold refV at k
    refine s_ite (a_notin (val_var rfl) (v_fd (val_var rfl) R.stretches) (.inl S.dic)) (fun c => ?_) (fun c => ?_)
    · cases e : g.marks.find? fun s => s.number == n with
      | none =>
        rw [e] at k
        exact st_ret val_c k
      | some s =>
        obtain ⟨i, hi, hn⟩ := find_some e
        obtain ⟨b, hb, _⟩ := S.mks.get hi
        rw [← hn, kvs_some I.num hi hb] at c
        cases c
    cases e : g.marks.find? fun s => s.number == n with
    | none =>
      rw [kvs_none (find_none e)] at c
      cases c
    | some s =>
      rw [e] at k
      obtain ⟨i, hi, hn⟩ := find_some e
      obtain ⟨b, hb, db, hbs⟩ := S.mks.get hi
      have hv : valV (kvs g.marks as) (Sum.inl (n : Int)) = some (.ref b) := by rw [← hn]; exact kvs_some I.num hi hb
      have r := st_r T hbs
      refine s_ite (a_val (v_fd (v_dget (v_fd (val_var rfl) R.stretches) (val_var rfl) (.inl S.dic) hv) r.gone)) (fun c2 => ?_) (fun c2 => ?_)
      · simp only [if_pos c2] at k
        exact st_ret val_c k
      · simp only [c2, Bool.false_eq_true, if_false] at k
        exact k
theorem v_refusal {σ : L2.St} {H : Hp} {ta : TE} {t : TA} {X M : List Addr} {a dx : Addr} {g : Ue02.House} {n : Nat} {vs : List V} (S : SessAt cChange cStretch cStep cSession X M H a g) (I : PInv g) (ha : Val ta σ H (.ref a)) (ho : H a = some (.ins cSession dx (ob nsSession vs))) (h : ValA t σ H [.int (n : Int)]) :
    Val (tMeth cSession "refusal_of" (spRefusal cChange cStretch cStep cSession) [] E0 ta t) σ H (refV g n) := fun Q q => meth_of ha ho (ob_no (by decide +kernel)) h ⟨X, M, a, g, n, rfl, S, I, q⟩
theorem a_notN1 {σ : L2.St} {H : Hp} {ta : TE} {i : Int} (h : Val ta σ H (.int i)) : Ans (tB (tNotN ta)) σ H true := fun Q q => h _ ⟨true, rfl, q⟩
theorem a_notN0 {σ : L2.St} {H : Hp} {ta : TE} (h : Val ta σ H .non) : Ans (tB (tNotN ta)) σ H false := fun Q q => h _ ⟨false, rfl, q⟩
/-- what refusal_of tells apart -/
theorem ref_cases {g : Ue02.House} (n : Nat) : (g.marks.find? (fun s => s.number == n) = none ∧ refV g n = .int (-2)) ∨ (∃ s, g.marks.find? (fun s => s.number == n) = some s ∧ s.gone = true ∧ refV g n = .int (-3)) ∨ ∃ s, g.marks.find? (fun s => s.number == n) = some s ∧ s.gone = false ∧ refV g n = .non := by
  unfold refV
  cases e : g.marks.find? fun s => s.number == n with
  | none => exact .inl ⟨rfl, rfl⟩
  | some s =>
    cases q : s.gone with
    | true => exact .inr (.inl ⟨s, rfl, q, by simp [q]⟩)
    | false => exact .inr (.inr ⟨s, rfl, q, by simp [q]⟩)
/-! ### Session.set_to -/
def spSet (cChange cStretch cStep cSession : Addr) : Sp := fun vs H Q _ => ∃ (X M : List Addr) (a : Addr) (g : Ue02.House) (n x y : Nat), vs = [.ref a, .int (n : Int), .int (x : Int), .int (y : Int)] ∧ SessAt cChange cStretch cStep cSession X M H a g ∧ PInv g ∧
  Gives cChange cStretch cStep cSession X M H a (Ue02.step g (.set n x y)).1 (Ue02.step g (.set n x y)).2 Q
theorem ok_Session_set_to {f : Addr} {fd : FuncData} (F : Fun K "set_to" "Session.set_to" s_Session_set_to f fd) (T : Txt K mg cChange cStretch cStep cSession)
    (meth_Session_refusal_of : Meths P w K mg base cSession "refusal_of" 1 ["self", "number"] (spRefusal cChange cStretch cStep cSession))
    (meth_Session_has_room : Meths P w K mg base cSession "has_room" 2 ["self", "vanishes", "begin", "end"] (spRoom cChange cStretch cStep cSession)) : FnOk P w K mg base CX0 3 f fd ["self", "number", "begin", "end"] (spSet cChange cStretch cStep cSession) := by
  refine F.ok sc_Session_set_to (fun vs H Q E h => ?_) (fun cdv A outer s H vs Q E hr h => ?_)
  · obtain ⟨X, M, a, g, n, x, y, rfl, _⟩ := h
    rfl
  · obtain ⟨X, M, a, g, n, x, y, rfl, hS, I, k⟩ := h
    obtain ⟨dx, t0, d, sl, tl, as, us, rs, S⟩ := id hS
    have nd := sc_Session_set_to.nd
    have hu := hu_of hr
    refine ⟨_, (pss_cons (ps_set (i := 4) nd rfl (Or.inl rfl) (pe_mt meth_Session_refusal_of (pv 0) (hr.mono (by decide)) (pa_cons (pv 1) pa_nil)))
      (pss_cons (ps_if (pt_cmp (pc_notN (pv 4)))
        (pss_one (ps_ret (pe_lst (pa_cons (pv 4) pa_nil))))
        pss_nil)
      (pss_cons (ps_set (i := 5) nd rfl (Or.inl rfl) (pe_dget hu (pe_fldK (K' := K) rfl (pv 0) rfl) (pv 1) (fun _ _ => rfl)))
      (pss_cons (ps_if (pt_not (pt_val (pe_mt meth_Session_has_room (pv 0) (hr.mono (by decide)) (pa_cons (pe_fldK (K' := K) rfl (pv 5) rfl) (pa_cons (pv 2) (pa_cons (pv 3) pa_nil))))))
        (pss_one (ps_ret (pe_lst (pa_cons (pe_gi rfl T.g_NOT_FITTING) pa_nil))))
        pss_nil)
      (pss_cons (ps_fld (pv 5) (pv 2) rfl)
      (pss_cons (ps_fld (pv 5) (pv 3) rfl)
      (pss_cons (ps_fld (pv 5) (pe_fldK (K' := K) rfl (pv 0) rfl) rfl)
      (pss_cons (ps_fldaug (pv 0) pe_int in_add)
      (pss_one (ps_ret (pe_lst (pa_cons pe_int pa_nil)))))))))))), ?_⟩
    have R := se_r T S.obj
    have step : Ue02.step g (.set n x y) = (match g.marks.find? fun s => s.number == n with
      | none => (g, [-2])
      | some s => if s.gone = true then (g, [-3]) else if y < x ∨ g.text.length < y ∨ (s.vanish = true ∧ x = y) then (g, [-1]) else ({ g with marks := g.marks.map fun t => if t.number = n then { t with a := x, b := y, stamp := g.stamps } else t, stamps := g.stamps + 1 }, [0])) := rfl
    rw [step] at k
    refine st_set (v_refusal hS I (val_var rfl) S.obj (va_cons (val_var rfl) va_nil)) ?_
    rcases ref_cases (g := g) n with ⟨e, er⟩ | ⟨s, e, c2, er⟩ | ⟨s, e, c2, er⟩
    · rw [er]
      refine s_ite (a_notN1 (val_var rfl)) (fun _ => ?_) (fun c => by cases c)
      rw [e] at k
      exact says S (Same.refl H) (val_var rfl) k
    · rw [er]
      refine s_ite (a_notN1 (val_var rfl)) (fun _ => ?_) (fun c => by cases c)
      simp only [e, if_pos c2] at k
      exact says S (Same.refl H) (val_var rfl) k
    · rw [er]
      refine s_ite (a_notN0 (val_var rfl)) (fun c => by cases c) (fun _ => ?_)
      rw [e] at k
      obtain ⟨i, hi, hn⟩ := find_some e
      obtain ⟨b, hb, db, hbs⟩ := S.mks.get hi
      have hv : valV (kvs g.marks as) (Sum.inl (n : Int)) = some (.ref b) := by rw [← hn]; exact kvs_some I.num hi hb
      have r := st_r T hbs
      have ap := apart_of S.nd
      have mb : b ∈ as := List.mem_of_getElem? hb
      refine st_set (v_dget (v_fd (val_var rfl) R.stretches) (val_var rfl) (.inl S.dic) hv) ?_
      simp only [c2, Bool.false_eq_true, if_false] at k
      refine s_ite (ans_not (a_val (v_room ⟨_, _, _, _, _, _, _, _, S⟩ (val_var rfl) S.obj (va_cons (v_fd (val_var rfl) r.van) (va_cons (val_var rfl) (va_cons (val_var rfl) va_nil)))))) (fun c3 => ?_) (fun c3 => ?_)
      · have c3 : ¬ room g.text.length s.vanish x y = true := by
          intro q
          rw [q] at c3
          cases c3
        rw [room_true, Classical.not_not] at c3
        simp only [if_pos c3] at k
        exact says S (Same.refl H) val_c k
      have c3 : room g.text.length s.vanish x y = true := by
        cases q : room g.text.length s.vanish x y with
        | true => rfl
        | false => rw [q] at c3; cases c3
      rw [room_true] at c3
      simp only [if_neg c3] at k
      refine s_put (val_var rfl) (val_var rfl) hbs T.cl_Stretch T.n_Stretch_begin (i := 1) (by decide +kernel) rfl (by decide) ?_
      refine s_put (val_var rfl) (val_var rfl) upd_same T.cl_Stretch T.n_Stretch_end (i := 2) (by decide +kernel) rfl (by decide) ?_
      rw [upd_upd]
      have nab : a ≠ b := (ap.xa b mb).symm
      have R2 : SeR K (upd H b (.ins cStretch db (ob nsStretch (stV { s with a := x, b := y })))) a g t0 d sl tl := se_r T ((upd_ne nab).trans S.obj)
      refine s_put (v_fd (val_var rfl) R2.turns) (val_var rfl) upd_same T.cl_Stretch T.n_Stretch_turn (i := 9) (by decide +kernel) rfl (by decide) ?_
      rw [upd_upd]
      refine s_inc (val_var rfl) ((upd_ne nab).trans S.obj) T.cl_Session T.n_Session_turns (i := 3) (by decide +kernel) rfl rfl (by decide) val_c ?_
      refine lst_of (σ := []) (va_cons val_c va_nil) (by show 1 ≤ sizeLine; decide) fun q hq => ?_
      obtain ⟨nqa, hq1⟩ := upd_none hq
      obtain ⟨nqb, hq2⟩ := upd_none hq1
      have hab : ∀ z ∈ M, z ≠ q := fun z hz e => by
        rw [← e] at hq2
        rw [S.m] at hz
        simp only [List.mem_cons] at hz
        rcases hz with h | h | h | h | h
        · rw [h, S.obj] at hq2; cases hq2
        · rw [h, S.dic] at hq2; cases hq2
        · rw [h, S.stl] at hq2; cases hq2
        · rw [h, S.tkl] at hq2; cases hq2
        · obtain ⟨j, hj⟩ := List.mem_iff_getElem?.mp h
          have hj2 : j < g.marks.length := by rw [← S.lenM]; exact (List.getElem?_eq_some_iff.mp hj).1
          obtain ⟨dz, hz⟩ := S.mks.at_ j z g.marks[j] hj (List.getElem?_eq_getElem hj2)
          rw [hz] at hq2; cases hq2
      have inM : ∀ z, z ∈ a :: d :: sl :: tl :: as → z ∈ M := fun z h => by rw [S.m]; exact h
      have ndq : d ≠ q := hab d (inM d (by simp))
      have nsq : sl ≠ q := hab sl (inM sl (by simp))
      have ntq : tl ≠ q := hab tl (inM tl (by simp))
      have fr : Frame M H M (upd (upd (upd H b (.ins cStretch db (ob nsStretch (stV { s with a := x, b := y, stamp := g.stamps })))) a (.ins cSession dx (ob nsSession (seV { g with stamps := g.stamps + 1 } t0 d sl tl)))) q (.lst [V.int 0])) := by
        refine ⟨fun z o e nz => ?_, fun z hz => .inl hz, (((Dom.refl H).put).put).put⟩
        rw [upd_ne (ne_of_none e hq2), upd_ne (fun h => nz (by rw [h]; exact inM a (by simp))), upd_ne (fun h => nz (by rw [h]; exact inM b (by simp [mb])))]
        exact e
      refine k _ M q (S.re fr S.m S.nd (us' := us) (rs' := rs) (t' := t0) ?_ ?_ ?_ ?_ ?_ ?_ ?_ ?_) fr hq2 upd_same
      · rw [upd_ne nqa.symm]
        exact upd_same
      · rw [upd_ne ndq, upd_ne ap.da, upd_ne (ap.xd b mb).symm, S.dic]
        congr 2
        have key : ∀ (l : List Ue02.Stretch) (z : List Addr), kvs l z = kvs (l.map fun t => if t.number = n then { t with a := x, b := y, stamp := g.stamps } else t) z := by
          intro l
          induction l with
          | nil => intro z; rfl
          | cons c l ih =>
            intro z
            cases z with
            | nil => rfl
            | cons e z =>
              show _ :: kvs l z = _ :: kvs _ z
              rw [ih z]
              congr 2
              by_cases h : c.number = n
              · simp only [if_pos h]
              · simp only [if_neg h]
        exact key g.marks as
      · rw [upd_ne nsq, upd_ne ap.sa, upd_ne (ap.xs b mb).symm]
        exact S.stl
      · rw [upd_ne ntq, upd_ne ap.ta, upd_ne (ap.xt b mb).symm]
        exact S.tkl
      · refine ⟨by rw [List.length_map]; exact S.lenM, fun j z u hz hu => ?_⟩
        rw [List.getElem?_map] at hu
        cases ej : g.marks[j]? with
        | none => rw [ej] at hu; cases hu
        | some m =>
          rw [ej] at hu
          have hu : (if m.number = n then { m with a := x, b := y, stamp := g.stamps } else m) = u := Option.some.inj hu
          have mz : z ∈ as := List.mem_of_getElem? hz
          have nzq : z ≠ q := hab z (inM z (by simp [mz]))
          by_cases c4 : m.number = n
          · have eij : j = i := num_ix I.num ej hi (c4.trans hn.symm)
            subst eij
            have e1 : z = b := Option.some.inj (hz.symm.trans hb)
            have e2 : m = s := Option.some.inj (ej.symm.trans hi)
            subst e1 e2
            rw [if_pos c4] at hu
            subst hu
            exact ⟨db, by rw [upd_ne nzq, upd_ne nab.symm]; exact upd_same⟩
          · rw [if_neg c4] at hu
            subst hu
            have nzb : z ≠ b := fun h => c4 (by
              have : j = i := nd_ix ap.nd hz (by rw [h]; exact hb)
              subst this
              rw [Option.some.inj (ej.symm.trans hi)]
              exact hn)
            obtain ⟨dz, q1⟩ := S.mks.at_ j z m hz ej
            exact ⟨dz, by rw [upd_ne nzq, upd_ne (ap.xa z mz), upd_ne nzb]; exact q1⟩
      · exact fr.cut _ _ S.txt
      · exact S.und.imp fun _ _ _ _ z => z.mono fr.cut
      · exact S.red.imp fun _ _ _ _ z => z.mono fr.cut
/-! ### Session.drop -/
def spDrop (cChange cStretch cStep cSession : Addr) : Sp := fun vs H Q _ => ∃ (X M : List Addr) (a : Addr) (g : Ue02.House) (n : Nat), vs = [.ref a, .int (n : Int)] ∧ SessAt cChange cStretch cStep cSession X M H a g ∧ PInv g ∧
  Gives cChange cStretch cStep cSession X M H a (Ue02.step g (.drop n)).1 (Ue02.step g (.drop n)).2 Q
theorem ok_Session_drop {f : Addr} {fd : FuncData} (F : Fun K "drop" "Session.drop" s_Session_drop f fd) (T : Txt K mg cChange cStretch cStep cSession) : FnOk P w K mg base CX0 1 f fd ["self", "number"] (spDrop cChange cStretch cStep cSession) := by
  refine F.ok sc_Session_drop (fun vs H Q E h => ?_) (fun cdv A outer s H vs Q E hr h => ?_)
  · obtain ⟨X, M, a, g, n, rfl, _⟩ := h
    rfl
  · obtain ⟨X, M, a, g, n, rfl, ⟨dx, t0, d, sl, tl, as, us, rs, S⟩, I, k⟩ := h
    have nd := sc_Session_drop.nd
    have hu := hu_of hr
    refine ⟨_, (pss_cons (ps_if (pt_cmp (pc_dnotin hu (pv 1) (pe_fldK (K' := K) rfl (pv 0) rfl)))
        (pss_one (ps_ret (pe_lst (pa_cons (pe_gi rfl T.g_NO_SUCH_STRETCH) pa_nil))))
        pss_nil)
      (pss_cons (ps_expr (pe_dpop1 (pe_fldK (K' := K) rfl (pv 0) rfl) (pv 1) ⟨rfl, rfl, rfl, rfl⟩))
      (pss_one (ps_ret (pe_lst (pa_cons pe_int pa_nil)))))), ?_⟩
    have R := se_r T S.obj
    have step : Ue02.step g (.drop n) = if (g.marks.find? fun s => s.number == n).isNone = true then (g, [-2]) else ({ g with marks := g.marks.filter fun t => t.number != n }, [0]) := rfl
    rw [step] at k
    refine s_ite (a_notin (val_var rfl) (v_fd (val_var rfl) R.stretches) (.inl S.dic)) (fun c => ?_) (fun c => ?_)
    · cases e : g.marks.find? fun s => s.number == n with
      | none =>
        rw [e, if_pos (by rfl)] at k
        exact says S (Same.refl H) val_c k
      | some s =>
        obtain ⟨i, hi, hn⟩ := find_some e
        obtain ⟨b, hb, _⟩ := S.mks.get hi
        rw [← hn, kvs_some I.num hi hb] at c
        cases c
    cases e : g.marks.find? fun s => s.number == n with
    | none =>
      rw [kvs_none (find_none e)] at c
      cases c
    | some s =>
      rw [e, if_neg (by simp)] at k
      obtain ⟨i, hi, hn⟩ := find_some e
      obtain ⟨b, hb, _⟩ := S.mks.get hi
      have hv : valV (kvs g.marks as) (Sum.inl (n : Int)) = some (.ref b) := by rw [← hn]; exact kvs_some I.num hi hb
      have ap := apart_of S.nd
      show tDPop1 (tFld K (tVar 0) "stretches") (tVar 1) (start ["self", "number"] [.ref a, .int (n : Int)]) H _
      refine dpop_of (v_fd (val_var rfl) R.stretches) (val_var rfl) S.dic hv ?_
      rw [kvs_drop S.lenM]
      refine lst_of (σ := []) (va_cons val_c va_nil) (by show 1 ≤ sizeLine; decide) fun q hq => ?_
      obtain ⟨nqd, hq2⟩ := upd_none hq
      have sub : ∀ z ∈ asOut n g.marks as, z ∈ as := fun z hz => asOut_sub.subset hz
      have fr : Frame M H (a :: d :: sl :: tl :: asOut n g.marks as) (upd (upd H d (.dK (kvs (g.marks.filter fun t => t.number != n) (asOut n g.marks as)))) q (.lst [V.int 0])) := by
        refine ⟨fun z o e nz => ?_, fun z hz => .inl ?_, ((Dom.refl H).put).put⟩
        · rw [upd_ne (ne_of_none e hq2), upd_ne (fun h => nz (by rw [h, S.m]; simp))]
          exact e
        · rw [S.m]
          simp only [List.mem_cons] at hz ⊢
          rcases hz with h | h | h | h | h
          · exact .inl h
          · exact .inr (.inl h)
          · exact .inr (.inr (.inl h))
          · exact .inr (.inr (.inr (.inl h)))
          · exact .inr (.inr (.inr (.inr (sub z h))))
      refine k _ _ q (S.re fr rfl ?_ (us' := us) (rs' := rs) (t' := t0) ?_ ?_ ?_ ?_ ?_ ?_ ?_ ?_) fr hq2 upd_same
      · have h := S.nd
        refine h.sublist ?_
        exact ((((asOut_sub (n := n) (ms := g.marks) (as := as)).cons₂ tl).cons₂ sl).cons₂ d).cons₂ a
      · rw [upd_ne (ne_of_none S.obj hq2), upd_ne ap.da.symm]
        exact S.obj
      · rw [upd_ne nqd.symm]
        exact upd_same
      · rw [upd_ne (ne_of_none S.stl hq2), upd_ne ap.sd]
        exact S.stl
      · rw [upd_ne (ne_of_none S.tkl hq2), upd_ne ap.td]
        exact S.tkl
      · refine (all2_out S.mks).imp fun z u hz _ ⟨dz, q1⟩ => ⟨dz, ?_⟩
        rw [upd_ne (ne_of_none q1 hq2), upd_ne (ap.xd z (sub z hz))]
        exact q1
      · exact fr.cut _ _ S.txt
      · exact S.und.imp fun _ _ _ _ z => z.mono fr.cut
      · exact S.red.imp fun _ _ _ _ z => z.mono fr.cut
end
end Mk
end

section
set_option Elab.async false
set_option linter.all false
set_option maxRecDepth 100000
set_option maxHeartbeats 4000000
namespace Mk
open PySem PySem.Spec PyProof.Rows L2
theorem ne_in {M : List Addr} {b z : Addr} (nb : b ∉ M) (hz : z ∈ M) : b ≠ z := fun h => nb (by rw [h]; exact hz)
theorem lie_len : ∀ {l : List Ue02.Change} {lo n : Nat}, Lie lo n l → l = [] ∨ l.length + lo ≤ n + 1
  | [], _, _, _ => .inl rfl
  | c :: l, lo, n, ⟨h1, h2, h3⟩ => .inr (by
    rcases lie_len h3 with e | e
    · subst e
      simp only [List.length_cons, List.length_nil]
      omega
    · simp only [List.length_cons]
      omega)
/-- a walk over a dict's keys, the dict locked -/
def lockD (D : Ends) (d : Addr) (od : Obj) (u : HO) : Ends := ⟨fun σ' H' => H' d = some (.frz od u) ∧ D.nx σ' (upd H' d u), fun v H' => H' d = some (.frz od u) ∧ D.rt v (upd H' d u), fun σ' H' => H' d = some (.frz od u) ∧ D.bk σ' (upd H' d u), fun σ' H' => H' d = some (.frz od u) ∧ D.ct σ' (upd H' d u)⟩
theorem s_lockFor {td : TE} {g : TG} {tb : TS} {D : Ends} {σ : L2.St} {H : Hp} {d : Addr} {kv : List (L2.Key × V)} (hd : H d = some (.dK kv)) (hv : ∀ od, Val td σ (upd H d (.frz od (.dK kv))) (.ref d)) (Pv : Obj → Nat → L2.St → Hp → Prop) (h0 : ∀ od, Pv od 0 σ (upd H d (.frz od (.dK kv))))
    (hG : ∀ od i σ' H', i ≤ kv.length → Pv od i σ' H' → H' d = some (.frz od (.dK kv)))
    (hs : ∀ od i k v σ' H', kv[i]? = some (k, v) → Pv od i σ' H' → g (kV k) σ' H' fun σ2 H2 => tb { lockD D d od (.dK kv) with nx := Pv od (i + 1), ct := Pv od (i + 1), bk := (lockD D d od (.dK kv)).nx } σ2 H2)
    (hn : ∀ od σ' H', Pv od kv.length σ' H' → D.nx σ' (upd H' d (.dK kv))) : tLock (tFor (iKeys td) g tb) D σ H :=
  ⟨d, .dK kv, hd, trivial, fun od => hv od _ ⟨d, od, rfl, .inl ⟨kv, upd_same, for_it walk_keys (Pv od) (h0 od) (hG od) (fun i x σ' H' H2 hi p ⟨e, k, v, hk, ex⟩ => by subst e ex; exact hs od i k v σ' _ hk p) (fun σ' H' p => ⟨hG od _ _ _ (Nat.le_refl _) p, hn od σ' H' p⟩)⟩⟩⟩
section
variable {P : Program} {w : World} {K : PySem.W.Frag} {mg : Str → Option Value} {base : Heap} {cChange cStretch cStep cSession : Addr}
theorem Sess.known0 {X M : List Addr} {H : Hp} {a dx t d sl tl : Addr} {g : Ue02.House} {as us rs : List Addr} (S : Sess cChange cStretch cStep cSession X M H a g dx t d sl tl as us rs) : ∀ z ∈ M, ∃ o, H z = some o ∧ ∀ xs, o ≠ .tup xs := by
  intro z hz
  rw [S.m] at hz
  simp only [List.mem_cons] at hz
  rcases hz with rfl | rfl | rfl | rfl | h
  · exact ⟨_, S.obj, fun _ q => by cases q⟩
  · exact ⟨_, S.dic, fun _ q => by cases q⟩
  · exact ⟨_, S.stl, fun _ q => by cases q⟩
  · exact ⟨_, S.tkl, fun _ q => by cases q⟩
  · obtain ⟨j, hj⟩ := List.mem_iff_getElem?.mp h
    have hj2 : j < g.marks.length := by rw [← S.lenM]; exact (List.getElem?_eq_some_iff.mp hj).1
    obtain ⟨dz, hz⟩ := S.mks.at_ j z g.marks[j] hj (List.getElem?_eq_getElem hj2)
    exact ⟨_, hz, fun _ q => by cases q⟩
theorem Sess.known {X M : List Addr} {H : Hp} {a dx t d sl tl : Addr} {g : Ue02.House} {as us rs : List Addr} (S : Sess cChange cStretch cStep cSession X M H a g dx t d sl tl as us rs) : ∀ z ∈ M ++ X, ∃ o, H z = some o ∧ ∀ xs, o ≠ .tup xs := by
  intro z hz
  rcases List.mem_append.mp hz with h | h
  · exact S.known0 z h
  · obtain ⟨_, xs, h2⟩ := S.xk z h
    exact ⟨_, h2, fun _ q => by cases q⟩
theorem Sess.fresh {X M : List Addr} {H : Hp} {a dx t d sl tl : Addr} {g : Ue02.House} {as us rs : List Addr} (S : Sess cChange cStretch cStep cSession X M H a g dx t d sl tl as us rs) {p : Addr} (hp : H p = none) : p ∉ M ++ X := fun m => by
  obtain ⟨o, ho, _⟩ := S.known p m
  rw [hp] at ho
  cases ho
theorem Sess.inM {X M : List Addr} {H : Hp} {a dx t d sl tl : Addr} {g : Ue02.House} {as us rs : List Addr} (S : Sess cChange cStretch cStep cSession X M H a g dx t d sl tl as us rs) : ∀ z, z ∈ a :: d :: sl :: tl :: as → z ∈ M := fun z h => by rw [S.m]; exact h
theorem Sess.inX {X M : List Addr} {H : Hp} {a dx t d sl tl : Addr} {g : Ue02.House} {as us rs : List Addr} (S : Sess cChange cStretch cStep cSession X M H a g dx t d sl tl as us rs) : ∀ z, z ∈ a :: d :: sl :: tl :: as → z ∈ M ++ X := fun z h => List.mem_append.mpr (.inl (S.inM z h))
theorem take_more {α : Type} {l : List α} {i : Nat} {x : α} (h : l[i]? = some x) : l.take (i + 1) = l.take i ++ [x] := by
  rw [List.take_add_one, h]
  rfl
theorem kvs_map {f : Ue02.Stretch → Ue02.Stretch} : ∀ {ms : List Ue02.Stretch} {as : List Addr}, (∀ s ∈ ms, (f s).number = s.number) → kvs (ms.map f) as = kvs ms as
  | [], _, _ => rfl
  | _ :: _, [], _ => rfl
  | s :: ms, a :: as, h => by
    show (Sum.inl ((f s).number : Int), V.ref a) :: kvs (ms.map f) as = (Sum.inl (s.number : Int), V.ref a) :: kvs ms as
    rw [kvs_map fun x hx => h x (List.mem_cons_of_mem _ hx), h s List.mem_cons_self]
/-- the stretches that vanish -/
def newly (cs : List Ue02.Change) (ms : List Ue02.Stretch) : Nat := (ms.filter fun s => !s.gone && (Ue02.moved cs s).gone).length
theorem newly_eq (g : Ue02.House) (cs : List Ue02.Change) (r : List (List Ue02.Change)) : Ue02.vanished g (Ue02.does g cs r) = newly cs g.marks := by
  show ((g.marks.map (Ue02.moved cs)).filter fun s => s.gone).length - (g.marks.filter fun s => s.gone).length = _
  have key : ∀ l : List Ue02.Stretch, ((l.map (Ue02.moved cs)).filter fun s => s.gone).length = (l.filter fun s => s.gone).length + newly cs l := by
    intro l
    induction l with
    | nil => rfl
    | cons s l ih =>
      unfold newly at ih ⊢
      rw [List.map_cons, List.filter_cons, List.filter_cons, List.filter_cons]
      cases e : s.gone with
      | true =>
        have q : Ue02.moved cs s = s := if_pos e
        rw [q, e]
        simp only [if_true, List.length_cons, Bool.not_true, Bool.false_and, Bool.false_eq_true, if_false]
        omega
      | false =>
        cases e2 : (Ue02.moved cs s).gone with
        | true =>
          simp only [if_true, List.length_cons, Bool.not_false, Bool.true_and, Bool.false_eq_true, if_false]
          omega
        | false =>
          simp only [Bool.not_false, Bool.true_and, Bool.false_eq_true, if_false]
          omega
  rw [key]
  omega
theorem newly_snoc (cs : List Ue02.Change) (l : List Ue02.Stretch) (s : Ue02.Stretch) : newly cs (l ++ [s]) = newly cs l + if (!s.gone && (Ue02.moved cs s).gone) = true then 1 else 0 := by
  unfold newly
  rw [List.filter_append, List.length_append, List.filter_cons]
  split <;> rfl
structure Slim (g : Ue02.House) : Prop where
  txt : g.text.length ≤ 600
  num : (g.marks.map (·.number)).Nodup
  few : g.marks.length ≤ 40
theorem slim_of {g : Ue02.House} (I : PInv g) : Slim g := ⟨I.txt, I.num, marks_small I⟩
/-! ### Session.do_step -/
def spDo (cChange cStretch cStep cSession : Addr) : Sp := fun vs H Q _ => ∃ (X M : List Addr) (a l : Addr) (g : Ue02.House) (cs : List Ue02.Change), vs = [.ref a, .ref l] ∧ SessAt cChange cStretch cStep cSession X M H a g ∧ Slim g ∧ CLst cChange (cut (M ++ X) H) l cs ∧ Lie 0 g.text.length cs ∧ (Ue02.changed g.text cs).length ≤ 600 ∧ g.undo.length ≤ 1000 ∧
  ∀ (H' : Hp) (M' : List Addr), SessAt cChange cStretch cStep cSession X M' H' a (Ue02.does g cs g.redo) → Frame M H M' H' → Q (.int (Ue02.vanished g (Ue02.does g cs g.redo) : Int)) H'
theorem ok_Session_do_step {f : Addr} {fd : FuncData} (F : Fun K "do_step" "Session.do_step" s_Session_do_step f fd) (T : Txt K mg cChange cStretch cStep cSession)
    (c_changes_back : Calls P w K mg base "changes_back" 3 ["changes", "content"] (spBack K cChange)) (c_content_behind : Calls P w K mg base "content_behind" 1 ["changes", "content"] (spContent K cChange))
    (m_Step : Makes P w K mg base cStep "Step" 1 ["self", "changes", "back", "states"] (spIni cStep fStep)) (meth_Stretch_state : Meths P w K mg base cStretch "state" 1 ["self"] (spState cStretch))
    (meth_Stretch_go_with : Meths P w K mg base cStretch "go_with" 3 ["self", "changes"] (spWith cChange cStretch)) : FnOk P w K mg base CX0 4 f fd ["self", "changes"] (spDo cChange cStretch cStep cSession) := by
  refine F.ok sc_Session_do_step (fun vs H Q E h => ?_) (fun cdv A outer s H vs Q E hr h => ?_)
  · obtain ⟨X, M, a, l, g, cs, rfl, _⟩ := h
    rfl
  · obtain ⟨X, M, a, l, g, cs, rfl, ⟨dx, t0, d, sl, tl, as, us, rs, S⟩, I, hl, lie, hz, hun, k⟩ := h
    have nd := sc_Session_do_step.nd
    have hu := hu_of hr
    have hsl := sizeLine_big
    have hml := I.few
    have ap := apart_of S.nd
    have hcl : cs.length ≤ 700 := by
      have := I.txt
      rcases lie_len lie with e | e
      · subst e; exact Nat.zero_le _
      · omega
    refine ⟨_, (pss_cons (ps_set (i := 2) nd rfl (Or.inl rfl) pe_dnewK)
      (pss_cons (ps_lock (ps_for PassesOwn.never rfl (pi_keys (pe_fldK (K' := K) rfl (pv 0) rfl)) (pg_name (i := 3) nd rfl (Or.inl rfl))
        (pss_one (ps_dput hu (pv 2) (pv 3) (pe_mt0 meth_Stretch_state (pe_dget hu (pe_fldK (K' := K) rfl (pv 0) rfl) (pv 3) (fun _ _ => rfl)) (hr.mono (by decide))) rfl))))
      (pss_cons (ps_expr (pe_bm PySem.F.plainAttrs_list PySem.F.slot_list_append PySem.F.type_list_append mt_append (pe_fldK (K' := K) rfl (pv 0) rfl) (pa_cons (pe_mk m_Step (hr.mono (by decide)) rfl (pa_cons (pv 1) (pa_cons (pe_cl c_changes_back (hr.mono (by decide)) rfl (pa_cons (pv 1) (pa_cons (pe_fldK (K' := K) rfl (pv 0) rfl) pa_nil))) (pa_cons (pv 2) pa_nil)))) pa_nil)))
      (pss_cons (ps_fld (pv 0) (pe_cl c_content_behind (hr.mono (by decide)) rfl (pa_cons (pv 1) (pa_cons (pe_fldK (K' := K) rfl (pv 0) rfl) pa_nil))) rfl)
      (pss_cons (ps_set (i := 4) nd rfl (Or.inl rfl) pe_int)
      (pss_cons (ps_lock (ps_for PassesOwn.never rfl (pi_keys (pe_fldK (K' := K) rfl (pv 0) rfl)) (pg_name (i := 3) nd rfl (Or.inl rfl))
        (pss_one (ps_if (pt_val (pe_mt meth_Stretch_go_with (pe_dget hu (pe_fldK (K' := K) rfl (pv 0) rfl) (pv 3) (fun _ _ => rfl)) (hr.mono (by decide)) (pa_cons (pv 1) pa_nil)))
          (pss_one (ps_aug (i := 4) nd rfl (.inl rfl) pe_int ip_add))
          pss_nil))))
      (pss_one (ps_ret (pv 4))))))))), ?_⟩
    intro ds hds
    have ndM : ds ∉ M ++ X := S.fresh hds
    have ndd : d ≠ ds := ne_of_none S.dic hds
    have nad : a ≠ ds := ne_of_none S.obj hds
    -- for number in self.stretches: states[number] = ..
    refine s_lockFor ((upd_ne ndd).trans S.dic) (fun od => v_fd (val_var rfl) (se_r T ((upd_ne ap.da.symm).trans ((upd_ne nad).trans S.obj))).stretches)
      (fun od i σ' H' => ∃ (ts : List Addr) (v : Option V), σ' = [some (.ref a), some (.ref l), some (.ref ds), v, none] ∧ H' d = some (.frz od (.dK (kvs g.marks as))) ∧ H' ds = some (.dK (kvs (g.marks.take i) ts)) ∧ All2 (fun t s => cut [ds] H' t = some (.tup (snap s))) ts (g.marks.take i) ∧ (∀ b o, H b = some o → b ≠ d → H' b = some o))
      (fun od => ⟨[], none, rfl, upd_same, by rw [upd_ne ndd.symm, upd_same]; rfl, All2.nil, fun b o e nb => by rw [upd_ne nb, upd_ne (ne_of_none e hds)]; exact e⟩) (fun od i σ' H' _ ⟨_, _, _, q, _⟩ => q) ?_ ?_
    · rintro od i k0 v0 σ' H' hk ⟨ts, v, rfl, hfd, hfs, hts, kp⟩
      obtain ⟨s, b, hs, hb, rfl, rfl⟩ := kvs_get hk
      obtain ⟨db, hbs⟩ := S.mks.at_ i b s hb hs
      have mb : b ∈ as := List.mem_of_getElem? hb
      have hbs' := kp b _ hbs (ap.xd b mb)
      have R := se_r T (kp a _ S.obj ap.da.symm)
      refine meth_of (v_dget (v_fd (val_var rfl) R.stretches) (val_var rfl) (.inr ⟨od, hfd⟩) (kvs_some I.num hs hb)) hbs' (ob_no (by decide +kernel)) va_nil ⟨b, db, s, rfl, hbs', fun p hp => ?_⟩
      have nsp : ds ≠ p := ne_of_none hfs hp
      have ndp : d ≠ p := ne_of_none hfd hp
      have hlt : i < g.marks.length := (List.getElem?_eq_some_iff.mp hs).1
      have tl1 : (g.marks.take i).length = i := by rw [List.length_take]; omega
      have hnv : valV (kvs (g.marks.take i) ts) (Sum.inl (s.number : Int)) = none := kvs_none fun x hx e => by
        obtain ⟨j, hj⟩ := List.mem_iff_getElem?.mp hx
        have hji : j < i := by
          have := (List.getElem?_eq_some_iff.mp hj).1
          omega
        rw [List.getElem?_take_of_lt hji] at hj
        have := num_ix I.num hj hs e
        omega
      refine ⟨_, rfl, _, rfl, ds, _, rfl, DPut.k (k := Sum.inl (s.number : Int)) ((upd_ne nsp).trans hfs) (by rw [kvs_length hts.len, tl1]; omega), ?_⟩
      rw [putK_new _ hnv, ← kvs_snoc hts.len, ← take_more hs]
      have sp : Same (cut [ds] H') (cut [ds] (upd (upd H' p (.tup (snap s))) ds (.dK (kvs (g.marks.take (i + 1)) (ts ++ [p]))))) := cut_same (fun b o e nb => by rw [upd_ne (by simpa using nb)]; exact same_new hp b o e) (fun b hb => .inl hb)
      refine ⟨ts ++ [p], _, rfl, ?_, upd_same, ?_, fun z o e nz => ?_⟩
      · rw [upd_ne ndd, upd_ne ndp]
        exact hfd
      · have z := All2.snoc (a := p) (x := s) (hts.imp fun _ _ _ _ q => sp _ _ q) (cut_get.mpr ⟨by simpa using nsp.symm, by rw [upd_ne nsp.symm]; exact upd_same⟩)
        rw [← take_more hs] at z
        exact z
      · rw [upd_ne (ne_of_none e hds)]
        exact same_new hp z o (kp z o e nz)
    rintro od σ' H' ⟨ts, v, rfl, hfd, hfs, hts, kp⟩
    have e40 : (kvs g.marks as).length = g.marks.length := kvs_length S.lenM
    rw [e40, List.take_length] at hfs hts
    have s1 : Same H (upd H' d (.dK (kvs g.marks as))) := fun b o e => by
      by_cases q : b = d
      · subst q
        rw [S.dic] at e
        rw [upd_same]
        exact e
      · rw [upd_ne q]
        exact kp b o e q
    have hds1 : (upd H' d (.dK (kvs g.marks as))) ds = some (.dK (kvs g.marks ts)) := (upd_ne ndd.symm).trans hfs
    have hts1 : All2 (fun t s => (upd H' d (.dK (kvs g.marks as))) t = some (.tup (snap s))) ts g.marks := hts.imp fun t s _ _ q => by
      obtain ⟨_, q2⟩ := cut_get.mp q
      rw [upd_ne (ne_of q2 hfd (by intro z; cases z))]
      exact q2
    generalize upd H' d (.dK (kvs g.marks as)) = H1 at s1 hds1 hts1 ⊢
    have S1 := S.same s1
    have R1 := se_r T S1.obj
    have hst1 : StatesAt (cut (M ++ X) H1) ds g.marks := ⟨ts, cut_get.mpr ⟨ndM, hds1⟩, hts1.imp fun t s _ _ q => cut_get.mpr ⟨fun m => by
      obtain ⟨o, ho, no⟩ := S1.known t m
      rw [q] at ho
      exact no _ (Option.some.inj ho).symm, q⟩⟩
    have hl1 : CLst cChange (cut (M ++ X) H1) l cs := hl.mono (Frame.same s1).cut
    -- self.steps.append(Step(..))
    refine s_app (v_fd (val_var rfl) R1.steps) S1.stl ?_
    refine (?_ : tMake _ _ _ _ _ _ _ _)
    refine ⟨_, rfl, ?_⟩
    refine call_of (va_cons (val_var rfl) (va_cons (v_fd (val_var rfl) R1.content) va_nil)) ⟨l, t0, cs, g.text, rfl, hl1.mono cut_sub, SqL.of S1.text, lie, by omega, fun H2 pb s2 hpb2 => ?_⟩
    refine ⟨_, rfl, fun y dy hy hdy hne => ?_⟩
    refine ⟨y, dy, _, _, rfl, upd_same, ⟨_, _, _, rfl, rfl⟩, rfl, ?_⟩
    rw [upd_upd]
    have S2 := S1.same s2
    have s3 : Same H2 (upd (upd H2 dy (.own y)) y (.ins cStep dy (ob nsStep [.ref l, .ref pb, .ref ds]))) := same_upd (same_new hdy) hy
    have hy3 : (upd (upd H2 dy (.own y)) y (.ins cStep dy (ob nsStep [V.ref l, V.ref pb, V.ref ds]))) y = some (.ins cStep dy (ob nsStep [.ref l, .ref pb, .ref ds])) := upd_same
    generalize upd (upd H2 dy (.own y)) y (.ins cStep dy (ob nsStep [V.ref l, V.ref pb, V.ref ds])) = H3 at s3 hy3 ⊢
    have S3 := S2.same s3
    refine ⟨sl, _, _, rfl, rfl, S3.stl, by rw [List.length_map, List.length_reverse, S.und.len]; omega, ?_⟩
    have nyM : y ∉ M ++ X := S2.fresh hy
    have c3 : Same (cut (M ++ X) H1) (cut (M ++ X) H3) := (Frame.same (s2.trans s3)).cut
    have hpb3 : CLst cChange (cut (M ++ X) H3) pb (Ue02.inverse g.text 0 0 cs) := (hpb2.mono (fr_cut fun z hz => by
      obtain ⟨o, ho, _⟩ := S1.known z hz
      exact ⟨o, ho⟩)).mono (Frame.same s3).cut
    have hd3 : DoneAt cChange cStep (cut (M ++ X) H3) y ⟨cs, Ue02.inverse g.text 0 0 cs, g.marks⟩ := ⟨dy, l, pb, ds, cut_get.mpr ⟨nyM, hy3⟩, hl1.mono c3, hpb3, hst1.mono c3⟩
    have slM : sl ∈ M := S.inM sl (by simp)
    have aM : a ∈ M := S.inM a (by simp)
    have slX : sl ∈ M ++ X := S.inX sl (by simp)
    have aX : a ∈ M ++ X := S.inX a (by simp)
    have c4 : Same (cut (M ++ X) H3) (cut (M ++ X) (upd H3 sl (.lst (us.reverse.map V.ref ++ [V.ref y])))) := cut_same (fun b o e nb => by rw [upd_ne (ne_in nb slX)]; exact e) (fun b hb => .inl hb)
    have e4 : ∀ b, b ≠ sl → (upd H3 sl (.lst (us.reverse.map V.ref ++ [V.ref y]))) b = H3 b := fun b nb => upd_ne nb
    have d4 : Dom H3 (upd H3 sl (.lst (us.reverse.map V.ref ++ [V.ref y]))) := (Dom.refl H3).put
    have f4 : (upd H3 sl (.lst (us.reverse.map V.ref ++ [V.ref y]))) sl = some (.lst (us.reverse.map V.ref ++ [V.ref y])) := upd_same
    generalize upd H3 sl (.lst (us.reverse.map V.ref ++ [V.ref y])) = H4 at c4 e4 f4 d4 ⊢
    have obj4 : H4 a = some (.ins cSession dx (ob nsSession (seV g t0 d sl tl))) := (e4 a ap.sa.symm).trans S3.obj
    have R4 := se_r T obj4
    -- self.content = content_behind(..)
    refine call_of (va_cons (val_var rfl) (va_cons (v_fd (val_var rfl) R4.content) va_nil)) ⟨l, t0, cs, g.text, rfl, ((hl1.mono c3).mono c4).mono cut_sub, SqL.of (cut_sub _ _ (c4 _ _ S3.txt)), lie, by omega, fun H5 pt s5 hpt hpt5 => ?_⟩
    refine s_put (tv := tC (.ref pt)) val_c (val_var rfl) (s5 _ _ obj4) T.cl_Session T.n_Session_content (i := 0) (by decide +kernel) rfl (by decide) ?_
    have k4 : ∀ z ∈ M ++ X, ∃ o, H4 z = some o := fun z hz => by
      by_cases q : z = sl
      · rw [q]; exact ⟨_, f4⟩
      · obtain ⟨o, ho, _⟩ := S3.known z hz
        exact ⟨o, by rw [e4 z q]; exact ho⟩
    have ptM : pt ∉ M ++ X := fun m => by
      obtain ⟨o, ho⟩ := k4 pt m
      rw [hpt] at ho
      cases ho
    have c6 : Same (cut (M ++ X) H3) (cut (M ++ X) (upd H5 a (.ins cSession dx (ob nsSession (seV ⟨Ue02.changed g.text cs, g.marks, g.given, g.stamps, ⟨cs, Ue02.inverse g.text 0 0 cs, g.marks⟩ :: g.undo, g.redo⟩ pt d sl tl))))) :=
      c4.trans (cut_same (fun b o e nb => by rw [upd_ne (ne_in nb aX)]; exact s5 b o e) (fun b hb => .inl hb))
    have fr6 : Frame M H M (upd H5 a (.ins cSession dx (ob nsSession (seV ⟨Ue02.changed g.text cs, g.marks, g.given, g.stamps, ⟨cs, Ue02.inverse g.text 0 0 cs, g.marks⟩ :: g.undo, g.redo⟩ pt d sl tl)))) := by
      refine ⟨fun b o e nb => ?_, fun b hb => .inl hb, ((((dom_same s1).trans (dom_same (s2.trans s3))).trans d4).trans (dom_same s5)).put⟩
      rw [upd_ne (ne_in nb aM)]
      refine s5 _ _ ?_
      rw [e4 b (ne_in nb slM)]
      exact s3 _ _ (s2 _ _ (s1 _ _ e))
    have S6 : Sess cChange cStretch cStep cSession X M (upd H5 a (.ins cSession dx (ob nsSession (seV ⟨Ue02.changed g.text cs, g.marks, g.given, g.stamps, ⟨cs, Ue02.inverse g.text 0 0 cs, g.marks⟩ :: g.undo, g.redo⟩ pt d sl tl)))) a
        ⟨Ue02.changed g.text cs, g.marks, g.given, g.stamps, ⟨cs, Ue02.inverse g.text 0 0 cs, g.marks⟩ :: g.undo, g.redo⟩ dx pt d sl tl as (y :: us) rs := by
      refine ⟨S.m, S.nd, upd_same, ?_, ?_, ?_, ?_, ?_, ?_, ?_, fr6.xok S.xk⟩
      · rw [upd_ne ap.da]
        exact s5 _ _ ((e4 d ap.sd.symm).trans S3.dic)
      · rw [upd_ne ap.sa, List.reverse_cons, List.map_append]
        exact s5 _ _ f4
      · rw [upd_ne ap.ta]
        exact s5 _ _ ((e4 tl ap.ts).trans S3.tkl)
      · exact S3.mks.imp fun z u hz _ ⟨dz, q1⟩ => ⟨dz, by rw [upd_ne (ap.xa z hz)]; exact s5 _ _ ((e4 z (ap.xs z hz)).trans q1)⟩
      · refine cut_get.mpr ⟨ptM, ?_⟩
        rw [upd_ne (ne_in ptM aX)]
        exact hpt5
      · exact (S3.und.imp fun _ _ _ _ z => z.mono c6).cons (hd3.mono c6)
      · exact S3.red.imp fun _ _ _ _ z => z.mono c6
    have hl6 := (hl1.mono c3).mono c6
    rw [show (seV g t0 d sl tl).set 0 (V.ref pt) = seV ⟨Ue02.changed g.text cs, g.marks, g.given, g.stamps, ⟨cs, Ue02.inverse g.text 0 0 cs, g.marks⟩ :: g.undo, g.redo⟩ pt d sl tl from rfl]
    generalize upd H5 a (.ins cSession dx (ob nsSession (seV ⟨Ue02.changed g.text cs, g.marks, g.given, g.stamps, ⟨cs, Ue02.inverse g.text 0 0 cs, g.marks⟩ :: g.undo, g.redo⟩ pt d sl tl))) = H6 at c6 S6 fr6 hl6 ⊢
    -- vanished = 0; for number in self.stretches: ..
    dsimp only
    refine st_set val_c ?_
    refine s_lockFor S6.dic (fun od => v_fd (val_var rfl) (se_r T ((upd_ne ap.da.symm).trans S6.obj)).stretches)
      (fun od i σ' H' => ∃ (v : Option V), σ' = [some (.ref a), some (.ref l), some (.ref ds), v, some (.int (newly cs (g.marks.take i) : Int))] ∧ H' d = some (.frz od (.dK (kvs g.marks as))) ∧ All2 (MkAt cStretch H') as ((g.marks.take i).map (Ue02.moved cs) ++ g.marks.drop i) ∧ (∀ b o, H6 b = some o → b ≠ d → b ∉ as → H' b = some o) ∧ Dom H6 H')
      (fun od => ⟨_, rfl, upd_same, S6.mks.imp fun z u hz _ ⟨dz, q1⟩ => ⟨dz, by rw [upd_ne (ap.xd z hz)]; exact q1⟩, fun b o e nb _ => by rw [upd_ne nb]; exact e, (Dom.refl H6).put⟩) (fun od i σ' H' _ ⟨_, _, q, _⟩ => q) ?_ ?_
    · rintro od i k0 v0 σ' H' hk ⟨v, rfl, hfd, hmk, kp, dm⟩
      obtain ⟨s, b, hs, hb, rfl, rfl⟩ := kvs_get hk
      have hlt : i < g.marks.length := (List.getElem?_eq_some_iff.mp hs).1
      have tl1 : ((g.marks.take i).map (Ue02.moved cs)).length = i := by rw [List.length_map, List.length_take]; omega
      have ei : ((g.marks.take i).map (Ue02.moved cs) ++ g.marks.drop i)[i]? = some s := by
        rw [List.getElem?_append_right (by rw [tl1]; exact Nat.le_refl _), tl1, Nat.sub_self, List.getElem?_drop]
        exact hs
      obtain ⟨db, hbs⟩ := hmk.at_ i b s hb ei
      have mb : b ∈ as := List.mem_of_getElem? hb
      have R := se_r T (kp a _ S6.obj ap.da.symm (fun m => ap.xa a m rfl))
      have hl' : CLst cChange H' l cs := hl6.mono fun z o e => by
        obtain ⟨q1, q2⟩ := cut_get.mp e
        exact kp z o q2 (fun h => q1 (S.inX z (by rw [h]; simp))) (fun h => q1 (S.inX z (by simp [h])))
      refine meth_of (v_dget (v_fd (val_var rfl) R.stretches) (val_var rfl) (.inr ⟨od, hfd⟩) (kvs_some I.num hs hb)) hbs (ob_no (by decide +kernel)) (va_cons (val_var rfl) va_nil) ⟨b, db, l, s, cs, rfl, hbs, hl', _, rfl, ?_⟩
      have nbd : d ≠ b := (ap.xd b mb).symm
      have next : ∃ (v : Option V), [some (V.ref a), some (V.ref l), some (V.ref ds), some (kV (Sum.inl (s.number : Int))), some (V.int (newly cs (g.marks.take (i + 1)) : Int))] = [some (.ref a), some (.ref l), some (.ref ds), v, some (.int (newly cs (g.marks.take (i + 1)) : Int))] ∧ (upd H' b (.ins cStretch db (ob nsStretch (stV (Ue02.moved cs s))))) d = some (.frz od (.dK (kvs g.marks as))) ∧
          All2 (MkAt cStretch (upd H' b (.ins cStretch db (ob nsStretch (stV (Ue02.moved cs s)))))) as ((g.marks.take (i + 1)).map (Ue02.moved cs) ++ g.marks.drop (i + 1)) ∧ (∀ z o, H6 z = some o → z ≠ d → z ∉ as → (upd H' b (.ins cStretch db (ob nsStretch (stV (Ue02.moved cs s))))) z = some o) ∧ Dom H6 (upd H' b (.ins cStretch db (ob nsStretch (stV (Ue02.moved cs s))))) := by
        refine ⟨_, rfl, ?_, ⟨?_, fun j z u hz hu => ?_⟩, fun z o e nz nz2 => ?_, dm.put⟩
        · rw [upd_ne nbd]
          exact hfd
        · rw [S.lenM, List.length_append, List.length_map, List.length_take, List.length_drop]
          omega
        · have eL : (g.marks.take (i + 1)).map (Ue02.moved cs) ++ g.marks.drop (i + 1) = ((g.marks.take i).map (Ue02.moved cs) ++ g.marks.drop i).set i (Ue02.moved cs s) := by
            rw [take_more hs, List.map_append, List.append_assoc, List.set_append_right _ _ (by rw [tl1]; exact Nat.le_refl _), tl1, Nat.sub_self]
            obtain ⟨q1, q2⟩ := List.getElem?_eq_some_iff.mp hs
            rw [List.drop_eq_getElem_cons q1, q2]
            rfl
          rw [eL] at hu
          by_cases q : j = i
          · subst q
            have e1 : z = b := Option.some.inj (hz.symm.trans hb)
            subst e1
            rw [List.getElem?_set_self (List.getElem?_eq_some_iff.mp ei).1] at hu
            have e2 : Ue02.moved cs s = u := Option.some.inj hu
            subst e2
            exact ⟨db, upd_same⟩
          · rw [List.getElem?_set_ne (fun h => q h.symm)] at hu
            obtain ⟨dz, q1⟩ := hmk.at_ j z u hz hu
            exact ⟨dz, by rw [upd_ne (fun h => q (nd_ix ap.nd hz (by rw [h]; exact hb)))]; exact q1⟩
        · rw [upd_ne (ne_in nz2 mb)]
          exact kp z o e nz nz2
      have ecnt : newly cs (g.marks.take (i + 1)) = newly cs (g.marks.take i) + if (!s.gone && (Ue02.moved cs s).gone) = true then 1 else 0 := by
        rw [take_more hs]
        exact newly_snoc cs _ s
      cases c : (!s.gone && (Ue02.moved cs s).gone) with
      | true =>
        refine iteT ?_
        refine s_aug rfl val_c ?_
        rw [c] at ecnt
        have e2 : (newly cs (g.marks.take i) : Int) + 1 = (newly cs (g.marks.take (i + 1)) : Int) := by
          rw [ecnt]
          rfl
        show ∃ (v : Option V), [some (V.ref a), some (V.ref l), some (V.ref ds), some (kV (Sum.inl (s.number : Int))), some (V.int ((newly cs (g.marks.take i) : Int) + 1))] = _ ∧ _
        rw [e2]
        exact next
      | false =>
        refine iteF ?_
        rw [c] at ecnt
        have e2 : newly cs (g.marks.take i) = newly cs (g.marks.take (i + 1)) := by
          rw [ecnt]
          rfl
        show ∃ (v : Option V), [some (V.ref a), some (V.ref l), some (V.ref ds), some (kV (Sum.inl (s.number : Int))), some (V.int ((newly cs (g.marks.take i) : Int)))] = _ ∧ _
        rw [e2]
        exact next
    rintro od2 σ2 H7 ⟨v7, rfl, hfd7, hmk7, kp7, dm7⟩
    rw [e40, List.take_length] at hmk7
    rw [List.drop_length, List.append_nil] at hmk7
    rw [show (kvs (⟨Ue02.changed g.text cs, g.marks, g.given, g.stamps, ⟨cs, Ue02.inverse g.text 0 0 cs, g.marks⟩ :: g.undo, g.redo⟩ : Ue02.House).marks as).length = g.marks.length from e40, List.take_length]
    have dM : d ∈ M := S.inM d (by simp)
    have fr7 : Frame M H6 M (upd H7 d (.dK (kvs g.marks as))) := by
      refine ⟨fun b o e nb => ?_, fun b hb => .inl hb, dm7.put⟩
      rw [upd_ne (ne_in nb dM)]
      exact kp7 b o e (ne_in nb dM) (fun h => nb (S.inM b (by simp [h])))
    have notAs : ∀ z, z = a ∨ z = sl ∨ z = tl → z ∉ as := fun z h m => by
      rcases h with h | h | h
      · exact ap.xa z m h
      · exact ap.xs z m h
      · exact ap.xt z m h
    refine ⟨_, rfl, ?_⟩
    have S7 : SessAt cChange cStretch cStep cSession X M (upd H7 d (.dK (kvs g.marks as))) a (Ue02.does g cs g.redo) := by
      refine S6.re fr7 S.m S.nd (us' := y :: us) (rs' := rs) (t' := pt) ?_ ?_ ?_ ?_ ?_ ?_ ?_ ?_
      · rw [upd_ne ap.da.symm]
        exact kp7 _ _ S6.obj ap.da.symm (notAs a (.inl rfl))
      · rw [upd_same]
        show some (HO.dK (kvs g.marks as)) = some (HO.dK (kvs (g.marks.map (Ue02.moved cs)) as))
        rw [kvs_map fun s _ => moved_number cs s]
      · rw [upd_ne ap.sd]
        exact kp7 _ _ S6.stl ap.sd (notAs sl (.inr (.inl rfl)))
      · rw [upd_ne ap.td]
        exact kp7 _ _ S6.tkl ap.td (notAs tl (.inr (.inr rfl)))
      · exact hmk7.imp fun z u hz _ ⟨dz, q1⟩ => ⟨dz, by rw [upd_ne (ap.xd z hz)]; exact q1⟩
      · exact fr7.cut _ _ S6.txt
      · exact S6.und.imp fun _ _ _ _ z => z.mono fr7.cut
      · exact S6.red.imp fun _ _ _ _ z => z.mono fr7.cut
    have kk := k _ M S7 (fr6.trans fr7)
    rw [newly_eq] at kk
    exact kk
end
end Mk
end

section
set_option Elab.async false
set_option linter.all false
set_option maxRecDepth 100000
set_option maxHeartbeats 4000000
namespace Mk
open PySem PySem.Spec PyProof.Rows L2
theorem changesIn_bound : ∀ (n : Nat) {f : Nat} {ns : List Nat} {cs : List Ue02.Change}, ns.length ≤ n → Ue02Neutral.changesIn f ns = some cs → cs.length ≤ ns.length ∧ ∀ c ∈ cs, c.in_.length ≤ ns.length
  | 0, f, ns, cs, hn, h => by
    have e : ns = [] := List.eq_nil_of_length_eq_zero (by omega)
    subst e
    have : cs = [] := by cases f <;> exact (Option.some.inj h).symm
    subst this
    exact ⟨Nat.le_refl _, fun c hc => by cases hc⟩
  | n + 1, f, ns, cs, hn, h => by
    by_cases e : ns = []
    · subst e
      have : cs = [] := by cases f <;> exact (Option.some.inj h).symm
      subst this
      exact ⟨Nat.le_refl _, fun c hc => by cases hc⟩
    · obtain ⟨f', p, o, k, l, rest, rfl, hk, h', rfl⟩ := changesIn_cons h e
      have ih := changesIn_bound n (ns := l.drop k) (by simp only [List.length_cons] at hn; rw [List.length_drop]; omega) h'
      rw [List.length_drop] at ih
      refine ⟨by simp only [List.length_cons]; omega, fun c hc => ?_⟩
      rcases List.mem_cons.mp hc with rfl | hc
      · simp only [List.length_cons, List.length_take]
        omega
      · have := ih.2 c hc
        simp only [List.length_cons]
        omega
section
variable {σ : L2.St} {H : Hp} {K : PySem.W.Frag} {c : TT} {te ta : TE} {b : Bool} {D : Ends} {t1 t2 : TS}
def AnsS (c : TT) (σ : L2.St) (H : Hp) (b : Bool) : Prop := ∀ Q : Bool → Hp → Prop, (∀ H', Same H H' → Q b H') → c σ H Q
theorem Ans.s (h : Ans c σ H b) : AnsS c σ H b := fun Q q => h Q (q H (Same.refl H))
theorem as_val (h : EvS te σ H (.bl b)) : AnsS (tB te) σ H b := fun Q q => h _ fun H' s => ⟨b, rfl, q H' s⟩
theorem as_not (h : AnsS c σ H b) : AnsS (tNot c) σ H (!b) := fun Q q => h _ fun H' s => q H' s
theorem s_iteS (h : AnsS c σ H b) (h1 : b = true → ∀ H', Same H H' → t1 D σ H') (h2 : b = false → ∀ H', Same H H' → t2 D σ H') : tIfS c t1 t2 D σ H := by
  refine h _ fun H' s => ?_
  cases b with
  | true => exact iteT (h1 rfl H' s)
  | false => exact iteF (h2 rfl H' s)
end
section
variable {P : Program} {w : World} {K : PySem.W.Frag} {mg : Str → Option Value} {base : Heap} {cChange cStretch cStep cSession : Addr}
/-! ### Session.change -/
def spChange (cChange cStretch cStep cSession : Addr) : Sp := fun vs H Q _ => ∃ (X M : List Addr) (a l : Addr) (g : Ue02.House) (ns : List Nat) (f : Nat) (cs : List Ue02.Change), vs = [.ref a, .ref l] ∧ SessAt cChange cStretch cStep cSession X M H a g ∧ PInv g ∧ H l = some (.lst (natV ns)) ∧ Ue02Neutral.changesIn f ns = some cs ∧ ns.length ≤ 100000 ∧ g.undo.length ≤ 1000 ∧
  Gives cChange cStretch cStep cSession X M H a (Ue02.step g (.change cs)).1 (Ue02.step g (.change cs)).2 Q
theorem ok_Session_change {f : Addr} {fd : FuncData} (F : Fun K "change" "Session.change" s_Session_change f fd) (T : Txt K mg cChange cStretch cStep cSession)
    (c_read_changes : Calls P w K mg base "read_changes" 3 ["numbers"] (spRead K cChange)) (c_lie_apart_within : Calls P w K mg base "lie_apart_within" 1 ["changes", "size"] (spLie cChange))
    (c_are_bytes : Calls P w K mg base "are_bytes" 1 ["numbers"] (spBytes K)) (c_size_behind : Calls P w K mg base "size_behind" 1 ["changes", "size"] (spSize cChange))
    (meth_Session_do_step : Meths P w K mg base cSession "do_step" 4 ["self", "changes"] (spDo cChange cStretch cStep cSession)) : FnOk P w K mg base CX0 5 f fd ["self", "numbers"] (spChange cChange cStretch cStep cSession) := by
  refine F.ok sc_Session_change (fun vs H Q E h => ?_) (fun cdv A outer s H vs Q E hr h => ?_)
  · obtain ⟨X, M, a, l, g, ns, f, cs, rfl, _⟩ := h
    rfl
  · obtain ⟨X, M, a, l, g, ns, fu, cs, rfl, ⟨dx, t0, d, sl, tl, as, us, rs, S⟩, I, hl, hin, hz, hun, k⟩ := h
    have nd := sc_Session_change.nd
    have hsl := sizeLine_big
    obtain ⟨bl1, bl2⟩ := changesIn_bound ns.length (Nat.le_refl _) hin
    refine ⟨_, (pss_cons (ps_set (i := 2) nd rfl (Or.inl rfl) (pe_cl c_read_changes (hr.mono (by decide)) rfl (pa_cons (pv 1) pa_nil)))
      (pss_cons (ps_if (pt_not (pt_val (pe_cl c_lie_apart_within (hr.mono (by decide)) rfl (pa_cons (pv 2) (pa_cons (pe_callB (call_lenK (K' := K) rfl) (by rfl) T.b_len PySem.boot_len (pa_cons (pe_fldK (K' := K) rfl (pv 0) rfl) pa_nil)) pa_nil)))))
        (pss_one (ps_ret (pe_lst (pa_cons (pe_gi rfl T.g_NOT_FITTING) pa_nil))))
        pss_nil)
      (pss_cons (ps_if (pt_not (pt_val (pe_callB (cr_all rfl) (by rfl) T.b_all (by decide +kernel) (pa_cons (pe_lc (own := [("change", 4)]) (g := gName 4) (tt := tYes) rfl nd (pi_list (pv 2)) (blkOk_by (N := N_Session_change) (sc := defScope s_Session_change) (by decide +kernel)) (fun _ _ _ _ _ => pg_name (i := 4) nd rfl (Or.inl rfl)) (fun _ _ _ _ _ => by exact pts_nil) (fun _ _ _ _ _ => by exact (pe_cl c_are_bytes (hr.mono (by decide)) rfl (pa_cons (pe_fldK (K' := K) rfl (pv 4) rfl) pa_nil)))) pa_nil))))
        (pss_one (ps_ret (pe_lst (pa_cons (pe_gi rfl T.g_NOT_FITTING) pa_nil))))
        pss_nil)
      (pss_cons (ps_if (pt_cmpR op_gt (pe_cl c_size_behind (hr.mono (by decide)) rfl (pa_cons (pv 2) (pa_cons (pe_callB (call_lenK (K' := K) rfl) (by rfl) T.b_len PySem.boot_len (pa_cons (pe_fldK (K' := K) rfl (pv 0) rfl) pa_nil)) pa_nil))) (pe_gi rfl T.g_MOST_BYTES) (nomark _))
        (pss_one (ps_ret (pe_lst (pa_cons (pe_gi rfl T.g_TOO_MANY_BYTES) pa_nil))))
        pss_nil)
      (pss_cons (ps_set (i := 3) nd rfl (Or.inl rfl) (pe_mt meth_Session_do_step (pv 0) (hr.mono (by decide)) (pa_cons (pv 2) pa_nil)))
      (pss_cons (ps_fld (pv 0) (pe_lst pa_nil) rfl)
      (pss_one (ps_ret (pe_lst (pa_cons (pv 3) (pa_cons (pe_callB (call_lenK (K' := K) rfl) (by rfl) T.b_len PySem.boot_len (pa_cons (pe_fldK (K' := K) rfl (pv 0) rfl) pa_nil)) pa_nil))))))))))), ?_⟩
    have step : Ue02.step g (.change cs) = if (Ue02.apart cs && (Ue02.within_ g.text.length cs && cs.all fun c => Ue02.isBytes c.in_)) = false then (g, [-1]) else if Ue02.LONG < (Ue02.changed g.text cs).length then (g, [-6]) else (Ue02.does g cs [], Ue02.ints [Ue02.vanished g (Ue02.does g cs []), (Ue02.does g cs []).text.length]) := rfl
    rw [← Bool.and_assoc, ← lieB_eq] at step
    rw [step] at k
    refine call_of (va_cons (val_var rfl) va_nil) ⟨l, ns, fu, cs, rfl, SqL.of hl, hin, hz, fun H1 lc s1 hlc => ?_⟩
    have S1 := S.same s1
    have R1 := se_r T S1.obj
    have hlcM : CLst cChange (cut (M ++ X) H1) lc cs := hlc.mono (fr_cut fun z hz => by
      obtain ⟨o, ho, _⟩ := S.known z hz
      exact ⟨o, ho⟩)
    have hlc1 : CLst cChange H1 lc cs := hlcM.mono cut_sub
    refine s_ite (b := !lieB 0 g.text.length cs) (ans_not (a_val (fun Q q => call_of (va_cons (val_var rfl) (va_cons (v_len (v_fd (val_var rfl) R1.content) (SqL.of S1.text)) va_nil)) ⟨lc, cs, g.text.length, by rw [natV_length], hlc1, q⟩))) (fun c1 => ?_) (fun c1 => ?_)
    · have c1 : lieB 0 g.text.length cs = false := by simpa using c1
      rw [if_pos (by rw [c1]; rfl)] at k
      exact says S s1 val_c k
    have c1 : lieB 0 g.text.length cs = true := by simpa using c1
    rw [c1, Bool.true_and] at k
    have lie := (lieB_iff _ _ _).mp c1
    have n1 : ∀ as' : List Addr, ChsAt cChange H1 as' cs → (as'.map V.ref).length = cs.length := fun as' h => by rw [List.length_map, h.len]
    obtain ⟨bs, hb1, hb2⟩ := hlc1
    refine st_next ?_
    dsimp only
    refine s_iteS (b := !cs.all fun c => Ue02.isBytes c.in_) (as_not (as_val ?_)) (fun c2 H2 s2 => ?_) (fun c2 H2 s2 => ?_)
    · intro Q1 q1
      refine cb1 ?_
      refine lc_ev (val_var rfl) (SqL.of hb1) (ys := (cs.map fun c => Ue02.isBytes c.in_).map V.bl) (by rw [List.length_map, List.length_map, n1 bs hb2]) (by rw [n1 bs hb2]; omega) (fun i x y H2 hx hy s2 => ?_) (fun D H2 hD s2 hl2 => ?_)
      · obtain ⟨z, hz2, rfl⟩ := ref_get hx
        obtain ⟨c, hcc, hca⟩ := hb2.get hz2
        obtain ⟨la, r⟩ := (hca.mono s2).r T
        have e : y = V.bl (Ue02.isBytes c.in_) := by
          rw [List.map_map, List.getElem?_map, hcc] at hy
          exact (Option.some.inj hy).symm
        subst e
        intro Q2 q2
        exact call_of (va_cons (v_fd (val_var rfl) r.coming) va_nil) ⟨la, c.in_, rfl, SqL.of r.lst, by have := bl2 c (List.mem_of_getElem? hcc); omega, q2⟩
      · refine ⟨D, _, rfl, SqL.of hl2, ?_⟩
        have e : (cs.map fun c => Ue02.isBytes c.in_).all id = cs.all fun c => Ue02.isBytes c.in_ := by
          rw [List.all_map]
          rfl
        rw [e]
        exact q1 H2 s2
    · have c2 : (cs.all fun c => Ue02.isBytes c.in_) = false := by simpa using c2
      rw [if_pos c2] at k
      exact says S (s1.trans s2) val_c k
    have c2 : (cs.all fun c => Ue02.isBytes c.in_) = true := by simpa using c2
    rw [c2, if_neg (by decide)] at k
    have S2 := S1.same s2
    have R2 := se_r T S2.obj
    have hlc2 : CLst cChange (cut (M ++ X) H2) lc cs := hlcM.mono (Frame.same s2).cut
    have hlen := changed_length lie
    refine st_next ?_
    dsimp only
    refine s_iteS (b := decide ((600 : Int) < ((Ue02.changed g.text cs).length : Int))) ?_ (fun c3 H3 s3 => ?_) (fun c3 H3 s3 => ?_)
    · intro Q1 q1
      refine call_of (va_cons (val_var rfl) (va_cons (v_len (v_fd (val_var rfl) R2.content) (SqL.of S2.text)) va_nil)) ⟨lc, cs, g.text.length, by rw [natV_length], hlc2.mono cut_sub, by omega, fun H3 s3 => ?_⟩
      refine ⟨_, _, rfl, rfl, _, rfl, ?_⟩
      rw [show (g.text.length : Int) + ((ins cs : Int) - (outs cs : Int)) = ((Ue02.changed g.text cs).length : Int) by omega]
      exact q1 H3 s3
    · have c3 := of_decide_eq_true c3
      rw [if_pos (by show 600 < _; omega)] at k
      exact says S ((s1.trans s2).trans s3) val_c k
    have c3 := of_decide_eq_false c3
    rw [if_neg (by show ¬ 600 < _; omega)] at k
    have S3 := S2.same s3
    have hlc3 : CLst cChange (cut (M ++ X) H3) lc cs := hlc2.mono (Frame.same s3).cut
    have s13 := (s1.trans s2).trans s3
    refine meth_of (val_var rfl) S3.obj (ob_no (by decide +kernel)) (va_cons (val_var rfl) va_nil) ⟨X, M, a, lc, g, cs, rfl, ⟨_, _, _, _, _, _, _, _, S3⟩, slim_of I, hlc3, lie, by omega, hun, fun H4 M4 hS4 fr4 => ?_⟩
    obtain ⟨dx4, t4, d4, sl4, tl4, as4, us4, rs4, S4⟩ := hS4
    -- self.taken_back = []
    refine ⟨Nat.zero_le _, fun tn htn => ?_⟩
    have nat : a ≠ tn := ne_of_none S4.obj htn
    refine s_put (tv := tC (.ref tn)) val_c (val_var rfl) ((upd_ne nat).trans S4.obj) T.cl_Session T.n_Session_taken_back (i := 5) (by decide +kernel) rfl (by decide) ?_
    have ap := apart_of S4.nd
    have fr5 : Frame M4 H4 (a :: d4 :: sl4 :: tn :: as4) (upd (upd H4 tn (.lst [])) a (.ins cSession dx4 (ob nsSession (seV (Ue02.does g cs []) t4 d4 sl4 tn)))) := by
      refine ⟨fun b o e nb => ?_, fun b hb => ?_, ((Dom.refl H4).put).put⟩
      · rw [upd_ne (ne_in nb (S4.inM a (by simp))), upd_ne (ne_of_none e htn)]
        exact e
      · simp only [List.mem_cons] at hb
        rcases hb with h | h | h | h | h
        · exact .inl (S4.inM b (by simp [h]))
        · exact .inl (S4.inM b (by simp [h]))
        · exact .inl (S4.inM b (by simp [h]))
        · exact .inr (by rw [h]; exact htn)
        · exact .inl (S4.inM b (by simp [h]))
    have S5 : Sess cChange cStretch cStep cSession X (a :: d4 :: sl4 :: tn :: as4) (upd (upd H4 tn (.lst [])) a (.ins cSession dx4 (ob nsSession (seV (Ue02.does g cs []) t4 d4 sl4 tn)))) a (Ue02.does g cs []) dx4 t4 d4 sl4 tn as4 us4 [] := by
      have f : ∀ z o, H4 z = some o → z ≠ a → (upd (upd H4 tn (.lst [])) a (.ins cSession dx4 (ob nsSession (seV (Ue02.does g cs []) t4 d4 sl4 tn)))) z = some o := fun z o e nz => by
        rw [upd_ne nz, upd_ne (ne_of_none e htn)]
        exact e
      refine ⟨rfl, ?_, upd_same, f _ _ S4.dic ap.da, f _ _ S4.stl ap.sa, ?_, S4.mks.imp fun z u hz _ ⟨dz, q1⟩ => ⟨dz, f _ _ q1 (ap.xa z hz)⟩, fr5.cut _ _ S4.txt, S4.und.imp fun _ _ _ _ z => z.mono fr5.cut, All2.nil, fr5.xok S4.xk⟩
      · have ndM := S4.nd
        have q1 := ne_of_none S4.dic htn
        have q2 := ne_of_none S4.stl htn
        have q3 : ∀ z ∈ as4, z ≠ tn := fun z hz e => by
          obtain ⟨o, ho, _⟩ := S4.known z (S4.inX z (by simp [hz]))
          rw [e, htn] at ho
          cases ho
        refine List.nodup_cons.mpr ⟨?_, List.nodup_cons.mpr ⟨?_, List.nodup_cons.mpr ⟨?_, List.nodup_cons.mpr ⟨?_, ap.nd⟩⟩⟩⟩
        · simp only [List.mem_cons, not_or]
          exact ⟨ap.da.symm, ap.sa.symm, nat, fun m => ap.xa a m rfl⟩
        · simp only [List.mem_cons, not_or]
          exact ⟨ap.sd.symm, q1, fun m => ap.xd d4 m rfl⟩
        · simp only [List.mem_cons, not_or]
          exact ⟨q2, fun m => ap.xs sl4 m rfl⟩
        · exact fun m => q3 tn m rfl
      · rw [upd_ne nat.symm]
        exact upd_same
    have R5 := se_r T S5.obj
    rw [show (seV (Ue02.does g cs g.redo) t4 d4 sl4 tl4).set 5 (V.ref tn) = seV (Ue02.does g cs []) t4 d4 sl4 tn from rfl]
    refine lst_of (va_cons (val_var rfl) (va_cons (v_len (v_fd (val_var rfl) R5.content) (SqL.of S5.text)) va_nil)) (by show 2 ≤ sizeLine; decide) fun q hq => ?_
    have frA : Frame M H _ _ := (((Frame.same s13).trans fr4).trans fr5).trans (Frame.same (same_new hq (o := .lst [V.int (Ue02.vanished g (Ue02.does g cs g.redo) : Int), V.int ((natV (Ue02.does g cs []).text).length : Int)])))
    refine k _ _ q ⟨_, _, _, _, _, _, _, _, S5.same (same_new hq)⟩ frA ?_ ?_
    · exact (((Frame.same s13).trans fr4).trans fr5).stay.free hq
    · rw [upd_same, natV_length]
      rfl
end
end Mk
end

section
set_option Elab.async false
set_option linter.all false
set_option maxRecDepth 100000
set_option maxHeartbeats 4000000
namespace Mk
open PySem PySem.Spec PyProof.Rows L2
section
variable {P : Program} {w : World} {K : PySem.W.Frag} {mg : Str → Option Value} {base : Heap} {cChange cStretch cStep cSession : Addr}
theorem v_dget1 {σ : L2.St} {H : Hp} {td ty : TE} {d : Addr} {n : Nat} {kv : List (L2.Key × V)} (h1 : Val td σ H (.ref d)) (h2 : Val ty σ H (.int (n : Int))) (hd : H d = some (.dK kv)) : Val (tDGet1 td ty) σ H ((valV kv (Sum.inl (n : Int))).getD .non) :=
  fun Q q => h1 _ ⟨d, rfl, .inl ⟨kv, .inl hd⟩, h2 _ ⟨_, .inl ⟨kv, Sum.inl (n : Int), .inl hd, rfl, rfl⟩, q⟩⟩
theorem pop_of {σ : L2.St} {H : Hp} {ta : TE} {l : Addr} {as : List Addr} {b : Addr} {Q : VK} (ha : Val ta σ H (.ref l)) (hl : H l = some (.lst ((b :: as).reverse.map V.ref))) (q : Q (.ref b) (upd H l (.lst (as.reverse.map V.ref)))) : tBM0 K "list" rPop ta σ H Q := by
  refine ha _ ⟨.inl ⟨rfl, _, SqL.of hl⟩, l, _, .ref b, rfl, rfl, hl, ?_, ?_⟩
  · rw [List.reverse_cons, List.map_append, List.length_append]
    rw [List.getElem?_append_right (by simp)]
    simp
  · rw [List.reverse_cons, List.map_append]
    simp only [List.map_cons, List.map_nil, List.dropLast_concat]
    exact q
/-- the state that a stretch had -/
def snapOf (ms : List Ue02.Stretch) (n : Nat) : Option (Nat × Nat × Nat × Bool) := (ms.find? fun o => o.number == n).map fun o => (o.stamp, o.a, o.b, o.gone)
theorem snap_get {F : Hp} {ms : List Ue02.Stretch} {ts : List Addr} {n : Nat} (nd : (ms.map (·.number)).Nodup) (h : All2 (fun t s => F t = some (.tup (snap s))) ts ms) : snapV F ((valV (kvs ms ts) (Sum.inl (n : Int))).getD .non) (snapOf ms n) := by
  unfold snapOf
  cases e : ms.find? fun o => o.number == n with
  | none =>
    rw [kvs_none (find_none e)]
    exact rfl
  | some o =>
    obtain ⟨i, hi, hn⟩ := find_some e
    obtain ⟨t, ht, q⟩ := h.get hi
    rw [← hn, kvs_some nd hi ht]
    exact ⟨t, rfl, q⟩
theorem backTo_restored {g : Ue02.House} (p : PInv g) {d : Ue02.Done} (hd : d ∈ g.undo) {s : Ue02.Stretch} (hs : s ∈ g.marks) : backTo (snapOf d.before s.number) d.back s = Ue02.restored d s := by
  rw [restored_eq p hd hs]
  unfold snapOf backTo
  cases d.before.find? fun o => o.number == s.number with
  | none => rfl
  | some o => rfl
theorem done_r (T : Txt K mg cChange cStretch cStep cSession) {H : Hp} {a dx lc lb ds : Addr} (h : H a = some (.ins cStep dx (ob nsStep [.ref lc, .ref lb, .ref ds]))) : Fd K H a "changes" (.ref lc) ∧ Fd K H a "back" (.ref lb) ∧ Fd K H a "states" (.ref ds) :=
  ⟨fd_ob h T.cl_Step T.n_Step_changes (i := 0) (by decide +kernel) rfl, fd_ob h T.cl_Step T.n_Step_back (i := 1) (by decide +kernel) rfl, fd_ob h T.cl_Step T.n_Step_states (i := 2) (by decide +kernel) rfl⟩
/-! ### Session.undo -/
def spUndo (cChange cStretch cStep cSession : Addr) : Sp := fun vs H Q _ => ∃ (X M : List Addr) (a : Addr) (g : Ue02.House), vs = [.ref a] ∧ SessAt cChange cStretch cStep cSession X M H a g ∧ PInv g ∧ g.redo.length ≤ 1000 ∧
  Gives cChange cStretch cStep cSession X M H a (Ue02.step g .undo).1 (Ue02.step g .undo).2 Q
theorem ok_Session_undo {f : Addr} {fd : FuncData} (F : Fun K "undo" "Session.undo" s_Session_undo f fd) (T : Txt K mg cChange cStretch cStep cSession)
    (c_content_behind : Calls P w K mg base "content_behind" 1 ["changes", "content"] (spContent K cChange))
    (meth_Stretch_go_back : Meths P w K mg base cStretch "go_back" 4 ["self", "state", "changes"] (spGoBack cChange cStretch)) : FnOk P w K mg base CX0 5 f fd ["self"] (spUndo cChange cStretch cStep cSession) := by
  refine F.ok sc_Session_undo (fun vs H Q E h => ?_) (fun cdv A outer s H vs Q E hr h => ?_)
  · obtain ⟨X, M, a, g, rfl, _⟩ := h
    rfl
  · obtain ⟨X, M, a, g, rfl, ⟨dx, t0, d, sl, tl, as, us, rs, S⟩, I, hre, k⟩ := h
    have nd := sc_Session_undo.nd
    have hu := hu_of hr
    have hsl := sizeLine_big
    have ap := apart_of S.nd
    have R := se_r T S.obj
    have aM : a ∈ M := S.inM a (by simp)
    have dM : d ∈ M := S.inM d (by simp)
    have slM : sl ∈ M := S.inM sl (by simp)
    have tlM : tl ∈ M := S.inM tl (by simp)
    have slX : sl ∈ M ++ X := S.inX sl (by simp)
    have aX : a ∈ M ++ X := S.inX a (by simp)
    refine ⟨_, (pss_cons (ps_if (pt_cmpR op_eq (pe_callB (call_lenK (K' := K) rfl) (by rfl) T.b_len PySem.boot_len (pa_cons (pe_fldK (K' := K) rfl (pv 0) rfl) pa_nil)) pe_int (nomark _))
        (pss_one (ps_ret (pe_lst (pa_cons (pe_gi rfl T.g_NOTHING_TO_BE) pa_nil))))
        pss_nil)
      (pss_cons (ps_set (i := 1) nd rfl (Or.inl rfl) (pe_bm0 PySem.F.plainAttrs_list PySem.F.slot_list_pop PySem.F.type_list_pop mt_pop (pe_fldK (K' := K) rfl (pv 0) rfl)))
      (pss_cons (ps_fld (pv 0) (pe_cl c_content_behind (hr.mono (by decide)) rfl (pa_cons (pe_fldK (K' := K) rfl (pv 1) rfl) (pa_cons (pe_fldK (K' := K) rfl (pv 0) rfl) pa_nil))) rfl)
      (pss_cons (ps_lock (ps_for PassesOwn.never rfl (pi_keys (pe_fldK (K' := K) rfl (pv 0) rfl)) (pg_name (i := 2) nd rfl (Or.inl rfl))
        (pss_one (ps_expr (pe_mt meth_Stretch_go_back (pe_dget hu (pe_fldK (K' := K) rfl (pv 0) rfl) (pv 2) (fun _ _ => rfl)) (hr.mono (by decide)) (pa_cons (pe_dget1 hu (pe_fldK (K' := K) rfl (pv 1) rfl) (pv 2) ⟨rfl, rfl, rfl, rfl⟩) (pa_cons (pe_fldK (K' := K) rfl (pv 1) rfl) pa_nil)))))))
      (pss_cons (ps_expr (pe_bm PySem.F.plainAttrs_list PySem.F.slot_list_append PySem.F.type_list_append mt_append (pe_fldK (K' := K) rfl (pv 0) rfl) (pa_cons (pe_fldK (K' := K) rfl (pv 1) rfl) pa_nil)))
      (pss_one (ps_ret (pe_lst (pa_cons (pe_callB (call_lenK (K' := K) rfl) (by rfl) T.b_len PySem.boot_len (pa_cons (pe_fldK (K' := K) rfl (pv 0) rfl) pa_nil)) (pa_cons (pe_callB (call_lenK (K' := K) rfl) (by rfl) T.b_len PySem.boot_len (pa_cons (pe_fldK (K' := K) rfl (pv 0) rfl) pa_nil)) pa_nil)))))))))), ?_⟩
    have lu : (us.reverse.map V.ref).length = g.undo.length := by rw [List.length_map, List.length_reverse, S.und.len]
    have step : Ue02.step g .undo = (match g.undo with | [] => (g, [-7]) | d :: l => (Ue02.undone g d l, Ue02.ints [l.length, (Ue02.undone g d l).text.length])) := rfl
    rw [step] at k
    refine s_itd (p := ((us.reverse.map V.ref).length : Int) = 0) (a_test (v_eqI (v_len (v_fd (val_var rfl) R.steps) (SqL.of S.stl)) val_c)) (fun c => ?_) (fun c => ?_)
    · rw [lu] at c
      have e : g.undo = [] := List.eq_nil_of_length_eq_zero (by omega)
      rw [e] at k
      exact says S (Same.refl H) val_c k
    rw [lu] at c
    cases eu : g.undo with
    | nil => rw [eu] at c; exact absurd rfl c
    | cons dn ul =>
      rw [eu] at k
      have hund := S.und
      rw [eu] at hund
      obtain ⟨u, us1, rfl, hdu, hund1⟩ := hund.cons_inv
      obtain ⟨dxu, lc, lb, ds, hu1, hlc, hlb, hst⟩ := hdu
      obtain ⟨Iu, lieb⟩ := undone_inv I eu
      have dnm : dn ∈ g.undo := by rw [eu]; exact List.mem_cons_self
      have htx : (Ue02.changed g.text dn.back).length ≤ 600 := Iu.txt
      refine st_next ?_
      dsimp only
      refine s_asgQ ?_
      refine pop_of (v_fd (val_var rfl) R.steps) S.stl ?_
      -- behind the pop
      have c1 : Same (cut (M ++ X) H) (cut (M ++ X) (upd H sl (.lst (us1.reverse.map V.ref)))) := cut_same (fun b o e nb => by rw [upd_ne (ne_in nb slX)]; exact e) (fun b hb => .inl hb)
      have d1 : Dom H (upd H sl (.lst (us1.reverse.map V.ref))) := (Dom.refl H).put
      have e1 : ∀ b, b ≠ sl → (upd H sl (.lst (us1.reverse.map V.ref))) b = H b := fun b nb => upd_ne nb
      have f1 : (upd H sl (.lst (us1.reverse.map V.ref))) sl = some (.lst (us1.reverse.map V.ref)) := upd_same
      generalize upd H sl (.lst (us1.reverse.map V.ref)) = H1 at c1 d1 e1 f1 ⊢
      have obj1 : H1 a = some (.ins cSession dx (ob nsSession (seV g t0 d sl tl))) := (e1 a ap.sa.symm).trans S.obj
      have R1 := se_r T obj1
      obtain ⟨rc, rb, rst⟩ := done_r T (cut_sub _ _ (c1 _ _ hu1))
      refine call_of (va_cons (v_fd (val_var rfl) rb) (va_cons (v_fd (val_var rfl) R1.content) va_nil)) ⟨lb, t0, dn.back, g.text, rfl, (hlb.mono c1).mono cut_sub, SqL.of (cut_sub _ _ (c1 _ _ S.txt)), lieb, by omega, fun H2 pt s2 hpt hpt2 => ?_⟩
      refine s_put (tv := tC (.ref pt)) val_c (val_var rfl) (s2 _ _ obj1) T.cl_Session T.n_Session_content (i := 0) (by decide +kernel) rfl (by decide) ?_
      have ptM : pt ∉ M ++ X := fun m => by
        obtain ⟨o, ho, _⟩ := S.known pt m
        obtain ⟨o2, ho2⟩ := d1 pt o ho
        rw [hpt] at ho2
        cases ho2
      have c3 : Same (cut (M ++ X) H) (cut (M ++ X) (upd H2 a (.ins cSession dx (ob nsSession (seV g pt d sl tl))))) := c1.trans (cut_same (fun b o e nb => by rw [upd_ne (ne_in nb aX)]; exact s2 b o e) (fun b hb => .inl hb))
      have fr3 : Frame M H M (upd H2 a (.ins cSession dx (ob nsSession (seV g pt d sl tl)))) := by
        refine ⟨fun b o e nb => ?_, fun b hb => .inl hb, (d1.trans (dom_same s2)).put⟩
        rw [upd_ne (ne_in nb aM)]
        refine s2 _ _ ?_
        rw [e1 b (ne_in nb slM)]
        exact e
      have S3 : Sess cChange cStretch cStep cSession X M (upd H2 a (.ins cSession dx (ob nsSession (seV g pt d sl tl)))) a { g with text := Ue02.changed g.text dn.back, undo := ul } dx pt d sl tl as us1 rs := by
        refine ⟨S.m, S.nd, upd_same, ?_, ?_, ?_, ?_, ?_, ?_, ?_, fr3.xok S.xk⟩
        · rw [upd_ne ap.da]
          exact s2 _ _ ((e1 d ap.sd.symm).trans S.dic)
        · rw [upd_ne ap.sa]
          exact s2 _ _ f1
        · rw [upd_ne ap.ta]
          exact s2 _ _ ((e1 tl ap.ts).trans S.tkl)
        · exact S.mks.imp fun z u hz _ ⟨dz, q1⟩ => ⟨dz, by rw [upd_ne (ap.xa z hz)]; exact s2 _ _ ((e1 z (ap.xs z hz)).trans q1)⟩
        · refine cut_get.mpr ⟨ptM, ?_⟩
          rw [upd_ne (ne_in ptM aX)]
          exact hpt2
        · exact hund1.imp fun _ _ _ _ z => z.mono c3
        · exact S.red.imp fun _ _ _ _ z => z.mono c3
      have hu3 := c3 _ _ hu1
      have hlc3 := hlc.mono c3
      have hlb3 := hlb.mono c3
      have hst3 := hst.mono c3
      rw [show (seV g t0 d sl tl).set 0 (V.ref pt) = seV g pt d sl tl from rfl]
      generalize upd H2 a (.ins cSession dx (ob nsSession (seV g pt d sl tl))) = H3 at c3 fr3 S3 hu3 hlc3 hlb3 hst3 ⊢
      obtain ⟨ts, hds, hts⟩ := hst3
      -- for number in self.stretches: ..go_back(..)
      dsimp only
      refine s_lockFor S3.dic (fun od => v_fd (val_var rfl) (se_r T ((upd_ne ap.da.symm).trans S3.obj)).stretches)
        (fun od i σ' H' => ∃ (v : Option V), σ' = [some (.ref a), some (.ref u), v] ∧ H' d = some (.frz od (.dK (kvs g.marks as))) ∧ All2 (MkAt cStretch H') as ((g.marks.take i).map (Ue02.restored dn) ++ g.marks.drop i) ∧ (∀ b o, H3 b = some o → b ≠ d → b ∉ as → H' b = some o) ∧ Dom H3 H')
        (fun od => ⟨_, rfl, upd_same, S3.mks.imp fun z u hz _ ⟨dz, q1⟩ => ⟨dz, by rw [upd_ne (ap.xd z hz)]; exact q1⟩, fun b o e nb _ => by rw [upd_ne nb]; exact e, (Dom.refl H3).put⟩) (fun od i σ' H' _ ⟨_, _, q, _⟩ => q) ?_ ?_
      · rintro od i k0 v0 σ' H' hk ⟨v, rfl, hfd, hmk, kp, dm⟩
        obtain ⟨s, b, hs, hb, rfl, rfl⟩ := kvs_get hk
        have hs : g.marks[i]? = some s := hs
        have hlt : i < g.marks.length := (List.getElem?_eq_some_iff.mp hs).1
        have tl1 : ((g.marks.take i).map (Ue02.restored dn)).length = i := by rw [List.length_map, List.length_take]; omega
        have ei : ((g.marks.take i).map (Ue02.restored dn) ++ g.marks.drop i)[i]? = some s := by
          rw [List.getElem?_append_right (by rw [tl1]; exact Nat.le_refl _), tl1, Nat.sub_self, List.getElem?_drop]
          exact hs
        obtain ⟨db, hbs⟩ := hmk.at_ i b s hb ei
        have mb : b ∈ as := List.mem_of_getElem? hb
        have Rn := se_r T (kp a _ S3.obj ap.da.symm (fun m => ap.xa a m rfl))
        have cM : Same (cut (M ++ X) H3) H' := fun z o e => by
          obtain ⟨q1, q2⟩ := cut_get.mp e
          exact kp z o q2 (fun h => q1 (S.inX z (by rw [h]; simp))) (fun h => q1 (S.inX z (by simp [h])))
        obtain ⟨rc2, rb2, rst2⟩ := done_r T (cM _ _ hu3)
        refine meth_of (v_dget (v_fd (val_var rfl) Rn.stretches) (val_var rfl) (.inr ⟨od, hfd⟩) (kvs_some I.num hs hb)) hbs (ob_no (by decide +kernel)) (va_cons (v_dget1 (v_fd (val_var rfl) rst2) (val_var rfl) (cM _ _ hds)) (va_cons (v_fd (val_var rfl) rb2) va_nil))
          ⟨b, db, lb, _, snapOf dn.before s.number, s, dn.back, rfl, hbs, hlb3.mono cM, snap_get (I.bnd dn dnm) (hts.imp fun _ _ _ _ q => cM _ _ q), ?_⟩
        have nbd : d ≠ b := (ap.xd b mb).symm
        rw [backTo_restored I dnm (List.mem_of_getElem? hs)]
        refine ⟨_, rfl, ?_, ⟨?_, fun j z u hz hu => ?_⟩, fun z o e nz nz2 => ?_, dm.put⟩
        · rw [upd_ne nbd]
          exact hfd
        · rw [S.lenM, List.length_append, List.length_map, List.length_take, List.length_drop]
          omega
        · have eL : (g.marks.take (i + 1)).map (Ue02.restored dn) ++ g.marks.drop (i + 1) = ((g.marks.take i).map (Ue02.restored dn) ++ g.marks.drop i).set i (Ue02.restored dn s) := by
            rw [take_more hs, List.map_append, List.append_assoc, List.set_append_right _ _ (by rw [tl1]; exact Nat.le_refl _), tl1, Nat.sub_self]
            obtain ⟨q1, q2⟩ := List.getElem?_eq_some_iff.mp hs
            rw [List.drop_eq_getElem_cons q1, q2]
            rfl
          rw [eL] at hu
          by_cases q : j = i
          · subst q
            have e1 : z = b := Option.some.inj (hz.symm.trans hb)
            subst e1
            rw [List.getElem?_set_self (List.getElem?_eq_some_iff.mp ei).1] at hu
            have e2 : Ue02.restored dn s = u := Option.some.inj hu
            subst e2
            exact ⟨db, upd_same⟩
          · rw [List.getElem?_set_ne (fun h => q h.symm)] at hu
            obtain ⟨dz, q1⟩ := hmk.at_ j z u hz hu
            exact ⟨dz, by rw [upd_ne (fun h => q (nd_ix ap.nd hz (by rw [h]; exact hb)))]; exact q1⟩
        · rw [upd_ne (ne_in nz2 mb)]
          exact kp z o e nz nz2
      rintro od2 σ2 H7 ⟨v7, rfl, hfd7, hmk7, kp7, dm7⟩
      have e40 : (kvs g.marks as).length = g.marks.length := kvs_length S.lenM
      rw [e40, List.take_length] at hmk7
      rw [List.drop_length, List.append_nil] at hmk7
      have fr7 : Frame M H3 M (upd H7 d (.dK (kvs g.marks as))) := by
        refine ⟨fun b o e nb => ?_, fun b hb => .inl hb, dm7.put⟩
        rw [upd_ne (ne_in nb dM)]
        exact kp7 b o e (ne_in nb dM) (fun h => nb (S.inM b (by simp [h])))
      have notAs : ∀ z, z = a ∨ z = sl ∨ z = tl → z ∉ as := fun z h m => by
        rcases h with h | h | h
        · exact ap.xa z m h
        · exact ap.xs z m h
        · exact ap.xt z m h
      have S7 : Sess cChange cStretch cStep cSession X M (upd H7 d (.dK (kvs g.marks as))) a { g with text := Ue02.changed g.text dn.back, undo := ul, marks := g.marks.map (Ue02.restored dn) } dx pt d sl tl as us1 rs := by
        refine ⟨S.m, S.nd, ?_, ?_, ?_, ?_, ?_, ?_, ?_, ?_, fr7.xok S3.xk⟩
        · rw [upd_ne ap.da.symm]
          exact kp7 _ _ S3.obj ap.da.symm (notAs a (.inl rfl))
        · rw [upd_same]
          show some (HO.dK (kvs g.marks as)) = some (HO.dK (kvs (g.marks.map (Ue02.restored dn)) as))
          rw [kvs_map fun s hs => (restored_keeps I dnm hs).1]
        · rw [upd_ne ap.sd]
          exact kp7 _ _ S3.stl ap.sd (notAs sl (.inr (.inl rfl)))
        · rw [upd_ne ap.td]
          exact kp7 _ _ S3.tkl ap.td (notAs tl (.inr (.inr rfl)))
        · exact hmk7.imp fun z u hz _ ⟨dz, q1⟩ => ⟨dz, by rw [upd_ne (ap.xd z hz)]; exact q1⟩
        · exact fr7.cut _ _ S3.txt
        · exact S3.und.imp fun _ _ _ _ z => z.mono fr7.cut
        · exact S3.red.imp fun _ _ _ _ z => z.mono fr7.cut
      have hu7 := fr7.cut _ _ hu3
      have hlc7 := hlc3.mono fr7.cut
      have fr37 := fr3.trans fr7
      show tSeq _ _ _ _ (upd H7 d (.dK (kvs g.marks as)))
      generalize upd H7 d (.dK (kvs g.marks as)) = H8 at fr37 S7 hu7 hlc7 ⊢
      have R7 := se_r T S7.obj
      obtain ⟨rc7, rb7, rst7⟩ := done_r T (cut_sub _ _ hu7)
      -- self.taken_back.append(step.changes)
      refine s_app (v_fd (val_var rfl) R7.taken) S7.tkl ?_
      refine v_fd (val_var rfl) rc7 _ ?_
      refine ⟨tl, _, _, rfl, rfl, S7.tkl, by rw [List.length_map, List.length_reverse, S.red.len]; omega, ?_⟩
      have fr8 : Frame M H8 M (upd H8 tl (.lst (rs.reverse.map V.ref ++ [V.ref lc]))) := by
        refine ⟨fun b o e nb => ?_, fun b hb => .inl hb, (Dom.refl H8).put⟩
        rw [upd_ne (ne_in nb tlM)]
        exact e
      have S8 : Sess cChange cStretch cStep cSession X M (upd H8 tl (.lst (rs.reverse.map V.ref ++ [V.ref lc]))) a (Ue02.undone g dn ul) dx pt d sl tl as us1 (lc :: rs) := by
        refine ⟨S.m, S.nd, ?_, ?_, ?_, ?_, ?_, ?_, ?_, ?_, fr8.xok S7.xk⟩
        · rw [upd_ne ap.ta.symm]
          exact S7.obj
        · rw [upd_ne ap.td.symm]
          exact S7.dic
        · rw [upd_ne ap.ts.symm]
          exact S7.stl
        · rw [upd_same, List.reverse_cons, List.map_append]
          rfl
        · exact S7.mks.imp fun z u hz _ ⟨dz, q1⟩ => ⟨dz, by rw [upd_ne (ap.xt z hz)]; exact q1⟩
        · exact fr8.cut _ _ S7.txt
        · exact S7.und.imp fun _ _ _ _ z => z.mono fr8.cut
        · exact (S7.red.imp fun _ _ _ _ z => z.mono fr8.cut).cons (hlc7.mono fr8.cut)
      have R8 := se_r T S8.obj
      refine lst_of (va_cons (v_len (v_fd (val_var rfl) R8.steps) (SqL.of S8.stl)) (va_cons (v_len (v_fd (val_var rfl) R8.content) (SqL.of S8.text)) va_nil)) (by show 2 ≤ sizeLine; decide) fun q hq => ?_
      refine k _ M q ⟨_, _, _, _, _, _, _, _, S8.same (same_new hq)⟩ ((fr37.trans fr8).trans (Frame.same (same_new hq))) ((fr37.trans fr8).stay.free hq) ?_
      rw [upd_same, natV_length, List.length_map, List.length_reverse, hund1.len]
      rfl
/-! ### Session.redo -/
def spRedo (cChange cStretch cStep cSession : Addr) : Sp := fun vs H Q _ => ∃ (X M : List Addr) (a : Addr) (g : Ue02.House), vs = [.ref a] ∧ SessAt cChange cStretch cStep cSession X M H a g ∧ PInv g ∧ g.undo.length ≤ 1000 ∧
  Gives cChange cStretch cStep cSession X M H a (Ue02.step g .redo).1 (Ue02.step g .redo).2 Q
theorem ok_Session_redo {f : Addr} {fd : FuncData} (F : Fun K "redo" "Session.redo" s_Session_redo f fd) (T : Txt K mg cChange cStretch cStep cSession)
    (meth_Session_do_step : Meths P w K mg base cSession "do_step" 4 ["self", "changes"] (spDo cChange cStretch cStep cSession)) : FnOk P w K mg base CX0 5 f fd ["self"] (spRedo cChange cStretch cStep cSession) := by
  refine F.ok sc_Session_redo (fun vs H Q E h => ?_) (fun cdv A outer s H vs Q E hr h => ?_)
  · obtain ⟨X, M, a, g, rfl, _⟩ := h
    rfl
  · obtain ⟨X, M, a, g, rfl, ⟨dx, t0, d, sl, tl, as, us, rs, S⟩, I, hun, k⟩ := h
    have nd := sc_Session_redo.nd
    have ap := apart_of S.nd
    have R := se_r T S.obj
    have tlM : tl ∈ M := S.inM tl (by simp)
    refine ⟨_, (pss_cons (ps_if (pt_cmpR op_eq (pe_callB (call_lenK (K' := K) rfl) (by rfl) T.b_len PySem.boot_len (pa_cons (pe_fldK (K' := K) rfl (pv 0) rfl) pa_nil)) pe_int (nomark _))
        (pss_one (ps_ret (pe_lst (pa_cons (pe_gi rfl T.g_NOTHING_TO_BE) pa_nil))))
        pss_nil)
      (pss_cons (ps_expr (pe_mt meth_Session_do_step (pv 0) (hr.mono (by decide)) (pa_cons (pe_bm0 PySem.F.plainAttrs_list PySem.F.slot_list_pop PySem.F.type_list_pop mt_pop (pe_fldK (K' := K) rfl (pv 0) rfl)) pa_nil)))
      (pss_one (ps_ret (pe_lst (pa_cons (pe_callB (call_lenK (K' := K) rfl) (by rfl) T.b_len PySem.boot_len (pa_cons (pe_fldK (K' := K) rfl (pv 0) rfl) pa_nil)) (pa_cons (pe_callB (call_lenK (K' := K) rfl) (by rfl) T.b_len PySem.boot_len (pa_cons (pe_fldK (K' := K) rfl (pv 0) rfl) pa_nil)) pa_nil))))))), ?_⟩
    have lu : (rs.reverse.map V.ref).length = g.redo.length := by rw [List.length_map, List.length_reverse, S.red.len]
    have step : Ue02.step g .redo = (match g.redo with | [] => (g, [-7]) | c :: l => (Ue02.does g c l, Ue02.ints [l.length, (Ue02.does g c l).text.length])) := rfl
    rw [step] at k
    refine s_itd (p := ((rs.reverse.map V.ref).length : Int) = 0) (a_test (v_eqI (v_len (v_fd (val_var rfl) R.taken) (SqL.of S.tkl)) val_c)) (fun c => ?_) (fun c => ?_)
    · rw [lu] at c
      have e : g.redo = [] := List.eq_nil_of_length_eq_zero (by omega)
      rw [e] at k
      exact says S (Same.refl H) val_c k
    rw [lu] at c
    cases eu : g.redo with
    | nil => rw [eu] at c; exact absurd rfl c
    | cons cs rl =>
      rw [eu] at k
      have hred := S.red
      rw [eu] at hred
      obtain ⟨r, rs1, rfl, hr1, hred1⟩ := hred.cons_inv
      have hch := I.red
      rw [eu] at hch
      obtain ⟨lie, hlen, _⟩ := hch
      refine st_next ?_
      dsimp only
      refine (?_ : tMeth _ _ _ _ _ _ _ _ _ _)
      refine ⟨_, rfl, a, dx, _, rfl, S.obj, ob_no (by decide +kernel), ?_⟩
      refine (?_ : tBM0 _ _ _ _ _ _ _)
      refine pop_of (v_fd (val_var rfl) R.taken) S.tkl ?_
      have fr1 : Frame M H M (upd H tl (.lst (rs1.reverse.map V.ref))) := by
        refine ⟨fun b o e nb => ?_, fun b hb => .inl hb, (Dom.refl H).put⟩
        rw [upd_ne (ne_in nb tlM)]
        exact e
      have S1 : Sess cChange cStretch cStep cSession X M (upd H tl (.lst (rs1.reverse.map V.ref))) a { g with redo := rl } dx t0 d sl tl as us rs1 := by
        refine ⟨S.m, S.nd, ?_, ?_, ?_, upd_same, ?_, fr1.cut _ _ S.txt, S.und.imp fun _ _ _ _ z => z.mono fr1.cut, hred1.imp fun _ _ _ _ z => z.mono fr1.cut, fr1.xok S.xk⟩
        · rw [upd_ne ap.ta.symm]
          exact S.obj
        · rw [upd_ne ap.td.symm]
          exact S.dic
        · rw [upd_ne ap.ts.symm]
          exact S.stl
        · exact S.mks.imp fun z u hz _ ⟨dz, q1⟩ => ⟨dz, by rw [upd_ne (ap.xt z hz)]; exact q1⟩
      refine ⟨X, M, a, r, { g with redo := rl }, cs, rfl, ⟨_, _, _, _, _, _, _, _, S1⟩, ⟨I.txt, I.num, (slim_of I).few⟩, hr1.mono fr1.cut, lie, hlen, hun, fun H2 M2 hS2 fr2 => ?_⟩
      obtain ⟨dx2, t2, d2, sl2, tl2, as2, us2, rs2, S2⟩ := hS2
      have R2 := se_r T S2.obj
      refine lst_of (va_cons (v_len (v_fd (val_var rfl) R2.taken) (SqL.of S2.tkl)) (va_cons (v_len (v_fd (val_var rfl) R2.content) (SqL.of S2.text)) va_nil)) (by show 2 ≤ sizeLine; decide) fun q hq => ?_
      refine k _ M2 q ⟨_, _, _, _, _, _, _, _, S2.same (same_new hq)⟩ ((fr1.trans fr2).trans (Frame.same (same_new hq))) ((fr1.trans fr2).stay.free hq) ?_
      rw [upd_same, natV_length, List.length_map, List.length_reverse, S2.red.len]
      rfl
end
end Mk
end

section
set_option Elab.async false
set_option linter.all false
set_option maxRecDepth 100000
set_option maxHeartbeats 4000000
namespace Mk
open PySem PySem.Spec PyProof.Rows L2
/-! ### list comprehensions that leave the heap but for their own list -/
def LcK (K : PySem.W.Frag) (j : Nat) (tt : TT) (te : TE) (σ : L2.St) (Q : VK) : V → Hp → Prop := fun v H1 => tLc (iList K (tC v)) (gName j) tt te [j] σ H1 Q
section
variable {σ : L2.St} {H : Hp} {K : PySem.W.Frag} {tl te : TE} {tt : TT} {Q : VK} {a : Addr} {xs ys : List V} {j : Nat}
theorem lc_start (h : tl σ H (LcK K j tt te σ Q)) : tLc (iList K tl) (gName j) tt te [j] σ H Q := h
theorem lc_map (hx : SqL K H a xs) (hlen : ys.length = xs.length) (hz : xs.length < sizeLine)
    (he : ∀ (i : Nat) x y H', xs[i]? = some x → ys[i]? = some y → Same H H' → Val te ((σ.set j none).set j (some x)) H' y)
    (k : ∀ l H', H l = none → Same H H' → H' l = some (.lst ys) → Q (.ref l) H') : LcK K j tYes te σ Q (.ref a) H := by
  refine ⟨a, rfl, ⟨xs, hx⟩, fun l hl => lc_list (K := K) (a := a) (xs := xs) (fun i H' => Same H H' ∧ H' l = some (.lst (ys.take i))) ⟨same_new hl, upd_same⟩ (fun i H' _ p => p.1.seq hx) ?_ ?_⟩
  · rintro i x H' hi ⟨s1, p⟩
    have hi' : i < xs.length := (List.getElem?_eq_some_iff.mp hi).1
    have hy : ys[i]? = some (ys[i]'(by omega)) := List.getElem?_eq_getElem _
    refine ⟨by show ((σ.set j none).set j (some x)).set j none = σ.set j none; rw [List.set_set, List.set_set], ?_⟩
    refine iteT (B := Same H H' ∧ H' l = some (.lst (ys.take (i + 1)))) ?_
    refine he i x _ H' hi hy s1 _ ⟨ys.take i, p, by rw [List.length_take]; omega, same_upd s1 hl, ?_⟩
    rw [upd_same, List.take_add_one, hy]
    rfl
  · rintro H' ⟨s1, p⟩
    refine k l H' hl s1 ?_
    rw [← hlen, List.take_length] at p
    exact p
theorem lc_filt (hx : SqL K H a xs) (hz : xs.length < sizeLine) (hj : j < σ.length) (p : V → Bool) (ht : ∀ x ∈ xs, ∀ H', Same H H' → Ans tt ((σ.set j none).set j (some x)) H' (p x))
    (k : ∀ l H', H l = none → Same H H' → H' l = some (.lst (xs.filter p)) → Q (.ref l) H') : LcK K j tt (tVar j) σ Q (.ref a) H := by
  refine ⟨a, rfl, ⟨xs, hx⟩, fun l hl => lc_list (K := K) (a := a) (xs := xs) (fun i H' => Same H H' ∧ H' l = some (.lst ((xs.take i).filter p))) ⟨same_new hl, upd_same⟩ (fun i H' _ p => p.1.seq hx) ?_ ?_⟩
  · rintro i x H' hi ⟨s1, q⟩
    have hi' : i < xs.length := (List.getElem?_eq_some_iff.mp hi).1
    refine ⟨by show ((σ.set j none).set j (some x)).set j none = σ.set j none; rw [List.set_set, List.set_set], ?_⟩
    refine ht x (List.mem_of_getElem? hi) H' s1 _ ?_
    have e : (xs.take (i + 1)).filter p = (xs.take i).filter p ++ if p x = true then [x] else [] := by
      rw [List.take_add_one, hi, List.filter_append]
      congr 1
      cases e : p x with
      | true => simp [e]
      | false => simp [e]
    cases px : p x with
    | true =>
      rw [px] at e
      refine iteT ?_
      refine ⟨x, by show ((σ.set j none).set j (some x))[j]? = some (some x); rw [List.getElem?_set_self (by rw [List.length_set]; exact hj)], (xs.take i).filter p, q, ?_, same_upd s1 hl, ?_⟩
      · have := List.length_filter_le p (xs.take i)
        rw [List.length_take] at this
        omega
      · rw [upd_same, e]
        rfl
    | false =>
      rw [px] at e
      refine iteF ⟨s1, ?_⟩
      rw [q, e]
      simp
  · rintro H' ⟨s1, q⟩
    refine k l H' hl s1 ?_
    rw [List.take_length] at q
    exact q
end
/-! ### a stretch read back from the heap -/
def vN : V → Nat
  | .int i => i.toNat
  | _ => 0
def vB : V → Bool
  | .bl b => b
  | _ => false
def stRd (vs : List V) : Ue02.Stretch := ⟨vN (vs.getD 0 .non), vN (vs.getD 1 .non), vN (vs.getD 2 .non), vN (vs.getD 3 .non) == 1, vN (vs.getD 4 .non) == 1, vN (vs.getD 5 .non) == 1, vN (vs.getD 6 .non), vN (vs.getD 7 .non), vN (vs.getD 9 .non), vB (vs.getD 8 .non)⟩
def stOf (H : Hp) (b : Addr) : Ue02.Stretch := match H b with
  | some (.ins _ _ fs) => stRd (fs.map fun p => p.2)
  | _ => ⟨0, 0, 0, false, false, false, 0, 0, 0, false⟩
theorem stOf_at {C : Addr} {H : Hp} {b : Addr} {s : Ue02.Stretch} (h : MkAt C H b s) : stOf H b = s := by
  obtain ⟨dx, h⟩ := h
  unfold stOf
  rw [h]
  obtain ⟨n, x, y, la, lb, v, r, w, t, g⟩ := s
  cases la <;> cases lb <;> cases v <;> rfl
theorem MkAt.mono {C : Addr} {H H' : Hp} {b : Addr} {s : Ue02.Stretch} (e : Same H H') (h : MkAt C H b s) : MkAt C H' b s := by
  obtain ⟨dx, h⟩ := h
  exact ⟨dx, e _ _ h⟩
theorem all2_stOf {C : Addr} {H : Hp} {as : List Addr} {ms : List Ue02.Stretch} (h : All2 (MkAt C H) as ms) : as.map (stOf H) = ms ∧ ∀ b ∈ as, MkAt C H b (stOf H b) := by
  constructor
  · refine List.ext_getElem? fun i => ?_
    rw [List.getElem?_map]
    cases e : ms[i]? with
    | none =>
      have : as[i]? = none := by
        rw [List.getElem?_eq_none_iff] at e ⊢
        rw [h.len]
        exact e
      rw [this]
      rfl
    | some s =>
      obtain ⟨a, ha, r⟩ := h.get e
      rw [ha]
      exact congrArg some (stOf_at r)
  · intro b hb
    obtain ⟨i, hi, e⟩ := List.mem_iff_getElem.mp hb
    have hi2 : i < ms.length := by rw [← h.len]; exact hi
    have r := h.at_ i b ms[i] (by rw [List.getElem?_eq_getElem hi, e]) (List.getElem?_eq_getElem hi2)
    rw [stOf_at r]
    exact r
/-- stretches in the heap, and what they are -/
structure Stands (C : Addr) (H : Hp) (bs : List Addr) (ss : List Ue02.Stretch) : Prop where
  at_ : ∀ b ∈ bs, MkAt C H b (stOf H b)
  are : bs.map (stOf H) = ss
theorem Stands.mono {C : Addr} {H H' : Hp} {bs : List Addr} {ss : List Ue02.Stretch} (e : Same H H') (h : Stands C H bs ss) : Stands C H' bs ss ∧ ∀ b ∈ bs, stOf H' b = stOf H b := by
  have q : ∀ b ∈ bs, stOf H' b = stOf H b := fun b hb => stOf_at ((h.at_ b hb).mono e)
  refine ⟨⟨fun b hb => by rw [q b hb]; exact (h.at_ b hb).mono e, ?_⟩, q⟩
  rw [← h.are]
  exact List.map_congr_left q
theorem Stands.filter {C : Addr} {H : Hp} {bs : List Addr} {ss : List Ue02.Stretch} (h : Stands C H bs ss) (p : Ue02.Stretch → Bool) : Stands C H (bs.filter fun b => p (stOf H b)) (ss.filter p) := by
  refine ⟨fun b hb => h.at_ b (List.mem_filter.mp hb).1, ?_⟩
  rw [← h.are, List.filter_map]
  rfl
theorem Stands.perm {C : Addr} {H : Hp} {bs cs : List Addr} {ss : List Ue02.Stretch} (h : Stands C H bs ss) (p : cs.Perm bs) : Stands C H cs (cs.map (stOf H)) ∧ (cs.map (stOf H)).Perm ss := ⟨⟨fun b hb => h.at_ b (p.mem_iff.mp hb), rfl⟩, by rw [← h.are]; exact p.map _⟩
theorem Stands.len {C : Addr} {H : Hp} {bs : List Addr} {ss : List Ue02.Stretch} (h : Stands C H bs ss) : bs.length = ss.length := by rw [← h.are, List.length_map]
/-- a test of stretches, as one of values -/
def vTest (H : Hp) (p : Ue02.Stretch → Bool) : V → Bool
  | .ref b => p (stOf H b)
  | _ => false
theorem filter_refs (H : Hp) (p : Ue02.Stretch → Bool) (bs : List Addr) : (bs.map V.ref).filter (vTest H p) = (bs.filter fun b => p (stOf H b)).map V.ref := by
  rw [List.filter_map]
  rfl
def unref : V → Addr
  | .ref a => a
  | _ => 0
theorem unref_map (bs : List Addr) : (bs.map V.ref).map unref = bs := by
  rw [List.map_map]
  exact List.map_id bs
theorem refs_perm {ys : List V} {bs : List Addr} (h : ys.Perm (bs.map V.ref)) : ∃ cs : List Addr, ys = cs.map V.ref ∧ cs.Perm bs := by
  refine ⟨ys.map unref, ?_, ?_⟩
  · rw [List.map_map]
    refine (List.map_id ys).symm.trans (List.map_congr_left fun y hy => ?_)
    obtain ⟨b, _, rfl⟩ := List.mem_map.mp (h.mem_iff.mp hy)
    rfl
  · have := h.map unref
    rw [unref_map] at this
    exact this
/-- rank and turn of what stands there -/
def hgt (H : Hp) (v : V) : Int × Int := match v with
  | .ref b => (((stOf H b).rank : Int), ((stOf H b).stamp : Int))
  | _ => (0, 0)
section
variable {P : Program} {w : World} {K : PySem.W.Frag} {mg : Str → Option Value} {base : Heap} {cChange cStretch cStep cSession : Addr}
/-! ### an answer that changes nothing -/
def Says (H : Hp) (ans : List Int) (Q : VK) : Prop := ∀ (H' : Hp) (p : Addr), Same H H' → H p = none → H' p = some (.lst (ans.map V.int)) → Q (.ref p) H'
theorem Gives.says {X M : List Addr} {H : Hp} {a : Addr} {g : Ue02.House} {ans : List Int} {Q : VK} (S : SessAt cChange cStretch cStep cSession X M H a g) (k : Gives cChange cStretch cStep cSession X M H a g ans Q) : Says H ans Q := fun H' p s hp e => by
  obtain ⟨dx, t0, d, sl, tl, as, us, rs, S⟩ := S
  exact k H' M p ⟨_, _, _, _, _, _, _, _, S.same s⟩ (Frame.same s) hp e
theorem Says.same {H H1 : Hp} {ans : List Int} {Q : VK} (s : Same H H1) (k : Says H ans Q) : Says H1 ans Q := fun H' p s1 hp e => k H' p (s.trans s1) (s.free hp) e
theorem says1 {σ : L2.St} {H : Hp} {i : Int} {Q : VK} {te : TE} (h : Val te σ H (.int i)) (k : Says H [i] Q) : tLst (tCons te tNil) σ H Q := lst_of (va_cons h va_nil) (by show 1 ≤ sizeLine; decide) fun p hp => k _ p (same_new hp) hp upd_same
/-- [n] + a list -/
theorem cat_of {σ : L2.St} {H : Hp} {ta tb : TE} {i : Int} {l : Addr} {xs : List Int} {Q : VK} (ha : Val ta σ H (.int i)) (hl : H l = some (.lst (xs.map V.int))) (hz : xs.length + 1 ≤ sizeLine) (hb : ∀ p, H p = none → Val tb σ (upd H p (.lst [.int i])) (.ref l)) (k : Says H (i :: xs) Q) : tOp rCat (tLst (tCons ta tNil)) tb σ H Q := by
  refine lst_of (va_cons ha va_nil) (by show 1 ≤ sizeLine; decide) fun p hp => ?_
  refine hb p hp _ ⟨p, l, _, _, rfl, rfl, upd_same, same_new hp _ _ hl, by rw [List.length_map]; show 1 + xs.length ≤ sizeLine; omega, fun q hq => ?_⟩
  have s1 := same_new (o := .lst [V.int i]) hp
  exact k _ q (s1.trans (same_new hq)) (s1.free hq) upd_same
/-! ### height -/
def spHeight (cStretch : Addr) : Sp := fun vs H Q _ => ∃ (b : Addr), vs = [.ref b] ∧ MkAt cStretch H b (stOf H b) ∧ ∀ p, H p = none → Q (.ref p) (upd H p (.tup [.int ((stOf H b).rank : Int), .int ((stOf H b).stamp : Int)]))
theorem ok_height {f : Addr} {fd : FuncData} (F : Fun K "height" "height" s_height f fd) (T : Txt K mg cChange cStretch cStep cSession) : FnOk P w K mg base CX0 1 f fd ["stretch"] (spHeight cStretch) := by
  refine F.ok sc_height (fun vs H Q E h => ?_) (fun cdv A outer s H vs Q E hr h => ?_)
  · obtain ⟨b, rfl, _⟩ := h
    rfl
  · obtain ⟨b, rfl, ⟨dx, hb⟩, k⟩ := h
    have nd := sc_height.nd
    have r := st_r T hb
    refine ⟨_, (pss_one (ps_ret (pe_tup (pa_cons (pe_fldK (K' := K) rfl (pv 0) rfl) (pa_cons (pe_fldK (K' := K) rfl (pv 0) rfl) pa_nil))))), ?_⟩
    exact tup_of (va_cons (v_fd (val_var rfl) r.rank) (va_cons (v_fd (val_var rfl) r.turn) va_nil)) (by show 2 ≤ sizeLine; decide) k
theorem key_height {H : Hp} {b : Addr} (h : MkAt cStretch H b (stOf H b)) : KeySp (spHeight cStretch) H (.ref b) (hgt H (.ref b)) := fun H' Q s k => by
  have e : stOf H' b = stOf H b := stOf_at (h.mono s)
  exact ⟨b, rfl, by rw [e]; exact h.mono s, by rw [e]; exact k⟩
/-! ### standing -/
theorem kvs_keys : ∀ {ms : List Ue02.Stretch} {as : List Addr}, as.length = ms.length → (kvs ms as).map (·.1) = (ms.map fun s => (s.number : Int)).map Sum.inl
  | [], [], _ => rfl
  | [], _ :: _, h => by simp at h
  | _ :: _, [], h => by simp at h
  | s :: ms, a :: as, h => by
    show Sum.inl (s.number : Int) :: (kvs ms as).map (·.1) = _
    rw [kvs_keys (by simpa using h)]
    rfl
def spStanding (cChange cStretch cStep cSession : Addr) : Sp := fun vs H Q _ => ∃ (X M : List Addr) (a : Addr) (g : Ue02.House), vs = [.ref a] ∧ SessAt cChange cStretch cStep cSession X M H a g ∧ PInv g ∧ QInv g ∧
  ∀ (H' : Hp) (p : Addr) (bs : List Addr), Same H H' → H p = none → H' p = some (.lst (bs.map V.ref)) → Stands cStretch H' bs (Ue02.standing g) → Q (.ref p) H'
theorem ok_standing {f : Addr} {fd : FuncData} (F : Fun K "standing" "standing" s_standing f fd) (T : Txt K mg cChange cStretch cStep cSession) : FnOk P w K mg base CX0 1 f fd ["session"] (spStanding cChange cStretch cStep cSession) := by
  refine F.ok sc_standing (fun vs H Q E h => ?_) (fun cdv A outer s H vs Q E hr h => ?_)
  · obtain ⟨X, M, a, g, rfl, _⟩ := h
    rfl
  · obtain ⟨X, M, a, g, rfl, ⟨dx, t0, d, sl, tl, as, us, rs, S⟩, I, J, k⟩ := h
    have nd := sc_standing.nd
    have hu := hu_of hr
    have hsl := sizeLine_big
    have hml := marks_small I
    refine ⟨_, (pss_cons (ps_setLc (i := 1) (own := [("number", 2)]) (g := gName 2) (tt := tYes) rfl nd rfl rfl (sw_true rfl rfl rfl (by decide +kernel)) (pi_list (pe_callB (call_sortedDI rfl) (by rfl) T.b_sorted (by decide +kernel) (pa_cons (pe_fldK (K' := K) rfl (pv 0) rfl) pa_nil))) (blkOk_by (N := N_standing) (sc := defScope s_standing) (by decide +kernel)) (fun _ _ _ _ _ => pg_name (i := 2) nd rfl (Or.inl rfl)) (fun _ _ _ _ _ => by exact pts_nil) (fun _ _ _ _ _ => by exact (pe_dget hu (pe_fldK (K' := K) rfl (pv 0) rfl) (pv 2) (fun _ _ => rfl))))
      (pss_one (ps_ret (pe_lc (own := [("stretch", 3)]) (g := gName 3) rfl nd (pi_list (pv 1)) (blkOk_by (N := N_standing) (sc := defScope s_standing) (by decide +kernel)) (fun _ _ _ _ _ => pg_name (i := 3) nd rfl (Or.inl rfl)) (fun _ _ _ _ _ => by exact (pts_one (pt_not (pt_val (pe_fldK (K' := K) rfl (pv 3) rfl))))) (fun _ _ _ _ _ => by exact (pv 3)))))), ?_⟩
    refine s_asgQ (lc_start (cb1 ?_))
    refine v_fd (val_var rfl) (se_r T S.obj).stretches _ ?_
    refine ⟨d, kvs g.marks as, g.marks.map fun s => (s.number : Int), rfl, .inl S.dic, kvs_keys S.lenM, by rw [List.length_map]; omega, fun ys p hp hw hpn => ?_⟩
    have asc : (g.marks.map fun s => (s.number : Int)).Pairwise (· < ·) := by
      have := J.asc
      rw [List.pairwise_map] at this ⊢
      exact this.imp fun h => by omega
    have ey : ys = g.marks.map fun s => (s.number : Int) := hp.eq_of_pairwise (le := fun a b => a ≤ b) (fun a b _ _ h1 h2 => Int.le_antisymm h1 h2) hw (asc.imp fun h => Int.le_of_lt h)
    subst ey
    have s1 := same_new (o := .lst ((g.marks.map fun s => (s.number : Int)).map V.int)) hpn
    have S1 := S.same s1
    refine lc_map (SqL.of upd_same) (ys := as.map V.ref) (by rw [List.length_map, List.length_map, List.length_map]; exact S.lenM) (by rw [List.length_map, List.length_map]; omega) (fun i x y H' hx hy s2 => ?_) (fun l H2 hl s2 hl2 => ?_)
    · obtain ⟨b, hb, rfl⟩ := ref_get hy
      rw [List.map_map, List.getElem?_map] at hx
      cases e : g.marks[i]? with
      | none => rw [e] at hx; cases hx
      | some m =>
        rw [e] at hx
        have ex : V.int (m.number : Int) = x := Option.some.inj hx
        subst ex
        have S2 := S1.same s2
        exact v_dget (v_fd (val_var rfl) (se_r T S2.obj).stretches) (val_var rfl) (.inl S2.dic) (kvs_some I.num e hb)
    have S2 := S1.same s2
    obtain ⟨are, at_⟩ := all2_stOf S2.mks
    have St : Stands cStretch H2 as g.marks := ⟨at_, are⟩
    refine lc_start (val_var rfl _ ?_)
    refine lc_filt (SqL.of hl2) (by rw [List.length_map, S.lenM]; omega) (by show 3 < 4; decide) (vTest H2 fun s => !s.gone) (fun x hx H' s3 => ?_) (fun l' H3 hl' s3 hl3 => ?_)
    · obtain ⟨b, hb, rfl⟩ := List.mem_map.mp hx
      obtain ⟨dy, hy⟩ := (at_ b hb).mono s3
      exact ans_not (a_val (v_fd (val_var rfl) (st_r T hy).gone))
    · rw [filter_refs] at hl3
      exact k H3 l' _ ((s1.trans s2).trans s3) (s1.free (s2.free hl')) hl3 (by
        have := (St.filter fun s => !s.gone).mono s3
        exact this.1)
end
end Mk
end

section
set_option Elab.async false
set_option linter.all false
set_option maxRecDepth 100000
set_option maxHeartbeats 4000000
namespace Mk
open PySem PySem.Spec PyProof.Rows L2
theorem natV_ints (ns : List Nat) : natV ns = (Ue02.ints ns).map V.int := by
  unfold natV Ue02.ints
  rw [List.map_map]
  rfl
theorem ans_is {σ : L2.St} {H : Hp} {t : TT} {b c : Bool} (h : Ans t σ H b) (e : b = c) : Ans t σ H c := e ▸ h
theorem dec_le (x y : Nat) : decide ((x : Int) ≤ (y : Int)) = decide (x ≤ y) := by rw [Bool.eq_iff_iff]; simp
theorem dec_lt (x y : Nat) : decide ((x : Int) < (y : Int)) = decide (x < y) := by rw [Bool.eq_iff_iff]; simp
theorem dec_eq (x y : Nat) : decide ((x : Int) = (y : Int)) = decide (x = y) := by rw [Bool.eq_iff_iff]; simp; omega
theorem s_else {D : Ends} {σ : L2.St} {H : Hp} (h : D.nx σ H) : tNext D σ H := h
theorem cat_start {σ : L2.St} {H : Hp} {ta tb : TE} {Q : VK} (h : ta σ H fun x H1 => tb σ H1 fun y H2 => rCat x y H2 Q) : tOp rCat ta tb σ H Q := h
theorem sortF_start {σ : L2.St} {H : Hp} {K : PySem.W.Frag} {sp : Sp} {b : Bool} {te : TE} {Q : VK} (h : te σ H fun v H1 => rSortF K sp b v H1 Q) : tSortF K sp b te σ H Q := h
theorem maxF_start {σ : L2.St} {H : Hp} {sp : Sp} {te : TE} {Q : VK} (h : te σ H fun v H1 => rMaxF sp v H1 Q) : tMaxF sp te σ H Q := h
/-- in the order of rank and turn, no two of one turn -/
theorem pw_above {ts : List Ue02.Stretch} (nd : (ts.map (·.stamp)).Nodup) (h : ts.Pairwise (fun s t => leK ((t.rank : Int), (t.stamp : Int)) ((s.rank : Int), (s.stamp : Int)))) : ts.Pairwise (fun s t => Ue02.above s t = true) := by
  unfold List.Nodup at nd
  rw [List.pairwise_map] at nd
  refine (nd.and h).imp fun {s t} q => ?_
  rw [above_iff]
  have q1 := q.1
  have q2 := q.2
  unfold leK at q2
  simp only at q2
  omega
theorem pw_below {ts : List Ue02.Stretch} (nd : (ts.map (·.stamp)).Nodup) (h : ts.Pairwise (fun s t => leK ((s.rank : Int), (s.stamp : Int)) ((t.rank : Int), (t.stamp : Int)))) : ts.Pairwise (fun s t => Ue02.above t s = true) := by
  unfold List.Nodup at nd
  rw [List.pairwise_map] at nd
  refine (nd.and h).imp fun {s t} q => ?_
  rw [above_iff]
  have q1 := q.1
  have q2 := q.2
  unfold leK at q2
  simp only at q2
  omega
theorem standing_small {g : Ue02.House} (I : PInv g) : (Ue02.standing g).length ≤ 40 := Nat.le_trans (List.length_filter_le _ _) (marks_small I)
section
variable {P : Program} {w : World} {K : PySem.W.Frag} {mg : Str → Option Value} {base : Heap} {cChange cStretch cStep cSession : Addr}
/-! ### bytes_shown -/
def spShown (cChange cStretch cStep cSession : Addr) : Sp := fun vs H Q _ => ∃ (X M : List Addr) (a : Addr) (g : Ue02.House), vs = [.ref a] ∧ SessAt cChange cStretch cStep cSession X M H a g ∧ PInv g ∧ Says H (Ue02.step g .shows).2 Q
theorem ok_bytes_shown {f : Addr} {fd : FuncData} (F : Fun K "bytes_shown" "bytes_shown" s_bytes_shown f fd) (T : Txt K mg cChange cStretch cStep cSession) : FnOk P w K mg base CX0 1 f fd ["session"] (spShown cChange cStretch cStep cSession) := by
  refine F.ok sc_bytes_shown (fun vs H Q E h => ?_) (fun cdv A outer s H vs Q E hr h => ?_)
  · obtain ⟨X, M, a, g, rfl, _⟩ := h
    rfl
  · obtain ⟨X, M, a, g, rfl, ⟨dx, t0, d, sl, tl, as, us, rs, S⟩, I, k⟩ := h
    have nd := sc_bytes_shown.nd
    have hsl := sizeLine_big
    have ht := I.txt
    refine ⟨_, (pss_one (ps_ret (pe_op op_cat (pe_lst (pa_cons (pe_callB (call_lenK (K' := K) rfl) (by rfl) T.b_len PySem.boot_len (pa_cons (pe_fldK (K' := K) rfl (pv 0) rfl) pa_nil)) pa_nil)) (pe_fldK (K' := K) rfl (pv 0) rfl)))), ?_⟩
    have R := se_r T S.obj
    have e := S.text
    refine cat_of (i := (g.text.length : Int)) (l := t0) (xs := Ue02.ints g.text) (v_is (v_len (v_fd (val_var rfl) R.content) (SqL.of e)) (by rw [natV_length])) (by rw [← natV_ints]; exact e) (by unfold Ue02.ints; rw [List.length_map]; omega) (fun p hp => v_fd (val_var rfl) (se_r T (same_new hp _ _ S.obj)).content) k
/-! ### ends_of -/
def spEnds (cChange cStretch cStep cSession : Addr) : Sp := fun vs H Q _ => ∃ (X M : List Addr) (a : Addr) (g : Ue02.House) (n : Nat), vs = [.ref a, .int (n : Int)] ∧ SessAt cChange cStretch cStep cSession X M H a g ∧ PInv g ∧ Says H (Ue02.step g (.stretch n)).2 Q
theorem ok_ends_of {f : Addr} {fd : FuncData} (F : Fun K "ends_of" "ends_of" s_ends_of f fd) (T : Txt K mg cChange cStretch cStep cSession)
    (meth_Session_refusal_of : Meths P w K mg base cSession "refusal_of" 1 ["self", "number"] (spRefusal cChange cStretch cStep cSession)) : FnOk P w K mg base CX0 2 f fd ["session", "number"] (spEnds cChange cStretch cStep cSession) := by
  refine F.ok sc_ends_of (fun vs H Q E h => ?_) (fun cdv A outer s H vs Q E hr h => ?_)
  · obtain ⟨X, M, a, g, n, rfl, _⟩ := h
    rfl
  · obtain ⟨X, M, a, g, n, rfl, hS, I, k⟩ := h
    obtain ⟨dx, t0, d, sl, tl, as, us, rs, S⟩ := id hS
    have nd := sc_ends_of.nd
    have hu := hu_of hr
    refine ⟨_, (pss_cons (ps_set (i := 2) nd rfl (Or.inl rfl) (pe_mt meth_Session_refusal_of (pv 0) (hr.mono (by decide)) (pa_cons (pv 1) pa_nil)))
      (pss_cons (ps_if (pt_cmp (pc_notN (pv 2)))
        (pss_one (ps_ret (pe_lst (pa_cons (pv 2) pa_nil))))
        pss_nil)
      (pss_cons (ps_set (i := 3) nd rfl (Or.inl rfl) (pe_dget hu (pe_fldK (K' := K) rfl (pv 0) rfl) (pv 1) (fun _ _ => rfl)))
      (pss_one (ps_ret (pe_lst (pa_cons (pe_fldK (K' := K) rfl (pv 3) rfl) (pa_cons (pe_fldK (K' := K) rfl (pv 3) rfl) pa_nil)))))))), ?_⟩
    have R := se_r T S.obj
    have step : (Ue02.step g (.stretch n)).2 = match g.marks.find? fun s => s.number == n with
      | none => [-2]
      | some s => if s.gone = true then [-3] else Ue02.ints [s.a, s.b] := rfl
    rw [step] at k
    refine st_set (v_refusal hS I (val_var rfl) S.obj (va_cons (val_var rfl) va_nil)) ?_
    rcases ref_cases (g := g) n with ⟨e, er⟩ | ⟨s, e, c2, er⟩ | ⟨s, e, c2, er⟩
    · rw [er]
      refine s_ite (a_notN1 (val_var rfl)) (fun _ => ?_) (fun c => by cases c)
      rw [e] at k
      exact says1 (val_var rfl) k
    · rw [er]
      refine s_ite (a_notN1 (val_var rfl)) (fun _ => ?_) (fun c => by cases c)
      simp only [e, if_pos c2] at k
      exact says1 (val_var rfl) k
    · rw [er]
      refine s_ite (a_notN0 (val_var rfl)) (fun c => by cases c) (fun _ => ?_)
      simp only [e, c2, Bool.false_eq_true, if_false] at k
      obtain ⟨i, hi, hn⟩ := find_some e
      obtain ⟨b, hb, db, hbs⟩ := S.mks.get hi
      have hv : valV (kvs g.marks as) (Sum.inl (n : Int)) = some (.ref b) := by rw [← hn]; exact kvs_some I.num hi hb
      have r := st_r T hbs
      refine st_set (v_dget (v_fd (val_var rfl) R.stretches) (val_var rfl) (.inl S.dic) hv) ?_
      exact lst_of (va_cons (v_fd (val_var rfl) r.begin_) (va_cons (v_fd (val_var rfl) r.end_) va_nil)) (by show 2 ≤ sizeLine; decide) fun p hp => k _ p (same_new hp) hp upd_same
/-! ### covering -/
def spCovering (cChange cStretch cStep cSession : Addr) : Sp := fun vs H Q _ => ∃ (X M : List Addr) (a : Addr) (g : Ue02.House) (q : Nat), vs = [.ref a, .int (q : Int)] ∧ SessAt cChange cStretch cStep cSession X M H a g ∧ PInv g ∧ QInv g ∧ Says H (Ue02.step g (.over q)).2 Q
theorem ok_covering {f : Addr} {fd : FuncData} (F : Fun K "covering" "covering" s_covering f fd) (T : Txt K mg cChange cStretch cStep cSession)
    (c_standing : Calls P w K mg base "standing" 1 ["session"] (spStanding cChange cStretch cStep cSession)) (c_height : Calls P w K mg base "height" 1 ["stretch"] (spHeight cStretch)) : FnOk P w K mg base CX0 3 f fd ["session", "place"] (spCovering cChange cStretch cStep cSession) := by
  refine F.ok sc_covering (fun vs H Q E h => ?_) (fun cdv A outer s H vs Q E hr h => ?_)
  · obtain ⟨X, M, a, g, q, rfl, _⟩ := h
    rfl
  · obtain ⟨X, M, a, g, q, rfl, hS, I, J, k⟩ := h
    obtain ⟨dx, t0, d, sl, tl, as, us, rs, S⟩ := id hS
    have nd := sc_covering.nd
    have hsl := sizeLine_big
    have h40 := standing_small I
    refine ⟨_, (pss_cons (ps_if (pt_cmpR op_ge (pv 1) (pe_callB (call_lenK (K' := K) rfl) (by rfl) T.b_len PySem.boot_len (pa_cons (pe_fldK (K' := K) rfl (pv 0) rfl) pa_nil)) (nomark _))
        (pss_one (ps_ret (pe_lst (pa_cons (pe_gi rfl T.g_NOT_FITTING) pa_nil))))
        pss_nil)
      (pss_cons (ps_setLc (i := 2) (own := [("stretch", 4)]) (g := gName 4) rfl nd rfl rfl (sw_true rfl rfl rfl (by decide +kernel)) (pi_list (pe_cl c_standing (hr.mono (by decide)) rfl (pa_cons (pv 0) pa_nil))) (blkOk_by (N := N_covering) (sc := defScope s_covering) (by decide +kernel)) (fun _ _ _ _ _ => pg_name (i := 4) nd rfl (Or.inl rfl)) (fun _ _ _ _ _ => by exact (pts_one (PW.pt (pw_and (pt_cmpR op_le (pe_fldK (K' := K) rfl (pv 4) rfl) (pv 1) (nomark _)) (pw_and1 (pt_cmpR op_lt (pv 1) (pe_fldK (K' := K) rfl (pv 4) rfl) (nomark _))))))) (fun _ _ _ _ _ => by exact (pv 4)))
      (pss_cons (ps_set (i := 3) nd rfl (Or.inl rfl) (pe_sortFR c_height (hr.mono (by decide)) rfl rfl T.b_sorted (pv 2)))
      (pss_one (ps_ret (pe_op op_cat (pe_lst (pa_cons (pe_callB (call_lenK (K' := K) rfl) (by rfl) T.b_len PySem.boot_len (pa_cons (pv 2) pa_nil)) pa_nil)) (pe_lc (own := [("stretch", 4)]) (g := gName 4) (tt := tYes) rfl nd (pi_list (pv 3)) (blkOk_by (N := N_covering) (sc := defScope s_covering) (by decide +kernel)) (fun _ _ _ _ _ => pg_name (i := 4) nd rfl (Or.inl rfl)) (fun _ _ _ _ _ => by exact pts_nil) (fun _ _ _ _ _ => by exact (pe_fldK (K' := K) rfl (pv 4) rfl))))))))), ?_⟩
    have R := se_r T S.obj
    have step : (Ue02.step g (.over q)).2 = if g.text.length ≤ q then [-1] else ((Ue02.over g.marks q).length : Int) :: Ue02.ints ((Ue02.over g.marks q).map fun s => s.number) := rfl
    rw [step] at k
    refine s_itd (p := (((natV g.text).length : Nat) : Int) ≤ (q : Int)) (a_test (v_ge (val_var rfl) (v_len (v_fd (val_var rfl) R.content) (SqL.of S.text)))) (fun e => ?_) (fun e => ?_)
    · rw [natV_length] at e
      rw [if_pos (by omega)] at k
      exact says1 val_c k
    rw [natV_length] at e
    rw [if_neg (by omega)] at k
    dsimp only [L2.tNext]
    refine s_asgQ (lc_start ?_)
    refine call_of (va_cons (val_var rfl) va_nil) ⟨X, M, a, g, rfl, hS, I, J, fun H1 p1 bs s1 hp1 hl1 St1 => ?_⟩
    have hbl : bs.length ≤ 40 := by rw [St1.len]; exact h40
    refine lc_filt (SqL.of hl1) (by rw [List.length_map]; omega) (by show 4 < 5; decide) (vTest H1 fun s => decide (s.a ≤ q) && decide (q < s.b)) (fun x hx H' s2 => ?_) (fun l H2 hl s2 hl2 => ?_)
    · obtain ⟨b, hb, rfl⟩ := List.mem_map.mp hx
      obtain ⟨dy, hy⟩ := (St1.at_ b hb).mono s2
      have r := st_r T hy
      refine ans_is (ans_and2 (a_test (v_le (v_fd (val_var rfl) r.begin_) (val_var rfl))) (a_test (v_lt (val_var rfl) (v_fd (val_var rfl) r.end_)))) ?_
      rw [dec_le, dec_lt]
      rfl
    rw [filter_refs] at hl2
    have St2 := ((St1.filter fun s => decide (s.a ≤ q) && decide (q < s.b)).mono s2).1
    rw [standing_covers] at St2
    generalize (bs.filter fun b => decide ((stOf H1 b).a ≤ q) && decide (q < (stOf H1 b).b)) = fs at hl2 St2
    have hfl : fs.length ≤ 40 := by
      rw [St2.len]
      exact Nat.le_trans (List.length_filter_le _ _) (marks_small I)
    refine s_asgQ (sortF_start (val_var rfl _ ?_))
    refine ⟨l, fs.map V.ref, hgt H2, rfl, SqL.of hl2, fun x hx => ?_, fun ys p H3 hpm hpw s3 hp hl3 => ?_⟩
    · obtain ⟨b, hb, rfl⟩ := List.mem_map.mp hx
      exact key_height (St2.at_ b hb)
    obtain ⟨cs, rfl, pc⟩ := refs_perm hpm
    obtain ⟨St3, tp⟩ := St2.perm pc
    obtain ⟨St4, same4⟩ := St3.mono s3
    have hcl : cs.length = fs.length := pc.length_eq
    have ndf : ((g.marks.filter fun s => Ue02.covers s q).map (·.stamp)).Nodup := filter_stamps I.stp _
    have ndt : ((cs.map (stOf H2)).map (·.stamp)).Nodup := (tp.map _).nodup_iff.mpr ndf
    have hab : (cs.map (stOf H2)).Pairwise (fun s t => Ue02.above s t = true) := by
      refine pw_above ndt ?_
      rw [List.pairwise_map] at hpw ⊢
      exact hpw
    have eo : Ue02.over g.marks q = cs.map (stOf H2) := sorted_is ndf tp hab
    rw [eo] at k
    dsimp only
    refine cat_start ?_
    refine lst_of (va_cons (v_len (val_var rfl) (SqL.of (s3 _ _ hl2))) va_nil) (by show 1 ≤ sizeLine; decide) fun p2 hp2 => ?_
    have s4 := same_new (o := .lst [V.int (((fs.map V.ref).length : Nat) : Int)]) hp2
    refine lc_start (val_var rfl _ ?_)
    refine lc_map (SqL.of (s4 _ _ hl3)) (ys := (Ue02.ints ((cs.map (stOf H2)).map fun s => s.number)).map V.int) (by unfold Ue02.ints; simp only [List.length_map]) (by rw [List.length_map]; omega) (fun i x y H' hx hy s5 => ?_) (fun l4 H4 hl4 s5 hl5 => ?_)
    · obtain ⟨b, hb, rfl⟩ := ref_get hx
      unfold Ue02.ints at hy
      simp only [List.getElem?_map, hb, Option.map_some] at hy
      have ey := Option.some.inj hy
      subst ey
      have mb := St4.at_ b (List.mem_of_getElem? hb)
      obtain ⟨dy, hdy⟩ := (mb.mono s4).mono s5
      have e4 := same4 b (List.mem_of_getElem? hb)
      rw [e4] at hdy
      exact v_fd (val_var rfl) (st_r T hdy).number
    · refine ⟨p2, l4, _, _, rfl, rfl, s5 _ _ upd_same, hl5, ?_, fun z hz => ?_⟩
      · unfold Ue02.ints
        simp only [List.length_map, List.length_singleton]
        omega
      · refine k _ z ((((s1.trans s2).trans s3).trans s4).trans (s5.trans (same_new hz))) (s1.free (s2.free (s3.free (s4.free (s5.free hz))))) ?_
        rw [upd_same, List.length_map, List.length_map, hcl]
        rfl
end
end Mk
end

section
set_option Elab.async false
set_option linter.all false
set_option maxRecDepth 100000
set_option maxHeartbeats 4000000
namespace Mk
open PySem PySem.Spec PyProof.Rows L2
section
variable {P : Program} {w : World} {K : PySem.W.Frag} {mg : Str → Option Value} {base : Heap} {cChange cStretch cStep cSession : Addr}
/-! ### every_one -/
def rowOfS (s : Ue02.Stretch) : List Nat := [s.number, s.a, s.b]
theorem rows_len (l : List Ue02.Stretch) : (l.flatMap rowOfS).length = 3 * l.length := by
  induction l with
  | nil => rfl
  | cons s l ih => rw [List.flatMap_cons, List.length_append, ih, List.length_cons]; show 3 + _ = _; omega
def spEvery (cChange cStretch cStep cSession : Addr) : Sp := fun vs H Q _ => ∃ (X M : List Addr) (a : Addr) (g : Ue02.House), vs = [.ref a] ∧ SessAt cChange cStretch cStep cSession X M H a g ∧ PInv g ∧ QInv g ∧ Says H (Ue02.step g .all).2 Q
theorem ok_every_one {f : Addr} {fd : FuncData} (F : Fun K "every_one" "every_one" s_every_one f fd) (T : Txt K mg cChange cStretch cStep cSession)
    (c_standing : Calls P w K mg base "standing" 1 ["session"] (spStanding cChange cStretch cStep cSession)) : FnOk P w K mg base CX0 2 f fd ["session"] (spEvery cChange cStretch cStep cSession) := by
  refine F.ok sc_every_one (fun vs H Q E h => ?_) (fun cdv A outer s H vs Q E hr h => ?_)
  · obtain ⟨X, M, a, g, rfl, _⟩ := h
    rfl
  · obtain ⟨X, M, a, g, rfl, hS, I, J, k⟩ := h
    have nd := sc_every_one.nd
    have hsl := sizeLine_big
    have h40 := standing_small I
    refine ⟨_, (pss_cons (ps_set (i := 1) nd rfl (Or.inl rfl) (pe_cl c_standing (hr.mono (by decide)) rfl (pa_cons (pv 0) pa_nil)))
      (pss_cons (ps_set (i := 2) nd rfl (Or.inl rfl) (pe_lst pa_nil))
      (pss_cons (ps_for PassesOwn.never rfl (pi_list (pv 1)) (pg_name (i := 3) nd rfl (Or.inl rfl))
        (pss_one (ps_expr (pe_bm PySem.F.plainAttrs_list PySem.F.slot_list_extend PySem.F.type_list_extend mt_extend (pv 2) (pa_cons (pe_lst (pa_cons (pe_fldK (K' := K) rfl (pv 3) rfl) (pa_cons (pe_fldK (K' := K) rfl (pv 3) rfl) (pa_cons (pe_fldK (K' := K) rfl (pv 3) rfl) pa_nil)))) pa_nil)))))
      (pss_one (ps_ret (pe_op op_cat (pe_lst (pa_cons (pe_callB (call_lenK (K' := K) rfl) (by rfl) T.b_len PySem.boot_len (pa_cons (pv 1) pa_nil)) pa_nil)) (pv 2))))))), ?_⟩
    have step : (Ue02.step g .all).2 = ((Ue02.standing g).length : Int) :: Ue02.ints ((Ue02.standing g).flatMap rowOfS) := rfl
    rw [step] at k
    refine s_asgQ ?_
    refine call_of (va_cons (val_var rfl) va_nil) ⟨X, M, a, g, rfl, hS, I, J, fun H1 p1 bs s1 hp1 hl1 St1 => ?_⟩
    have hbl := St1.len
    dsimp only
    refine s_asgQ (lst_of va_nil (Nat.zero_le _) fun p hp => ?_)
    have n1p : p1 ≠ p := ne_of_none hl1 hp
    dsimp only
    refine s_for (a := p1) (xs := bs.map V.ref) (val_var rfl) (SqL.of ((upd_ne n1p).trans hl1)) (fun i σ' H' => ∃ v3 : Option V, σ' = [some (.ref a), some (.ref p1), some (.ref p), v3] ∧ Same H1 H' ∧ H' p = some (.lst ((Ue02.ints (((Ue02.standing g).take i).flatMap rowOfS)).map V.int)))
      ⟨none, rfl, same_new hp, upd_same⟩ (fun i σ' H' _ ⟨_, _, s2, _⟩ => SqL.of (s2 _ _ hl1)) ?_ ?_
    · rintro i x σ' H' hx ⟨v3, rfl, s2, hpp⟩
      obtain ⟨b, hb, rfl⟩ := ref_get hx
      have mb := St1.at_ b (List.mem_of_getElem? hb)
      obtain ⟨dy, hy⟩ := mb.mono s2
      have hss : (Ue02.standing g)[i]? = some (stOf H1 b) := by rw [← St1.are, List.getElem?_map, hb]; rfl
      have hi : i < (Ue02.standing g).length := (List.getElem?_eq_some_iff.mp hss).1
      have r := st_r T hy
      have e : ((Ue02.standing g).take (i + 1)).flatMap rowOfS = ((Ue02.standing g).take i).flatMap rowOfS ++ rowOfS (stOf H1 b) := by
        rw [List.take_add_one, hss, List.flatMap_append]
        simp
      refine (?_ : tDrop _ _ _ _)
      refine s_ext (val_var rfl) hpp ?_
      refine lst_of (va_cons (v_fd (val_var rfl) r.number) (va_cons (v_fd (val_var rfl) r.begin_) (va_cons (v_fd (val_var rfl) r.end_) va_nil))) (by show 3 ≤ sizeLine; decide) fun q hq => ?_
      have npq : p ≠ q := ne_of_none hpp hq
      refine ⟨p, q, _, _, rfl, rfl, (upd_ne npq).trans hpp, upd_same, ?_, ?_⟩
      · unfold Ue02.ints
        rw [List.length_map, List.length_map, rows_len, List.length_take]
        show _ + 3 ≤ sizeLine
        omega
      · refine ⟨some (.ref b), rfl, same_upd (s2.trans (same_new hq)) hp, ?_⟩
        rw [upd_same, e]
        unfold Ue02.ints
        rw [List.map_append, List.map_append]
        rfl
    · rintro σ' H' ⟨v3, rfl, s2, hpp⟩
      rw [List.length_map, hbl, List.take_length] at hpp
      dsimp only
      refine cat_of (i := ((Ue02.standing g).length : Int)) (l := p) (v_is (v_len (val_var rfl) (SqL.of (s2 _ _ hl1))) (by rw [List.length_map, hbl])) hpp (by unfold Ue02.ints; rw [List.length_map, rows_len]; omega) (fun q hq => val_var rfl) (k.same (s1.trans s2))
/-! ### first_behind -/
def spFirst (cChange cStretch cStep cSession : Addr) : Sp := fun vs H Q _ => ∃ (X M : List Addr) (a : Addr) (g : Ue02.House) (q v : Nat), vs = [.ref a, .int (q : Int), .int (v : Int)] ∧ SessAt cChange cStretch cStep cSession X M H a g ∧ PInv g ∧ QInv g ∧ Says H (Ue02.step g (.next q v)).2 Q
theorem ok_first_behind {f : Addr} {fd : FuncData} (F : Fun K "first_behind" "first_behind" s_first_behind f fd) (T : Txt K mg cChange cStretch cStep cSession)
    (c_standing : Calls P w K mg base "standing" 1 ["session"] (spStanding cChange cStretch cStep cSession)) (c_height : Calls P w K mg base "height" 1 ["stretch"] (spHeight cStretch)) : FnOk P w K mg base CX0 3 f fd ["session", "place", "value"] (spFirst cChange cStretch cStep cSession) := by
  refine F.ok sc_first_behind (fun vs H Q E h => ?_) (fun cdv A outer s H vs Q E hr h => ?_)
  · obtain ⟨X, M, a, g, q, v, rfl, _⟩ := h
    rfl
  · obtain ⟨X, M, a, g, q, v, rfl, hS, I, J, k⟩ := h
    have nd := sc_first_behind.nd
    have hsl := sizeLine_big
    have h40 := standing_small I
    refine ⟨_, (pss_cons (ps_setLc (i := 3) (own := [("stretch", 6)]) (g := gName 6) rfl nd rfl rfl (sw_true rfl rfl rfl (by decide +kernel)) (pi_list (pe_cl c_standing (hr.mono (by decide)) rfl (pa_cons (pv 0) pa_nil))) (blkOk_by (N := N_first_behind) (sc := defScope s_first_behind) (by decide +kernel)) (fun _ _ _ _ _ => pg_name (i := 6) nd rfl (Or.inl rfl)) (fun _ _ _ _ _ => by exact (pts_one (PW.pt (pw_and (pt_cmpR op_eq (pe_fldK (K' := K) rfl (pv 6) rfl) (pv 2) (nomark _)) (pw_and1 (pt_cmpR op_gt (pe_fldK (K' := K) rfl (pv 6) rfl) (pv 1) (nomark _))))))) (fun _ _ _ _ _ => by exact (pv 6)))
      (pss_cons (ps_if (pt_cmpR op_eq (pe_callB (call_lenK (K' := K) rfl) (by rfl) T.b_len PySem.boot_len (pa_cons (pv 3) pa_nil)) pe_int (nomark _))
        (pss_one (ps_ret (pe_lst (pa_cons (pe_gi rfl T.g_NONE_BEHIND) pa_nil))))
        pss_nil)
      (pss_cons (ps_set (i := 4) nd rfl (Or.inr rfl) (pe_callB (cr_min rfl) (by rfl) T.b_min (by decide +kernel) (pa_cons (pe_lc (own := [("stretch", 6)]) (g := gName 6) (tt := tYes) rfl nd (pi_list (pv 3)) (blkOk_by (N := N_first_behind) (sc := defScope s_first_behind) (by decide +kernel)) (fun _ _ _ _ _ => pg_name (i := 6) nd rfl (Or.inl rfl)) (fun _ _ _ _ _ => by exact pts_nil) (fun _ _ _ _ _ => by exact (pe_fldK (K' := K) rfl (pv 6) rfl))) pa_nil)))
      (pss_cons (ps_set (i := 5) nd rfl (Or.inl rfl) (pe_maxF rfl c_height (hr.mono (by decide)) rfl rfl T.b_max (pe_lc (own := [("stretch", 6)]) (g := gName 6) rfl nd (pi_list (pv 3)) (blkOk_by (N := N_first_behind) (sc := defScope s_first_behind) (by decide +kernel)) (fun _ _ _ _ _ => pg_name (i := 6) nd rfl (Or.inl rfl)) (fun _ _ _ _ _ => by exact (pts_one (pt_cmpR op_eq (pe_fldK (K' := K) rfl (pv 6) rfl) (pv 4) (nomark _)))) (fun _ _ _ _ _ => by exact (pv 6)))))
      (pss_one (ps_ret (pe_lst (pa_cons (pe_fldK (K' := K) rfl (pv 5) rfl) (pa_cons (pe_fldK (K' := K) rfl (pv 5) rfl) (pa_cons (pe_fldK (K' := K) rfl (pv 5) rfl) pa_nil)))))))))), ?_⟩
    have step : (Ue02.step g (.next q v)).2 = match Ue02.nextOf g q v with
      | none => [-6]
      | some s => Ue02.ints [s.number, s.a, s.b] := rfl
    rw [step] at k
    refine s_asgQ (lc_start ?_)
    refine call_of (va_cons (val_var rfl) va_nil) ⟨X, M, a, g, rfl, hS, I, J, fun H1 p1 bs s1 hp1 hl1 St1 => ?_⟩
    have hbl : bs.length ≤ 40 := by rw [St1.len]; exact h40
    refine lc_filt (SqL.of hl1) (by rw [List.length_map]; omega) (by show 6 < 7; decide) (vTest H1 fun s => decide (s.value = v) && decide (q < s.a)) (fun x hx H' s2 => ?_) (fun l H2 hl s2 hl2 => ?_)
    · obtain ⟨b, hb, rfl⟩ := List.mem_map.mp hx
      obtain ⟨dy, hy⟩ := (St1.at_ b hb).mono s2
      have r := st_r T hy
      refine ans_is (ans_and2 (a_test (v_eqI (v_fd (val_var rfl) r.value) (val_var rfl))) (a_test (v_gt (v_fd (val_var rfl) r.begin_) (val_var rfl)))) ?_
      rw [dec_eq, dec_lt]
      rfl
    rw [filter_refs] at hl2
    have St2 := ((St1.filter fun s => decide (s.value = v) && decide (q < s.a)).mono s2).1
    have mem2 : ∀ s, s ∈ (Ue02.standing g).filter (fun s => decide (s.value = v) && decide (q < s.a)) ↔ s ∈ g.marks ∧ fits q v s := fun s => by
      unfold Ue02.standing fits
      rw [List.mem_filter, List.mem_filter]
      cases s.gone <;> simp [and_assoc]
    generalize hss : (Ue02.standing g).filter (fun s => decide (s.value = v) && decide (q < s.a)) = ss at St2 mem2
    have hssl : ss.length ≤ 40 := by rw [← hss]; exact Nat.le_trans (List.length_filter_le _ _) h40
    generalize (bs.filter fun b => decide ((stOf H1 b).value = v) && decide (q < (stOf H1 b).a)) = fs at hl2 St2
    have hfl := St2.len
    have k2 := k.same (s1.trans s2)
    dsimp only
    refine s_itd (p := (((fs.map V.ref).length : Nat) : Int) = 0) (a_test (v_eqI (v_len (val_var rfl) (SqL.of hl2)) val_c)) (fun e => ?_) (fun e => ?_)
    · rw [List.length_map] at e
      have e0 : ss = [] := List.eq_nil_of_length_eq_zero (by omega)
      rw [next_none (g := g) (p := q) (v := v) (fun s hs hf => by
        have := (mem2 s).mpr ⟨hs, hf⟩
        rw [e0] at this
        cases this)] at k2
      exact says1 val_c k2
    rw [List.length_map] at e
    dsimp only [L2.tNext]
    refine s_asgQ (cb1 (lc_start (val_var rfl _ ?_)))
    refine lc_map (SqL.of hl2) (ys := (fs.map fun b => ((stOf H2 b).a : Int)).map V.int) (by simp only [List.length_map]) (by rw [List.length_map]; omega) (fun i x y H' hx hy s3 => ?_) (fun l3 H3 hl3 s3 hl3' => ?_)
    · obtain ⟨b, hb, rfl⟩ := ref_get hx
      simp only [List.getElem?_map, hb, Option.map_some] at hy
      have ey := Option.some.inj hy
      subst ey
      obtain ⟨dy, hdy⟩ := (St2.at_ b (List.mem_of_getElem? hb)).mono s3
      exact v_fd (val_var rfl) (st_r T hdy).begin_
    refine ⟨l3, fs.map fun b => ((stOf H2 b).a : Int), rfl, SqL.of hl3', by rw [List.length_map]; omega, fun m hm hmin => ?_⟩
    obtain ⟨b0, hb0, rfl⟩ := List.mem_map.mp hm
    have hmin : ∀ b ∈ fs, (stOf H2 b0).a ≤ (stOf H2 b).a := fun b hb => by
      have := hmin _ (List.mem_map.mpr ⟨b, hb, rfl⟩)
      omega
    generalize hN : (stOf H2 b0).a = N at hmin
    obtain ⟨St3, same3⟩ := St2.mono s3
    dsimp only
    refine s_asgQ (maxF_start (lc_start (val_var rfl _ ?_)))
    refine lc_filt (SqL.of (s3 _ _ hl2)) (by rw [List.length_map]; omega) (by show 6 < 7; decide) (vTest H3 fun s => decide (s.a = N)) (fun x hx H' s4 => ?_) (fun l4 H4 hl4 s4 hl4' => ?_)
    · obtain ⟨b, hb, rfl⟩ := List.mem_map.mp hx
      obtain ⟨dy, hy⟩ := (St3.at_ b hb).mono s4
      have r := st_r T hy
      refine ans_is (a_test (v_eqI (v_fd (val_var rfl) r.begin_) (val_var rfl))) ?_
      rw [dec_eq]
      rfl
    rw [filter_refs] at hl4'
    obtain ⟨St4, same4⟩ := (St3.filter fun s => decide (s.a = N)).mono s4
    have mem4 : ∀ b, b ∈ (fs.filter fun b => decide ((stOf H3 b).a = N)) ↔ b ∈ fs ∧ (stOf H2 b).a = N := fun b => by
      rw [List.mem_filter, decide_eq_true_eq]
      constructor
      · rintro ⟨h1, h2⟩
        rw [same3 b h1] at h2
        exact ⟨h1, h2⟩
      · rintro ⟨h1, h2⟩
        rw [same3 b h1]
        exact ⟨h1, h2⟩
    have e4 : ∀ b, b ∈ fs.filter (fun b => decide ((stOf H3 b).a = N)) → stOf H4 b = stOf H2 b := fun b hb => by rw [same4 b hb, same3 b ((mem4 b).mp hb).1]
    generalize (fs.filter fun b => decide ((stOf H3 b).a = N)) = cs at hl4' St4 mem4 e4
    refine ⟨l4, cs, fun b => hgt H4 (.ref b), rfl, hl4', fun z => ?_, fun z hz => key_height (St4.at_ z hz), fun z H5 hz hmax s5 => ?_⟩
    · have := (mem4 b0).mpr ⟨hb0, hN⟩
      rw [z] at this
      cases this
    obtain ⟨hzf, hza⟩ := (mem4 z).mp hz
    obtain ⟨dy, hy⟩ := (St4.at_ z hz).mono s5
    rw [e4 z hz] at hy
    have r := st_r T hy
    have inS : ∀ b ∈ fs, stOf H2 b ∈ ss := fun b hb => by rw [← St2.are]; exact List.mem_map.mpr ⟨b, hb, rfl⟩
    obtain ⟨zm, zf⟩ := (mem2 _).mp (inS z hzf)
    have nx : Ue02.nextOf g q v = some (stOf H2 z) := by
      refine next_some I.stp zm zf fun t ht hf => ?_
      have hts := (mem2 t).mpr ⟨ht, hf⟩
      rw [← St2.are] at hts
      obtain ⟨b, hb, rfl⟩ := List.mem_map.mp hts
      have h1 := hmin b hb
      by_cases e1 : (stOf H2 b).a = N
      · have hbc := (mem4 b).mpr ⟨hb, e1⟩
        have h2 := hmax b hbc
        unfold hgt at h2
        simp only [e4 b hbc, e4 z hz] at h2
        unfold leK at h2
        simp only at h2
        by_cases e2 : (stOf H2 b).stamp = (stOf H2 z).stamp
        · left
          have key : ∀ (l : List Ue02.Stretch), (l.map (·.stamp)).Nodup → ∀ s ∈ l, ∀ t ∈ l, s.stamp = t.stamp → s = t := by
            intro l
            induction l with
            | nil => intro _ s hs; cases hs
            | cons c l ih =>
              intro nd s hs t ht e
              rw [List.map_cons, List.nodup_cons] at nd
              rcases List.mem_cons.mp hs with rfl | hs'
              · rcases List.mem_cons.mp ht with rfl | ht'
                · rfl
                · exact absurd (List.mem_map.mpr ⟨t, ht', e.symm⟩) nd.1
              · rcases List.mem_cons.mp ht with rfl | ht'
                · exact absurd (List.mem_map.mpr ⟨s, hs', e⟩) nd.1
                · exact ih nd.2 s hs' t ht' e
          exact key g.marks I.stp _ ht _ zm e2
        · right; right
          refine ⟨by omega, ?_⟩
          rw [above_iff]
          omega
      · right; left
        omega
    rw [nx] at k2
    dsimp only
    exact lst_of (va_cons (v_fd (val_var rfl) r.number) (va_cons (v_fd (val_var rfl) r.begin_) (va_cons (v_fd (val_var rfl) r.end_) va_nil))) (by show 3 ≤ sizeLine; decide) fun p hp => (k2.same ((s3.trans s4).trans s5)) _ p (same_new hp) hp upd_same
end
end Mk
end

section
set_option Elab.async false
set_option linter.all false
set_option maxRecDepth 100000
set_option maxHeartbeats 4000000
namespace Mk
open PySem PySem.Spec PyProof.Rows L2
/-! ### for over a list that is made on the way -/
def ForK (K : PySem.W.Frag) (g : TG) (tb : TS) (D : Ends) (σ : L2.St) : V → Hp → Prop := fun v H1 => tFor (iList K (tC v)) g tb D σ H1
section
variable {σ : L2.St} {H : Hp} {K : PySem.W.Frag} {tl ta tb' : TE} {g : TG} {tb : TS} {D : Ends} {a : Addr} {xs : List V}
theorem for_start (h : tl σ H (ForK K g tb D σ)) : tFor (iList K tl) g tb D σ H := h
theorem for_k (hx : SqL K H a xs) (Pv : Nat → L2.St → Hp → Prop) (h0 : Pv 0 σ H) (hl : ∀ i σ H, i ≤ xs.length → Pv i σ H → SqL K H a xs)
    (hs : ∀ i x σ H, xs[i]? = some x → Pv i σ H → g x σ H fun σ2 H2 => tb { D with nx := Pv (i + 1), ct := Pv (i + 1), bk := D.nx } σ2 H2) (hd : ∀ σ H, Pv xs.length σ H → D.nx σ H) : ForK K g tb D σ (.ref a) H := ⟨a, rfl, ⟨xs, hx⟩, for_list Pv h0 hl hs hd⟩
theorem s_rng {i j : Nat} (hi : Val ta σ H (.int (i : Int))) (hj : Val tb' σ H (.int (j : Int))) (bi : i < 1000000) (bj : j < 1000000) (Pv : Nat → L2.St → Hp → Prop) (h0 : Pv 0 σ H)
    (hs : ∀ m σ H, m < j - i → Pv m σ H → g (.int (((i + m : Nat)) : Int)) σ H fun σ2 H2 => tb { D with nx := Pv (m + 1), ct := Pv (m + 1), bk := D.nx } σ2 H2) (hd : ∀ σ H, Pv (j - i) σ H → D.nx σ H) : tFor (iRng2 (tCons ta (tCons tb' tNil))) g tb D σ H := by
  refine hi _ (hj _ ⟨(i : Int), (j : Int), rfl, ⟨by omega, by omega, by omega, by omega⟩, ?_⟩)
  have e : ((j : Int) - (i : Int)).toNat = j - i := by omega
  rw [e]
  exact for_range (lo := (i : Int)) Pv h0 (fun m σ H hm p => hs m σ H hm p) hd
end
theorem set_range {n j : Nat} (f : Nat → Nat) (y : Nat) (hj : j < n) : ((List.range n).map f).set j y = (List.range n).map (fun q => if q = j then y else f q) := by
  refine List.ext_getElem? fun i => ?_
  by_cases e : i = j
  · subst e
    rw [List.getElem?_set_self (by rw [List.length_map, List.length_range]; exact hj), List.getElem?_map, List.getElem?_range hj]
    simp
  · rw [List.getElem?_set_ne (Ne.symm e), List.getElem?_map, List.getElem?_map]
    cases q : (List.range n)[i]? with
    | none => rfl
    | some z =>
      have hz : z = i := by
        obtain ⟨h1, h2⟩ := List.getElem?_eq_some_iff.mp q
        rw [List.getElem_range] at h2
        exact h2.symm
      subst hz
      simp [e]
theorem natV_set (ns : List Nat) (j y : Nat) : (natV ns).set j (.int (y : Int)) = natV (ns.set j y) := by
  unfold natV
  rw [List.map_set]
theorem get_range {n j : Nat} (f : Nat → Nat) (hj : j < n) : (natV ((List.range n).map f))[j]? = some (.int (f j : Int)) := natV_get (by rw [List.getElem?_map, List.getElem?_range hj]; rfl)
/-- all but one place -/
def Sb (p : Addr) (H H' : Hp) : Prop := ∀ b o, b ≠ p → H b = some o → H' b = some o
section
variable {P : Program} {w : World} {K : PySem.W.Frag} {mg : Str → Option Value} {base : Heap} {cChange cStretch cStep cSession : Addr}
/-! ### tops_of -/
def spTops (cChange cStretch cStep cSession : Addr) : Sp := fun vs H Q _ => ∃ (X M : List Addr) (a : Addr) (g : Ue02.House), vs = [.ref a] ∧ SessAt cChange cStretch cStep cSession X M H a g ∧ PInv g ∧ QInv g ∧
  ∀ (H' : Hp) (p : Addr), Same H H' → H p = none → H' p = some (.lst (natV ((List.range g.text.length).map (Ue02.top g.marks)))) → Q (.ref p) H'
theorem ok_tops_of {f : Addr} {fd : FuncData} (F : Fun K "tops_of" "tops_of" s_tops_of f fd) (T : Txt K mg cChange cStretch cStep cSession)
    (c_standing : Calls P w K mg base "standing" 1 ["session"] (spStanding cChange cStretch cStep cSession)) (c_height : Calls P w K mg base "height" 1 ["stretch"] (spHeight cStretch)) : FnOk P w K mg base CX0 3 f fd ["session"] (spTops cChange cStretch cStep cSession) := by
  refine F.ok sc_tops_of (fun vs H Q E h => ?_) (fun cdv A outer s H vs Q E hr h => ?_)
  · obtain ⟨X, M, a, g, rfl, _⟩ := h
    rfl
  · obtain ⟨X, M, a, g, rfl, hS, I, J, k⟩ := h
    obtain ⟨dx, t0, d, sl, tl, as, us, rs, S⟩ := id hS
    have nd := sc_tops_of.nd
    have hsl := sizeLine_big
    have htx := I.txt
    refine ⟨_, (pss_cons (ps_set (i := 1) nd rfl (Or.inl rfl) (pe_op op_rep (pe_lst (pa_cons pe_int pa_nil)) (pe_callB (call_lenK (K' := K) rfl) (by rfl) T.b_len PySem.boot_len (pa_cons (pe_fldK (K' := K) rfl (pv 0) rfl) pa_nil))))
      (pss_cons (ps_for PassesOwn.never rfl (pi_list (pe_sortF c_height (hr.mono (by decide)) rfl rfl T.b_sorted (pe_cl c_standing (hr.mono (by decide)) rfl (pa_cons (pv 0) pa_nil)))) (pg_name (i := 2) nd rfl (Or.inl rfl))
        (pss_one (ps_for PassesOwn.never rfl (pi_range2 rfl T.b_range (pa_cons (pe_fldK (K' := K) rfl (pv 2) rfl) (pa_cons (pe_fldK (K' := K) rfl (pv 2) rfl) pa_nil))) (pg_name (i := 3) nd rfl (Or.inl rfl))
          (pss_one (ps_asg (pe_op op_add (pe_fldK (K' := K) rfl (pv 2) rfl) pe_int) (pg_sub (pv 1) (pv 3) set_list))))))
      (pss_one (ps_ret (pv 1))))), ?_⟩
    refine s_asgQ ?_
    refine lst_of (va_cons val_c va_nil) (by show 1 ≤ sizeLine; decide) fun p0 hp0 => ?_
    have s0 := same_new (o := .lst [V.int 0]) hp0
    refine v_len (v_fd (val_var rfl) (se_r T (s0 _ _ S.obj)).content) (SqL.of (s0 _ _ S.text)) _ ?_
    refine ⟨p0, _, _, rfl, rfl, upd_same, by rw [natV_length]; omega, by rw [natV_length]; omega, by rw [natV_length]; show 1 * _ ≤ _; simp only [Int.toNat_natCast]; omega, fun p hp => ?_⟩
    have e0 : (List.replicate ((((natV g.text).length : Nat) : Int).toNat) [V.int 0]).flatten = natV ((List.range g.text.length).map (laid [])) := by
      rw [natV_length, Int.toNat_natCast, List.flatten_replicate_singleton]
      unfold natV
      rw [List.map_map]
      refine List.ext_getElem? fun i => ?_
      rw [List.getElem?_map]
      by_cases h : i < g.text.length
      · rw [List.getElem?_range h, List.getElem?_replicate, if_pos h]
        rfl
      · rw [List.getElem?_eq_none (by rw [List.length_replicate]; omega), List.getElem?_eq_none (by rw [List.length_range]; omega)]
        rfl
    rw [e0]
    have s1 := s0.trans (same_new (o := .lst (natV ((List.range g.text.length).map (laid [])))) hp)
    have hpH : H p = none := s0.free hp
    dsimp only
    refine for_start (sortF_start ?_)
    refine call_of (va_cons (val_var rfl) va_nil) ⟨X, M, a, g, rfl, ⟨_, _, _, _, _, _, _, _, S.same s1⟩, I, J, fun H1 p1 bs s2 hp1 hl1 St1 => ?_⟩
    have hP1 := s2 _ _ (upd_same (H := upd H p0 (.lst [V.int 0])) (a := p) (o := .lst (natV ((List.range g.text.length).map (laid [])))))
    refine ⟨p1, bs.map V.ref, hgt H1, rfl, SqL.of hl1, fun x hx => ?_, fun ys pl H2 hpm hpw s3 hpl hl2 => ?_⟩
    · obtain ⟨b, hb, rfl⟩ := List.mem_map.mp hx
      exact key_height (St1.at_ b hb)
    obtain ⟨cs, rfl, pc⟩ := refs_perm hpm
    obtain ⟨St2, tp⟩ := St1.perm pc
    obtain ⟨St3, same3⟩ := St2.mono s3
    have hP2 := s3 _ _ hP1
    have s123 := (s1.trans s2).trans s3
    have ndt : ((cs.map (stOf H1)).map (·.stamp)).Nodup := (tp.map _).nodup_iff.mpr (filter_stamps I.stp _)
    have hab : (cs.map (stOf H1)).Pairwise (fun s t => Ue02.above t s = true) := by
      refine pw_below ndt ?_
      rw [List.pairwise_map] at hpw ⊢
      exact hpw
    have npl : pl ≠ p := fun z => by rw [z, hP1] at hpl; cases hpl
    generalize hts : cs.map (stOf H1) = ts at tp hab ndt St3
    have htl : cs.length = ts.length := by rw [← hts, List.length_map]
    refine for_k (SqL.of hl2) (fun i σ' H' => ∃ v2 v3 : Option V, σ' = [some (.ref a), some (.ref p), v2, v3] ∧ Sb p H2 H' ∧ H' p = some (.lst (natV ((List.range g.text.length).map (laid (ts.take i))))))
      ⟨none, none, rfl, fun _ _ _ e => e, hP2⟩ (fun i σ' H' _ ⟨_, _, _, sb, _⟩ => SqL.of (sb _ _ npl hl2)) ?_ ?_
    · rintro i x σ' H' hx ⟨v2, v3, rfl, sb, hpp⟩
      obtain ⟨b, hb, rfl⟩ := ref_get hx
      have hm := List.mem_of_getElem? hb
      have hst : ts[i]? = some (stOf H1 b) := by rw [← hts, List.getElem?_map, hb]; rfl
      have hin : Inside g.text.length (stOf H1 b) ∧ (stOf H1 b).gone = false := by
        have h1 : stOf H1 b ∈ Ue02.standing g := tp.mem_iff.mp (List.mem_of_getElem? hst)
        unfold Ue02.standing at h1
        obtain ⟨h2, h3⟩ := List.mem_filter.mp h1
        exact ⟨J.inn _ h2, by simpa using h3⟩
      obtain ⟨ha, hb2⟩ : (stOf H1 b).a ≤ (stOf H1 b).b ∧ (stOf H1 b).b ≤ g.text.length := by
        rcases hin.1 with q | q
        · rw [hin.2] at q; cases q
        · exact q
      obtain ⟨dy, hy0⟩ := (St2.at_ b hm).mono s3
      generalize stOf H1 b = sx at hst ha hb2 hy0
      have nbp : b ≠ p := ne_of hy0 hP2 (by intro z; cases z)
      have hy : ∀ H' : Hp, Sb p H2 H' → H' b = some (.ins cStretch dy (ob nsStretch (stV sx))) := fun H' sb => sb _ _ nbp hy0
      have e1 : ts.take (i + 1) = ts.take i ++ [sx] := by rw [List.take_add_one, hst]; rfl
      have r := st_r T (hy H' sb)
      refine (?_ : tFor _ _ _ _ _ _)
      refine s_rng (i := sx.a) (j := sx.b) (v_fd (val_var rfl) r.begin_) (v_fd (val_var rfl) r.end_) (by omega) (by omega) (fun m σ' H' => ∃ v3 : Option V, σ' = [some (.ref a), some (.ref p), some (.ref b), v3] ∧ Sb p H2 H' ∧ H' p = some (.lst (natV ((List.range g.text.length).map (fun q => if sx.a ≤ q ∧ q < sx.a + m then sx.value + 1 else laid (ts.take i) q)))))
        ⟨v3, rfl, sb, ?_⟩ ?_ ?_
      · rw [hpp]
        congr 4
        funext q
        rw [if_neg (by omega)]
      · rintro m σ' H' hm ⟨v3, rfl, sb, hpp⟩
        have r := st_r T (hy H' sb)
        refine v_add (v_fd (val_var rfl) r.value) val_c _ ?_
        refine val_var rfl _ (val_var rfl _ ?_)
        refine ⟨p, _, _, sx.a + m, rfl, rfl, hpp, ?_, ?_⟩
        · rw [natV_length, List.length_map, List.length_range]
          exact Evl.ixN_nat (by omega)
        · refine ⟨some (.int ((sx.a + m : Nat) : Int)), rfl, fun c o nc e => by rw [upd_ne nc]; exact sb c o nc e, ?_⟩
          rw [upd_same, show (sx.value : Int) + 1 = ((sx.value + 1 : Nat) : Int) from rfl, natV_set, set_range _ _ (by omega)]
          congr 4
          funext q
          by_cases z : q = sx.a + m
          · rw [if_pos z, if_pos (by omega)]
          · rw [if_neg z]
            by_cases y : sx.a ≤ q ∧ q < sx.a + m
            · rw [if_pos y, if_pos (by omega)]
            · rw [if_neg y, if_neg (by omega)]
      · rintro σ' H' ⟨v3, rfl, sb, hpp⟩
        refine ⟨_, v3, rfl, sb, ?_⟩
        rw [hpp, e1]
        congr 4
        funext q
        rw [laid_snoc, show sx.a + (sx.b - sx.a) = sx.b by omega]
    · rintro σ' H' ⟨v2, v3, rfl, sb, hpp⟩
      rw [List.length_map, htl, List.take_length] at hpp
      refine ⟨_, rfl, k H' p (fun c o e => sb c o (ne_of_none e hpH) (s123 c o e)) hpH ?_⟩
      rw [hpp]
      congr 3
      exact List.map_congr_left fun q _ => laid_top I.stp tp hab q
/-! ### runs_between -/
def rowOfR (x : Nat × Nat × Nat) : List Nat := [x.1, x.2.1, x.2.2]
theorem rowsR_len (l : List (Nat × Nat × Nat)) : (l.flatMap rowOfR).length = 3 * l.length := by
  induction l with
  | nil => rfl
  | cons s l ih => rw [List.flatMap_cons, List.length_append, ih, List.length_cons]; show 3 + _ = _; omega
def spRuns (cChange cStretch cStep cSession : Addr) : Sp := fun vs H Q _ => ∃ (X M : List Addr) (a : Addr) (g : Ue02.House) (x y : Nat), vs = [.ref a, .int (x : Int), .int (y : Int)] ∧ SessAt cChange cStretch cStep cSession X M H a g ∧ PInv g ∧ QInv g ∧ Says H (Ue02.step g (.runs x y)).2 Q
theorem ok_runs_between {f : Addr} {fd : FuncData} (F : Fun K "runs_between" "runs_between" s_runs_between f fd) (T : Txt K mg cChange cStretch cStep cSession)
    (c_tops_of : Calls P w K mg base "tops_of" 3 ["session"] (spTops cChange cStretch cStep cSession)) (meth_Session_lies_within : Meths P w K mg base cSession "lies_within" 1 ["self", "begin", "end"] (spWithin cChange cStretch cStep cSession)) : FnOk P w K mg base CX0 4 f fd ["session", "begin", "end"] (spRuns cChange cStretch cStep cSession) := by
  refine F.ok sc_runs_between (fun vs H Q E h => ?_) (fun cdv A outer s H vs Q E hr h => ?_)
  · obtain ⟨X, M, a, g, x, y, rfl, _⟩ := h
    rfl
  · obtain ⟨X, M, a, g, x, y, rfl, hS, I, J, k⟩ := h
    obtain ⟨dx, t0, d, sl, tl, as, us, rs, S⟩ := id hS
    have nd := sc_runs_between.nd
    have hsl := sizeLine_big
    have htx := I.txt
    refine ⟨_, (pss_cons (ps_if (pt_not (pt_val (pe_mt meth_Session_lies_within (pv 0) (hr.mono (by decide)) (pa_cons (pv 1) (pa_cons (pv 2) pa_nil)))))
        (pss_one (ps_ret (pe_lst (pa_cons (pe_gi rfl T.g_NOT_FITTING) pa_nil))))
        pss_nil)
      (pss_cons (ps_set (i := 3) nd rfl (Or.inl rfl) (pe_cl c_tops_of (hr.mono (by decide)) rfl (pa_cons (pv 0) pa_nil)))
      (pss_cons (ps_set (i := 4) nd rfl (Or.inl rfl) (pe_lst pa_nil))
      (pss_cons (ps_set (i := 5) nd rfl (Or.inl rfl) pe_int)
      (pss_cons (ps_set (i := 6) nd rfl (Or.inl rfl) (pv 1))
      (pss_cons (ps_for PassesOwn.never rfl (pi_range2 rfl T.b_range (pa_cons (pe_op op_add (pv 1) pe_int) (pa_cons (pe_op op_add (pv 2) pe_int) pa_nil))) (pg_name (i := 7) nd rfl (Or.inl rfl))
        (pss_one (ps_if (PW.pt (pw_or (pt_cmpR op_eq (pv 7) (pv 2) (nomark _)) (pw_or1 (pt_cmpR op_ne (pe_ix (ix_listK (K' := K) rfl) (pv 3) (pv 7) (fun _ _ => rfl)) (pe_ix (ix_listK (K' := K) rfl) (pv 3) (pv 6) (fun _ _ => rfl)) (nomark _)))))
          (pss_cons (ps_expr (pe_bm PySem.F.plainAttrs_list PySem.F.slot_list_extend PySem.F.type_list_extend mt_extend (pv 4) (pa_cons (pe_lst (pa_cons (pv 6) (pa_cons (pv 7) (pa_cons (pe_ix (ix_listK (K' := K) rfl) (pv 3) (pv 6) (fun _ _ => rfl)) pa_nil)))) pa_nil)))
          (pss_cons (ps_aug (i := 5) nd rfl (.inl rfl) pe_int ip_add)
          (pss_one (ps_set (i := 6) nd rfl (Or.inl rfl) (pv 7)))))
          pss_nil)))
      (pss_one (ps_ret (pe_op op_cat (pe_lst (pa_cons (pv 5) pa_nil)) (pv 4)))))))))), ?_⟩
    have step : (Ue02.step g (.runs x y)).2 = if y < x ∨ g.text.length < y then [-1] else ((Ue02.runs g.marks x y).length : Int) :: Ue02.ints ((Ue02.runs g.marks x y).flatMap rowOfR) := rfl
    rw [step] at k
    refine s_ite (ans_not (a_val (v_within hS (val_var rfl) S.obj (va_cons (val_var rfl) (va_cons (val_var rfl) va_nil))))) (fun c => ?_) (fun c => ?_)
    · rw [if_pos (by
        simp only [Bool.not_eq_true', Bool.and_eq_false_iff, decide_eq_false_iff_not] at c
        omega)] at k
      exact says1 val_c k
    have cc : x ≤ y ∧ y ≤ g.text.length := by
      simp only [Bool.not_eq_false', Bool.and_eq_true, decide_eq_true_eq] at c
      exact c
    obtain ⟨c1, c2⟩ := cc
    rw [if_neg (by omega)] at k
    have hrl := runs_length (l := g.marks) (y - x) (a := x) (b := y) rfl
    dsimp only [L2.tNext]
    refine s_asgQ ?_
    refine call_of (va_cons (val_var rfl) va_nil) ⟨X, M, a, g, rfl, hS, I, J, fun H1 p1 s1 hp1 hl1 => ?_⟩
    dsimp only
    refine s_asgQ (lst_of va_nil (Nat.zero_le _) fun p hp => ?_)
    have n1p : p1 ≠ p := ne_of_none hl1 hp
    refine st_set val_c ?_
    refine st_set (val_var rfl) ?_
    dsimp only
    refine s_rng (i := x + 1) (j := y + 1) (v_is (v_add (i := (x : Int)) (val_var rfl) val_c) rfl) (v_is (v_add (i := (y : Int)) (val_var rfl) val_c) rfl) (by omega) (by omega)
      (fun m σ' H' => ∃ (R : List (Nat × Nat × Nat)) (st : Nat) (v7 : Option V), σ' = [some (.ref a), some (.int (x : Int)), some (.int (y : Int)), some (.ref p1), some (.ref p), some (.int (R.length : Int)), some (.int (st : Int)), v7] ∧ Same H1 H' ∧ H' p = some (.lst ((Ue02.ints (R.flatMap rowOfR)).map V.int)) ∧
        Ue02.runs g.marks x y = R ++ Ue02.runs g.marks st y ∧ (m < y - x → st ≤ x + m ∧ ∀ q, st ≤ q → q ≤ x + m → Ue02.top g.marks q = Ue02.top g.marks st) ∧ (m = y - x → st = y))
      ⟨[], x, none, rfl, same_new hp, upd_same, rfl, fun _ => ⟨Nat.le_refl _, fun q h1 h2 => by rw [show q = x by omega]⟩, fun h => by omega⟩ ?_ ?_
    · rintro m σ' H' hm ⟨R, st, v7, rfl, s2, hpp, er, inv, _⟩
      obtain ⟨i1, i2⟩ := inv (by omega)
      have hT := SqL.of (K := K) (s2 _ _ hl1)
      refine s_ite (a_or (b1 := decide (((x + 1 + m : Nat) : Int) = (y : Int))) (b2 := !decide ((Ue02.top g.marks (x + 1 + m) : Int) = (Ue02.top g.marks st : Int))) (a_test (v_eqI (val_var rfl) (val_var rfl))) fun q => ?_) (fun c => ?_) (fun c => ?_)
      · have q := of_decide_eq_false q
        exact a_test (v_neI (v_ixL (n := x + 1 + m) (val_var rfl) (val_var rfl) hT rfl (get_range _ (by omega))) (v_ixL (n := st) (val_var rfl) (val_var rfl) hT rfl (get_range _ (by omega))))
      · have c : x + 1 + m = y ∨ Ue02.top g.marks (x + 1 + m) ≠ Ue02.top g.marks st := by
          simp only [Bool.or_eq_true, decide_eq_true_eq, Bool.not_eq_true', decide_eq_false_iff_not] at c
          omega
        have run := runs_run (l := g.marks) (x + 1 + m - st) (a := st) (c := x + 1 + m) (b := y) rfl (by omega) (by omega) (fun q h1 h2 => i2 q h1 (by omega)) c
        rw [run] at er
        have hRl : R.length + 1 ≤ y - x := by
          have := congrArg List.length er
          rw [List.length_append, List.length_cons] at this
          omega
        refine s_ext (val_var rfl) hpp ?_
        refine lst_of (va_cons (val_var rfl) (va_cons (val_var rfl) (va_cons (v_ixL (n := st) (val_var rfl) (val_var rfl) hT rfl (get_range _ (by omega))) va_nil))) (by show 3 ≤ sizeLine; decide) fun z hz => ?_
        have npz : p ≠ z := ne_of_none hpp hz
        refine ⟨p, z, _, _, rfl, rfl, (upd_ne npz).trans hpp, upd_same, ?_, ?_⟩
        · unfold Ue02.ints
          rw [List.length_map, List.length_map, rowsR_len]
          show _ + 3 ≤ sizeLine
          omega
        · dsimp only
          refine s_aug rfl val_c ?_
          refine st_set (val_var rfl) ?_
          refine ⟨R ++ [(st, x + 1 + m, Ue02.top g.marks st)], x + 1 + m, some (.int ((x + 1 + m : Nat) : Int)), ?_, same_upd (s2.trans (same_new hz)) hp, ?_, ?_, ?_, ?_⟩
          · rw [List.length_append]
            rfl
          · rw [upd_same, List.flatMap_append]
            unfold Ue02.ints
            rw [List.map_append, List.map_append]
            rfl
          · rw [er, List.append_assoc]
            rfl
          · intro h
            exact ⟨by omega, fun q h1 h2 => by rw [show q = x + 1 + m by omega]⟩
          · intro h
            omega
      · have c : x + 1 + m ≠ y ∧ Ue02.top g.marks (x + 1 + m) = Ue02.top g.marks st := by
          simp only [Bool.or_eq_false_iff, decide_eq_false_iff_not, Bool.not_eq_false', decide_eq_true_eq] at c
          omega
        refine ⟨R, st, some (.int ((x + 1 + m : Nat) : Int)), rfl, s2, hpp, er, fun h => ⟨by omega, fun q h1 h2 => ?_⟩, fun h => by omega⟩
        by_cases z : q = x + 1 + m
        · rw [z]; exact c.2
        · exact i2 q h1 (by omega)
    · rintro σ' H' ⟨R, st, v7, rfl, s2, hpp, er, _, fin⟩
      have es := fin (by omega)
      subst es
      rw [runs_nil (Nat.le_refl _), List.append_nil] at er
      rw [er] at k hrl
      dsimp only
      exact cat_of (i := (R.length : Int)) (l := p) (val_var rfl) hpp (by unfold Ue02.ints; rw [List.length_map, rowsR_len]; omega) (fun q hq => val_var rfl) (k.same (s1.trans s2))
end
end Mk
end

section
set_option Elab.async false
set_option linter.all false
set_option maxRecDepth 100000
set_option maxHeartbeats 4000000
namespace Mk
open PySem PySem.Spec PyProof.Rows L2
/-! ### the list of calls, in plain numbers -/
def zs (ns : List Nat) : List Int := ns.map fun (n : Nat) => (n : Int)
theorem zs_split {ns : List Nat} {a b : List Int} (h : zs ns = a ++ b) : ∃ x y, ns = x ++ y ∧ a = zs x ∧ b = zs y := by
  unfold zs at h
  obtain ⟨x, y, h1, h2, h3⟩ := List.map_eq_append_iff.mp h
  exact ⟨x, y, h1, h2.symm, h3.symm⟩
theorem zs_cons {ns : List Nat} {q : Nat} {b : List Int} (h : zs ns = (q : Int) :: b) : ∃ y, ns = q :: y ∧ b = zs y := by
  cases ns with
  | nil => cases h
  | cons n ns =>
    have h : (n : Int) :: zs ns = (q : Int) :: b := h
    obtain ⟨h1, h2⟩ := List.cons.inj h
    have : n = q := by omega
    subst this
    exact ⟨ns, rfl, h2.symm⟩
theorem zs_len (ns : List Nat) : (zs ns).length = ns.length := List.length_map _
theorem zs_toNat (ns : List Nat) : (zs ns).map Int.toNat = ns := by
  unfold zs
  rw [List.map_map]
  exact (List.map_congr_left fun n _ => by simp).trans (List.map_id ns)
/-- how a call lies in the numbers -/
structure At (ns : List Nat) (i q start stop : Nat) (args : List Nat) : Prop where
  kind : ns[i]? = some q
  le : q ≤ 12
  are : args = (ns.drop start).take (stop - start)
  s1 : start ≤ stop
  s2 : stop ≤ ns.length
  s3 : i < stop
  row : (q = 0 ∨ q = 4) → start = i + 2 ∧ ns[i + 1]? = some args.length ∧ NUMS[q]? = some 0
  nums : ¬ (q = 0 ∨ q = 4) → start = i + 1 ∧ NUMS[q]? = some args.length
  len : stop = start + args.length
theorem at_turn {ns : List Nat} {i f : Nat} {raw : List (List (List Int))} (h : PyFlat.calls PyUe02.shape f (zs (ns.drop i)) = some raw) (hi : i < ns.length) :
    ∃ (f' q start stop : Nat) (args : List Nat) (c : List (List Int)) (rest : List (List (List Int))), At ns i q start stop args ∧ raw = c :: rest ∧ PyFlat.calls PyUe02.shape f' (zs (ns.drop stop)) = some rest ∧ (PyUe02.whole c).headD [] = zs (q :: args) := by
  obtain ⟨f', q, ar, tl, c, rest, hL, e1, e2, e3⟩ := one_call h (by
    intro z
    have := congrArg List.length z
    rw [zs_len, List.length_drop] at this
    simp at this
    omega)
  generalize eL : zs (ns.drop i) = L at hL
  cases hL with
  | row hq =>
    obtain ⟨y, ey, h2⟩ := zs_cons eL
    obtain ⟨y2, ey2, h3⟩ := zs_cons h2.symm
    obtain ⟨x, t, ext, ex, et⟩ := zs_split h3.symm
    subst ex et ext ey2
    have hk : ns[i]? = some q := by
      have : ns[i]? = (ns.drop i)[0]? := by rw [List.getElem?_drop]; rfl
      rw [this, ey]; rfl
    have hk1 : ns[i + 1]? = some (zs x).length := by
      have : ns[i + 1]? = (ns.drop i)[1]? := by rw [List.getElem?_drop]
      rw [this, ey]; rfl
    have hd : ns.drop (i + 2) = x ++ t := by
      have : ns.drop (i + 2) = (ns.drop i).drop 2 := by rw [List.drop_drop]
      rw [this, ey]; rfl
    have hl := congrArg List.length hd
    rw [List.length_drop, List.length_append] at hl
    rw [zs_len] at hk1
    have hq12 : q ≤ 12 := by omega
    have hge : i + 2 ≤ ns.length := by
      have := (List.getElem?_eq_some_iff.mp hk1).1
      omega
    refine ⟨f', q, i + 2, i + 2 + x.length, x, c, rest, ⟨hk, hq12, ?_, by omega, by omega, by omega, fun _ => ⟨rfl, hk1, by rcases hq with rfl | rfl <;> rfl⟩, fun z => absurd hq z, rfl⟩, e1, ?_, ?_⟩
    · rw [hd, show i + 2 + x.length - (i + 2) = x.length by omega, List.take_left']
      rfl
    · rw [show ns.drop (i + 2 + x.length) = t by rw [← List.drop_drop, hd]; exact List.drop_left' rfl]
      exact e2
    · rcases e3 with ⟨rfl, _⟩ | ⟨_, z, _⟩
      · rw [whole_row hq]; rfl
      · exact absurd hq z
  | nums hq hnq hn =>
    obtain ⟨y, ey, h2⟩ := zs_cons eL
    obtain ⟨x, t, ext, ex, et⟩ := zs_split h2.symm
    subst ex et ext
    have hk : ns[i]? = some q := by
      have : ns[i]? = (ns.drop i)[0]? := by rw [List.getElem?_drop]; rfl
      rw [this, ey]; rfl
    have hd : ns.drop (i + 1) = x ++ t := by
      have : ns.drop (i + 1) = (ns.drop i).drop 1 := by rw [List.drop_drop]
      rw [this, ey]; rfl
    have hl := congrArg List.length hd
    rw [List.length_drop, List.length_append] at hl
    rw [zs_len] at hn
    refine ⟨f', q, i + 1, i + 1 + x.length, x, c, rest, ⟨hk, hq, ?_, by omega, by omega, by omega, fun z => absurd z hnq, fun _ => ⟨rfl, hn⟩, rfl⟩, e1, ?_, ?_⟩
    · rw [hd, show i + 1 + x.length - (i + 1) = x.length by omega, List.take_left']
      rfl
    · rw [show ns.drop (i + 1 + x.length) = t by rw [← List.drop_drop, hd]; exact List.drop_left' rfl]
      exact e2
    · rcases e3 with ⟨_, z⟩ | ⟨rfl, _, _, _⟩
      · exact absurd z hnq
      · rw [whole_nums hnq hq (by rw [zs_len]; exact hn)]; rfl
theorem callOf_zs {ns : List Nat} (h : (Ue02Neutral.callOf (zs ns)).isSome = true) : ∃ c, Ue02Neutral.callIn ns = some c ∧ ∀ s, Ue02Neutral.step s (zs ns) = Ue02.step s c := by
  have e : Ue02Neutral.callOf (zs ns) = if (zs ns).all Ue02Neutral.nat = false then none else Ue02Neutral.callIn ((zs ns).map Int.toNat) := rfl
  rw [zs_toNat] at e
  by_cases q : (zs ns).all Ue02Neutral.nat = false
  · rw [e, if_pos q] at h; cases h
  · rw [if_neg q] at e
    cases z : Ue02Neutral.callIn ns with
    | none => rw [e, z] at h; cases h
    | some c =>
      refine ⟨c, rfl, fun s => ?_⟩
      unfold Ue02Neutral.step
      rw [e, z]
theorem natV_zs (ns : List Nat) : natV ns = (zs ns).map V.int := by
  unfold natV zs
  rw [List.map_map]
  rfl
theorem sqT_any {K : PySem.W.Frag} {H : Hp} {a : Addr} {xs : List V} (h : SqT K (fun _ => none) a xs) : SqT K H a xs := by
  rcases h with (h | ⟨o, h⟩) | h
  · cases h
  · cases h
  · exact .inr h
/-- the list that is handed in stands -/
def Good (K : PySem.W.Frag) (M : List Addr) (H : Hp) (l : Addr) (xs : List V) : Prop := (Rd H l (.lst xs) ∧ l ∉ M) ∨ ∀ H' : Hp, SqL K H' l xs
theorem Good.sq {K : PySem.W.Frag} {M : List Addr} {H : Hp} {l : Addr} {xs : List V} (h : Good K M H l xs) : SqL K H l xs := by
  rcases h with h | h
  · exact .inl h.1
  · exact h H
theorem Good.frame {K : PySem.W.Frag} {M M' : List Addr} {H H' : Hp} {l : Addr} {xs : List V} (h : Good K M H l xs) (f : Frame M H M' H') : Good K M' H' l xs := by
  rcases h with ⟨h | ⟨o, h⟩, nm⟩ | h
  · refine .inl ⟨.inl (f.keep _ _ h nm), fun m => ?_⟩
    rcases f.new l m with q | q
    · exact nm q
    · rw [q] at h; cases h
  · refine .inl ⟨.inr ⟨o, f.keep _ _ h nm⟩, fun m => ?_⟩
    rcases f.new l m with q | q
    · exact nm q
    · rw [q] at h; cases h
  · exact .inr h
theorem good_of {K : PySem.W.Frag} {M : List Addr} {H H' : Hp} {a l : Addr} {xs : List V} (h : SqL K H l xs) (ha : H a = none) (s : Same H H') (n : ∀ z ∈ M, z = a ∨ H z = none) : Good K M H' l xs := by
  rcases h with (h | ⟨o, h⟩) | h
  · refine .inl ⟨.inl (s _ _ h), fun m => ?_⟩
    rcases n l m with q | q
    · rw [q, ha] at h; cases h
    · rw [q] at h; cases h
  · refine .inl ⟨.inr ⟨o, s _ _ h⟩, fun m => ?_⟩
    rcases n l m with q | q
    · rw [q, ha] at h; cases h
    · rw [q] at h; cases h
  · exact .inr fun _ => .inr h
section
variable {P : Program} {w : World} {K : PySem.W.Frag} {mg : Str → Option Value} {base : Heap} {cChange cStretch cStep cSession : Addr}
theorem Frame.more {M M' : List Addr} {H H' : Hp} (p : Addr) (f : Frame M H M' H') : Frame (p :: M) H (p :: M') H' := ⟨fun b o h nb => f.keep b o h fun m => nb (List.mem_cons_of_mem _ m), fun b hb => by
  rcases List.mem_cons.mp hb with e | e
  · exact .inl (by rw [e]; exact List.mem_cons_self)
  · rcases f.new b e with q | q
    · exact .inl (List.mem_cons_of_mem _ q)
    · exact .inr q, f.stay⟩
theorem Frame.at {M : List Addr} {H : Hp} {p : Addr} {o : HO} : Frame (p :: M) H (p :: M) (upd H p o) := ⟨fun b u h nb => by rw [upd_ne (fun e => nb (by rw [e]; exact List.mem_cons_self))]; exact h, fun b hb => .inl hb, (Dom.refl H).put⟩
theorem Sess.more {M : List Addr} {H : Hp} {a dx t d sl tl p : Addr} {g : Ue02.House} {as us rs : List Addr} {xs : List V} (S : Sess cChange cStretch cStep cSession [] M H a g dx t d sl tl as us rs) (hp : H p = none) : Sess cChange cStretch cStep cSession [p] M (upd H p (.lst xs)) a g dx t d sl tl as us rs := by
  have e := same_new (o := .lst xs) hp
  have hpM : p ∉ M ++ [] := S.fresh hp
  rw [List.append_nil] at hpM
  have c : Same (cut (M ++ []) H) (cut (M ++ [p]) (upd H p (.lst xs))) := fun b o h => by
    obtain ⟨h1, h2⟩ := cut_get.mp h
    refine cut_get.mpr ⟨?_, e _ _ h2⟩
    rw [List.append_nil] at h1
    rw [List.mem_append, List.mem_singleton]
    exact fun z => z.elim h1 (ne_of_none h2 hp)
  exact ⟨S.m, S.nd, e _ _ S.obj, e _ _ S.dic, e _ _ S.stl, e _ _ S.tkl, S.mks.imp fun b x _ _ ⟨dy, q⟩ => ⟨dy, e _ _ q⟩, c _ _ S.txt, S.und.imp fun _ _ _ _ q => q.mono c, S.red.imp fun _ _ _ _ q => q.mono c,
    fun x hx => by rw [List.mem_singleton] at hx; subst hx; exact ⟨hpM, xs, upd_same⟩⟩
theorem Sess.setX {X M : List Addr} {H : Hp} {a dx t d sl tl p : Addr} {g : Ue02.House} {as us rs : List Addr} {xs : List V} (S : Sess cChange cStretch cStep cSession X M H a g dx t d sl tl as us rs) (hp : p ∈ X) : Sess cChange cStretch cStep cSession X M (upd H p (.lst xs)) a g dx t d sl tl as us rs := by
  have hpM := (S.xk p hp).1
  have e : ∀ z o, z ∈ M → H z = some o → (upd H p (.lst xs)) z = some o := fun z o m h => by
    rw [upd_ne (ne_in hpM m).symm]
    exact h
  have c : Same (cut (M ++ X) H) (cut (M ++ X) (upd H p (.lst xs))) := cut_same (fun b o h nb => by
    rw [upd_ne (ne_in nb (List.mem_append.mpr (.inr hp)))]
    exact h) (fun b hb => .inl hb)
  exact ⟨S.m, S.nd, e _ _ (S.inM _ (by simp)) S.obj, e _ _ (S.inM _ (by simp)) S.dic, e _ _ (S.inM _ (by simp)) S.stl, e _ _ (S.inM _ (by simp)) S.tkl, S.mks.imp fun b x hb _ ⟨dy, q⟩ => ⟨dy, e _ _ (S.inM _ (by simp [hb])) q⟩, c _ _ S.txt, S.und.imp fun _ _ _ _ q => q.mono c, S.red.imp fun _ _ _ _ q => q.mono c,
    fun x hx => by
      obtain ⟨h1, ys, h2⟩ := S.xk x hx
      refine ⟨h1, ?_⟩
      by_cases q : x = p
      · exact ⟨xs, by rw [q]; exact upd_same⟩
      · exact ⟨ys, by rw [upd_ne q]; exact h2⟩⟩
/-! ### has_row -/
def spRow : Sp := fun vs H Q _ => ∃ (q : Nat), vs = [.int (q : Int)] ∧ Q (.bl (decide (q = 0 ∨ q = 4))) H
theorem ok_has_row {f : Addr} {fd : FuncData} (F : Fun K "has_row" "has_row" s_has_row f fd) (T : Txt K mg cChange cStretch cStep cSession) : FnOk P w K mg base CX0 1 f fd ["kind"] spRow := by
  refine F.ok sc_has_row (fun vs H Q E h => ?_) (fun cdv A outer s H vs Q E hr h => ?_)
  · obtain ⟨q, rfl, _⟩ := h
    rfl
  · obtain ⟨q, rfl, k⟩ := h
    have nd := sc_has_row.nd
    refine ⟨_, (pss_one (ps_ret (pe_or (pe_cmpR op_eq (pv 0) (pe_gi rfl T.g_BEGINS) (nomark _)) (pe_one (pe_cmpR op_eq (pv 0) (pe_gi rfl T.g_CHANGE) (nomark _)))))), ?_⟩
    refine st_ret (v_is (v_or (v_eqI (val_var rfl) val_c) fun _ => v_eqI (val_var rfl) val_c) ?_) k
    congr 1
    rw [Bool.eq_iff_iff]
    simp
    omega
/-! ### the calls, one by one -/
/-- what one call asks: the session, its numbers in a list of their own, and gives -/
def spAnswer (cChange cStretch cStep cSession : Addr) (most : Nat) : Sp := fun vs H Q _ => ∃ (X M : List Addr) (a l : Addr) (g : Ue02.House) (q : Nat) (ns : List Nat) (c : Ue02.Call), vs = [.ref a, .int (q : Int), .ref l] ∧ SessAt cChange cStretch cStep cSession X M H a g ∧ PInv g ∧ QInv g ∧ H l = some (.lst (natV ns)) ∧ l ∉ M ∧
  q ≤ most ∧ Ue02Neutral.callIn (q :: ns) = some c ∧ ns.length ≤ 100000 ∧ g.undo.length + g.redo.length ≤ 1000 ∧ Gives cChange cStretch cStep cSession X M H a (Ue02.step g c).1 (Ue02.step g c).2 Q
end
end Mk
end

section
set_option Elab.async false
set_option linter.all false
set_option maxRecDepth 100000
set_option maxHeartbeats 4000000
namespace Mk
open PySem PySem.Spec PyProof.Rows L2
section
variable {P : Program} {w : World} {K : PySem.W.Frag} {mg : Str → Option Value} {base : Heap} {cChange cStretch cStep cSession : Addr}
abbrev most : Nat := 12
theorem nums_at {q n : Nat} (hq : q ≤ most) (h : NUMS[q]? = some n) : ([V.int 0, V.int 7, V.int 3, V.int 1, V.int 0, V.int 0, V.int 0, V.int 0, V.int 1, V.int 1, V.int 2, V.int 2, V.int 0] : List V)[q]? = some (.int (n : Int)) := by
  have e : q = 0 ∨ q = 1 ∨ q = 2 ∨ q = 3 ∨ q = 4 ∨ q = 5 ∨ q = 6 ∨ q = 7 ∨ q = 8 ∨ q = 9 ∨ q = 10 ∨ q = 11 ∨ q = 12 := by unfold most at hq; omega
  rcases e with rfl | rfl | rfl | rfl | rfl | rfl | rfl | rfl | rfl | rfl | rfl | rfl | rfl <;> (cases h; rfl)
theorem v_row {σ : L2.St} {H : Hp} {t : TA} {q : Nat} (h : ValA t σ H [.int (q : Int)]) : Val (tCall spRow [] E0 t) σ H (.bl (decide (q = 0 ∨ q = 4))) := fun Q k => call_of h ⟨q, rfl, k⟩
theorem told_cons (a : List Int) (l : List (List Int)) : PyFlat.told (a :: l) = (a.length : Int) :: (a ++ PyFlat.told l) := by
  unfold PyFlat.told
  rw [List.flatMap_cons]
  rfl
def spAns (K : PySem.W.Frag) : Sp := fun vs H Q _ => ∃ (l : Addr) (ns : List Nat) (f : Nat) (raw : List (List (List Int))), vs = [.ref l] ∧ SqL K H l (natV ns) ∧ ns.length ≤ 100000 ∧ PyFlat.calls PyUe02.shape f (zs ns) = some raw ∧ raw.length ≤ 60 ∧ (∀ c ∈ lines raw, (Ue02Neutral.callOf c).isSome = true) ∧ (∀ c ∈ lines raw, ∀ q r, c = q :: r → q ≤ (most : Int)) ∧
  (PyFlat.told (played Ue02.init (lines raw))).length ≤ 2000000 ∧ ∀ (H' : Hp) (p : Addr), H' p = some (.lst ((PyFlat.told (played Ue02.init (lines raw))).map V.int)) → Q (.ref p) H'
theorem ok_answers {f : Addr} {fd : FuncData} (F : Fun K "answers" "answers" s_answers f fd) (T : Txt K mg cChange cStretch cStep cSession)
    (c_has_row : Calls P w K mg base "has_row" 1 ["kind"] spRow) (c_answer_of : Calls P w K mg base "answer_of" 6 ["session", "kind", "numbers"] (spAnswer cChange cStretch cStep cSession most))
    (m_Session : Makes P w K mg base cSession "Session" 2 ["self"] (spSession cChange cStretch cStep cSession)) : FnOk P w K mg base CX0 7 f fd ["calls"] (spAns K) := by
  refine F.ok sc_answers (fun vs H Q E h => ?_) (fun cdv A outer s H vs Q E hr h => ?_)
  · obtain ⟨l, ns, f, raw, rfl, _⟩ := h
    rfl
  · obtain ⟨l, ns, fu, raw, rfl, hl, hz, hraw, hlen, hok, hmost, htold, k⟩ := h
    have nd := sc_answers.nd
    have hsl : 3000000 < sizeLine := by decide
    obtain ⟨a_NUMBERS, g_NUMBERS, hN⟩ := T.g_NUMBERS
    refine ⟨_, (pss_cons (ps_set (i := 1) nd rfl (Or.inl rfl) (pe_mk0 m_Session (hr.mono (by decide)) rfl))
      (pss_cons (ps_set (i := 2) nd rfl (Or.inl rfl) (pe_lst pa_nil))
      (pss_cons (ps_set (i := 3) nd rfl (Or.inl rfl) pe_int)
      (pss_cons (ps_while PassesOwn.never (pt_cmpR op_lt (pv 3) (pe_callB (call_lenK (K' := K) rfl) (by rfl) T.b_len PySem.boot_len (pa_cons (pv 0) pa_nil)) (nomark _))
        (pss_cons (ps_set (i := 4) nd rfl (Or.inl rfl) (pe_ix (ix_listK (K' := K) rfl) (pv 0) (pv 3) (fun _ _ => rfl)))
        (pss_cons (ps_set (i := 5) nd rfl (Or.inl rfl) (pe_op op_add (pv 3) pe_int))
        (pss_cons (ps_set (i := 6) nd rfl (Or.inl rfl) (pe_op op_add (pv 5) (pe_ix (ix_tupK (K' := K) rfl) (pe_glob (v := .ref a_NUMBERS) rfl g_NUMBERS rfl) (pv 4) (fun _ _ => rfl))))
        (Evl.pss_cut (ps_if (pt_val (pe_cl c_has_row (hr.mono (by decide)) rfl (pa_cons (pv 4) pa_nil)))
          (pss_cons (ps_set (i := 5) nd rfl (Or.inl rfl) (pe_op op_add (pv 6) pe_int))
          (pss_one (ps_set (i := 6) nd rfl (Or.inl rfl) (pe_op op_add (pv 5) (pe_ix (ix_listK (K' := K) rfl) (pv 0) (pv 6) (fun _ _ => rfl))))))
          pss_nil)
        (pss_cons (ps_set (i := 7) nd rfl (Or.inl rfl) (pe_cl c_answer_of (hr.mono (by decide)) rfl (pa_cons (pv 1) (pa_cons (pv 4) (pa_cons (pe_slice sl_list (pv 0) (po_some (pv 5)) (po_some (pv 6))) pa_nil)))))
        (pss_cons (ps_expr (pe_bm PySem.F.plainAttrs_list PySem.F.slot_list_append PySem.F.type_list_append mt_append (pv 2) (pa_cons (pe_callB (call_lenK (K' := K) rfl) (by rfl) T.b_len PySem.boot_len (pa_cons (pv 7) pa_nil)) pa_nil)))
        (pss_cons (ps_expr (pe_bm PySem.F.plainAttrs_list PySem.F.slot_list_extend PySem.F.type_list_extend mt_extend (pv 2) (pa_cons (pv 7) pa_nil)))
        (pss_one (ps_set (i := 3) nd rfl (Or.inl rfl) (pv 6)))))))))))
      (pss_one (ps_ret (pv 2))))))), ?_⟩
    refine s_asgQ ?_
    intro a dxa hx hdx hne
    refine ⟨a, dxa, rfl, upd_same, fun H0 M hS fr0 => ⟨rfl, ?_⟩⟩
    have s1 : Same H H0 := fun b o e => fr0.keep b o (by rw [upd_ne (ne_of_none e hx), upd_ne (ne_of_none e hdx)]; exact e) (by simpa using ne_of_none e hx)
    have hG : Good K M H0 l (natV ns) := good_of (a := a) hl hx s1 (fun z hz => by
      rcases fr0.new z hz with q | q
      · exact .inl (by simpa using q)
      · obtain ⟨q1, q2⟩ := upd_none q
        exact .inr (upd_none q2).2)
    dsimp only
    refine s_asgQ (lst_of va_nil (Nat.zero_le _) fun p hp => ?_)
    refine st_set val_c ?_
    obtain ⟨dx0, t00, d0, sl0, tl0, as0, us0, rs0, S0⟩ := hS
    have hpM : p ∉ M := fun m => S0.fresh hp (List.mem_append.mpr (.inl m))
    have hG0 : Good K (p :: M) (upd H0 p (.lst (([] : List Int).map V.int))) l (natV ns) := by
      rcases hG with ⟨h | ⟨o, h⟩, nm⟩ | h
      · exact .inl ⟨.inl (same_new hp _ _ h), fun m => by
          rcases List.mem_cons.mp m with e | e
          · rw [e, hp] at h; cases h
          · exact nm e⟩
      · exact .inl ⟨.inr ⟨o, same_new hp _ _ h⟩, fun m => by
          rcases List.mem_cons.mp m with e | e
          · rw [e, hp] at h; cases h
          · exact nm e⟩
      · exact .inr h
    generalize hTot : PyFlat.told (played Ue02.init (lines raw)) = Tot at k htold
    refine s_while (fun m σ' H' => ∃ (i fu : Nat) (raw' : List (List (List Int))) (M' : List Addr) (g : Ue02.House) (acc : List Int) (v4 v5 v6 v7 : Option V), m = ns.length - i ∧ σ' = [some (.ref l), some (.ref a), some (.ref p), some (.int (i : Int)), v4, v5, v6, v7] ∧ i ≤ ns.length ∧
        SessAt cChange cStretch cStep cSession [p] M' H' a g ∧ PInv g ∧ QInv g ∧ g.undo.length + g.redo.length + raw'.length ≤ 60 ∧ H' p = some (.lst (acc.map V.int)) ∧ p ∉ M' ∧ PyFlat.calls PyUe02.shape fu (zs (ns.drop i)) = some raw' ∧
        acc ++ PyFlat.told (played g (lines raw')) = Tot ∧ Good K (p :: M') H' l (natV ns) ∧ (∀ c ∈ lines raw', (Ue02Neutral.callOf c).isSome = true) ∧ (∀ c ∈ lines raw', ∀ q r, c = q :: r → q ≤ (most : Int)))
      ns.length ⟨0, fu, raw, M, Ue02.init, [], none, none, none, none, rfl, rfl, Nat.zero_le _, ⟨_, _, _, _, _, _, _, _, S0.more hp⟩, init_inv, init_q, by show 0 + 0 + _ ≤ 60; omega, upd_same, hpM, hraw, hTot, hG0, hok, hmost⟩ ?_
    rintro m σ' H' ⟨i, fu, raw', M', g, acc, v4, v5, v6, v7, rfl, rfl, hi, hS', I, J, hst, hpp, hpM', hraw', hacc, hG', hok', hmost'⟩
    refine ⟨_, a_test (v_lt (val_var rfl) (v_len (val_var rfl) hG'.sq)), fun c => ?_, fun c => ?_⟩
    · rw [natV_length] at c
      have c := of_decide_eq_true c
      obtain ⟨f', q, st, sp, args, cl, rest, hA, rfl, hrest, hwh⟩ := at_turn hraw' (by omega)
      have hcl : zs (q :: args) ∈ lines (cl :: rest) := by
        show zs (q :: args) ∈ (PyUe02.whole cl).headD [] :: lines rest
        rw [hwh]
        exact List.mem_cons_self
      obtain ⟨cc, hcc, hstep⟩ := callOf_zs (hok' _ hcl)
      have hq : q ≤ most := by
        have := hmost' _ hcl (q : Int) (zs args) rfl
        omega
      have hpl : PyFlat.told (played g (lines (cl :: rest))) = ((Ue02.step g cc).2.length : Int) :: ((Ue02.step g cc).2 ++ PyFlat.told (played (Ue02.step g cc).1 (lines rest))) := by
        show PyFlat.told ((Ue02Neutral.step g ((PyUe02.whole cl).headD [])).2 :: played (Ue02Neutral.step g ((PyUe02.whole cl).headD [])).1 (lines rest)) = _
        rw [hwh, hstep, told_cons]
      rw [hpl] at hacc
      have hTl : acc.length + (1 + (Ue02.step g cc).2.length) ≤ 2000000 := by
        rw [← hacc] at htold
        simp only [List.length_append, List.length_cons] at htold
        omega
      obtain ⟨n, hn⟩ : ∃ n, NUMS[q]? = some n := by
        by_cases z : q = 0 ∨ q = 4
        · exact ⟨_, (hA.row z).2.2⟩
        · exact ⟨_, (hA.nums z).2⟩
      refine st_set (v_ixL (n := i) (val_var rfl) (val_var rfl) hG'.sq rfl (natV_get hA.kind)) ?_
      refine st_set (v_add (val_var rfl) val_c) ?_
      refine st_set (v_add (val_var rfl) (v_ixT (n := q) val_c (val_var rfl) (sqT_any hN) rfl (nums_at hq hn))) ?_
      refine ⟨fun σ2 H2 => H2 = H' ∧ σ2 = [some (.ref l), some (.ref a), some (.ref p), some (.int (i : Int)), some (.int (q : Int)), some (.int (st : Int)), some (.int (sp : Int)), v7], ?_, ?_⟩
      · refine s_itd (p := q = 0 ∨ q = 4) (a_val (v_row (va_cons (val_var rfl) va_nil))) (fun z => ?_) (fun z => ?_)
        · obtain ⟨h1, h2, h3⟩ := hA.row z
          have hn0 : n = 0 := Option.some.inj (hn.symm.trans h3)
          subst hn0
          refine st_set (v_add (val_var rfl) val_c) ?_
          refine st_set (v_add (val_var rfl) (v_ixL (n := i + 1) (val_var rfl) (val_var rfl) hG'.sq (by omega) (natV_get h2))) ?_
          refine ⟨rfl, ?_⟩
          have e1 : (i : Int) + 1 + ((0 : Nat) : Int) + 1 = (st : Int) := by omega
          have e2 : (i : Int) + 1 + ((0 : Nat) : Int) + 1 + (args.length : Int) = (sp : Int) := by have := hA.len; omega
          show [_, _, _, _, _, some (V.int ((i : Int) + 1 + ((0 : Nat) : Int) + 1)), some (V.int ((i : Int) + 1 + ((0 : Nat) : Int) + 1 + (args.length : Int))), _] = _
          rw [e2, e1]
        · obtain ⟨h1, h2⟩ := hA.nums z
          have hn0 : n = args.length := Option.some.inj (hn.symm.trans h2)
          subst hn0
          refine ⟨rfl, ?_⟩
          have e1 : (i : Int) + 1 = (st : Int) := by omega
          have e2 : (i : Int) + 1 + (args.length : Int) = (sp : Int) := by have := hA.len; omega
          show [_, _, _, _, _, some (V.int ((i : Int) + 1)), some (V.int ((i : Int) + 1 + (args.length : Int))), _] = _
          rw [e2, e1]
      · rintro σ2 H2 ⟨rfl, rfl⟩
        obtain ⟨dx1, t1, d1, sl1, tl1, as1, us1, rs1, S1⟩ := hS'
        refine s_asgQ ?_
        refine (?_ : tCall _ _ _ _ _ _ _)
        refine ⟨_, rfl, _, rfl, ?_⟩
        refine (?_ : tSl _ _ _ _ _ _ _)
        refine sl_of (val_var rfl) hG'.sq (val_var rfl) (val_var rfl) fun b hb => ?_
        have h1 := hA.s1
        have h2 := hA.s2
        rw [cutV_nat (by rw [natV_length]; omega) (by rw [natV_length]; omega), natV_cut, ← hA.are]
        have hbM : b ∉ M' := fun m => S1.fresh hb (List.mem_append.mpr (.inl m))
        refine ⟨[p], M', a, b, g, q, args, cc, rfl, ⟨_, _, _, _, _, _, _, _, S1.same (same_new hb)⟩, I, J, upd_same, hbM, hq, hcc, by have := hA.len; omega, by omega, fun H3 M3 r hS3 fr3 hr3 hr3v => ?_⟩
        have fr13 : Frame M' H2 M3 H3 := (Frame.same (same_new hb)).trans fr3
        have hpp3 : H3 p = some (.lst (acc.map V.int)) := fr13.keep p _ hpp hpM'
        have hpM3 : p ∉ M3 := fun mm => by
          rcases fr13.new p mm with z | z
          · exact hpM' z
          · rw [z] at hpp; cases hpp
        have npr : p ≠ r := fun e => by
          rw [← e] at hr3
          rw [same_new hb _ _ hpp] at hr3
          cases hr3
        obtain ⟨dx3, t3, d3, sl3, tl3, as3, us3, rs3, S3⟩ := hS3
        refine s_app (val_var rfl) hpp3 ?_
        refine v_len (val_var rfl) (SqL.of hr3v) _ ?_
        refine ⟨p, _, _, rfl, rfl, hpp3, by rw [List.length_map]; omega, ?_⟩
        refine s_ext (val_var rfl) upd_same ?_
        refine ⟨_, rfl, p, r, _, _, rfl, rfl, upd_same, (upd_ne npr.symm).trans hr3v, by rw [List.length_append, List.length_map, List.length_map]; simp only [List.length_singleton]; omega, ?_⟩
        rw [upd_upd]
        refine st_set (val_var rfl) ?_
        refine ⟨ns.length - sp, by have := hA.s3; omega, sp, f', rest, M3, (Ue02.step g cc).1, acc ++ [((Ue02.step g cc).2.length : Int)] ++ (Ue02.step g cc).2, _, _, _, _, rfl, rfl, h2, ?_, step_inv I cc, step_q I J cc, ?_, ?_, hpM3, hrest, ?_, ?_, ?_, ?_⟩
        · exact ⟨_, _, _, _, _, _, _, _, S3.setX (by simp)⟩
        · have := step_stacks g cc
          simp only [List.length_cons] at hst
          omega
        · rw [upd_same, List.map_append, List.map_append, List.length_map]
          rfl
        · rw [← hacc]
          simp only [List.append_assoc, List.singleton_append, List.cons_append, List.nil_append]
        · exact (hG'.frame (fr13.more p)).frame Frame.at
        · exact fun c hc => hok' c (List.mem_cons_of_mem _ hc)
        · exact fun c hc => hmost' c (List.mem_cons_of_mem _ hc)
    · rw [natV_length] at c
      have c := of_decide_eq_false c
      have ei : i = ns.length := by omega
      subst ei
      rw [List.drop_length] at hraw'
      have er : raw' = [] := by cases fu <;> exact (Option.some.inj hraw').symm
      subst er
      refine ⟨_, rfl, k H' p ?_⟩
      rw [hpp, ← hacc]
      show some (HO.lst (acc.map V.int)) = some (HO.lst ((acc ++ []).map V.int))
      rw [List.append_nil]
end
end Mk
end

section
set_option Elab.async false
set_option linter.all false
set_option maxRecDepth 100000
set_option maxHeartbeats 4000000
namespace Mk
open PySem PySem.Spec PyProof.Rows L2
/-! ### a call by its number -/
theorem bit_some {n : Nat} {b : Bool} (h : Ue02Neutral.bit n = some b) : n = b2n b := by
  unfold Ue02Neutral.bit at h
  by_cases h0 : n = 0
  · rw [if_pos h0] at h
    cases h
    exact h0
  · rw [if_neg h0] at h
    by_cases h1 : n = 1
    · rw [if_pos h1] at h
      cases h
      exact h1
    · rw [if_neg h1] at h
      cases h
theorem call_1 {ns : List Nat} {c : Ue02.Call} (h : Ue02Neutral.callIn (1 :: ns) = some c) : ∃ a b r w la lb v, ns = [a, b, b2n la, b2n lb, b2n v, r, w] ∧ c = .mark a b la lb v r w := by
  match ns, h with
  | [a, b, x, y, v, r, w], h =>
    rw [Ue02Neutral.callIn] at h
    cases e1 : Ue02Neutral.bit x with
    | none => rw [e1] at h; cases h
    | some la =>
      cases e2 : Ue02Neutral.bit y with
      | none => rw [e1, e2] at h; cases h
      | some lb =>
        cases e3 : Ue02Neutral.bit v with
        | none => rw [e1, e2, e3] at h; cases h
        | some vv =>
          rw [e1, e2, e3] at h
          refine ⟨a, b, r, w, la, lb, vv, ?_, (Option.some.inj h).symm⟩
          rw [bit_some e1, bit_some e2, bit_some e3]
  | [], h => cases h
  | [_], h => cases h
  | [_, _], h => cases h
  | [_, _, _], h => cases h
  | [_, _, _, _], h => cases h
  | [_, _, _, _, _], h => cases h
  | [_, _, _, _, _, _], h => cases h
  | _ :: _ :: _ :: _ :: _ :: _ :: _ :: _ :: _, h => cases h
theorem call_2 {ns : List Nat} {c : Ue02.Call} (h : Ue02Neutral.callIn (2 :: ns) = some c) : ∃ n a b, ns = [n, a, b] ∧ c = .set n a b := by
  match ns, h with
  | [n, a, b], h => exact ⟨n, a, b, rfl, (Option.some.inj h).symm⟩
  | [], h => cases h
  | [_], h => cases h
  | [_, _], h => cases h
  | _ :: _ :: _ :: _ :: _, h => cases h
theorem call_3 {ns : List Nat} {c : Ue02.Call} (h : Ue02Neutral.callIn (3 :: ns) = some c) : ∃ n, ns = [n] ∧ c = .drop n := by
  match ns, h with
  | [n], h => exact ⟨n, rfl, (Option.some.inj h).symm⟩
  | [], h => cases h
  | _ :: _ :: _, h => cases h
theorem call_4 {ns : List Nat} {c : Ue02.Call} (h : Ue02Neutral.callIn (4 :: ns) = some c) : ∃ cs, Ue02Neutral.changesIn (ns.length + 1) ns = some cs ∧ c = .change cs := by
  have h : (Ue02Neutral.changesIn (ns.length + 1) ns).map Ue02.Call.change = some c := h
  cases e : Ue02Neutral.changesIn (ns.length + 1) ns with
  | none => rw [e] at h; cases h
  | some cs => rw [e] at h; exact ⟨cs, rfl, (Option.some.inj h).symm⟩
theorem call_5 {ns : List Nat} {c : Ue02.Call} (h : Ue02Neutral.callIn (5 :: ns) = some c) : ns = [] ∧ c = .undo := by
  match ns, h with
  | [], h => exact ⟨rfl, (Option.some.inj h).symm⟩
  | _ :: _, h => cases h
theorem call_6 {ns : List Nat} {c : Ue02.Call} (h : Ue02Neutral.callIn (6 :: ns) = some c) : ns = [] ∧ c = .redo := by
  match ns, h with
  | [], h => exact ⟨rfl, (Option.some.inj h).symm⟩
  | _ :: _, h => cases h
theorem call_7 {ns : List Nat} {c : Ue02.Call} (h : Ue02Neutral.callIn (7 :: ns) = some c) : ns = [] ∧ c = .shows := by
  match ns, h with
  | [], h => exact ⟨rfl, (Option.some.inj h).symm⟩
  | _ :: _, h => cases h
theorem call_8 {ns : List Nat} {c : Ue02.Call} (h : Ue02Neutral.callIn (8 :: ns) = some c) : ∃ n, ns = [n] ∧ c = .stretch n := by
  match ns, h with
  | [n], h => exact ⟨n, rfl, (Option.some.inj h).symm⟩
  | [], h => cases h
  | _ :: _ :: _, h => cases h
theorem call_9 {ns : List Nat} {c : Ue02.Call} (h : Ue02Neutral.callIn (9 :: ns) = some c) : ∃ n, ns = [n] ∧ c = .over n := by
  match ns, h with
  | [n], h => exact ⟨n, rfl, (Option.some.inj h).symm⟩
  | [], h => cases h
  | _ :: _ :: _, h => cases h
theorem call_10 {ns : List Nat} {c : Ue02.Call} (h : Ue02Neutral.callIn (10 :: ns) = some c) : ∃ a b, ns = [a, b] ∧ c = .runs a b := by
  match ns, h with
  | [a, b], h => exact ⟨a, b, rfl, (Option.some.inj h).symm⟩
  | [], h => cases h
  | [_], h => cases h
  | _ :: _ :: _ :: _, h => cases h
theorem call_11 {ns : List Nat} {c : Ue02.Call} (h : Ue02Neutral.callIn (11 :: ns) = some c) : ∃ a b, ns = [a, b] ∧ c = .next a b := by
  match ns, h with
  | [a, b], h => exact ⟨a, b, rfl, (Option.some.inj h).symm⟩
  | [], h => cases h
  | [_], h => cases h
  | _ :: _ :: _ :: _, h => cases h
theorem call_12 {ns : List Nat} {c : Ue02.Call} (h : Ue02Neutral.callIn (12 :: ns) = some c) : ns = [] ∧ c = .all := by
  match ns, h with
  | [], h => exact ⟨rfl, (Option.some.inj h).symm⟩
  | _ :: _, h => cases h
section
variable {P : Program} {w : World} {K : PySem.W.Frag} {mg : Str → Option Value} {base : Heap} {cChange cStretch cStep cSession : Addr}
def spSeen (cChange cStretch cStep cSession : Addr) : Sp := fun vs H Q _ => ∃ (X M : List Addr) (a l : Addr) (g : Ue02.House) (q : Nat) (ns : List Nat) (c : Ue02.Call), vs = [.ref a, .int (q : Int), .ref l] ∧ SessAt cChange cStretch cStep cSession X M H a g ∧ PInv g ∧ QInv g ∧ H l = some (.lst (natV ns)) ∧
  6 < q ∧ q ≤ 12 ∧ Ue02Neutral.callIn (q :: ns) = some c ∧ Says H (Ue02.step g c).2 Q
theorem ok_seen_of {f : Addr} {fd : FuncData} (F : Fun K "seen_of" "seen_of" s_seen_of f fd) (T : Txt K mg cChange cStretch cStep cSession)
    (c_bytes_shown : Calls P w K mg base "bytes_shown" 1 ["session"] (spShown cChange cStretch cStep cSession)) (c_ends_of : Calls P w K mg base "ends_of" 2 ["session", "number"] (spEnds cChange cStretch cStep cSession))
    (c_covering : Calls P w K mg base "covering" 3 ["session", "place"] (spCovering cChange cStretch cStep cSession)) (c_runs_between : Calls P w K mg base "runs_between" 4 ["session", "begin", "end"] (spRuns cChange cStretch cStep cSession))
    (c_first_behind : Calls P w K mg base "first_behind" 3 ["session", "place", "value"] (spFirst cChange cStretch cStep cSession)) (c_every_one : Calls P w K mg base "every_one" 2 ["session"] (spEvery cChange cStretch cStep cSession)) :
    FnOk P w K mg base CX0 5 f fd ["session", "kind", "numbers"] (spSeen cChange cStretch cStep cSession) := by
  refine F.ok sc_seen_of (fun vs H Q E h => ?_) (fun cdv A outer s H vs Q E hr h => ?_)
  · obtain ⟨X, M, a, l, g, q, ns, c, rfl, _⟩ := h
    rfl
  · obtain ⟨X, M, a, l, g, q, ns, c, rfl, hS, I, J, hl, hq6, hq, hc, k⟩ := h
    have nd := sc_seen_of.nd
    refine ⟨_, (pss_cons (ps_if (pt_cmpR op_eq (pv 1) (pe_gi rfl T.g_SHOWS) (nomark _))
        (pss_one (ps_ret (pe_cl c_bytes_shown (hr.mono (by decide)) rfl (pa_cons (pv 0) pa_nil))))
        pss_nil)
      (pss_cons (ps_if (pt_cmpR op_eq (pv 1) (pe_gi rfl T.g_STRETCH) (nomark _))
        (pss_one (ps_ret (pe_cl c_ends_of (hr.mono (by decide)) rfl (pa_cons (pv 0) (pa_cons (pe_ix (ix_listK (K' := K) rfl) (pv 2) pe_int (fun _ _ => rfl)) pa_nil)))))
        pss_nil)
      (pss_cons (ps_if (pt_cmpR op_eq (pv 1) (pe_gi rfl T.g_OVER) (nomark _))
        (pss_one (ps_ret (pe_cl c_covering (hr.mono (by decide)) rfl (pa_cons (pv 0) (pa_cons (pe_ix (ix_listK (K' := K) rfl) (pv 2) pe_int (fun _ _ => rfl)) pa_nil)))))
        pss_nil)
      (pss_cons (ps_if (pt_cmpR op_eq (pv 1) (pe_gi rfl T.g_RUNS) (nomark _))
        (pss_one (ps_ret (pe_cl c_runs_between (hr.mono (by decide)) rfl (pa_cons (pv 0) (pa_cons (pe_ix (ix_listK (K' := K) rfl) (pv 2) pe_int (fun _ _ => rfl)) (pa_cons (pe_ix (ix_listK (K' := K) rfl) (pv 2) pe_int (fun _ _ => rfl)) pa_nil))))))
        pss_nil)
      (pss_cons (ps_if (pt_cmpR op_eq (pv 1) (pe_gi rfl T.g_NEXT) (nomark _))
        (pss_one (ps_ret (pe_cl c_first_behind (hr.mono (by decide)) rfl (pa_cons (pv 0) (pa_cons (pe_ix (ix_listK (K' := K) rfl) (pv 2) pe_int (fun _ _ => rfl)) (pa_cons (pe_ix (ix_listK (K' := K) rfl) (pv 2) pe_int (fun _ _ => rfl)) pa_nil))))))
        pss_nil)
      (pss_one (ps_ret (pe_cl c_every_one (hr.mono (by decide)) rfl (pa_cons (pv 0) pa_nil))))))))), ?_⟩
    refine s_itd (p := (q : Int) = 7) (a_test (v_eqI (val_var rfl) val_c)) (fun e => ?_) (fun e7 => ?_)
    · have e : q = 7 := by omega
      subst e
      obtain ⟨rfl, rfl⟩ := call_7 hc
      exact call_of (va_cons (val_var rfl) va_nil) ⟨X, M, a, g, rfl, hS, I, k⟩
    refine s_itd (p := (q : Int) = 8) (a_test (v_eqI (val_var rfl) val_c)) (fun e => ?_) (fun e8 => ?_)
    · have e : q = 8 := by omega
      subst e
      obtain ⟨n, rfl, rfl⟩ := call_8 hc
      exact call_of (va_cons (val_var rfl) (va_cons (v_ixL (n := 0) (val_var rfl) val_c (SqL.of hl) rfl rfl) va_nil)) ⟨X, M, a, g, n, rfl, hS, I, k⟩
    refine s_itd (p := (q : Int) = 9) (a_test (v_eqI (val_var rfl) val_c)) (fun e => ?_) (fun e9 => ?_)
    · have e : q = 9 := by omega
      subst e
      obtain ⟨n, rfl, rfl⟩ := call_9 hc
      exact call_of (va_cons (val_var rfl) (va_cons (v_ixL (n := 0) (val_var rfl) val_c (SqL.of hl) rfl rfl) va_nil)) ⟨X, M, a, g, n, rfl, hS, I, J, k⟩
    refine s_itd (p := (q : Int) = 10) (a_test (v_eqI (val_var rfl) val_c)) (fun e => ?_) (fun e10 => ?_)
    · have e : q = 10 := by omega
      subst e
      obtain ⟨n, m, rfl, rfl⟩ := call_10 hc
      exact call_of (va_cons (val_var rfl) (va_cons (v_ixL (n := 0) (val_var rfl) val_c (SqL.of hl) rfl rfl) (va_cons (v_ixL (n := 1) (val_var rfl) val_c (SqL.of hl) rfl rfl) va_nil))) ⟨X, M, a, g, n, m, rfl, hS, I, J, k⟩
    refine s_itd (p := (q : Int) = 11) (a_test (v_eqI (val_var rfl) val_c)) (fun e => ?_) (fun e11 => ?_)
    · have e : q = 11 := by omega
      subst e
      obtain ⟨n, m, rfl, rfl⟩ := call_11 hc
      exact call_of (va_cons (val_var rfl) (va_cons (v_ixL (n := 0) (val_var rfl) val_c (SqL.of hl) rfl rfl) (va_cons (v_ixL (n := 1) (val_var rfl) val_c (SqL.of hl) rfl rfl) va_nil))) ⟨X, M, a, g, n, m, rfl, hS, I, J, k⟩
    · have e : q = 12 := by omega
      subst e
      obtain ⟨rfl, rfl⟩ := call_12 hc
      exact call_of (va_cons (val_var rfl) va_nil) ⟨X, M, a, g, rfl, hS, I, J, k⟩
/-- a call that only looks leaves the state -/
theorem looks {g : Ue02.House} {q : Nat} {ns : List Nat} {c : Ue02.Call} (h6 : 6 < q) (h12 : q ≤ 12) (h : Ue02Neutral.callIn (q :: ns) = some c) : (Ue02.step g c).1 = g := by
  have e : q = 7 ∨ q = 8 ∨ q = 9 ∨ q = 10 ∨ q = 11 ∨ q = 12 := by omega
  rcases e with rfl | rfl | rfl | rfl | rfl | rfl
  · obtain ⟨rfl, rfl⟩ := call_7 h; rfl
  · obtain ⟨_, rfl, rfl⟩ := call_8 h; rfl
  · obtain ⟨_, rfl, rfl⟩ := call_9 h; rfl
  · obtain ⟨_, _, rfl, rfl⟩ := call_10 h; rfl
  · obtain ⟨_, _, rfl, rfl⟩ := call_11 h; rfl
  · obtain ⟨rfl, rfl⟩ := call_12 h; rfl
theorem ok_answer_of {f : Addr} {fd : FuncData} (F : Fun K "answer_of" "answer_of" s_answer_of f fd) (T : Txt K mg cChange cStretch cStep cSession)
    (meth_Session_begins : Meths P w K mg base cSession "begins" 2 ["self", "content"] (spBegins cChange cStretch cStep cSession)) (meth_Session_mark : Meths P w K mg base cSession "mark" 3 ["self", "told"] (spMark cChange cStretch cStep cSession))
    (meth_Session_set_to : Meths P w K mg base cSession "set_to" 3 ["self", "number", "begin", "end"] (spSet cChange cStretch cStep cSession)) (meth_Session_drop : Meths P w K mg base cSession "drop" 1 ["self", "number"] (spDrop cChange cStretch cStep cSession))
    (meth_Session_change : Meths P w K mg base cSession "change" 5 ["self", "numbers"] (spChange cChange cStretch cStep cSession)) (meth_Session_undo : Meths P w K mg base cSession "undo" 5 ["self"] (spUndo cChange cStretch cStep cSession))
    (meth_Session_redo : Meths P w K mg base cSession "redo" 5 ["self"] (spRedo cChange cStretch cStep cSession)) (c_seen_of : Calls P w K mg base "seen_of" 5 ["session", "kind", "numbers"] (spSeen cChange cStretch cStep cSession)) : FnOk P w K mg base CX0 6 f fd ["session", "kind", "numbers"] (spAnswer cChange cStretch cStep cSession most) := by
  refine F.ok sc_answer_of (fun vs H Q E h => ?_) (fun cdv A outer s H vs Q E hr h => ?_)
  · obtain ⟨X, M, a, l, g, q, ns, c, rfl, _⟩ := h
    rfl
  · obtain ⟨X, M, a, l, g, q, ns, c, rfl, hS, I, J, hl, hlM, hq, hc, hz, hst, k⟩ := h
    have nd := sc_answer_of.nd
    obtain ⟨dx, t0, d, sl, tl, as, us, rs, S⟩ := id hS
    refine ⟨_, (pss_cons (ps_if (pt_cmpR op_eq (pv 1) (pe_gi rfl T.g_BEGINS) (nomark _))
        (pss_one (ps_ret (pe_mt meth_Session_begins (pv 0) (hr.mono (by decide)) (pa_cons (pv 2) pa_nil))))
        pss_nil)
      (pss_cons (ps_if (pt_cmpR op_eq (pv 1) (pe_gi rfl T.g_MARK) (nomark _))
        (pss_one (ps_ret (pe_mt meth_Session_mark (pv 0) (hr.mono (by decide)) (pa_cons (pv 2) pa_nil))))
        pss_nil)
      (pss_cons (ps_if (pt_cmpR op_eq (pv 1) (pe_gi rfl T.g_SET) (nomark _))
        (pss_one (ps_ret (pe_mt meth_Session_set_to (pv 0) (hr.mono (by decide)) (pa_cons (pe_ix (ix_listK (K' := K) rfl) (pv 2) pe_int (fun _ _ => rfl)) (pa_cons (pe_ix (ix_listK (K' := K) rfl) (pv 2) pe_int (fun _ _ => rfl)) (pa_cons (pe_ix (ix_listK (K' := K) rfl) (pv 2) pe_int (fun _ _ => rfl)) pa_nil))))))
        pss_nil)
      (pss_cons (ps_if (pt_cmpR op_eq (pv 1) (pe_gi rfl T.g_DROP) (nomark _))
        (pss_one (ps_ret (pe_mt meth_Session_drop (pv 0) (hr.mono (by decide)) (pa_cons (pe_ix (ix_listK (K' := K) rfl) (pv 2) pe_int (fun _ _ => rfl)) pa_nil))))
        pss_nil)
      (pss_cons (ps_if (pt_cmpR op_eq (pv 1) (pe_gi rfl T.g_CHANGE) (nomark _))
        (pss_one (ps_ret (pe_mt meth_Session_change (pv 0) (hr.mono (by decide)) (pa_cons (pv 2) pa_nil))))
        pss_nil)
      (pss_cons (ps_if (pt_cmpR op_eq (pv 1) (pe_gi rfl T.g_UNDO) (nomark _))
        (pss_one (ps_ret (pe_mt0 meth_Session_undo (pv 0) (hr.mono (by decide)))))
        pss_nil)
      (pss_cons (ps_if (pt_cmpR op_eq (pv 1) (pe_gi rfl T.g_REDO) (nomark _))
        (pss_one (ps_ret (pe_mt0 meth_Session_redo (pv 0) (hr.mono (by decide)))))
        pss_nil)
      (pss_one (ps_ret (pe_cl c_seen_of (hr.mono (by decide)) rfl (pa_cons (pv 0) (pa_cons (pv 1) (pa_cons (pv 2) pa_nil))))))))))))), ?_⟩
    refine s_itd (p := (q : Int) = 0) (a_test (v_eqI (val_var rfl) val_c)) (fun e => ?_) (fun e0 => ?_)
    · have e : q = 0 := by omega
      subst e
      have e : Ue02.Call.begins ns = c := Option.some.inj hc
      subst e
      exact meth_of (val_var rfl) S.obj (ob_no (by decide +kernel)) (va_cons (val_var rfl) va_nil) ⟨X, M, a, l, g, ns, rfl, hS, hl, hlM, hz, k⟩
    refine s_itd (p := (q : Int) = 1) (a_test (v_eqI (val_var rfl) val_c)) (fun e => ?_) (fun e1 => ?_)
    · have e : q = 1 := by omega
      subst e
      obtain ⟨x, y, r, w', la, lb, v, rfl, rfl⟩ := call_1 hc
      exact meth_of (val_var rfl) S.obj (ob_no (by decide +kernel)) (va_cons (val_var rfl) va_nil) ⟨X, M, a, l, g, x, y, r, w', la, lb, v, rfl, hS, I, hl, k⟩
    refine s_itd (p := (q : Int) = 2) (a_test (v_eqI (val_var rfl) val_c)) (fun e => ?_) (fun e2 => ?_)
    · have e : q = 2 := by omega
      subst e
      obtain ⟨n, x, y, rfl, rfl⟩ := call_2 hc
      exact meth_of (val_var rfl) S.obj (ob_no (by decide +kernel)) (va_cons (v_ixL (n := 0) (val_var rfl) val_c (SqL.of hl) rfl rfl) (va_cons (v_ixL (n := 1) (val_var rfl) val_c (SqL.of hl) rfl rfl) (va_cons (v_ixL (n := 2) (val_var rfl) val_c (SqL.of hl) rfl rfl) va_nil))) ⟨X, M, a, g, n, x, y, rfl, hS, I, k⟩
    refine s_itd (p := (q : Int) = 3) (a_test (v_eqI (val_var rfl) val_c)) (fun e => ?_) (fun e3 => ?_)
    · have e : q = 3 := by omega
      subst e
      obtain ⟨n, rfl, rfl⟩ := call_3 hc
      exact meth_of (val_var rfl) S.obj (ob_no (by decide +kernel)) (va_cons (v_ixL (n := 0) (val_var rfl) val_c (SqL.of hl) rfl rfl) va_nil) ⟨X, M, a, g, n, rfl, hS, I, k⟩
    refine s_itd (p := (q : Int) = 4) (a_test (v_eqI (val_var rfl) val_c)) (fun e => ?_) (fun e4 => ?_)
    · have e : q = 4 := by omega
      subst e
      obtain ⟨cs, h1, rfl⟩ := call_4 hc
      exact meth_of (val_var rfl) S.obj (ob_no (by decide +kernel)) (va_cons (val_var rfl) va_nil) ⟨X, M, a, l, g, ns, _, cs, rfl, hS, I, hl, h1, hz, by omega, k⟩
    refine s_itd (p := (q : Int) = 5) (a_test (v_eqI (val_var rfl) val_c)) (fun e => ?_) (fun e5 => ?_)
    · have e : q = 5 := by omega
      subst e
      obtain ⟨rfl, rfl⟩ := call_5 hc
      exact meth_of (val_var rfl) S.obj (ob_no (by decide +kernel)) va_nil ⟨X, M, a, g, rfl, hS, I, by omega, k⟩
    refine s_itd (p := (q : Int) = 6) (a_test (v_eqI (val_var rfl) val_c)) (fun e => ?_) (fun e6 => ?_)
    · have e : q = 6 := by omega
      subst e
      obtain ⟨rfl, rfl⟩ := call_6 hc
      exact meth_of (val_var rfl) S.obj (ob_no (by decide +kernel)) va_nil ⟨X, M, a, g, rfl, hS, I, by omega, k⟩
    · have hq : q ≤ 12 := hq
      have h6 : 6 < q := by omega
      rw [looks h6 hq hc] at k
      exact call_of (va_cons (val_var rfl) (va_cons (val_var rfl) (va_cons (val_var rfl) va_nil))) ⟨X, M, a, l, g, q, ns, c, rfl, hS, I, J, hl, h6, hq, hc, Gives.says hS k⟩
end
end Mk
end

section
set_option Elab.async false
set_option linter.all false
set_option maxRecDepth 100000
set_option maxHeartbeats 4000000
namespace Mk
open PySem PySem.Spec PyProof.Rows L2
/-! ### what the top has written, every address a letter -/
theorem all_mk {P : Program} {w : World} {K : PySem.W.Frag} {h : Heap} {mg : Str → Option Value} {fa cChange cStretch cStep cSession f_Change_init f_read_changes f_lie_apart_within f_size_behind f_content_behind f_changes_back f_end_behind_one f_end_behind f_Stretch_init f_Stretch_go_with f_Stretch_state f_Stretch_go_back f_Step_init f_Session_init f_Session_start_anew f_Session_begins f_Session_mark f_Session_lies_within f_Session_has_room f_Session_refusal_of f_Session_set_to f_Session_drop f_Session_change f_Session_do_step f_Session_undo f_Session_redo f_are_bytes f_is_gone f_standing f_height f_bytes_shown f_ends_of f_covering f_tops_of f_runs_between f_first_behind f_every_one f_answers f_has_row f_answer_of f_seen_of : Addr} (X : K.In h) (G : h.Ns mainGlobals mg) (hfa : mg "answers" = some (.ref fa))
    {od_Change_init an_Change_init od_read_changes an_read_changes od_lie_apart_within an_lie_apart_within od_size_behind an_size_behind od_content_behind an_content_behind od_changes_back an_changes_back od_end_behind_one an_end_behind_one od_end_behind an_end_behind od_Stretch_init an_Stretch_init od_Stretch_go_with an_Stretch_go_with od_Stretch_state an_Stretch_state od_Stretch_go_back an_Stretch_go_back od_Step_init an_Step_init od_Session_init an_Session_init od_Session_start_anew an_Session_start_anew od_Session_begins an_Session_begins od_Session_mark an_Session_mark od_Session_lies_within an_Session_lies_within od_Session_has_room an_Session_has_room od_Session_refusal_of an_Session_refusal_of od_Session_set_to an_Session_set_to od_Session_drop an_Session_drop od_Session_change an_Session_change od_Session_do_step an_Session_do_step od_Session_undo an_Session_undo od_Session_redo an_Session_redo od_are_bytes an_are_bytes od_is_gone an_is_gone od_standing an_standing od_height an_height od_bytes_shown an_bytes_shown od_ends_of an_ends_of od_covering an_covering od_tops_of an_tops_of od_runs_between an_runs_between od_first_behind an_first_behind od_every_one an_every_one od_answers an_answers od_has_row an_has_row od_answer_of an_answer_of od_seen_of an_seen_of : Option Addr} {os_Change_init os_read_changes os_lie_apart_within os_size_behind os_content_behind os_changes_back os_end_behind_one os_end_behind os_Stretch_init os_Stretch_go_with os_Stretch_state os_Stretch_go_back os_Step_init os_Session_init os_Session_start_anew os_Session_begins os_Session_mark os_Session_lies_within os_Session_has_room os_Session_refusal_of os_Session_set_to os_Session_drop os_Session_change os_Session_do_step os_Session_undo os_Session_redo os_are_bytes os_is_gone os_standing os_height os_bytes_shown os_ends_of os_covering os_tops_of os_runs_between os_first_behind os_every_one os_answers os_has_row os_answer_of os_seen_of : Array (Option Value)} {oc_Change_init kV_Change_init dc_Change_init pm_Change_init cd_Change_init ct_Change_init oc_read_changes kV_read_changes dc_read_changes pm_read_changes cd_read_changes ct_read_changes oc_lie_apart_within kV_lie_apart_within dc_lie_apart_within pm_lie_apart_within cd_lie_apart_within ct_lie_apart_within oc_size_behind kV_size_behind dc_size_behind pm_size_behind cd_size_behind ct_size_behind oc_content_behind kV_content_behind dc_content_behind pm_content_behind cd_content_behind ct_content_behind oc_changes_back kV_changes_back dc_changes_back pm_changes_back cd_changes_back ct_changes_back oc_end_behind_one kV_end_behind_one dc_end_behind_one pm_end_behind_one cd_end_behind_one ct_end_behind_one oc_end_behind kV_end_behind dc_end_behind pm_end_behind cd_end_behind ct_end_behind oc_Stretch_init kV_Stretch_init dc_Stretch_init pm_Stretch_init cd_Stretch_init ct_Stretch_init oc_Stretch_go_with kV_Stretch_go_with dc_Stretch_go_with pm_Stretch_go_with cd_Stretch_go_with ct_Stretch_go_with oc_Stretch_state kV_Stretch_state dc_Stretch_state pm_Stretch_state cd_Stretch_state ct_Stretch_state oc_Stretch_go_back kV_Stretch_go_back dc_Stretch_go_back pm_Stretch_go_back cd_Stretch_go_back ct_Stretch_go_back oc_Step_init kV_Step_init dc_Step_init pm_Step_init cd_Step_init ct_Step_init oc_Session_init kV_Session_init dc_Session_init pm_Session_init cd_Session_init ct_Session_init oc_Session_start_anew kV_Session_start_anew dc_Session_start_anew pm_Session_start_anew cd_Session_start_anew ct_Session_start_anew oc_Session_begins kV_Session_begins dc_Session_begins pm_Session_begins cd_Session_begins ct_Session_begins oc_Session_mark kV_Session_mark dc_Session_mark pm_Session_mark cd_Session_mark ct_Session_mark oc_Session_lies_within kV_Session_lies_within dc_Session_lies_within pm_Session_lies_within cd_Session_lies_within ct_Session_lies_within oc_Session_has_room kV_Session_has_room dc_Session_has_room pm_Session_has_room cd_Session_has_room ct_Session_has_room oc_Session_refusal_of kV_Session_refusal_of dc_Session_refusal_of pm_Session_refusal_of cd_Session_refusal_of ct_Session_refusal_of oc_Session_set_to kV_Session_set_to dc_Session_set_to pm_Session_set_to cd_Session_set_to ct_Session_set_to oc_Session_drop kV_Session_drop dc_Session_drop pm_Session_drop cd_Session_drop ct_Session_drop oc_Session_change kV_Session_change dc_Session_change pm_Session_change cd_Session_change ct_Session_change oc_Session_do_step kV_Session_do_step dc_Session_do_step pm_Session_do_step cd_Session_do_step ct_Session_do_step oc_Session_undo kV_Session_undo dc_Session_undo pm_Session_undo cd_Session_undo ct_Session_undo oc_Session_redo kV_Session_redo dc_Session_redo pm_Session_redo cd_Session_redo ct_Session_redo oc_are_bytes kV_are_bytes dc_are_bytes pm_are_bytes cd_are_bytes ct_are_bytes oc_is_gone kV_is_gone dc_is_gone pm_is_gone cd_is_gone ct_is_gone oc_standing kV_standing dc_standing pm_standing cd_standing ct_standing oc_height kV_height dc_height pm_height cd_height ct_height oc_bytes_shown kV_bytes_shown dc_bytes_shown pm_bytes_shown cd_bytes_shown ct_bytes_shown oc_ends_of kV_ends_of dc_ends_of pm_ends_of cd_ends_of ct_ends_of oc_covering kV_covering dc_covering pm_covering cd_covering ct_covering oc_tops_of kV_tops_of dc_tops_of pm_tops_of cd_tops_of ct_tops_of oc_runs_between kV_runs_between dc_runs_between pm_runs_between cd_runs_between ct_runs_between oc_first_behind kV_first_behind dc_first_behind pm_first_behind cd_first_behind ct_first_behind oc_every_one kV_every_one dc_every_one pm_every_one cd_every_one ct_every_one oc_answers kV_answers dc_answers pm_answers cd_answers ct_answers oc_has_row kV_has_row dc_has_row pm_has_row cd_has_row ct_has_row oc_answer_of kV_answer_of dc_answer_of pm_answer_of cd_answer_of ct_answer_of oc_seen_of kV_seen_of dc_seen_of pm_seen_of cd_seen_of ct_seen_of : Value}
    (aC_Change : PySem.W.nsIn K mainGlobals "Change" = some (some (.ref cChange)))
    (pg_Change : PySem.W.plainGet K cChange Str.empty = true)
    (hd_Change : PySem.W.hasDictIn K cChange = true)
    (po_Change : PySem.W.plainOver K cChange = true)
    (sa_Change : PySem.W.findIn K (.ref cChange) "__setattr__" = some (some (.builtin "object.__setattr__")))
    (mk_Change : PySem.W.makesIn K cChange = true)
    (kc_Change : PySem.W.keepIn K (.ref cChange) = true)
    (n_Change_place : PySem.W.findIn K (.ref cChange) "place" = some none)
    (n_Change_out : PySem.W.findIn K (.ref cChange) "out" = some none)
    (n_Change_coming : PySem.W.findIn K (.ref cChange) "coming" = some none)
    (aC_Stretch : PySem.W.nsIn K mainGlobals "Stretch" = some (some (.ref cStretch)))
    (pg_Stretch : PySem.W.plainGet K cStretch Str.empty = true)
    (hd_Stretch : PySem.W.hasDictIn K cStretch = true)
    (po_Stretch : PySem.W.plainOver K cStretch = true)
    (sa_Stretch : PySem.W.findIn K (.ref cStretch) "__setattr__" = some (some (.builtin "object.__setattr__")))
    (mk_Stretch : PySem.W.makesIn K cStretch = true)
    (kc_Stretch : PySem.W.keepIn K (.ref cStretch) = true)
    (n_Stretch_number : PySem.W.findIn K (.ref cStretch) "number" = some none)
    (n_Stretch_begin : PySem.W.findIn K (.ref cStretch) "begin" = some none)
    (n_Stretch_end : PySem.W.findIn K (.ref cStretch) "end" = some none)
    (n_Stretch_lean_begin : PySem.W.findIn K (.ref cStretch) "lean_begin" = some none)
    (n_Stretch_lean_end : PySem.W.findIn K (.ref cStretch) "lean_end" = some none)
    (n_Stretch_vanishes : PySem.W.findIn K (.ref cStretch) "vanishes" = some none)
    (n_Stretch_rank : PySem.W.findIn K (.ref cStretch) "rank" = some none)
    (n_Stretch_value : PySem.W.findIn K (.ref cStretch) "value" = some none)
    (n_Stretch_vanished : PySem.W.findIn K (.ref cStretch) "vanished" = some none)
    (n_Stretch_turn : PySem.W.findIn K (.ref cStretch) "turn" = some none)
    (aC_Step : PySem.W.nsIn K mainGlobals "Step" = some (some (.ref cStep)))
    (pg_Step : PySem.W.plainGet K cStep Str.empty = true)
    (hd_Step : PySem.W.hasDictIn K cStep = true)
    (po_Step : PySem.W.plainOver K cStep = true)
    (sa_Step : PySem.W.findIn K (.ref cStep) "__setattr__" = some (some (.builtin "object.__setattr__")))
    (mk_Step : PySem.W.makesIn K cStep = true)
    (kc_Step : PySem.W.keepIn K (.ref cStep) = true)
    (n_Step_changes : PySem.W.findIn K (.ref cStep) "changes" = some none)
    (n_Step_back : PySem.W.findIn K (.ref cStep) "back" = some none)
    (n_Step_states : PySem.W.findIn K (.ref cStep) "states" = some none)
    (aC_Session : PySem.W.nsIn K mainGlobals "Session" = some (some (.ref cSession)))
    (pg_Session : PySem.W.plainGet K cSession Str.empty = true)
    (hd_Session : PySem.W.hasDictIn K cSession = true)
    (po_Session : PySem.W.plainOver K cSession = true)
    (sa_Session : PySem.W.findIn K (.ref cSession) "__setattr__" = some (some (.builtin "object.__setattr__")))
    (mk_Session : PySem.W.makesIn K cSession = true)
    (kc_Session : PySem.W.keepIn K (.ref cSession) = true)
    (n_Session_content : PySem.W.findIn K (.ref cSession) "content" = some none)
    (n_Session_stretches : PySem.W.findIn K (.ref cSession) "stretches" = some none)
    (n_Session_made : PySem.W.findIn K (.ref cSession) "made" = some none)
    (n_Session_turns : PySem.W.findIn K (.ref cSession) "turns" = some none)
    (n_Session_steps : PySem.W.findIn K (.ref cSession) "steps" = some none)
    (n_Session_taken_back : PySem.W.findIn K (.ref cSession) "taken_back" = some none)
    {t_MOST_BYTES : _} (g_MOST_BYTES : PySem.W.nsIn K mainGlobals "MOST_BYTES" = some (some (.int (600) t_MOST_BYTES)))
    {t_MOST_STRETCHES : _} (g_MOST_STRETCHES : PySem.W.nsIn K mainGlobals "MOST_STRETCHES" = some (some (.int (40) t_MOST_STRETCHES)))
    {t_HIGHEST_BYTE : _} (g_HIGHEST_BYTE : PySem.W.nsIn K mainGlobals "HIGHEST_BYTE" = some (some (.int (255) t_HIGHEST_BYTE)))
    {t_HIGHEST_RANK : _} (g_HIGHEST_RANK : PySem.W.nsIn K mainGlobals "HIGHEST_RANK" = some (some (.int (9) t_HIGHEST_RANK)))
    {t_HIGHEST_VALUE : _} (g_HIGHEST_VALUE : PySem.W.nsIn K mainGlobals "HIGHEST_VALUE" = some (some (.int (99) t_HIGHEST_VALUE)))
    {t_NOT_FITTING : _} (g_NOT_FITTING : PySem.W.nsIn K mainGlobals "NOT_FITTING" = some (some (.int (-1) t_NOT_FITTING)))
    {t_NO_SUCH_STRETCH : _} (g_NO_SUCH_STRETCH : PySem.W.nsIn K mainGlobals "NO_SUCH_STRETCH" = some (some (.int (-2) t_NO_SUCH_STRETCH)))
    {t_HAS_VANISHED : _} (g_HAS_VANISHED : PySem.W.nsIn K mainGlobals "HAS_VANISHED" = some (some (.int (-3) t_HAS_VANISHED)))
    {t_TOO_MANY_STRETCHES : _} (g_TOO_MANY_STRETCHES : PySem.W.nsIn K mainGlobals "TOO_MANY_STRETCHES" = some (some (.int (-5) t_TOO_MANY_STRETCHES)))
    {t_TOO_MANY_BYTES : _} (g_TOO_MANY_BYTES : PySem.W.nsIn K mainGlobals "TOO_MANY_BYTES" = some (some (.int (-6) t_TOO_MANY_BYTES)))
    {t_NOTHING_TO_BE : _} (g_NOTHING_TO_BE : PySem.W.nsIn K mainGlobals "NOTHING_TO_BE" = some (some (.int (-7) t_NOTHING_TO_BE)))
    {t_NONE_BEHIND : _} (g_NONE_BEHIND : PySem.W.nsIn K mainGlobals "NONE_BEHIND" = some (some (.int (-6) t_NONE_BEHIND)))
    {t_BEGINS : _} (g_BEGINS : PySem.W.nsIn K mainGlobals "BEGINS" = some (some (.int (0) t_BEGINS)))
    {t_MARK : _} (g_MARK : PySem.W.nsIn K mainGlobals "MARK" = some (some (.int (1) t_MARK)))
    {t_SET : _} (g_SET : PySem.W.nsIn K mainGlobals "SET" = some (some (.int (2) t_SET)))
    {t_DROP : _} (g_DROP : PySem.W.nsIn K mainGlobals "DROP" = some (some (.int (3) t_DROP)))
    {t_CHANGE : _} (g_CHANGE : PySem.W.nsIn K mainGlobals "CHANGE" = some (some (.int (4) t_CHANGE)))
    {t_UNDO : _} (g_UNDO : PySem.W.nsIn K mainGlobals "UNDO" = some (some (.int (5) t_UNDO)))
    {t_REDO : _} (g_REDO : PySem.W.nsIn K mainGlobals "REDO" = some (some (.int (6) t_REDO)))
    {t_SHOWS : _} (g_SHOWS : PySem.W.nsIn K mainGlobals "SHOWS" = some (some (.int (7) t_SHOWS)))
    {t_STRETCH : _} (g_STRETCH : PySem.W.nsIn K mainGlobals "STRETCH" = some (some (.int (8) t_STRETCH)))
    {t_OVER : _} (g_OVER : PySem.W.nsIn K mainGlobals "OVER" = some (some (.int (9) t_OVER)))
    {t_RUNS : _} (g_RUNS : PySem.W.nsIn K mainGlobals "RUNS" = some (some (.int (10) t_RUNS)))
    {t_NEXT : _} (g_NEXT : PySem.W.nsIn K mainGlobals "NEXT" = some (some (.int (11) t_NEXT)))
    {a_NUMBERS : Addr} {ot_NUMBERS : Obj} {it_NUMBERS : Array Value} {nt_NUMBERS : Nat} (g_NUMBERS : PySem.W.nsIn K mainGlobals "NUMBERS" = some (some (.ref a_NUMBERS))) (l_NUMBERS : K.lookup a_NUMBERS = some ot_NUMBERS) (y_NUMBERS : ot_NUMBERS.cls = .type "tuple") (z_NUMBERS : ot_NUMBERS.data = .seq it_NUMBERS nt_NUMBERS) (s_NUMBERS : it_NUMBERS.size ≤ sizeLine) (v_NUMBERS : Vals [V.int 0, V.int 7, V.int 3, V.int 1, V.int 0, V.int 0, V.int 0, V.int 0, V.int 1, V.int 1, V.int 2, V.int 2, V.int 0] it_NUMBERS.toList)
    (b_all : PySem.W.nsIn K mainGlobals "all" = some none)
    (b_len : PySem.W.nsIn K mainGlobals "len" = some none)
    (b_list : PySem.W.nsIn K mainGlobals "list" = some none)
    (b_max : PySem.W.nsIn K mainGlobals "max" = some none)
    (b_min : PySem.W.nsIn K mainGlobals "min" = some none)
    (b_range : PySem.W.nsIn K mainGlobals "range" = some none)
    (b_reversed : PySem.W.nsIn K mainGlobals "reversed" = some none)
    (b_sorted : PySem.W.nsIn K mainGlobals "sorted" = some none)
    (b_sum : PySem.W.nsIn K mainGlobals "sum" = some none)
    (a_Change_init : PySem.W.findIn K (.ref cChange) "__init__" = some (some (.ref f_Change_init))) (i_Change_init : PySem.W.isFn K (.ref f_Change_init) = true)
    (l_Change_init : K.lookup f_Change_init = some ⟨oc_Change_init, od_Change_init, .func (PySem.W.fnOf "__init__" "Change.__init__" (defArgs s_Change_init) (defBody s_Change_init) (defScope s_Change_init) .none kV_Change_init dc_Change_init pm_Change_init an_Change_init cd_Change_init ct_Change_init), os_Change_init⟩) (c_Change_init : PySem.W.codeIn K cd_Change_init "Change.__init__" = true) (k_Change_init : PySem.W.keepIn K (.ref f_Change_init) = true)
    (a_read_changes : PySem.W.nsIn K mainGlobals "read_changes" = some (some (.ref f_read_changes)))
    (l_read_changes : K.lookup f_read_changes = some ⟨oc_read_changes, od_read_changes, .func (PySem.W.fnOf "read_changes" "read_changes" (defArgs s_read_changes) (defBody s_read_changes) (defScope s_read_changes) .none kV_read_changes dc_read_changes pm_read_changes an_read_changes cd_read_changes ct_read_changes), os_read_changes⟩) (c_read_changes : PySem.W.codeIn K cd_read_changes "read_changes" = true) (k_read_changes : PySem.W.keepIn K (.ref f_read_changes) = true)
    (a_lie_apart_within : PySem.W.nsIn K mainGlobals "lie_apart_within" = some (some (.ref f_lie_apart_within)))
    (l_lie_apart_within : K.lookup f_lie_apart_within = some ⟨oc_lie_apart_within, od_lie_apart_within, .func (PySem.W.fnOf "lie_apart_within" "lie_apart_within" (defArgs s_lie_apart_within) (defBody s_lie_apart_within) (defScope s_lie_apart_within) .none kV_lie_apart_within dc_lie_apart_within pm_lie_apart_within an_lie_apart_within cd_lie_apart_within ct_lie_apart_within), os_lie_apart_within⟩) (c_lie_apart_within : PySem.W.codeIn K cd_lie_apart_within "lie_apart_within" = true) (k_lie_apart_within : PySem.W.keepIn K (.ref f_lie_apart_within) = true)
    (a_size_behind : PySem.W.nsIn K mainGlobals "size_behind" = some (some (.ref f_size_behind)))
    (l_size_behind : K.lookup f_size_behind = some ⟨oc_size_behind, od_size_behind, .func (PySem.W.fnOf "size_behind" "size_behind" (defArgs s_size_behind) (defBody s_size_behind) (defScope s_size_behind) .none kV_size_behind dc_size_behind pm_size_behind an_size_behind cd_size_behind ct_size_behind), os_size_behind⟩) (c_size_behind : PySem.W.codeIn K cd_size_behind "size_behind" = true) (k_size_behind : PySem.W.keepIn K (.ref f_size_behind) = true)
    (a_content_behind : PySem.W.nsIn K mainGlobals "content_behind" = some (some (.ref f_content_behind)))
    (l_content_behind : K.lookup f_content_behind = some ⟨oc_content_behind, od_content_behind, .func (PySem.W.fnOf "content_behind" "content_behind" (defArgs s_content_behind) (defBody s_content_behind) (defScope s_content_behind) .none kV_content_behind dc_content_behind pm_content_behind an_content_behind cd_content_behind ct_content_behind), os_content_behind⟩) (c_content_behind : PySem.W.codeIn K cd_content_behind "content_behind" = true) (k_content_behind : PySem.W.keepIn K (.ref f_content_behind) = true)
    (a_changes_back : PySem.W.nsIn K mainGlobals "changes_back" = some (some (.ref f_changes_back)))
    (l_changes_back : K.lookup f_changes_back = some ⟨oc_changes_back, od_changes_back, .func (PySem.W.fnOf "changes_back" "changes_back" (defArgs s_changes_back) (defBody s_changes_back) (defScope s_changes_back) .none kV_changes_back dc_changes_back pm_changes_back an_changes_back cd_changes_back ct_changes_back), os_changes_back⟩) (c_changes_back : PySem.W.codeIn K cd_changes_back "changes_back" = true) (k_changes_back : PySem.W.keepIn K (.ref f_changes_back) = true)
    (a_end_behind_one : PySem.W.nsIn K mainGlobals "end_behind_one" = some (some (.ref f_end_behind_one)))
    (l_end_behind_one : K.lookup f_end_behind_one = some ⟨oc_end_behind_one, od_end_behind_one, .func (PySem.W.fnOf "end_behind_one" "end_behind_one" (defArgs s_end_behind_one) (defBody s_end_behind_one) (defScope s_end_behind_one) .none kV_end_behind_one dc_end_behind_one pm_end_behind_one an_end_behind_one cd_end_behind_one ct_end_behind_one), os_end_behind_one⟩) (c_end_behind_one : PySem.W.codeIn K cd_end_behind_one "end_behind_one" = true) (k_end_behind_one : PySem.W.keepIn K (.ref f_end_behind_one) = true)
    (a_end_behind : PySem.W.nsIn K mainGlobals "end_behind" = some (some (.ref f_end_behind)))
    (l_end_behind : K.lookup f_end_behind = some ⟨oc_end_behind, od_end_behind, .func (PySem.W.fnOf "end_behind" "end_behind" (defArgs s_end_behind) (defBody s_end_behind) (defScope s_end_behind) .none kV_end_behind dc_end_behind pm_end_behind an_end_behind cd_end_behind ct_end_behind), os_end_behind⟩) (c_end_behind : PySem.W.codeIn K cd_end_behind "end_behind" = true) (k_end_behind : PySem.W.keepIn K (.ref f_end_behind) = true)
    (a_Stretch_init : PySem.W.findIn K (.ref cStretch) "__init__" = some (some (.ref f_Stretch_init))) (i_Stretch_init : PySem.W.isFn K (.ref f_Stretch_init) = true)
    (l_Stretch_init : K.lookup f_Stretch_init = some ⟨oc_Stretch_init, od_Stretch_init, .func (PySem.W.fnOf "__init__" "Stretch.__init__" (defArgs s_Stretch_init) (defBody s_Stretch_init) (defScope s_Stretch_init) .none kV_Stretch_init dc_Stretch_init pm_Stretch_init an_Stretch_init cd_Stretch_init ct_Stretch_init), os_Stretch_init⟩) (c_Stretch_init : PySem.W.codeIn K cd_Stretch_init "Stretch.__init__" = true) (k_Stretch_init : PySem.W.keepIn K (.ref f_Stretch_init) = true)
    (a_Stretch_go_with : PySem.W.findIn K (.ref cStretch) "go_with" = some (some (.ref f_Stretch_go_with))) (i_Stretch_go_with : PySem.W.isFn K (.ref f_Stretch_go_with) = true)
    (l_Stretch_go_with : K.lookup f_Stretch_go_with = some ⟨oc_Stretch_go_with, od_Stretch_go_with, .func (PySem.W.fnOf "go_with" "Stretch.go_with" (defArgs s_Stretch_go_with) (defBody s_Stretch_go_with) (defScope s_Stretch_go_with) .none kV_Stretch_go_with dc_Stretch_go_with pm_Stretch_go_with an_Stretch_go_with cd_Stretch_go_with ct_Stretch_go_with), os_Stretch_go_with⟩) (c_Stretch_go_with : PySem.W.codeIn K cd_Stretch_go_with "Stretch.go_with" = true) (k_Stretch_go_with : PySem.W.keepIn K (.ref f_Stretch_go_with) = true)
    (a_Stretch_state : PySem.W.findIn K (.ref cStretch) "state" = some (some (.ref f_Stretch_state))) (i_Stretch_state : PySem.W.isFn K (.ref f_Stretch_state) = true)
    (l_Stretch_state : K.lookup f_Stretch_state = some ⟨oc_Stretch_state, od_Stretch_state, .func (PySem.W.fnOf "state" "Stretch.state" (defArgs s_Stretch_state) (defBody s_Stretch_state) (defScope s_Stretch_state) .none kV_Stretch_state dc_Stretch_state pm_Stretch_state an_Stretch_state cd_Stretch_state ct_Stretch_state), os_Stretch_state⟩) (c_Stretch_state : PySem.W.codeIn K cd_Stretch_state "Stretch.state" = true) (k_Stretch_state : PySem.W.keepIn K (.ref f_Stretch_state) = true)
    (a_Stretch_go_back : PySem.W.findIn K (.ref cStretch) "go_back" = some (some (.ref f_Stretch_go_back))) (i_Stretch_go_back : PySem.W.isFn K (.ref f_Stretch_go_back) = true)
    (l_Stretch_go_back : K.lookup f_Stretch_go_back = some ⟨oc_Stretch_go_back, od_Stretch_go_back, .func (PySem.W.fnOf "go_back" "Stretch.go_back" (defArgs s_Stretch_go_back) (defBody s_Stretch_go_back) (defScope s_Stretch_go_back) .none kV_Stretch_go_back dc_Stretch_go_back pm_Stretch_go_back an_Stretch_go_back cd_Stretch_go_back ct_Stretch_go_back), os_Stretch_go_back⟩) (c_Stretch_go_back : PySem.W.codeIn K cd_Stretch_go_back "Stretch.go_back" = true) (k_Stretch_go_back : PySem.W.keepIn K (.ref f_Stretch_go_back) = true)
    (a_Step_init : PySem.W.findIn K (.ref cStep) "__init__" = some (some (.ref f_Step_init))) (i_Step_init : PySem.W.isFn K (.ref f_Step_init) = true)
    (l_Step_init : K.lookup f_Step_init = some ⟨oc_Step_init, od_Step_init, .func (PySem.W.fnOf "__init__" "Step.__init__" (defArgs s_Step_init) (defBody s_Step_init) (defScope s_Step_init) .none kV_Step_init dc_Step_init pm_Step_init an_Step_init cd_Step_init ct_Step_init), os_Step_init⟩) (c_Step_init : PySem.W.codeIn K cd_Step_init "Step.__init__" = true) (k_Step_init : PySem.W.keepIn K (.ref f_Step_init) = true)
    (a_Session_init : PySem.W.findIn K (.ref cSession) "__init__" = some (some (.ref f_Session_init))) (i_Session_init : PySem.W.isFn K (.ref f_Session_init) = true)
    (l_Session_init : K.lookup f_Session_init = some ⟨oc_Session_init, od_Session_init, .func (PySem.W.fnOf "__init__" "Session.__init__" (defArgs s_Session_init) (defBody s_Session_init) (defScope s_Session_init) .none kV_Session_init dc_Session_init pm_Session_init an_Session_init cd_Session_init ct_Session_init), os_Session_init⟩) (c_Session_init : PySem.W.codeIn K cd_Session_init "Session.__init__" = true) (k_Session_init : PySem.W.keepIn K (.ref f_Session_init) = true)
    (a_Session_start_anew : PySem.W.findIn K (.ref cSession) "start_anew" = some (some (.ref f_Session_start_anew))) (i_Session_start_anew : PySem.W.isFn K (.ref f_Session_start_anew) = true)
    (l_Session_start_anew : K.lookup f_Session_start_anew = some ⟨oc_Session_start_anew, od_Session_start_anew, .func (PySem.W.fnOf "start_anew" "Session.start_anew" (defArgs s_Session_start_anew) (defBody s_Session_start_anew) (defScope s_Session_start_anew) .none kV_Session_start_anew dc_Session_start_anew pm_Session_start_anew an_Session_start_anew cd_Session_start_anew ct_Session_start_anew), os_Session_start_anew⟩) (c_Session_start_anew : PySem.W.codeIn K cd_Session_start_anew "Session.start_anew" = true) (k_Session_start_anew : PySem.W.keepIn K (.ref f_Session_start_anew) = true)
    (a_Session_begins : PySem.W.findIn K (.ref cSession) "begins" = some (some (.ref f_Session_begins))) (i_Session_begins : PySem.W.isFn K (.ref f_Session_begins) = true)
    (l_Session_begins : K.lookup f_Session_begins = some ⟨oc_Session_begins, od_Session_begins, .func (PySem.W.fnOf "begins" "Session.begins" (defArgs s_Session_begins) (defBody s_Session_begins) (defScope s_Session_begins) .none kV_Session_begins dc_Session_begins pm_Session_begins an_Session_begins cd_Session_begins ct_Session_begins), os_Session_begins⟩) (c_Session_begins : PySem.W.codeIn K cd_Session_begins "Session.begins" = true) (k_Session_begins : PySem.W.keepIn K (.ref f_Session_begins) = true)
    (a_Session_mark : PySem.W.findIn K (.ref cSession) "mark" = some (some (.ref f_Session_mark))) (i_Session_mark : PySem.W.isFn K (.ref f_Session_mark) = true)
    (l_Session_mark : K.lookup f_Session_mark = some ⟨oc_Session_mark, od_Session_mark, .func (PySem.W.fnOf "mark" "Session.mark" (defArgs s_Session_mark) (defBody s_Session_mark) (defScope s_Session_mark) .none kV_Session_mark dc_Session_mark pm_Session_mark an_Session_mark cd_Session_mark ct_Session_mark), os_Session_mark⟩) (c_Session_mark : PySem.W.codeIn K cd_Session_mark "Session.mark" = true) (k_Session_mark : PySem.W.keepIn K (.ref f_Session_mark) = true)
    (a_Session_lies_within : PySem.W.findIn K (.ref cSession) "lies_within" = some (some (.ref f_Session_lies_within))) (i_Session_lies_within : PySem.W.isFn K (.ref f_Session_lies_within) = true)
    (l_Session_lies_within : K.lookup f_Session_lies_within = some ⟨oc_Session_lies_within, od_Session_lies_within, .func (PySem.W.fnOf "lies_within" "Session.lies_within" (defArgs s_Session_lies_within) (defBody s_Session_lies_within) (defScope s_Session_lies_within) .none kV_Session_lies_within dc_Session_lies_within pm_Session_lies_within an_Session_lies_within cd_Session_lies_within ct_Session_lies_within), os_Session_lies_within⟩) (c_Session_lies_within : PySem.W.codeIn K cd_Session_lies_within "Session.lies_within" = true) (k_Session_lies_within : PySem.W.keepIn K (.ref f_Session_lies_within) = true)
    (a_Session_has_room : PySem.W.findIn K (.ref cSession) "has_room" = some (some (.ref f_Session_has_room))) (i_Session_has_room : PySem.W.isFn K (.ref f_Session_has_room) = true)
    (l_Session_has_room : K.lookup f_Session_has_room = some ⟨oc_Session_has_room, od_Session_has_room, .func (PySem.W.fnOf "has_room" "Session.has_room" (defArgs s_Session_has_room) (defBody s_Session_has_room) (defScope s_Session_has_room) .none kV_Session_has_room dc_Session_has_room pm_Session_has_room an_Session_has_room cd_Session_has_room ct_Session_has_room), os_Session_has_room⟩) (c_Session_has_room : PySem.W.codeIn K cd_Session_has_room "Session.has_room" = true) (k_Session_has_room : PySem.W.keepIn K (.ref f_Session_has_room) = true)
    (a_Session_refusal_of : PySem.W.findIn K (.ref cSession) "refusal_of" = some (some (.ref f_Session_refusal_of))) (i_Session_refusal_of : PySem.W.isFn K (.ref f_Session_refusal_of) = true)
    (l_Session_refusal_of : K.lookup f_Session_refusal_of = some ⟨oc_Session_refusal_of, od_Session_refusal_of, .func (PySem.W.fnOf "refusal_of" "Session.refusal_of" (defArgs s_Session_refusal_of) (defBody s_Session_refusal_of) (defScope s_Session_refusal_of) .none kV_Session_refusal_of dc_Session_refusal_of pm_Session_refusal_of an_Session_refusal_of cd_Session_refusal_of ct_Session_refusal_of), os_Session_refusal_of⟩) (c_Session_refusal_of : PySem.W.codeIn K cd_Session_refusal_of "Session.refusal_of" = true) (k_Session_refusal_of : PySem.W.keepIn K (.ref f_Session_refusal_of) = true)
    (a_Session_set_to : PySem.W.findIn K (.ref cSession) "set_to" = some (some (.ref f_Session_set_to))) (i_Session_set_to : PySem.W.isFn K (.ref f_Session_set_to) = true)
    (l_Session_set_to : K.lookup f_Session_set_to = some ⟨oc_Session_set_to, od_Session_set_to, .func (PySem.W.fnOf "set_to" "Session.set_to" (defArgs s_Session_set_to) (defBody s_Session_set_to) (defScope s_Session_set_to) .none kV_Session_set_to dc_Session_set_to pm_Session_set_to an_Session_set_to cd_Session_set_to ct_Session_set_to), os_Session_set_to⟩) (c_Session_set_to : PySem.W.codeIn K cd_Session_set_to "Session.set_to" = true) (k_Session_set_to : PySem.W.keepIn K (.ref f_Session_set_to) = true)
    (a_Session_drop : PySem.W.findIn K (.ref cSession) "drop" = some (some (.ref f_Session_drop))) (i_Session_drop : PySem.W.isFn K (.ref f_Session_drop) = true)
    (l_Session_drop : K.lookup f_Session_drop = some ⟨oc_Session_drop, od_Session_drop, .func (PySem.W.fnOf "drop" "Session.drop" (defArgs s_Session_drop) (defBody s_Session_drop) (defScope s_Session_drop) .none kV_Session_drop dc_Session_drop pm_Session_drop an_Session_drop cd_Session_drop ct_Session_drop), os_Session_drop⟩) (c_Session_drop : PySem.W.codeIn K cd_Session_drop "Session.drop" = true) (k_Session_drop : PySem.W.keepIn K (.ref f_Session_drop) = true)
    (a_Session_change : PySem.W.findIn K (.ref cSession) "change" = some (some (.ref f_Session_change))) (i_Session_change : PySem.W.isFn K (.ref f_Session_change) = true)
    (l_Session_change : K.lookup f_Session_change = some ⟨oc_Session_change, od_Session_change, .func (PySem.W.fnOf "change" "Session.change" (defArgs s_Session_change) (defBody s_Session_change) (defScope s_Session_change) .none kV_Session_change dc_Session_change pm_Session_change an_Session_change cd_Session_change ct_Session_change), os_Session_change⟩) (c_Session_change : PySem.W.codeIn K cd_Session_change "Session.change" = true) (k_Session_change : PySem.W.keepIn K (.ref f_Session_change) = true)
    (a_Session_do_step : PySem.W.findIn K (.ref cSession) "do_step" = some (some (.ref f_Session_do_step))) (i_Session_do_step : PySem.W.isFn K (.ref f_Session_do_step) = true)
    (l_Session_do_step : K.lookup f_Session_do_step = some ⟨oc_Session_do_step, od_Session_do_step, .func (PySem.W.fnOf "do_step" "Session.do_step" (defArgs s_Session_do_step) (defBody s_Session_do_step) (defScope s_Session_do_step) .none kV_Session_do_step dc_Session_do_step pm_Session_do_step an_Session_do_step cd_Session_do_step ct_Session_do_step), os_Session_do_step⟩) (c_Session_do_step : PySem.W.codeIn K cd_Session_do_step "Session.do_step" = true) (k_Session_do_step : PySem.W.keepIn K (.ref f_Session_do_step) = true)
    (a_Session_undo : PySem.W.findIn K (.ref cSession) "undo" = some (some (.ref f_Session_undo))) (i_Session_undo : PySem.W.isFn K (.ref f_Session_undo) = true)
    (l_Session_undo : K.lookup f_Session_undo = some ⟨oc_Session_undo, od_Session_undo, .func (PySem.W.fnOf "undo" "Session.undo" (defArgs s_Session_undo) (defBody s_Session_undo) (defScope s_Session_undo) .none kV_Session_undo dc_Session_undo pm_Session_undo an_Session_undo cd_Session_undo ct_Session_undo), os_Session_undo⟩) (c_Session_undo : PySem.W.codeIn K cd_Session_undo "Session.undo" = true) (k_Session_undo : PySem.W.keepIn K (.ref f_Session_undo) = true)
    (a_Session_redo : PySem.W.findIn K (.ref cSession) "redo" = some (some (.ref f_Session_redo))) (i_Session_redo : PySem.W.isFn K (.ref f_Session_redo) = true)
    (l_Session_redo : K.lookup f_Session_redo = some ⟨oc_Session_redo, od_Session_redo, .func (PySem.W.fnOf "redo" "Session.redo" (defArgs s_Session_redo) (defBody s_Session_redo) (defScope s_Session_redo) .none kV_Session_redo dc_Session_redo pm_Session_redo an_Session_redo cd_Session_redo ct_Session_redo), os_Session_redo⟩) (c_Session_redo : PySem.W.codeIn K cd_Session_redo "Session.redo" = true) (k_Session_redo : PySem.W.keepIn K (.ref f_Session_redo) = true)
    (a_are_bytes : PySem.W.nsIn K mainGlobals "are_bytes" = some (some (.ref f_are_bytes)))
    (l_are_bytes : K.lookup f_are_bytes = some ⟨oc_are_bytes, od_are_bytes, .func (PySem.W.fnOf "are_bytes" "are_bytes" (defArgs s_are_bytes) (defBody s_are_bytes) (defScope s_are_bytes) .none kV_are_bytes dc_are_bytes pm_are_bytes an_are_bytes cd_are_bytes ct_are_bytes), os_are_bytes⟩) (c_are_bytes : PySem.W.codeIn K cd_are_bytes "are_bytes" = true) (k_are_bytes : PySem.W.keepIn K (.ref f_are_bytes) = true)
    (a_is_gone : PySem.W.nsIn K mainGlobals "is_gone" = some (some (.ref f_is_gone)))
    (l_is_gone : K.lookup f_is_gone = some ⟨oc_is_gone, od_is_gone, .func (PySem.W.fnOf "is_gone" "is_gone" (defArgs s_is_gone) (defBody s_is_gone) (defScope s_is_gone) .none kV_is_gone dc_is_gone pm_is_gone an_is_gone cd_is_gone ct_is_gone), os_is_gone⟩) (c_is_gone : PySem.W.codeIn K cd_is_gone "is_gone" = true) (k_is_gone : PySem.W.keepIn K (.ref f_is_gone) = true)
    (a_standing : PySem.W.nsIn K mainGlobals "standing" = some (some (.ref f_standing)))
    (l_standing : K.lookup f_standing = some ⟨oc_standing, od_standing, .func (PySem.W.fnOf "standing" "standing" (defArgs s_standing) (defBody s_standing) (defScope s_standing) .none kV_standing dc_standing pm_standing an_standing cd_standing ct_standing), os_standing⟩) (c_standing : PySem.W.codeIn K cd_standing "standing" = true) (k_standing : PySem.W.keepIn K (.ref f_standing) = true)
    (a_height : PySem.W.nsIn K mainGlobals "height" = some (some (.ref f_height)))
    (l_height : K.lookup f_height = some ⟨oc_height, od_height, .func (PySem.W.fnOf "height" "height" (defArgs s_height) (defBody s_height) (defScope s_height) .none kV_height dc_height pm_height an_height cd_height ct_height), os_height⟩) (c_height : PySem.W.codeIn K cd_height "height" = true) (k_height : PySem.W.keepIn K (.ref f_height) = true)
    (a_bytes_shown : PySem.W.nsIn K mainGlobals "bytes_shown" = some (some (.ref f_bytes_shown)))
    (l_bytes_shown : K.lookup f_bytes_shown = some ⟨oc_bytes_shown, od_bytes_shown, .func (PySem.W.fnOf "bytes_shown" "bytes_shown" (defArgs s_bytes_shown) (defBody s_bytes_shown) (defScope s_bytes_shown) .none kV_bytes_shown dc_bytes_shown pm_bytes_shown an_bytes_shown cd_bytes_shown ct_bytes_shown), os_bytes_shown⟩) (c_bytes_shown : PySem.W.codeIn K cd_bytes_shown "bytes_shown" = true) (k_bytes_shown : PySem.W.keepIn K (.ref f_bytes_shown) = true)
    (a_ends_of : PySem.W.nsIn K mainGlobals "ends_of" = some (some (.ref f_ends_of)))
    (l_ends_of : K.lookup f_ends_of = some ⟨oc_ends_of, od_ends_of, .func (PySem.W.fnOf "ends_of" "ends_of" (defArgs s_ends_of) (defBody s_ends_of) (defScope s_ends_of) .none kV_ends_of dc_ends_of pm_ends_of an_ends_of cd_ends_of ct_ends_of), os_ends_of⟩) (c_ends_of : PySem.W.codeIn K cd_ends_of "ends_of" = true) (k_ends_of : PySem.W.keepIn K (.ref f_ends_of) = true)
    (a_covering : PySem.W.nsIn K mainGlobals "covering" = some (some (.ref f_covering)))
    (l_covering : K.lookup f_covering = some ⟨oc_covering, od_covering, .func (PySem.W.fnOf "covering" "covering" (defArgs s_covering) (defBody s_covering) (defScope s_covering) .none kV_covering dc_covering pm_covering an_covering cd_covering ct_covering), os_covering⟩) (c_covering : PySem.W.codeIn K cd_covering "covering" = true) (k_covering : PySem.W.keepIn K (.ref f_covering) = true)
    (a_tops_of : PySem.W.nsIn K mainGlobals "tops_of" = some (some (.ref f_tops_of)))
    (l_tops_of : K.lookup f_tops_of = some ⟨oc_tops_of, od_tops_of, .func (PySem.W.fnOf "tops_of" "tops_of" (defArgs s_tops_of) (defBody s_tops_of) (defScope s_tops_of) .none kV_tops_of dc_tops_of pm_tops_of an_tops_of cd_tops_of ct_tops_of), os_tops_of⟩) (c_tops_of : PySem.W.codeIn K cd_tops_of "tops_of" = true) (k_tops_of : PySem.W.keepIn K (.ref f_tops_of) = true)
    (a_runs_between : PySem.W.nsIn K mainGlobals "runs_between" = some (some (.ref f_runs_between)))
    (l_runs_between : K.lookup f_runs_between = some ⟨oc_runs_between, od_runs_between, .func (PySem.W.fnOf "runs_between" "runs_between" (defArgs s_runs_between) (defBody s_runs_between) (defScope s_runs_between) .none kV_runs_between dc_runs_between pm_runs_between an_runs_between cd_runs_between ct_runs_between), os_runs_between⟩) (c_runs_between : PySem.W.codeIn K cd_runs_between "runs_between" = true) (k_runs_between : PySem.W.keepIn K (.ref f_runs_between) = true)
    (a_first_behind : PySem.W.nsIn K mainGlobals "first_behind" = some (some (.ref f_first_behind)))
    (l_first_behind : K.lookup f_first_behind = some ⟨oc_first_behind, od_first_behind, .func (PySem.W.fnOf "first_behind" "first_behind" (defArgs s_first_behind) (defBody s_first_behind) (defScope s_first_behind) .none kV_first_behind dc_first_behind pm_first_behind an_first_behind cd_first_behind ct_first_behind), os_first_behind⟩) (c_first_behind : PySem.W.codeIn K cd_first_behind "first_behind" = true) (k_first_behind : PySem.W.keepIn K (.ref f_first_behind) = true)
    (a_every_one : PySem.W.nsIn K mainGlobals "every_one" = some (some (.ref f_every_one)))
    (l_every_one : K.lookup f_every_one = some ⟨oc_every_one, od_every_one, .func (PySem.W.fnOf "every_one" "every_one" (defArgs s_every_one) (defBody s_every_one) (defScope s_every_one) .none kV_every_one dc_every_one pm_every_one an_every_one cd_every_one ct_every_one), os_every_one⟩) (c_every_one : PySem.W.codeIn K cd_every_one "every_one" = true) (k_every_one : PySem.W.keepIn K (.ref f_every_one) = true)
    (a_answers : PySem.W.nsIn K mainGlobals "answers" = some (some (.ref f_answers)))
    (l_answers : K.lookup f_answers = some ⟨oc_answers, od_answers, .func (PySem.W.fnOf "answers" "answers" (defArgs s_answers) (defBody s_answers) (defScope s_answers) .none kV_answers dc_answers pm_answers an_answers cd_answers ct_answers), os_answers⟩) (c_answers : PySem.W.codeIn K cd_answers "answers" = true) (k_answers : PySem.W.keepIn K (.ref f_answers) = true)
    (a_has_row : PySem.W.nsIn K mainGlobals "has_row" = some (some (.ref f_has_row)))
    (l_has_row : K.lookup f_has_row = some ⟨oc_has_row, od_has_row, .func (PySem.W.fnOf "has_row" "has_row" (defArgs s_has_row) (defBody s_has_row) (defScope s_has_row) .none kV_has_row dc_has_row pm_has_row an_has_row cd_has_row ct_has_row), os_has_row⟩) (c_has_row : PySem.W.codeIn K cd_has_row "has_row" = true) (k_has_row : PySem.W.keepIn K (.ref f_has_row) = true)
    (a_answer_of : PySem.W.nsIn K mainGlobals "answer_of" = some (some (.ref f_answer_of)))
    (l_answer_of : K.lookup f_answer_of = some ⟨oc_answer_of, od_answer_of, .func (PySem.W.fnOf "answer_of" "answer_of" (defArgs s_answer_of) (defBody s_answer_of) (defScope s_answer_of) .none kV_answer_of dc_answer_of pm_answer_of an_answer_of cd_answer_of ct_answer_of), os_answer_of⟩) (c_answer_of : PySem.W.codeIn K cd_answer_of "answer_of" = true) (k_answer_of : PySem.W.keepIn K (.ref f_answer_of) = true)
    (a_seen_of : PySem.W.nsIn K mainGlobals "seen_of" = some (some (.ref f_seen_of)))
    (l_seen_of : K.lookup f_seen_of = some ⟨oc_seen_of, od_seen_of, .func (PySem.W.fnOf "seen_of" "seen_of" (defArgs s_seen_of) (defBody s_seen_of) (defScope s_seen_of) .none kV_seen_of dc_seen_of pm_seen_of an_seen_of cd_seen_of ct_seen_of), os_seen_of⟩) (c_seen_of : PySem.W.codeIn K cd_seen_of "seen_of" = true) (k_seen_of : PySem.W.keepIn K (.ref f_seen_of) = true)
    : ∃ fd : FuncData, (∀ (s : Shared) (us : List Value), us.length = (["calls"] : List Str).length → BindsTo s fd ⟨us, []⟩ ((["calls"] : List Str).zip us)) ∧ ∀ base : Heap, K.In base → base.Ns mainGlobals mg → FnOk P w K mg base CX0 7 fa fd ["calls"] (spAns K) := by
  have e := hfa.symm.trans (PySem.W.mg_of X G a_answers)
  cases e
  have T : Txt K mg cChange cStretch cStep cSession := ⟨⟨pg_Change, hd_Change, po_Change, sa_Change⟩, PySem.W.mg_of X G aC_Change, n_Change_place, n_Change_out, n_Change_coming, ⟨pg_Stretch, hd_Stretch, po_Stretch, sa_Stretch⟩, PySem.W.mg_of X G aC_Stretch, n_Stretch_number, n_Stretch_begin, n_Stretch_end, n_Stretch_lean_begin, n_Stretch_lean_end, n_Stretch_vanishes, n_Stretch_rank, n_Stretch_value, n_Stretch_vanished, n_Stretch_turn, ⟨pg_Step, hd_Step, po_Step, sa_Step⟩, PySem.W.mg_of X G aC_Step, n_Step_changes, n_Step_back, n_Step_states, ⟨pg_Session, hd_Session, po_Session, sa_Session⟩, PySem.W.mg_of X G aC_Session, n_Session_content, n_Session_stretches, n_Session_made, n_Session_turns, n_Session_steps, n_Session_taken_back, ⟨_, PySem.W.mg_of X G g_MOST_BYTES⟩, ⟨_, PySem.W.mg_of X G g_MOST_STRETCHES⟩, ⟨_, PySem.W.mg_of X G g_HIGHEST_BYTE⟩, ⟨_, PySem.W.mg_of X G g_HIGHEST_RANK⟩, ⟨_, PySem.W.mg_of X G g_HIGHEST_VALUE⟩, ⟨_, PySem.W.mg_of X G g_NOT_FITTING⟩, ⟨_, PySem.W.mg_of X G g_NO_SUCH_STRETCH⟩, ⟨_, PySem.W.mg_of X G g_HAS_VANISHED⟩, ⟨_, PySem.W.mg_of X G g_TOO_MANY_STRETCHES⟩, ⟨_, PySem.W.mg_of X G g_TOO_MANY_BYTES⟩, ⟨_, PySem.W.mg_of X G g_NOTHING_TO_BE⟩, ⟨_, PySem.W.mg_of X G g_NONE_BEHIND⟩, ⟨_, PySem.W.mg_of X G g_BEGINS⟩, ⟨_, PySem.W.mg_of X G g_MARK⟩, ⟨_, PySem.W.mg_of X G g_SET⟩, ⟨_, PySem.W.mg_of X G g_DROP⟩, ⟨_, PySem.W.mg_of X G g_CHANGE⟩, ⟨_, PySem.W.mg_of X G g_UNDO⟩, ⟨_, PySem.W.mg_of X G g_REDO⟩, ⟨_, PySem.W.mg_of X G g_SHOWS⟩, ⟨_, PySem.W.mg_of X G g_STRETCH⟩, ⟨_, PySem.W.mg_of X G g_OVER⟩, ⟨_, PySem.W.mg_of X G g_RUNS⟩, ⟨_, PySem.W.mg_of X G g_NEXT⟩, ⟨_, PySem.W.mg_of X G g_NUMBERS, .inr ⟨_, _, _, l_NUMBERS, y_NUMBERS, z_NUMBERS, s_NUMBERS, v_NUMBERS⟩⟩, PySem.W.mg_none_of X G b_all, PySem.W.mg_none_of X G b_len, PySem.W.mg_none_of X G b_list, PySem.W.mg_none_of X G b_max, PySem.W.mg_none_of X G b_min, PySem.W.mg_none_of X G b_range, PySem.W.mg_none_of X G b_reversed, PySem.W.mg_none_of X G b_sorted, PySem.W.mg_none_of X G b_sum⟩
  have F_Change_init := fun_mk (st := s_Change_init) l_Change_init c_Change_init k_Change_init
  have b_Change_init := F_Change_init.binds (ps := ["self", "place", "out", "coming"]) fun _ _ _ _ _ _ us hl => match us, hl with | [_, _, _, _], _ => rfl
  have F_read_changes := fun_mk (st := s_read_changes) l_read_changes c_read_changes k_read_changes
  have b_read_changes := F_read_changes.binds (ps := ["numbers"]) fun _ _ _ _ _ _ us hl => match us, hl with | [_], _ => rfl
  have F_lie_apart_within := fun_mk (st := s_lie_apart_within) l_lie_apart_within c_lie_apart_within k_lie_apart_within
  have b_lie_apart_within := F_lie_apart_within.binds (ps := ["changes", "size"]) fun _ _ _ _ _ _ us hl => match us, hl with | [_, _], _ => rfl
  have F_size_behind := fun_mk (st := s_size_behind) l_size_behind c_size_behind k_size_behind
  have b_size_behind := F_size_behind.binds (ps := ["changes", "size"]) fun _ _ _ _ _ _ us hl => match us, hl with | [_, _], _ => rfl
  have F_content_behind := fun_mk (st := s_content_behind) l_content_behind c_content_behind k_content_behind
  have b_content_behind := F_content_behind.binds (ps := ["changes", "content"]) fun _ _ _ _ _ _ us hl => match us, hl with | [_, _], _ => rfl
  have F_changes_back := fun_mk (st := s_changes_back) l_changes_back c_changes_back k_changes_back
  have b_changes_back := F_changes_back.binds (ps := ["changes", "content"]) fun _ _ _ _ _ _ us hl => match us, hl with | [_, _], _ => rfl
  have F_end_behind_one := fun_mk (st := s_end_behind_one) l_end_behind_one c_end_behind_one k_end_behind_one
  have b_end_behind_one := F_end_behind_one.binds (ps := ["change", "end", "lean"]) fun _ _ _ _ _ _ us hl => match us, hl with | [_, _, _], _ => rfl
  have F_end_behind := fun_mk (st := s_end_behind) l_end_behind c_end_behind k_end_behind
  have b_end_behind := F_end_behind.binds (ps := ["changes", "end", "lean"]) fun _ _ _ _ _ _ us hl => match us, hl with | [_, _, _], _ => rfl
  have F_Stretch_init := fun_mk (st := s_Stretch_init) l_Stretch_init c_Stretch_init k_Stretch_init
  have b_Stretch_init := F_Stretch_init.binds (ps := ["self", "number", "told", "turn"]) fun _ _ _ _ _ _ us hl => match us, hl with | [_, _, _, _], _ => rfl
  have F_Stretch_go_with := fun_mk (st := s_Stretch_go_with) l_Stretch_go_with c_Stretch_go_with k_Stretch_go_with
  have b_Stretch_go_with := F_Stretch_go_with.binds (ps := ["self", "changes"]) fun _ _ _ _ _ _ us hl => match us, hl with | [_, _], _ => rfl
  have F_Stretch_state := fun_mk (st := s_Stretch_state) l_Stretch_state c_Stretch_state k_Stretch_state
  have b_Stretch_state := F_Stretch_state.binds (ps := ["self"]) fun _ _ _ _ _ _ us hl => match us, hl with | [_], _ => rfl
  have F_Stretch_go_back := fun_mk (st := s_Stretch_go_back) l_Stretch_go_back c_Stretch_go_back k_Stretch_go_back
  have b_Stretch_go_back := F_Stretch_go_back.binds (ps := ["self", "state", "changes"]) fun _ _ _ _ _ _ us hl => match us, hl with | [_, _, _], _ => rfl
  have F_Step_init := fun_mk (st := s_Step_init) l_Step_init c_Step_init k_Step_init
  have b_Step_init := F_Step_init.binds (ps := ["self", "changes", "back", "states"]) fun _ _ _ _ _ _ us hl => match us, hl with | [_, _, _, _], _ => rfl
  have F_Session_init := fun_mk (st := s_Session_init) l_Session_init c_Session_init k_Session_init
  have b_Session_init := F_Session_init.binds (ps := ["self"]) fun _ _ _ _ _ _ us hl => match us, hl with | [_], _ => rfl
  have F_Session_start_anew := fun_mk (st := s_Session_start_anew) l_Session_start_anew c_Session_start_anew k_Session_start_anew
  have b_Session_start_anew := F_Session_start_anew.binds (ps := ["self", "content"]) fun _ _ _ _ _ _ us hl => match us, hl with | [_, _], _ => rfl
  have F_Session_begins := fun_mk (st := s_Session_begins) l_Session_begins c_Session_begins k_Session_begins
  have b_Session_begins := F_Session_begins.binds (ps := ["self", "content"]) fun _ _ _ _ _ _ us hl => match us, hl with | [_, _], _ => rfl
  have F_Session_mark := fun_mk (st := s_Session_mark) l_Session_mark c_Session_mark k_Session_mark
  have b_Session_mark := F_Session_mark.binds (ps := ["self", "told"]) fun _ _ _ _ _ _ us hl => match us, hl with | [_, _], _ => rfl
  have F_Session_lies_within := fun_mk (st := s_Session_lies_within) l_Session_lies_within c_Session_lies_within k_Session_lies_within
  have b_Session_lies_within := F_Session_lies_within.binds (ps := ["self", "begin", "end"]) fun _ _ _ _ _ _ us hl => match us, hl with | [_, _, _], _ => rfl
  have F_Session_has_room := fun_mk (st := s_Session_has_room) l_Session_has_room c_Session_has_room k_Session_has_room
  have b_Session_has_room := F_Session_has_room.binds (ps := ["self", "vanishes", "begin", "end"]) fun _ _ _ _ _ _ us hl => match us, hl with | [_, _, _, _], _ => rfl
  have F_Session_refusal_of := fun_mk (st := s_Session_refusal_of) l_Session_refusal_of c_Session_refusal_of k_Session_refusal_of
  have b_Session_refusal_of := F_Session_refusal_of.binds (ps := ["self", "number"]) fun _ _ _ _ _ _ us hl => match us, hl with | [_, _], _ => rfl
  have F_Session_set_to := fun_mk (st := s_Session_set_to) l_Session_set_to c_Session_set_to k_Session_set_to
  have b_Session_set_to := F_Session_set_to.binds (ps := ["self", "number", "begin", "end"]) fun _ _ _ _ _ _ us hl => match us, hl with | [_, _, _, _], _ => rfl
  have F_Session_drop := fun_mk (st := s_Session_drop) l_Session_drop c_Session_drop k_Session_drop
  have b_Session_drop := F_Session_drop.binds (ps := ["self", "number"]) fun _ _ _ _ _ _ us hl => match us, hl with | [_, _], _ => rfl
  have F_Session_change := fun_mk (st := s_Session_change) l_Session_change c_Session_change k_Session_change
  have b_Session_change := F_Session_change.binds (ps := ["self", "numbers"]) fun _ _ _ _ _ _ us hl => match us, hl with | [_, _], _ => rfl
  have F_Session_do_step := fun_mk (st := s_Session_do_step) l_Session_do_step c_Session_do_step k_Session_do_step
  have b_Session_do_step := F_Session_do_step.binds (ps := ["self", "changes"]) fun _ _ _ _ _ _ us hl => match us, hl with | [_, _], _ => rfl
  have F_Session_undo := fun_mk (st := s_Session_undo) l_Session_undo c_Session_undo k_Session_undo
  have b_Session_undo := F_Session_undo.binds (ps := ["self"]) fun _ _ _ _ _ _ us hl => match us, hl with | [_], _ => rfl
  have F_Session_redo := fun_mk (st := s_Session_redo) l_Session_redo c_Session_redo k_Session_redo
  have b_Session_redo := F_Session_redo.binds (ps := ["self"]) fun _ _ _ _ _ _ us hl => match us, hl with | [_], _ => rfl
  have F_are_bytes := fun_mk (st := s_are_bytes) l_are_bytes c_are_bytes k_are_bytes
  have b_are_bytes := F_are_bytes.binds (ps := ["numbers"]) fun _ _ _ _ _ _ us hl => match us, hl with | [_], _ => rfl
  have F_is_gone := fun_mk (st := s_is_gone) l_is_gone c_is_gone k_is_gone
  have b_is_gone := F_is_gone.binds (ps := ["vanishes", "begin", "end"]) fun _ _ _ _ _ _ us hl => match us, hl with | [_, _, _], _ => rfl
  have F_standing := fun_mk (st := s_standing) l_standing c_standing k_standing
  have b_standing := F_standing.binds (ps := ["session"]) fun _ _ _ _ _ _ us hl => match us, hl with | [_], _ => rfl
  have F_height := fun_mk (st := s_height) l_height c_height k_height
  have b_height := F_height.binds (ps := ["stretch"]) fun _ _ _ _ _ _ us hl => match us, hl with | [_], _ => rfl
  have F_bytes_shown := fun_mk (st := s_bytes_shown) l_bytes_shown c_bytes_shown k_bytes_shown
  have b_bytes_shown := F_bytes_shown.binds (ps := ["session"]) fun _ _ _ _ _ _ us hl => match us, hl with | [_], _ => rfl
  have F_ends_of := fun_mk (st := s_ends_of) l_ends_of c_ends_of k_ends_of
  have b_ends_of := F_ends_of.binds (ps := ["session", "number"]) fun _ _ _ _ _ _ us hl => match us, hl with | [_, _], _ => rfl
  have F_covering := fun_mk (st := s_covering) l_covering c_covering k_covering
  have b_covering := F_covering.binds (ps := ["session", "place"]) fun _ _ _ _ _ _ us hl => match us, hl with | [_, _], _ => rfl
  have F_tops_of := fun_mk (st := s_tops_of) l_tops_of c_tops_of k_tops_of
  have b_tops_of := F_tops_of.binds (ps := ["session"]) fun _ _ _ _ _ _ us hl => match us, hl with | [_], _ => rfl
  have F_runs_between := fun_mk (st := s_runs_between) l_runs_between c_runs_between k_runs_between
  have b_runs_between := F_runs_between.binds (ps := ["session", "begin", "end"]) fun _ _ _ _ _ _ us hl => match us, hl with | [_, _, _], _ => rfl
  have F_first_behind := fun_mk (st := s_first_behind) l_first_behind c_first_behind k_first_behind
  have b_first_behind := F_first_behind.binds (ps := ["session", "place", "value"]) fun _ _ _ _ _ _ us hl => match us, hl with | [_, _, _], _ => rfl
  have F_every_one := fun_mk (st := s_every_one) l_every_one c_every_one k_every_one
  have b_every_one := F_every_one.binds (ps := ["session"]) fun _ _ _ _ _ _ us hl => match us, hl with | [_], _ => rfl
  have F_answers := fun_mk (st := s_answers) l_answers c_answers k_answers
  have b_answers := F_answers.binds (ps := ["calls"]) fun _ _ _ _ _ _ us hl => match us, hl with | [_], _ => rfl
  have F_has_row := fun_mk (st := s_has_row) l_has_row c_has_row k_has_row
  have b_has_row := F_has_row.binds (ps := ["kind"]) fun _ _ _ _ _ _ us hl => match us, hl with | [_], _ => rfl
  have F_answer_of := fun_mk (st := s_answer_of) l_answer_of c_answer_of k_answer_of
  have b_answer_of := F_answer_of.binds (ps := ["session", "kind", "numbers"]) fun _ _ _ _ _ _ us hl => match us, hl with | [_, _, _], _ => rfl
  have F_seen_of := fun_mk (st := s_seen_of) l_seen_of c_seen_of k_seen_of
  have b_seen_of := F_seen_of.binds (ps := ["session", "kind", "numbers"]) fun _ _ _ _ _ _ us hl => match us, hl with | [_, _, _], _ => rfl
  refine ⟨PySem.W.fnOf "answers" "answers" (defArgs s_answers) (defBody s_answers) (defScope s_answers) .none kV_answers dc_answers pm_answers an_answers cd_answers ct_answers, fun s us hu => match us, hu with | [_], _ => .of_eq rfl, fun base _ _ => ?_⟩
  have o_has_row := ok_has_row (P := P) (w := w) (mg := mg) (base := base) F_has_row T 
  have x_has_row : Calls P w K mg base "has_row" 1 ["kind"] _ := ⟨_, _, o_has_row, PySem.W.mg_of X G a_has_row, k_has_row, b_has_row⟩
  have o_standing := ok_standing (P := P) (w := w) (mg := mg) (base := base) F_standing T 
  have x_standing : Calls P w K mg base "standing" 1 ["session"] _ := ⟨_, _, o_standing, PySem.W.mg_of X G a_standing, k_standing, b_standing⟩
  have o_every_one := ok_every_one (P := P) (w := w) (mg := mg) (base := base) F_every_one T (c_standing := x_standing)
  have x_every_one : Calls P w K mg base "every_one" 2 ["session"] _ := ⟨_, _, o_every_one, PySem.W.mg_of X G a_every_one, k_every_one, b_every_one⟩
  have o_bytes_shown := ok_bytes_shown (P := P) (w := w) (mg := mg) (base := base) F_bytes_shown T 
  have x_bytes_shown : Calls P w K mg base "bytes_shown" 1 ["session"] _ := ⟨_, _, o_bytes_shown, PySem.W.mg_of X G a_bytes_shown, k_bytes_shown, b_bytes_shown⟩
  have o_Session_refusal_of := ok_Session_refusal_of (P := P) (w := w) (mg := mg) (base := base) F_Session_refusal_of T 
  have x_Session_refusal_of : Meths P w K mg base cSession "refusal_of" 1 ["self", "number"] _ := ⟨_, _, o_Session_refusal_of, ⟨a_Session_refusal_of, i_Session_refusal_of, k_Session_refusal_of⟩, b_Session_refusal_of, T.cl_Session⟩
  have o_ends_of := ok_ends_of (P := P) (w := w) (mg := mg) (base := base) F_ends_of T (meth_Session_refusal_of := x_Session_refusal_of)
  have x_ends_of : Calls P w K mg base "ends_of" 2 ["session", "number"] _ := ⟨_, _, o_ends_of, PySem.W.mg_of X G a_ends_of, k_ends_of, b_ends_of⟩
  have o_height := ok_height (P := P) (w := w) (mg := mg) (base := base) F_height T 
  have x_height : Calls P w K mg base "height" 1 ["stretch"] _ := ⟨_, _, o_height, PySem.W.mg_of X G a_height, k_height, b_height⟩
  have o_covering := ok_covering (P := P) (w := w) (mg := mg) (base := base) F_covering T (c_height := x_height) (c_standing := x_standing)
  have x_covering : Calls P w K mg base "covering" 3 ["session", "place"] _ := ⟨_, _, o_covering, PySem.W.mg_of X G a_covering, k_covering, b_covering⟩
  have o_tops_of := ok_tops_of (P := P) (w := w) (mg := mg) (base := base) F_tops_of T (c_height := x_height) (c_standing := x_standing)
  have x_tops_of : Calls P w K mg base "tops_of" 3 ["session"] _ := ⟨_, _, o_tops_of, PySem.W.mg_of X G a_tops_of, k_tops_of, b_tops_of⟩
  have o_Session_lies_within := ok_Session_lies_within (P := P) (w := w) (mg := mg) (base := base) F_Session_lies_within T 
  have x_Session_lies_within : Meths P w K mg base cSession "lies_within" 1 ["self", "begin", "end"] _ := ⟨_, _, o_Session_lies_within, ⟨a_Session_lies_within, i_Session_lies_within, k_Session_lies_within⟩, b_Session_lies_within, T.cl_Session⟩
  have o_runs_between := ok_runs_between (P := P) (w := w) (mg := mg) (base := base) F_runs_between T (c_tops_of := x_tops_of) (meth_Session_lies_within := x_Session_lies_within)
  have x_runs_between : Calls P w K mg base "runs_between" 4 ["session", "begin", "end"] _ := ⟨_, _, o_runs_between, PySem.W.mg_of X G a_runs_between, k_runs_between, b_runs_between⟩
  have o_first_behind := ok_first_behind (P := P) (w := w) (mg := mg) (base := base) F_first_behind T (c_height := x_height) (c_standing := x_standing)
  have x_first_behind : Calls P w K mg base "first_behind" 3 ["session", "place", "value"] _ := ⟨_, _, o_first_behind, PySem.W.mg_of X G a_first_behind, k_first_behind, b_first_behind⟩
  have o_seen_of := ok_seen_of (P := P) (w := w) (mg := mg) (base := base) F_seen_of T (c_every_one := x_every_one) (c_bytes_shown := x_bytes_shown) (c_ends_of := x_ends_of) (c_covering := x_covering) (c_runs_between := x_runs_between) (c_first_behind := x_first_behind)
  have x_seen_of : Calls P w K mg base "seen_of" 5 ["session", "kind", "numbers"] _ := ⟨_, _, o_seen_of, PySem.W.mg_of X G a_seen_of, k_seen_of, b_seen_of⟩
  have o_are_bytes := ok_are_bytes (P := P) (w := w) (mg := mg) (base := base) F_are_bytes T 
  have x_are_bytes : Calls P w K mg base "are_bytes" 1 ["numbers"] _ := ⟨_, _, o_are_bytes, PySem.W.mg_of X G a_are_bytes, k_are_bytes, b_are_bytes⟩
  have o_Session_start_anew := ok_Session_start_anew (P := P) (w := w) (mg := mg) (base := base) F_Session_start_anew T 
  have x_Session_start_anew : Meths P w K mg base cSession "start_anew" 1 ["self", "content"] _ := ⟨_, _, o_Session_start_anew, ⟨a_Session_start_anew, i_Session_start_anew, k_Session_start_anew⟩, b_Session_start_anew, T.cl_Session⟩
  have o_Session_begins := ok_Session_begins (P := P) (w := w) (mg := mg) (base := base) F_Session_begins T (c_are_bytes := x_are_bytes) (meth_Session_start_anew := x_Session_start_anew)
  have x_Session_begins : Meths P w K mg base cSession "begins" 2 ["self", "content"] _ := ⟨_, _, o_Session_begins, ⟨a_Session_begins, i_Session_begins, k_Session_begins⟩, b_Session_begins, T.cl_Session⟩
  have o_is_gone := ok_is_gone (P := P) (w := w) (mg := mg) (base := base) F_is_gone T 
  have x_is_gone : Calls P w K mg base "is_gone" 1 ["vanishes", "begin", "end"] _ := ⟨_, _, o_is_gone, PySem.W.mg_of X G a_is_gone, k_is_gone, b_is_gone⟩
  have o_Session_has_room := ok_Session_has_room (P := P) (w := w) (mg := mg) (base := base) F_Session_has_room T (c_is_gone := x_is_gone) (meth_Session_lies_within := x_Session_lies_within)
  have x_Session_has_room : Meths P w K mg base cSession "has_room" 2 ["self", "vanishes", "begin", "end"] _ := ⟨_, _, o_Session_has_room, ⟨a_Session_has_room, i_Session_has_room, k_Session_has_room⟩, b_Session_has_room, T.cl_Session⟩
  have o_Stretch_init := ok_Stretch_init (P := P) (w := w) (mg := mg) (base := base) F_Stretch_init T 
  have x_Stretch_init : Makes P w K mg base cStretch "Stretch" 1 ["self", "number", "told", "turn"] _ := ⟨_, _, o_Stretch_init, ⟨mk_Stretch, a_Stretch_init, i_Stretch_init, kc_Stretch⟩, PySem.W.mg_of X G aC_Stretch, b_Stretch_init⟩
  have o_Session_mark := ok_Session_mark (P := P) (w := w) (mg := mg) (base := base) F_Session_mark T (meth_Session_has_room := x_Session_has_room) (m_Stretch := x_Stretch_init)
  have x_Session_mark : Meths P w K mg base cSession "mark" 3 ["self", "told"] _ := ⟨_, _, o_Session_mark, ⟨a_Session_mark, i_Session_mark, k_Session_mark⟩, b_Session_mark, T.cl_Session⟩
  have o_Session_set_to := ok_Session_set_to (P := P) (w := w) (mg := mg) (base := base) F_Session_set_to T (meth_Session_refusal_of := x_Session_refusal_of) (meth_Session_has_room := x_Session_has_room)
  have x_Session_set_to : Meths P w K mg base cSession "set_to" 3 ["self", "number", "begin", "end"] _ := ⟨_, _, o_Session_set_to, ⟨a_Session_set_to, i_Session_set_to, k_Session_set_to⟩, b_Session_set_to, T.cl_Session⟩
  have o_Session_drop := ok_Session_drop (P := P) (w := w) (mg := mg) (base := base) F_Session_drop T 
  have x_Session_drop : Meths P w K mg base cSession "drop" 1 ["self", "number"] _ := ⟨_, _, o_Session_drop, ⟨a_Session_drop, i_Session_drop, k_Session_drop⟩, b_Session_drop, T.cl_Session⟩
  have o_Change_init := ok_Change_init (P := P) (w := w) (mg := mg) (base := base) F_Change_init T 
  have x_Change_init : Makes P w K mg base cChange "Change" 1 ["self", "place", "out", "coming"] _ := ⟨_, _, o_Change_init, ⟨mk_Change, a_Change_init, i_Change_init, kc_Change⟩, PySem.W.mg_of X G aC_Change, b_Change_init⟩
  have o_read_changes := ok_read_changes (P := P) (w := w) (mg := mg) (base := base) F_read_changes T (m_Change := x_Change_init)
  have x_read_changes : Calls P w K mg base "read_changes" 3 ["numbers"] _ := ⟨_, _, o_read_changes, PySem.W.mg_of X G a_read_changes, k_read_changes, b_read_changes⟩
  have o_lie_apart_within := ok_lie_apart_within (P := P) (w := w) (mg := mg) (base := base) F_lie_apart_within T 
  have x_lie_apart_within : Calls P w K mg base "lie_apart_within" 1 ["changes", "size"] _ := ⟨_, _, o_lie_apart_within, PySem.W.mg_of X G a_lie_apart_within, k_lie_apart_within, b_lie_apart_within⟩
  have o_size_behind := ok_size_behind (P := P) (w := w) (mg := mg) (base := base) F_size_behind T 
  have x_size_behind : Calls P w K mg base "size_behind" 1 ["changes", "size"] _ := ⟨_, _, o_size_behind, PySem.W.mg_of X G a_size_behind, k_size_behind, b_size_behind⟩
  have o_content_behind := ok_content_behind (P := P) (w := w) (mg := mg) (base := base) F_content_behind T 
  have x_content_behind : Calls P w K mg base "content_behind" 1 ["changes", "content"] _ := ⟨_, _, o_content_behind, PySem.W.mg_of X G a_content_behind, k_content_behind, b_content_behind⟩
  have o_changes_back := ok_changes_back (P := P) (w := w) (mg := mg) (base := base) F_changes_back T (m_Change := x_Change_init)
  have x_changes_back : Calls P w K mg base "changes_back" 3 ["changes", "content"] _ := ⟨_, _, o_changes_back, PySem.W.mg_of X G a_changes_back, k_changes_back, b_changes_back⟩
  have o_Stretch_state := ok_Stretch_state (P := P) (w := w) (mg := mg) (base := base) F_Stretch_state T 
  have x_Stretch_state : Meths P w K mg base cStretch "state" 1 ["self"] _ := ⟨_, _, o_Stretch_state, ⟨a_Stretch_state, i_Stretch_state, k_Stretch_state⟩, b_Stretch_state, T.cl_Stretch⟩
  have o_end_behind_one := ok_end_behind_one (P := P) (w := w) (mg := mg) (base := base) F_end_behind_one T 
  have x_end_behind_one : Calls P w K mg base "end_behind_one" 1 ["change", "end", "lean"] _ := ⟨_, _, o_end_behind_one, PySem.W.mg_of X G a_end_behind_one, k_end_behind_one, b_end_behind_one⟩
  have o_end_behind := ok_end_behind (P := P) (w := w) (mg := mg) (base := base) F_end_behind T (c_end_behind_one := x_end_behind_one)
  have x_end_behind : Calls P w K mg base "end_behind" 2 ["changes", "end", "lean"] _ := ⟨_, _, o_end_behind, PySem.W.mg_of X G a_end_behind, k_end_behind, b_end_behind⟩
  have o_Stretch_go_with := ok_Stretch_go_with (P := P) (w := w) (mg := mg) (base := base) F_Stretch_go_with T (c_end_behind := x_end_behind) (c_is_gone := x_is_gone)
  have x_Stretch_go_with : Meths P w K mg base cStretch "go_with" 3 ["self", "changes"] _ := ⟨_, _, o_Stretch_go_with, ⟨a_Stretch_go_with, i_Stretch_go_with, k_Stretch_go_with⟩, b_Stretch_go_with, T.cl_Stretch⟩
  have o_Step_init := ok_Step_init (P := P) (w := w) (mg := mg) (base := base) F_Step_init T 
  have x_Step_init : Makes P w K mg base cStep "Step" 1 ["self", "changes", "back", "states"] _ := ⟨_, _, o_Step_init, ⟨mk_Step, a_Step_init, i_Step_init, kc_Step⟩, PySem.W.mg_of X G aC_Step, b_Step_init⟩
  have o_Session_do_step := ok_Session_do_step (P := P) (w := w) (mg := mg) (base := base) F_Session_do_step T (c_content_behind := x_content_behind) (c_changes_back := x_changes_back) (meth_Stretch_state := x_Stretch_state) (meth_Stretch_go_with := x_Stretch_go_with) (m_Step := x_Step_init)
  have x_Session_do_step : Meths P w K mg base cSession "do_step" 4 ["self", "changes"] _ := ⟨_, _, o_Session_do_step, ⟨a_Session_do_step, i_Session_do_step, k_Session_do_step⟩, b_Session_do_step, T.cl_Session⟩
  have o_Session_change := ok_Session_change (P := P) (w := w) (mg := mg) (base := base) F_Session_change T (c_read_changes := x_read_changes) (c_lie_apart_within := x_lie_apart_within) (c_size_behind := x_size_behind) (c_are_bytes := x_are_bytes) (meth_Session_do_step := x_Session_do_step)
  have x_Session_change : Meths P w K mg base cSession "change" 5 ["self", "numbers"] _ := ⟨_, _, o_Session_change, ⟨a_Session_change, i_Session_change, k_Session_change⟩, b_Session_change, T.cl_Session⟩
  have o_Stretch_go_back := ok_Stretch_go_back (P := P) (w := w) (mg := mg) (base := base) F_Stretch_go_back T (meth_Stretch_go_with := x_Stretch_go_with)
  have x_Stretch_go_back : Meths P w K mg base cStretch "go_back" 4 ["self", "state", "changes"] _ := ⟨_, _, o_Stretch_go_back, ⟨a_Stretch_go_back, i_Stretch_go_back, k_Stretch_go_back⟩, b_Stretch_go_back, T.cl_Stretch⟩
  have o_Session_undo := ok_Session_undo (P := P) (w := w) (mg := mg) (base := base) F_Session_undo T (c_content_behind := x_content_behind) (meth_Stretch_go_back := x_Stretch_go_back)
  have x_Session_undo : Meths P w K mg base cSession "undo" 5 ["self"] _ := ⟨_, _, o_Session_undo, ⟨a_Session_undo, i_Session_undo, k_Session_undo⟩, b_Session_undo, T.cl_Session⟩
  have o_Session_redo := ok_Session_redo (P := P) (w := w) (mg := mg) (base := base) F_Session_redo T (meth_Session_do_step := x_Session_do_step)
  have x_Session_redo : Meths P w K mg base cSession "redo" 5 ["self"] _ := ⟨_, _, o_Session_redo, ⟨a_Session_redo, i_Session_redo, k_Session_redo⟩, b_Session_redo, T.cl_Session⟩
  have o_answer_of := ok_answer_of (P := P) (w := w) (mg := mg) (base := base) F_answer_of T (c_seen_of := x_seen_of) (meth_Session_begins := x_Session_begins) (meth_Session_mark := x_Session_mark) (meth_Session_set_to := x_Session_set_to) (meth_Session_drop := x_Session_drop) (meth_Session_change := x_Session_change) (meth_Session_undo := x_Session_undo) (meth_Session_redo := x_Session_redo)
  have x_answer_of : Calls P w K mg base "answer_of" 6 ["session", "kind", "numbers"] _ := ⟨_, _, o_answer_of, PySem.W.mg_of X G a_answer_of, k_answer_of, b_answer_of⟩
  have o_Session_init := ok_Session_init (P := P) (w := w) (mg := mg) (base := base) F_Session_init T (meth_Session_start_anew := x_Session_start_anew)
  have x_Session_init : Makes P w K mg base cSession "Session" 2 ["self"] _ := ⟨_, _, o_Session_init, ⟨mk_Session, a_Session_init, i_Session_init, kc_Session⟩, PySem.W.mg_of X G aC_Session, b_Session_init⟩
  have o_answers := ok_answers (P := P) (w := w) (mg := mg) (base := base) F_answers T (c_has_row := x_has_row) (c_answer_of := x_answer_of) (m_Session := x_Session_init)
  have x_answers : Calls P w K mg base "answers" 7 ["calls"] _ := ⟨_, _, o_answers, PySem.W.mg_of X G a_answers, k_answers, b_answers⟩
  exact o_answers
end Mk
end

section
set_option Elab.async false
set_option linter.all false
set_option maxRecDepth 100000
set_option maxHeartbeats 4000000
namespace Mk
open PySem PySem.Spec PyProof.Rows L2
theorem callIn_le {n : Nat} {ns : List Nat} {c : Ue02.Call} (h : Ue02Neutral.callIn (n :: ns) = some c) : n ≤ 12 := by
  apply Classical.byContradiction
  intro hn
  obtain ⟨k, rfl⟩ : ∃ k, n = k + 13 := ⟨n - 13, by omega⟩
  have e : Ue02Neutral.callIn ((k + 13) :: ns) = none := by
    unfold Ue02Neutral.callIn
    split <;> first | rfl | (rename_i q; have q := (List.cons.inj q).1; omega)
  rw [e] at h
  cases h
theorem callOf_le {c : List Int} (h : (Ue02Neutral.callOf c).isSome = true) : ∀ q r, c = q :: r → q ≤ 12 := by
  rintro q r rfl
  unfold Ue02Neutral.callOf at h
  by_cases z : (q :: r).all Ue02Neutral.nat = false
  · rw [if_pos z] at h; cases h
  · rw [if_neg z] at h
    cases e : Ue02Neutral.callIn ((q :: r).map Int.toNat) with
    | none => rw [e] at h; cases h
    | some c =>
      have := callIn_le (n := q.toNat) (ns := r.map Int.toNat) e
      omega
theorem asked_of {l : List Int} (h : PyUe02.answers_asked l = true) : ∃ raw, PyFlat.calls PyUe02.shape l.length l = some raw ∧ raw.length ≤ 60 ∧ (∀ c ∈ lines raw, (Ue02Neutral.callOf c).isSome = true) ∧
    (PyFlat.told (played Ue02.init (lines raw))).length ≤ 2000000 ∧ PyUe02.answers l = PyFlat.told (played Ue02.init (lines raw)) := by
  unfold PyUe02.answers_asked at h
  cases e : PyFlat.calls PyUe02.shape l.length l with
  | none => rw [e] at h; cases h
  | some raw =>
    rw [e] at h
    simp only [Bool.and_eq_true] at h
    obtain ⟨⟨⟨⟨_, h2⟩, _⟩, h4⟩, _⟩ := h
    have h2 : raw.length ≤ 60 := of_decide_eq_true h2
    have h4 : Ue02Neutral.asked (lines raw) = true := h4
    unfold Ue02Neutral.asked at h4
    simp only [Bool.and_eq_true, decide_eq_true_eq] at h4
    obtain ⟨h5, _, _, h6⟩ := h4
    refine ⟨raw, rfl, h2, fun c hc => ?_, ?_, ?_⟩
    · exact List.all_eq_true.mp h5 c hc
    · rw [told_len, ← many_eq]
      have hl : (played Ue02.init (lines raw)).length ≤ 60 := by
        have key : ∀ (ls : List (List Int)) (s : Ue02.House), (played s ls).length = ls.length := by
          intro ls
          induction ls with
          | nil => intro s; rfl
          | cons c r ih => intro s; show (played _ r).length + 1 = r.length + 1; rw [ih]
        rw [key]
        unfold lines
        rw [List.length_map, List.length_map]
        exact h2
      have h6 : Ue02Neutral.many Ue02.init (lines raw) ≤ 1000000 := h6
      omega
    · unfold PyUe02.answers PyUe02.calls
      rw [e]
      show PyFlat.told (PyFlat.played _ Ue02.init (raw.map PyUe02.whole)) = _
      rw [played_eq]
theorem zs_nat {l : List Int} (h : ∀ x ∈ l, 0 ≤ x) : zs (l.map Int.toNat) = l := by
  unfold zs
  rw [List.map_map]
  exact (List.map_congr_left fun x hx => by have := h x hx; simp; omega).trans (List.map_id l)
theorem said {K : PySem.W.Frag} {H : Hp} {l : Addr} {zl : List Int} {Q : VK} {E : XK} (hs : SqL K H l (zl.map V.int)) (h0 : ∀ x ∈ zl, 0 ≤ x) (hz : zl.length ≤ 30000) (ha : PyUe02.answers_asked zl = true) (hm : most = 12)
    (k : ∀ (H' : Hp) (p : Addr), H' p = some (.lst ((PyUe02.answers zl).map V.int)) → Q (.ref p) H') : spAns K [.ref l] H Q E := by
  obtain ⟨raw, h1, h2, h3, h4, h5⟩ := asked_of ha
  refine ⟨l, zl.map Int.toNat, zl.length, raw, rfl, ?_, by rw [List.length_map]; omega, by rw [zs_nat h0]; exact h1, h2, h3, fun c hc q r e => ?_, h4, fun H' p hp => k H' p (by rw [h5]; exact hp)⟩
  · rw [natV_zs, zs_nat h0]
    exact hs
  · have := callOf_le (h3 c hc) q r e
    rw [hm]
    exact this
end Mk
end

set_option Elab.async false
set_option linter.all false
set_option maxRecDepth 100000
set_option maxHeartbeats 4000000
open PySem PySem.W PyProof.Rows
set_option maxRecDepth 100000 in
set_option maxHeartbeats 0 in
theorem PySem.Challenge.cw_markstretch_s01_answers_holds : PySem.Challenge.rw_markstretch_s01_answers.Holds := by
  w_on; k_headS; (case hw => exact ⟨[.list [.int 7]], by decide +kernel, by decide +kernel⟩)
  k_fillS
  refine L2.walk_specK (r := PySem.Challenge.rw_markstretch_s01_answers) (k := 7) (CX := L2.CX0) (ps := ["calls"]) (sp := Mk.spAns) (by decide +kernel) rfl rfl ⟨rfl, by decide, by decide⟩ (fun w h Y => PySem.W.kIn_of Y) ?F ?S (fun _ _ _ _ z => z)
  case F =>
    intro w mg fa h Y KX G hmg
    refine' Mk.all_mk KX G hmg ?aC_Change ?pg_Change ?hd_Change ?po_Change ?sa_Change ?mk_Change ?kc_Change ?n_Change_place ?n_Change_out ?n_Change_coming ?aC_Stretch ?pg_Stretch ?hd_Stretch ?po_Stretch ?sa_Stretch ?mk_Stretch ?kc_Stretch ?n_Stretch_number ?n_Stretch_begin ?n_Stretch_end ?n_Stretch_lean_begin ?n_Stretch_lean_end ?n_Stretch_vanishes ?n_Stretch_rank ?n_Stretch_value ?n_Stretch_vanished ?n_Stretch_turn ?aC_Step ?pg_Step ?hd_Step ?po_Step ?sa_Step ?mk_Step ?kc_Step ?n_Step_changes ?n_Step_back ?n_Step_states ?aC_Session ?pg_Session ?hd_Session ?po_Session ?sa_Session ?mk_Session ?kc_Session ?n_Session_content ?n_Session_stretches ?n_Session_made ?n_Session_turns ?n_Session_steps ?n_Session_taken_back ?g_MOST_BYTES ?g_MOST_STRETCHES ?g_HIGHEST_BYTE ?g_HIGHEST_RANK ?g_HIGHEST_VALUE ?g_NOT_FITTING ?g_NO_SUCH_STRETCH ?g_HAS_VANISHED ?g_TOO_MANY_STRETCHES ?g_TOO_MANY_BYTES ?g_NOTHING_TO_BE ?g_NONE_BEHIND ?g_BEGINS ?g_MARK ?g_SET ?g_DROP ?g_CHANGE ?g_UNDO ?g_REDO ?g_SHOWS ?g_STRETCH ?g_OVER ?g_RUNS ?g_NEXT ?g_NUMBERS ?l_NUMBERS ?y_NUMBERS ?z_NUMBERS ?s_NUMBERS ?v_NUMBERS ?b_all ?b_len ?b_list ?b_max ?b_min ?b_range ?b_reversed ?b_sorted ?b_sum ?a_Change_init ?i_Change_init ?l_Change_init ?c_Change_init ?k_Change_init ?a_read_changes ?l_read_changes ?c_read_changes ?k_read_changes ?a_lie_apart_within ?l_lie_apart_within ?c_lie_apart_within ?k_lie_apart_within ?a_size_behind ?l_size_behind ?c_size_behind ?k_size_behind ?a_content_behind ?l_content_behind ?c_content_behind ?k_content_behind ?a_changes_back ?l_changes_back ?c_changes_back ?k_changes_back ?a_end_behind_one ?l_end_behind_one ?c_end_behind_one ?k_end_behind_one ?a_end_behind ?l_end_behind ?c_end_behind ?k_end_behind ?a_Stretch_init ?i_Stretch_init ?l_Stretch_init ?c_Stretch_init ?k_Stretch_init ?a_Stretch_go_with ?i_Stretch_go_with ?l_Stretch_go_with ?c_Stretch_go_with ?k_Stretch_go_with ?a_Stretch_state ?i_Stretch_state ?l_Stretch_state ?c_Stretch_state ?k_Stretch_state ?a_Stretch_go_back ?i_Stretch_go_back ?l_Stretch_go_back ?c_Stretch_go_back ?k_Stretch_go_back ?a_Step_init ?i_Step_init ?l_Step_init ?c_Step_init ?k_Step_init ?a_Session_init ?i_Session_init ?l_Session_init ?c_Session_init ?k_Session_init ?a_Session_start_anew ?i_Session_start_anew ?l_Session_start_anew ?c_Session_start_anew ?k_Session_start_anew ?a_Session_begins ?i_Session_begins ?l_Session_begins ?c_Session_begins ?k_Session_begins ?a_Session_mark ?i_Session_mark ?l_Session_mark ?c_Session_mark ?k_Session_mark ?a_Session_lies_within ?i_Session_lies_within ?l_Session_lies_within ?c_Session_lies_within ?k_Session_lies_within ?a_Session_has_room ?i_Session_has_room ?l_Session_has_room ?c_Session_has_room ?k_Session_has_room ?a_Session_refusal_of ?i_Session_refusal_of ?l_Session_refusal_of ?c_Session_refusal_of ?k_Session_refusal_of ?a_Session_set_to ?i_Session_set_to ?l_Session_set_to ?c_Session_set_to ?k_Session_set_to ?a_Session_drop ?i_Session_drop ?l_Session_drop ?c_Session_drop ?k_Session_drop ?a_Session_change ?i_Session_change ?l_Session_change ?c_Session_change ?k_Session_change ?a_Session_do_step ?i_Session_do_step ?l_Session_do_step ?c_Session_do_step ?k_Session_do_step ?a_Session_undo ?i_Session_undo ?l_Session_undo ?c_Session_undo ?k_Session_undo ?a_Session_redo ?i_Session_redo ?l_Session_redo ?c_Session_redo ?k_Session_redo ?a_are_bytes ?l_are_bytes ?c_are_bytes ?k_are_bytes ?a_is_gone ?l_is_gone ?c_is_gone ?k_is_gone ?a_standing ?l_standing ?c_standing ?k_standing ?a_height ?l_height ?c_height ?k_height ?a_bytes_shown ?l_bytes_shown ?c_bytes_shown ?k_bytes_shown ?a_ends_of ?l_ends_of ?c_ends_of ?k_ends_of ?a_covering ?l_covering ?c_covering ?k_covering ?a_tops_of ?l_tops_of ?c_tops_of ?k_tops_of ?a_runs_between ?l_runs_between ?c_runs_between ?k_runs_between ?a_first_behind ?l_first_behind ?c_first_behind ?k_first_behind ?a_every_one ?l_every_one ?c_every_one ?k_every_one ?a_answers ?l_answers ?c_answers ?k_answers ?a_has_row ?l_has_row ?c_has_row ?k_has_row ?a_answer_of ?l_answer_of ?c_answer_of ?k_answer_of ?a_seen_of ?l_seen_of ?c_seen_of ?k_seen_of
    (case aC_Change => k_is)
    (case pg_Change => k_is)
    (case hd_Change => k_is)
    (case po_Change => k_is)
    (case sa_Change => k_is)
    (case mk_Change => k_is)
    (case kc_Change => k_is)
    (case n_Change_place => k_is)
    (case n_Change_out => k_is)
    (case n_Change_coming => k_is)
    (case aC_Stretch => k_is)
    (case pg_Stretch => k_is)
    (case hd_Stretch => k_is)
    (case po_Stretch => k_is)
    (case sa_Stretch => k_is)
    (case mk_Stretch => k_is)
    (case kc_Stretch => k_is)
    (case n_Stretch_number => k_is)
    (case n_Stretch_begin => k_is)
    (case n_Stretch_end => k_is)
    (case n_Stretch_lean_begin => k_is)
    (case n_Stretch_lean_end => k_is)
    (case n_Stretch_vanishes => k_is)
    (case n_Stretch_rank => k_is)
    (case n_Stretch_value => k_is)
    (case n_Stretch_vanished => k_is)
    (case n_Stretch_turn => k_is)
    (case aC_Step => k_is)
    (case pg_Step => k_is)
    (case hd_Step => k_is)
    (case po_Step => k_is)
    (case sa_Step => k_is)
    (case mk_Step => k_is)
    (case kc_Step => k_is)
    (case n_Step_changes => k_is)
    (case n_Step_back => k_is)
    (case n_Step_states => k_is)
    (case aC_Session => k_is)
    (case pg_Session => k_is)
    (case hd_Session => k_is)
    (case po_Session => k_is)
    (case sa_Session => k_is)
    (case mk_Session => k_is)
    (case kc_Session => k_is)
    (case n_Session_content => k_is)
    (case n_Session_stretches => k_is)
    (case n_Session_made => k_is)
    (case n_Session_turns => k_is)
    (case n_Session_steps => k_is)
    (case n_Session_taken_back => k_is)
    (case g_MOST_BYTES => k_is)
    (case g_MOST_STRETCHES => k_is)
    (case g_HIGHEST_BYTE => k_is)
    (case g_HIGHEST_RANK => k_is)
    (case g_HIGHEST_VALUE => k_is)
    (case g_NOT_FITTING => k_is)
    (case g_NO_SUCH_STRETCH => k_is)
    (case g_HAS_VANISHED => k_is)
    (case g_TOO_MANY_STRETCHES => k_is)
    (case g_TOO_MANY_BYTES => k_is)
    (case g_NOTHING_TO_BE => k_is)
    (case g_NONE_BEHIND => k_is)
    (case g_BEGINS => k_is)
    (case g_MARK => k_is)
    (case g_SET => k_is)
    (case g_DROP => k_is)
    (case g_CHANGE => k_is)
    (case g_UNDO => k_is)
    (case g_REDO => k_is)
    (case g_SHOWS => k_is)
    (case g_STRETCH => k_is)
    (case g_OVER => k_is)
    (case g_RUNS => k_is)
    (case g_NEXT => k_is)
    (case g_NUMBERS => k_is)
    (case l_NUMBERS => k_is)
    (case y_NUMBERS => first | rfl | k_is)
    (case z_NUMBERS => first | rfl | k_is)
    (case s_NUMBERS => first | decide | k_is)
    (case v_NUMBERS => exact (.cons ⟨_, rfl⟩ (.cons ⟨_, rfl⟩ (.cons ⟨_, rfl⟩ (.cons ⟨_, rfl⟩ (.cons ⟨_, rfl⟩ (.cons ⟨_, rfl⟩ (.cons ⟨_, rfl⟩ (.cons ⟨_, rfl⟩ (.cons ⟨_, rfl⟩ (.cons ⟨_, rfl⟩ (.cons ⟨_, rfl⟩ (.cons ⟨_, rfl⟩ (.cons ⟨_, rfl⟩ .nil))))))))))))))
    (case b_all => k_is)
    (case b_len => k_is)
    (case b_list => k_is)
    (case b_max => k_is)
    (case b_min => k_is)
    (case b_range => k_is)
    (case b_reversed => k_is)
    (case b_sorted => k_is)
    (case b_sum => k_is)
    (case a_Change_init => k_is)
    (case i_Change_init => k_is)
    (case l_Change_init => k_is)
    (case c_Change_init => k_is)
    (case k_Change_init => k_is)
    (case a_read_changes => k_is)
    (case l_read_changes => k_is)
    (case c_read_changes => k_is)
    (case k_read_changes => k_is)
    (case a_lie_apart_within => k_is)
    (case l_lie_apart_within => k_is)
    (case c_lie_apart_within => k_is)
    (case k_lie_apart_within => k_is)
    (case a_size_behind => k_is)
    (case l_size_behind => k_is)
    (case c_size_behind => k_is)
    (case k_size_behind => k_is)
    (case a_content_behind => k_is)
    (case l_content_behind => k_is)
    (case c_content_behind => k_is)
    (case k_content_behind => k_is)
    (case a_changes_back => k_is)
    (case l_changes_back => k_is)
    (case c_changes_back => k_is)
    (case k_changes_back => k_is)
    (case a_end_behind_one => k_is)
    (case l_end_behind_one => k_is)
    (case c_end_behind_one => k_is)
    (case k_end_behind_one => k_is)
    (case a_end_behind => k_is)
    (case l_end_behind => k_is)
    (case c_end_behind => k_is)
    (case k_end_behind => k_is)
    (case a_Stretch_init => k_is)
    (case i_Stretch_init => k_is)
    (case l_Stretch_init => k_is)
    (case c_Stretch_init => k_is)
    (case k_Stretch_init => k_is)
    (case a_Stretch_go_with => k_is)
    (case i_Stretch_go_with => k_is)
    (case l_Stretch_go_with => k_is)
    (case c_Stretch_go_with => k_is)
    (case k_Stretch_go_with => k_is)
    (case a_Stretch_state => k_is)
    (case i_Stretch_state => k_is)
    (case l_Stretch_state => k_is)
    (case c_Stretch_state => k_is)
    (case k_Stretch_state => k_is)
    (case a_Stretch_go_back => k_is)
    (case i_Stretch_go_back => k_is)
    (case l_Stretch_go_back => k_is)
    (case c_Stretch_go_back => k_is)
    (case k_Stretch_go_back => k_is)
    (case a_Step_init => k_is)
    (case i_Step_init => k_is)
    (case l_Step_init => k_is)
    (case c_Step_init => k_is)
    (case k_Step_init => k_is)
    (case a_Session_init => k_is)
    (case i_Session_init => k_is)
    (case l_Session_init => k_is)
    (case c_Session_init => k_is)
    (case k_Session_init => k_is)
    (case a_Session_start_anew => k_is)
    (case i_Session_start_anew => k_is)
    (case l_Session_start_anew => k_is)
    (case c_Session_start_anew => k_is)
    (case k_Session_start_anew => k_is)
    (case a_Session_begins => k_is)
    (case i_Session_begins => k_is)
    (case l_Session_begins => k_is)
    (case c_Session_begins => k_is)
    (case k_Session_begins => k_is)
    (case a_Session_mark => k_is)
    (case i_Session_mark => k_is)
    (case l_Session_mark => k_is)
    (case c_Session_mark => k_is)
    (case k_Session_mark => k_is)
    (case a_Session_lies_within => k_is)
    (case i_Session_lies_within => k_is)
    (case l_Session_lies_within => k_is)
    (case c_Session_lies_within => k_is)
    (case k_Session_lies_within => k_is)
    (case a_Session_has_room => k_is)
    (case i_Session_has_room => k_is)
    (case l_Session_has_room => k_is)
    (case c_Session_has_room => k_is)
    (case k_Session_has_room => k_is)
    (case a_Session_refusal_of => k_is)
    (case i_Session_refusal_of => k_is)
    (case l_Session_refusal_of => k_is)
    (case c_Session_refusal_of => k_is)
    (case k_Session_refusal_of => k_is)
    (case a_Session_set_to => k_is)
    (case i_Session_set_to => k_is)
    (case l_Session_set_to => k_is)
    (case c_Session_set_to => k_is)
    (case k_Session_set_to => k_is)
    (case a_Session_drop => k_is)
    (case i_Session_drop => k_is)
    (case l_Session_drop => k_is)
    (case c_Session_drop => k_is)
    (case k_Session_drop => k_is)
    (case a_Session_change => k_is)
    (case i_Session_change => k_is)
    (case l_Session_change => k_is)
    (case c_Session_change => k_is)
    (case k_Session_change => k_is)
    (case a_Session_do_step => k_is)
    (case i_Session_do_step => k_is)
    (case l_Session_do_step => k_is)
    (case c_Session_do_step => k_is)
    (case k_Session_do_step => k_is)
    (case a_Session_undo => k_is)
    (case i_Session_undo => k_is)
    (case l_Session_undo => k_is)
    (case c_Session_undo => k_is)
    (case k_Session_undo => k_is)
    (case a_Session_redo => k_is)
    (case i_Session_redo => k_is)
    (case l_Session_redo => k_is)
    (case c_Session_redo => k_is)
    (case k_Session_redo => k_is)
    (case a_are_bytes => k_is)
    (case l_are_bytes => k_is)
    (case c_are_bytes => k_is)
    (case k_are_bytes => k_is)
    (case a_is_gone => k_is)
    (case l_is_gone => k_is)
    (case c_is_gone => k_is)
    (case k_is_gone => k_is)
    (case a_standing => k_is)
    (case l_standing => k_is)
    (case c_standing => k_is)
    (case k_standing => k_is)
    (case a_height => k_is)
    (case l_height => k_is)
    (case c_height => k_is)
    (case k_height => k_is)
    (case a_bytes_shown => k_is)
    (case l_bytes_shown => k_is)
    (case c_bytes_shown => k_is)
    (case k_bytes_shown => k_is)
    (case a_ends_of => k_is)
    (case l_ends_of => k_is)
    (case c_ends_of => k_is)
    (case k_ends_of => k_is)
    (case a_covering => k_is)
    (case l_covering => k_is)
    (case c_covering => k_is)
    (case k_covering => k_is)
    (case a_tops_of => k_is)
    (case l_tops_of => k_is)
    (case c_tops_of => k_is)
    (case k_tops_of => k_is)
    (case a_runs_between => k_is)
    (case l_runs_between => k_is)
    (case c_runs_between => k_is)
    (case k_runs_between => k_is)
    (case a_first_behind => k_is)
    (case l_first_behind => k_is)
    (case c_first_behind => k_is)
    (case k_first_behind => k_is)
    (case a_every_one => k_is)
    (case l_every_one => k_is)
    (case c_every_one => k_is)
    (case k_every_one => k_is)
    (case a_answers => k_is)
    (case l_answers => k_is)
    (case c_answers => k_is)
    (case k_answers => k_is)
    (case a_has_row => k_is)
    (case l_has_row => k_is)
    (case c_has_row => k_is)
    (case k_has_row => k_is)
    (case a_answer_of => k_is)
    (case l_answer_of => k_is)
    (case c_answer_of => k_is)
    (case k_answer_of => k_is)
    (case a_seen_of => k_is)
    (case l_seen_of => k_is)
    (case c_seen_of => k_is)
    (case k_seen_of => k_is)
  case S =>
    intro K H xs a hO hwi hask hx
    cases hx with
    | cons h1 h2 =>
      cases h2
      cases h1 with
      | lst hs ha =>
        have e := L2.ints_dw a.1 _ ha
        subst e
        have q : ((Codec.inLen 0 30000 a.1 && a.1.all (Codec.inInt 0 4294967295)) && true) = true := hwi
        rw [Bool.and_eq_true, Bool.and_eq_true] at q
        have q2 : ∀ x ∈ a.1, 0 ≤ x := fun x hx => (Codec.inInt_iff.mp (List.all_eq_true.mp q.1.2 x hx)).1
        exact Mk.said hs q2 (Codec.inNat_iff.mp q.1.1).2 hask rfl (fun H' p hp => .lst (L2.SqL.of hp) (L2.dw_ints _))
