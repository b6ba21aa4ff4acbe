import PyProof.Rows.All
import Wide.All
import OpenK.AllK
import Wide.FinOn
import PyProof.EqAt
import PyProof.EqKinds
import PyProof.TupleCall
import KE.SortKeyHeap
import HandS.ForSpec
import HandS.ForMost
import HandS.SortKw
import HandS.Deep
import KE.KDictList
import PyProof.DictMoreH
import KE.DataMinMax
import HandS.More
import HandS.SortInts
import Open.SpecLaws
import KE.OsGo
import PySem.Challenge.RW_manyhandssheet_s01_answers
set_option Elab.async false
set_option linter.all false
set_option maxRecDepth 100000
set_option maxHeartbeats 4200000
namespace Mh
open Sq29

/-! ### the order of stamps -/
theorem before_iff {a b : Stamp} : a.before b = true ↔ a.count < b.count ∨ (a.count = b.count ∧ a.hand < b.hand) := by
  unfold Stamp.before
  simp
theorem before_irrefl (a : Stamp) : a.before a = false := by
  cases h : a.before a with
  | false => rfl
  | true => rw [before_iff] at h; omega
theorem before_trans {a b c : Stamp} (h : a.before b = true) (k : b.before c = true) : a.before c = true := by
  rw [before_iff] at *; omega
theorem before_asymm {a b : Stamp} (h : a.before b = true) : b.before a = false := by
  cases k : b.before a with
  | false => rfl
  | true => rw [before_iff] at *; omega
theorem stamp_ext {a b : Stamp} (h1 : a.count = b.count) (h2 : a.hand = b.hand) : a = b := by
  cases a; cases b; simp at *; exact ⟨h1, h2⟩
theorem before_total {a b : Stamp} (h : a ≠ b) : a.before b = true ∨ b.before a = true := by
  rw [before_iff, before_iff]
  have : ¬ (a.count = b.count ∧ a.hand = b.hand) := fun q => h (stamp_ext q.1 q.2)
  omega

/-- deeds in the order of their stamps -/
def Srt (l : List Deed) : Prop := l.Pairwise fun a b => a.stamp.before b.stamp = true
/-- the stamp that a deed's spot is at -/
def par (d : Deed) : Option Stamp := d.spot.bind fun s => s.of_
/-- a spot is at an earlier deed's -/
def Late (l : List Deed) : Prop := ∀ d ∈ l, ∀ s, par d = some s → s.count < d.stamp.count

theorem Srt.inj {l : List Deed} (h : Srt l) {a b : Deed} (ha : a ∈ l) (hb : b ∈ l) (e : a.stamp = b.stamp) : a = b := by
  induction l with
  | nil => cases ha
  | cons x l ih =>
    obtain ⟨h1, h2⟩ := List.pairwise_cons.mp h
    rcases List.mem_cons.mp ha with ea | ha'
    · rcases List.mem_cons.mp hb with eb | hb'
      · rw [ea, eb]
      · have := h1 b hb'; rw [← ea, e, before_irrefl] at this; cases this
    · rcases List.mem_cons.mp hb with eb | hb'
      · have := h1 a ha'; rw [← eb, e, before_irrefl] at this; cases this
      · exact ih h2 ha' hb'
theorem Srt.nodup {l : List Deed} (h : Srt l) : l.Nodup := by
  refine List.Pairwise.imp ?_ h
  intro a b q e
  rw [e, before_irrefl] at q; cases q

theorem mem_at {l : List Deed} {o : Option Stamp} {r : Bool} {d : Deed} : d ∈ at_ l o r ↔ d ∈ l ∧ d.spot = some ⟨o, r⟩ := by
  unfold at_
  rw [List.mem_filter]
  simp
theorem par_of_at {l : List Deed} {o : Option Stamp} {r : Bool} {d : Deed} (h : d ∈ at_ l o r) : par d = o := by
  unfold par
  rw [(mem_at.mp h).2]
  rfl

/-! ### fuel -/
def later (l : List Deed) (c : Nat) : Nat := (l.filter fun e => decide (c < e.stamp.count)).length
theorem later_le (l : List Deed) (c : Nat) : later l c ≤ l.length := List.length_filter_le _ _
theorem filter_len_lt {α : Type} {p q : α → Bool} {x : α} : ∀ {l : List α}, (∀ a, p a = true → q a = true) → x ∈ l → p x = false → q x = true → (l.filter p).length < (l.filter q).length
  | [], _, h, _, _ => by cases h
  | a :: l, hpq, h, hp, hq => by
    have mono : (l.filter p).length ≤ (l.filter q).length := by
      rw [← List.countP_eq_length_filter, ← List.countP_eq_length_filter]
      exact List.countP_mono_left fun a _ => hpq a
    rcases List.mem_cons.mp h with rfl | h
    · rw [List.filter_cons, List.filter_cons, hp, hq]
      simp
      omega
    · have ih := filter_len_lt hpq h hp hq
      rw [List.filter_cons, List.filter_cons]
      cases hpa : p a with
      | true => rw [hpq a hpa]; simpa using ih
      | false =>
        cases q a with
        | true => simp; omega
        | false => simpa using ih
theorem later_lt {l : List Deed} {c : Nat} {d : Deed} (h : d ∈ l) (k : c < d.stamp.count) : later l d.stamp.count < later l c := by
  unfold later
  refine filter_len_lt (x := d) ?_ h ?_ ?_
  · intro a ha
    have := of_decide_eq_true ha
    exact decide_eq_true (by omega)
  · exact decide_eq_false (by omega)
  · exact decide_eq_true k
theorem later_lt_len {l : List Deed} {d : Deed} (h : d ∈ l) : later l d.stamp.count < l.length := by
  have : later l d.stamp.count < (l.filter fun _ => true).length := by
    unfold later
    refine filter_len_lt (x := d) (fun _ _ => rfl) h ?_ rfl
    exact decide_eq_false (by omega)
  rwa [List.filter_eq_self.mpr fun _ _ => rfl] at this

theorem flatMap_congr {α β : Type} {f g : α → List β} : ∀ {l : List α}, (∀ x ∈ l, f x = g x) → l.flatMap f = l.flatMap g
  | [], _ => rfl
  | a :: l, h => by
    rw [List.flatMap_cons, List.flatMap_cons, h a List.mem_cons_self, flatMap_congr fun x hx => h x (List.mem_cons_of_mem _ hx)]

theorem child_late {l : List Deed} (L : Late l) {d : Deed} {r : Bool} {c : Deed} (h : c ∈ at_ l (some d.stamp) r) : d.stamp.count < c.stamp.count :=
  L c (mem_at.mp h).1 _ (par_of_at h)

theorem around_stable {l : List Deed} (L : Late l) : ∀ (n f g : Nat) (d : Deed), later l d.stamp.count ≤ n → n < f → n < g → around l f d = around l g d
  | n, 0, _, _, _, h, _ => by omega
  | n, _, 0, _, _, _, h => by omega
  | 0, f + 1, g + 1, d, hn, _, _ => by
    have no : ∀ r, at_ l (some d.stamp) r = [] := fun r => by
      cases e : at_ l (some d.stamp) r with
      | nil => rfl
      | cons c t =>
        have hc : c ∈ at_ l (some d.stamp) r := by rw [e]; exact List.mem_cons_self
        have := later_lt (mem_at.mp hc).1 (child_late L hc)
        omega
    unfold around
    rw [no, no]
    rfl
  | n + 1, f + 1, g + 1, d, hn, hf, hg => by
    have step : ∀ r, (at_ l (some d.stamp) r).flatMap (around l f) = (at_ l (some d.stamp) r).flatMap (around l g) := fun r =>
      flatMap_congr fun c hc => around_stable L n f g c (by have := later_lt (mem_at.mp hc).1 (child_late L hc); omega) (by omega) (by omega)
    unfold around
    rw [step, step]

/-- a spot with all that hangs on it -/
def full (l : List Deed) (d : Deed) : List Deed := around l (l.length + 1) d
def kids (l : List Deed) (o : Option Stamp) (r : Bool) : List Deed := (at_ l o r).flatMap (full l)
theorem spots_eq (l : List Deed) : spots l = kids l none true := rfl
theorem full_eq {l : List Deed} (L : Late l) (d : Deed) : full l d = kids l (some d.stamp) false ++ (d :: kids l (some d.stamp) true) := by
  have step : ∀ r, (at_ l (some d.stamp) r).flatMap (around l l.length) = kids l (some d.stamp) r := fun r =>
    flatMap_congr fun c hc => around_stable L (later l c.stamp.count) _ _ c (Nat.le_refl _) (later_lt_len (mem_at.mp hc).1) (Nat.lt_succ_of_lt (later_lt_len (mem_at.mp hc).1))
  unfold full
  rw [around, step, step]

/-- induction along the forest: the children are later -/
theorem forest_ind {l : List Deed} (L : Late l) {P : Deed → Prop} (h : ∀ d, (∀ r, ∀ c ∈ at_ l (some d.stamp) r, P c) → P d) : ∀ d, P d := by
  have go : ∀ (n : Nat) (d : Deed), later l d.stamp.count ≤ n → P d := by
    intro n
    induction n with
    | zero =>
      intro d hd
      refine h d fun r c hc => ?_
      have := later_lt (mem_at.mp hc).1 (child_late L hc)
      omega
    | succ n ih =>
      intro d hd
      refine h d fun r c hc => ih c ?_
      have := later_lt (mem_at.mp hc).1 (child_late L hc)
      omega
  exact fun d => go _ d (Nat.le_refl _)

theorem mem_kids {l : List Deed} {o : Option Stamp} {r : Bool} {e : Deed} : e ∈ kids l o r ↔ ∃ c ∈ at_ l o r, e ∈ full l c := List.mem_flatMap
theorem mem_full {l : List Deed} (L : Late l) {d e : Deed} : e ∈ full l d ↔ e = d ∨ ∃ r, ∃ c ∈ at_ l (some d.stamp) r, e ∈ full l c := by
  rw [full_eq L, List.mem_append, List.mem_cons, mem_kids, mem_kids]
  constructor
  · rintro (h | h | h)
    · exact .inr ⟨_, h⟩
    · exact .inl h
    · exact .inr ⟨_, h⟩
  · rintro (h | ⟨r, h⟩)
    · exact .inr (.inl h)
    · cases r with
      | false => exact .inl h
      | true => exact .inr (.inr h)
theorem self_full {l : List Deed} (L : Late l) (d : Deed) : d ∈ full l d := (mem_full L).mpr (.inl rfl)

theorem full_sub {l : List Deed} (L : Late l) : ∀ d, ∀ e ∈ full l d, e = d ∨ (e ∈ l ∧ d.stamp.count < e.stamp.count ∧ ∃ p ∈ full l d, par e = some p.stamp) := by
  refine forest_ind L fun d ih e he => ?_
  rcases (mem_full L).mp he with h | ⟨r, c, hc, h⟩
  · exact .inl h
  · have lt := child_late L hc
    rcases ih r c hc e h with rfl | ⟨h1, h2, p, h3, h4⟩
    · exact .inr ⟨(mem_at.mp hc).1, lt, d, self_full L d, par_of_at hc⟩
    · exact .inr ⟨h1, by omega, p, (mem_full L).mpr (.inr ⟨r, c, hc, h3⟩), h4⟩
theorem full_late {l : List Deed} (L : Late l) {d e : Deed} (h : e ∈ full l d) : d.stamp.count ≤ e.stamp.count := by
  rcases full_sub L d e h with rfl | ⟨_, h, _⟩
  · exact Nat.le_refl _
  · omega
theorem full_mem {l : List Deed} (L : Late l) {d e : Deed} (hd : d ∈ l) (h : e ∈ full l d) : e ∈ l := by
  rcases full_sub L d e h with rfl | ⟨h, _⟩
  · exact hd
  · exact h

/-- two spots at one place or at one spot have nothing in common -/
theorem full_apart {l : List Deed} (S : Srt l) (L : Late l) {c d : Deed} (hc : c ∈ l) (hd : d ∈ l) (hp : par c = par d) (ne : c ≠ d) : ∀ (n : Nat) (e : Deed), e.stamp.count ≤ n → e ∈ full l c → e ∈ full l d → False := by
  intro n
  induction n with
  | zero =>
    intro e hn h1 h2
    rcases full_sub L c e h1 with rfl | ⟨_, k, _⟩
    · rcases full_sub L d e h2 with rfl | ⟨_, k, _⟩
      · exact ne rfl
      · omega
    · omega
  | succ n ih =>
    intro e hn h1 h2
    rcases full_sub L c e h1 with rfl | ⟨he, k1, p, hp1, ep⟩
    · rcases full_sub L d e h2 with rfl | ⟨_, k, q, hq, eq⟩
      · exact ne rfl
      · have h3 := L d hd _ (hp.symm.trans eq)
        have h4 := full_late L hq
        omega
    · rcases full_sub L d e h2 with rfl | ⟨_, k2, q, hq, eq⟩
      · have h3 := L c hc _ (hp.trans ep)
        have h4 := full_late L hp1
        omega
      · rw [ep] at eq
        have est : p.stamp = q.stamp := Option.some.inj eq
        have e1 : p = q := S.inj (full_mem L hc hp1) (full_mem L hd hq) est
        subst e1
        have := L e he _ ep
        exact ih p (by omega) hp1 hq

theorem nodup_flat {α β : Type} {f : α → List β} : ∀ {l : List α}, l.Nodup → (∀ a ∈ l, (f a).Nodup) → (∀ a ∈ l, ∀ b ∈ l, a ≠ b → ∀ x, x ∈ f a → x ∈ f b → False) → (l.flatMap f).Nodup
  | [], _, _, _ => List.nodup_nil
  | a :: l, nd, h1, h2 => by
    rw [List.flatMap_cons, List.nodup_append]
    obtain ⟨n1, n2⟩ := List.nodup_cons.mp nd
    refine ⟨h1 a List.mem_cons_self, nodup_flat n2 (fun b hb => h1 b (List.mem_cons_of_mem _ hb)) (fun b hb c hc => h2 b (List.mem_cons_of_mem _ hb) c (List.mem_cons_of_mem _ hc)), ?_⟩
    intro x hx y hy exy
    subst exy
    obtain ⟨b, hb, hxb⟩ := List.mem_flatMap.mp hy
    exact h2 a List.mem_cons_self b (List.mem_cons_of_mem _ hb) (fun e => n1 (e ▸ hb)) x hx hxb

theorem at_nodup {l : List Deed} (S : Srt l) (o : Option Stamp) (r : Bool) : (at_ l o r).Nodup := S.nodup.sublist List.filter_sublist
theorem kids_nodup {l : List Deed} (S : Srt l) (L : Late l) {o : Option Stamp} {r : Bool} (h : ∀ c ∈ at_ l o r, (full l c).Nodup) : (kids l o r).Nodup :=
  nodup_flat (at_nodup S o r) h fun _ ha _ hb ne x h1 h2 => full_apart S L (mem_at.mp ha).1 (mem_at.mp hb).1 ((par_of_at ha).trans (par_of_at hb).symm) ne _ x (Nat.le_refl _) h1 h2
theorem full_nodup {l : List Deed} (S : Srt l) (L : Late l) : ∀ d, (full l d).Nodup := by
  refine forest_ind L fun d ih => ?_
  rw [full_eq L, List.nodup_append]
  have late : ∀ r, ∀ e ∈ kids l (some d.stamp) r, d.stamp.count < e.stamp.count := fun r e he => by
    obtain ⟨c, hc, h⟩ := mem_kids.mp he
    have := child_late L hc
    have := full_late L h
    omega
  refine ⟨kids_nodup S L (ih false), List.nodup_cons.mpr ⟨fun h => ?_, kids_nodup S L (ih true)⟩, ?_⟩
  · have := late _ _ h; omega
  · intro x hx y hy e
    subst e
    rcases List.mem_cons.mp hy with rfl | hy
    · have := late _ _ hx; omega
    · obtain ⟨a, ha, h1⟩ := mem_kids.mp hx
      obtain ⟨b, hb, h2⟩ := mem_kids.mp hy
      refine full_apart S L (mem_at.mp ha).1 (mem_at.mp hb).1 ((par_of_at ha).trans (par_of_at hb).symm) ?_ _ x (Nat.le_refl _) h1 h2
      intro q
      subst q
      have e1 := (mem_at.mp ha).2
      have e2 := (mem_at.mp hb).2
      rw [e1] at e2
      cases e2
theorem spots_nodup {l : List Deed} (S : Srt l) (L : Late l) : (spots l).Nodup := kids_nodup S L fun c _ => full_nodup S L c
theorem spots_sub {l : List Deed} (L : Late l) {d : Deed} (h : d ∈ spots l) : d ∈ l := by
  obtain ⟨c, hc, h⟩ := mem_kids.mp h
  exact full_mem L (mem_at.mp hc).1 h
/-- a spot that is told makes its deed one that makes a spot -/
theorem spots_isSome {l : List Deed} (L : Late l) {d : Deed} (h : d ∈ spots l) : d.spot.isSome = true := by
  obtain ⟨c, hc, h⟩ := mem_kids.mp h
  rcases full_sub L c d h with rfl | ⟨_, _, p, _, e⟩
  · rw [(mem_at.mp hc).2]; rfl
  · unfold par at e
    cases q : d.spot with
    | none => rw [q] at e; cases e
    | some s => rfl

/-- what hangs on a spot lies together -/
theorem full_parts {l : List Deed} (L : Late l) : ∀ (d e : Deed), e ∈ full l d → ∃ A B, full l d = A ++ (full l e ++ B) := by
  refine forest_ind L fun d ih e he => ?_
  rcases (mem_full L).mp he with rfl | ⟨r, c, hc, h⟩
  · exact ⟨[], [], by simp⟩
  · obtain ⟨A, B, q⟩ := ih r c hc e h
    obtain ⟨l1, l2, q2⟩ := List.append_of_mem hc
    have hk : kids l (some d.stamp) r = (l1.flatMap (full l) ++ A) ++ (full l e ++ (B ++ l2.flatMap (full l))) := by
      unfold kids
      rw [q2, List.flatMap_append, List.flatMap_cons, q]
      simp only [List.append_assoc]
    rw [full_eq L]
    cases r with
    | false => exact ⟨l1.flatMap (full l) ++ A, B ++ l2.flatMap (full l) ++ (d :: kids l (some d.stamp) true), by rw [hk]; simp only [List.append_assoc]⟩
    | true => exact ⟨kids l (some d.stamp) false ++ (d :: (l1.flatMap (full l) ++ A)), B ++ l2.flatMap (full l), by rw [hk]; simp only [List.append_assoc, List.cons_append]⟩
theorem spots_parts {l : List Deed} (L : Late l) {e : Deed} (he : e ∈ spots l) : ∃ A B, spots l = A ++ (full l e ++ B) := by
  obtain ⟨c, hc, h⟩ := mem_kids.mp he
  obtain ⟨A, B, q⟩ := full_parts L c e h
  obtain ⟨l1, l2, q2⟩ := List.append_of_mem hc
  refine ⟨l1.flatMap (full l) ++ A, B ++ l2.flatMap (full l), ?_⟩
  rw [spots_eq]
  unfold kids
  rw [q2, List.flatMap_append, List.flatMap_cons, q]
  simp only [List.append_assoc]
/-- behind a spot with something to its right there is a next one -/
theorem spots_next {l : List Deed} (S : Srt l) (L : Late l) {e : Deed} (he : e ∈ spots l) (hr : at_ l (some e.stamp) true ≠ []) : ∃ A x B, spots l = A ++ e :: x :: B ∧ e ∉ A := by
  obtain ⟨A, B, q⟩ := spots_parts L he
  have nd := spots_nodup S L
  rw [full_eq L] at q
  cases h : kids l (some e.stamp) true with
  | nil =>
    exfalso
    cases h2 : at_ l (some e.stamp) true with
    | nil => exact hr h2
    | cons c t =>
      have : c ∈ kids l (some e.stamp) true := mem_kids.mpr ⟨c, by rw [h2]; exact List.mem_cons_self, self_full L c⟩
      rw [h] at this
      cases this
  | cons x t =>
    rw [h] at q
    refine ⟨A ++ kids l (some e.stamp) false, x, t ++ B, by rw [q]; simp only [List.append_assoc, List.cons_append], fun hA => ?_⟩
    have e2 : spots l = (A ++ kids l (some e.stamp) false) ++ (e :: x :: (t ++ B)) := by rw [q]; simp only [List.append_assoc, List.cons_append]
    rw [e2, List.nodup_append] at nd
    exact nd.2.2 e hA e List.mem_cons_self rfl
theorem spots_first {l : List Deed} (L : Late l) (hr : at_ l none true ≠ []) : ∃ x B, spots l = x :: B := by
  cases h : spots l with
  | cons x B => exact ⟨x, B, rfl⟩
  | nil =>
    exfalso
    cases h2 : at_ l none true with
    | nil => exact hr h2
    | cons c t =>
      have : c ∈ spots l := mem_kids.mpr ⟨c, by rw [h2]; exact List.mem_cons_self, self_full L c⟩
      rw [h] at this
      cases this
end Mh

namespace Mh
open Sq29

/-! ### the sorted list is the one -/
theorem Srt.unique {l m : List Deed} (S : Srt l) (T : Srt m) (p : l.Perm m) : l = m := by
  unfold Srt at S T
  refine List.Perm.eq_of_pairwise (le := fun a b : Deed => a.stamp.before b.stamp = true) ?_ S T p
  intro a b _ _ h k
  rw [before_asymm h] at k
  cases k
def leUp (a b : Deed) : Bool := decide ((a.stamp.count : Int) < b.stamp.count ∨ ((a.stamp.count : Int) = b.stamp.count ∧ (a.stamp.hand : Int) ≤ b.stamp.hand))
def leDown (a b : Deed) : Bool := leUp b a
theorem leUp_iff {a b : Deed} : leUp a b = true ↔ a.stamp.count < b.stamp.count ∨ (a.stamp.count = b.stamp.count ∧ a.stamp.hand ≤ b.stamp.hand) := by
  unfold leUp
  rw [decide_eq_true_iff]
  omega
theorem leUp_trans (a b c : Deed) (h : leUp a b = true) (k : leUp b c = true) : leUp a c = true := by
  rw [leUp_iff] at *; omega
theorem leUp_total (a b : Deed) : (leUp a b || leUp b a) = true := by
  rw [Bool.or_eq_true, leUp_iff, leUp_iff]; omega
theorem leUp_strict {l : List Deed} (hi : ∀ a ∈ l, ∀ b ∈ l, a.stamp = b.stamp → a = b) (nd : l.Nodup) (h : l.Pairwise fun a b => leUp a b = true) : Srt l := by
  induction l with
  | nil => exact List.Pairwise.nil
  | cons x l ih =>
    obtain ⟨h1, h2⟩ := List.pairwise_cons.mp h
    obtain ⟨n1, n2⟩ := List.nodup_cons.mp nd
    refine List.pairwise_cons.mpr ⟨fun b hb => ?_, ih (fun a ha b hb => hi a (List.mem_cons_of_mem _ ha) b (List.mem_cons_of_mem _ hb)) n2 h2⟩
    have q := h1 b hb
    rw [leUp_iff] at q
    have ne : ¬ (x.stamp.count = b.stamp.count ∧ x.stamp.hand = b.stamp.hand) := fun z => by
      have := hi x List.mem_cons_self b (List.mem_cons_of_mem _ hb) (stamp_ext z.1 z.2)
      rw [this] at n1
      exact n1 hb
    rw [before_iff]
    omega
theorem Srt.up {l ds : List Deed} (S : Srt l) (p : ds.Perm l) : ds.mergeSort leUp = l := by
  have q : (ds.mergeSort leUp).Perm l := (List.mergeSort_perm ds leUp).trans p
  refine Srt.unique (leUp_strict (fun a ha b hb => S.inj (q.mem_iff.mp ha) (q.mem_iff.mp hb)) (q.nodup_iff.mpr S.nodup) (List.pairwise_mergeSort leUp_trans leUp_total ds)) S q
theorem Srt.down {l ds : List Deed} (S : Srt l) (p : ds.Perm l) : ds.mergeSort leDown = l.reverse := by
  have q : (ds.mergeSort leDown).Perm l := (List.mergeSort_perm ds leDown).trans p
  have w : (ds.mergeSort leDown).Pairwise fun a b => leDown a b = true := List.pairwise_mergeSort (fun a b c h k => leUp_trans c b a k h) (fun a b => leUp_total b a) ds
  have q' : (ds.mergeSort leDown).reverse.Perm l := (List.reverse_perm _).trans q
  have e : (ds.mergeSort leDown).reverse = l := by
    refine Srt.unique (leUp_strict (fun a ha b hb => S.inj (q'.mem_iff.mp ha) (q'.mem_iff.mp hb)) (q'.nodup_iff.mpr S.nodup) ?_) S q'
    rw [List.pairwise_reverse]
    exact w
  rw [← e, List.reverse_reverse]

/-! ### learning -/
theorem mem_learn {d e : Deed} : ∀ {l : List Deed}, e ∈ learn d l → e = d ∨ e ∈ l
  | [], h => .inl (by simpa [learn] using h)
  | x :: l, h => by
    unfold learn at h
    split at h
    · rcases List.mem_cons.mp h with h | h
      · exact .inl h
      · exact .inr h
    · split at h
      · exact .inr h
      · rcases List.mem_cons.mp h with h | h
        · exact .inr (by rw [h]; exact List.mem_cons_self)
        · rcases mem_learn h with h | h
          · exact .inl h
          · exact .inr (List.mem_cons_of_mem _ h)
theorem learn_new {d : Deed} : ∀ {l : List Deed}, (∀ e ∈ l, e.stamp ≠ d.stamp) → (learn d l).Perm (d :: l)
  | [], _ => List.Perm.refl _
  | x :: l, h => by
    unfold learn
    split
    · exact List.Perm.refl _
    · rw [if_neg fun e => h x List.mem_cons_self e.symm]
      exact ((learn_new fun e he => h e (List.mem_cons_of_mem _ he)).cons x).trans (List.Perm.swap d x l)
theorem learn_srt {d : Deed} : ∀ {l : List Deed}, Srt l → Srt (learn d l)
  | [], _ => List.pairwise_singleton _ _
  | x :: l, h => by
    obtain ⟨h1, h2⟩ := List.pairwise_cons.mp h
    unfold learn
    split
    · rename_i q
      refine List.pairwise_cons.mpr ⟨fun b hb => ?_, h⟩
      rcases List.mem_cons.mp hb with rfl | hb
      · exact q
      · exact before_trans q (h1 b hb)
    · rename_i q
      split
      · exact h
      · rename_i q2
        refine List.pairwise_cons.mpr ⟨fun b hb => ?_, learn_srt h2⟩
        rcases mem_learn hb with rfl | hb
        · rcases before_total q2 with k | k
          · exact absurd k q
          · exact k
        · exact h1 b hb
theorem learn_old {d : Deed} : ∀ {l : List Deed}, Srt l → d ∈ l → learn d l = l
  | [], _, h => by cases h
  | x :: l, S, h => by
    obtain ⟨h1, h2⟩ := List.pairwise_cons.mp S
    unfold learn
    rcases List.mem_cons.mp h with e | h
    · rw [e, before_irrefl]
      simp
    · have q := h1 d h
      rw [before_asymm q, learn_old h2 h, if_neg Bool.false_ne_true, if_neg]
      intro e
      rw [e, before_irrefl] at q
      cases q

/-! ### the walk over a pile -/
/-- what a pile's item still stands for -/
def rest1 (l : List Deed) (p : Deed × Bool) : List Deed := if p.2 = true then [p.1] else full l p.1
/-- ahead: the pile, its top last; done: whose lefts were laid; out: what was told -/
def WalkI (l ahead done out : List Deed) : Prop := ∃ st : List (Deed × Bool), ahead = (st.map (·.1)).reverse ∧ spots l = out ++ st.flatMap (rest1 l) ∧
  (∀ d, d ∈ done ↔ d ∈ out ∨ (d, true) ∈ st) ∧ done.Nodup
theorem walk_start (l : List Deed) : WalkI l (at_ l none true).reverse [] [] := by
  refine ⟨(at_ l none true).map fun d => (d, false), ?_, ?_, fun d => ?_, List.nodup_nil⟩
  · rw [List.map_map]
    show _ = (List.map id _).reverse
    rw [List.map_id]
  · rw [List.nil_append, List.flatMap_map]
    rfl
  · constructor
    · intro h; cases h
    · rintro (h | h)
      · cases h
      · obtain ⟨_, _, e⟩ := List.mem_map.mp h
        cases e
theorem walk_end {l done out : List Deed} (h : WalkI l [] done out) : out = spots l := by
  obtain ⟨st, e, q, _⟩ := h
  have : st = [] := by
    have e' := congrArg List.length e
    simp at e'
    cases st with
    | nil => rfl
    | cons _ _ => simp at e'
  rw [this] at q
  simpa using q.symm
theorem rest1_self {l : List Deed} (L : Late l) (p : Deed × Bool) : p.1 ∈ rest1 l p := by
  unfold rest1
  split
  · exact List.mem_singleton.mpr rfl
  · exact self_full L _
theorem walk_top {l A done out : List Deed} {d : Deed} (S : Srt l) (L : Late l) (h : WalkI l (A ++ [d]) done out) :
    ∃ (b : Bool) (st : List (Deed × Bool)), A = (st.map (·.1)).reverse ∧ spots l = out ++ (rest1 l (d, b) ++ st.flatMap (rest1 l)) ∧ (∀ e, e ∈ done ↔ e ∈ out ∨ (e, true) ∈ (d, b) :: st) ∧ done.Nodup ∧ (d ∈ done ↔ b = true) := by
  obtain ⟨st, e, q, hd, nd⟩ := h
  cases st with
  | nil => simp at e
  | cons p st =>
    obtain ⟨x, b⟩ := p
    simp at e
    obtain ⟨e1, e2⟩ := e
    subst e2
    refine ⟨b, st, e1, by rw [q]; simp [List.flatMap_cons], hd, nd, ?_⟩
    rw [hd]
    have n := spots_nodup S L
    rw [q, List.flatMap_cons, List.nodup_append] at n
    constructor
    · rintro (h | h)
      · exact (n.2.2 d h d (List.mem_append_left _ (rest1_self L (d, b))) rfl).elim
      · rcases List.mem_cons.mp h with h | h
        · exact (congrArg Prod.snd h).symm
        · have n2 := (List.nodup_append.mp n.2.1).2.2
          exact (n2 d (rest1_self L (d, b)) d (List.mem_flatMap.mpr ⟨(d, true), h, List.mem_singleton.mpr rfl⟩) rfl).elim
    · rintro rfl
      exact .inr List.mem_cons_self
theorem walk_told {l A done out : List Deed} {d : Deed} (S : Srt l) (L : Late l) (h : WalkI l (A ++ [d]) done out) (hd : d ∈ done) : WalkI l A done (out ++ [d]) := by
  obtain ⟨b, st, e1, q, k, nd, hb⟩ := walk_top S L h
  have hb := hb.mp hd
  subst hb
  refine ⟨st, e1, by rw [q]; simp [rest1], fun e => ?_, nd⟩
  rw [k, List.mem_append, List.mem_singleton, List.mem_cons]
  constructor
  · rintro (h | h | h)
    · exact .inl (.inl h)
    · exact .inl (.inr (congrArg Prod.fst h))
    · exact .inr h
  · rintro ((h | h) | h)
    · exact .inl h
    · exact .inr (.inl (by rw [h]))
    · exact .inr (.inr h)
theorem walk_laid {l A done out : List Deed} {d : Deed} (S : Srt l) (L : Late l) (h : WalkI l (A ++ [d]) done out) (hd : d ∉ done) :
    WalkI l (((A ++ (at_ l (some d.stamp) true).reverse) ++ [d]) ++ (at_ l (some d.stamp) false).reverse) (done ++ [d]) out := by
  obtain ⟨b, st, e1, q, k, nd, hb⟩ := walk_top S L h
  have hb : b = false := by
    cases b with
    | false => rfl
    | true => exact absurd (hb.mpr rfl) hd
  subst hb
  refine ⟨(at_ l (some d.stamp) false).map (fun c => (c, false)) ++ ((d, true) :: ((at_ l (some d.stamp) true).map (fun c => (c, false)) ++ st)), ?_, ?_, fun e => ?_, ?_⟩
  · have mm : ∀ m : List Deed, (m.map fun c => (c, false)).map (·.1) = m := fun m => by
      rw [List.map_map]
      show List.map id m = m
      exact List.map_id m
    simp only [List.map_append, List.map_cons, mm, List.reverse_append, List.reverse_cons, e1]
  · have fm : ∀ m : List Deed, (m.map fun c => (c, false)).flatMap (rest1 l) = m.flatMap (full l) := fun m => by
      rw [List.flatMap_map]
      rfl
    rw [q]
    simp only [List.flatMap_append, List.flatMap_cons, fm]
    have e3 : rest1 l (d, false) = kids l (some d.stamp) false ++ (d :: kids l (some d.stamp) true) := (if_neg Bool.false_ne_true).trans (full_eq L d)
    have e4 : rest1 l (d, true) = [d] := if_pos rfl
    rw [e3, e4]
    unfold kids
    simp only [List.append_assoc, List.cons_append, List.nil_append]
  · rw [List.mem_append, List.mem_singleton, k]
    simp only [List.mem_append, List.mem_cons, List.mem_map]
    constructor
    · rintro ((h | h | h) | h)
      · exact .inl h
      · cases h
      · exact .inr (.inr (.inr (.inr h)))
      · exact .inr (.inr (.inl (by rw [h])))
    · rintro (h | ⟨_, _, h⟩ | h | ⟨_, _, h⟩ | h)
      · exact .inl (.inl h)
      · cases h
      · exact .inr (congrArg Prod.fst h)
      · cases h
      · exact .inl (.inr (.inr h))
  · rw [List.nodup_append]
    refine ⟨nd, List.nodup_cons.mpr ⟨by simp, List.nodup_nil⟩, fun x hx y hy e => ?_⟩
    have : y = d := by simpa using hy
    subst this
    subst e
    exact hd hx
/-- how many turns are left at most -/
theorem walk_bound {l ahead done out : List Deed} (L : Late l) (h : WalkI l ahead done out) : out.length + done.length ≤ 2 * (spots l).length ∧ out.length ≤ (spots l).length := by
  obtain ⟨st, e, q, k, nd⟩ := h
  have h1 : out.length ≤ (spots l).length := by rw [q, List.length_append]; omega
  have h2 : done.length ≤ (spots l).length := by
    refine nd.length_le_of_subset fun x hx => ?_
    rw [q, List.mem_append]
    rcases (k x).mp hx with h | h
    · exact .inl h
    · exact .inr (List.mem_flatMap.mpr ⟨_, h, rest1_self L _⟩)
  omega
theorem walk_mem {l ahead done out : List Deed} (L : Late l) (h : WalkI l ahead done out) : (∀ d ∈ ahead, d ∈ spots l) ∧ (∀ d ∈ out, d ∈ spots l) ∧ ∀ d ∈ done, d ∈ spots l := by
  obtain ⟨st, e, q, k, nd⟩ := h
  have h2 : ∀ d ∈ out, d ∈ spots l := fun d hd => by rw [q]; exact List.mem_append_left _ hd
  have h1 : ∀ p ∈ st, p.1 ∈ spots l := fun p hp => by
    rw [q]
    exact List.mem_append_right _ (List.mem_flatMap.mpr ⟨p, hp, rest1_self L p⟩)
  refine ⟨fun d hd => ?_, h2, fun d hd => ?_⟩
  · rw [e, List.mem_reverse] at hd
    obtain ⟨p, hp, rfl⟩ := List.mem_map.mp hd
    exact h1 p hp
  · rcases (k d).mp hd with h | h
    · exact h2 d h
    · exact h1 _ h
/-- the pile's size -/
theorem walk_size {l ahead done out : List Deed} (S : Srt l) (L : Late l) (h : WalkI l ahead done out) : ahead.length ≤ l.length := by
  have hm := (walk_mem L h).1
  obtain ⟨st, e, q, k, nd⟩ := h
  have n := spots_nodup S L
  rw [q, List.nodup_append] at n
  have : ∀ st : List (Deed × Bool), (st.flatMap (rest1 l)).Nodup → (st.map (·.1)).Nodup := by
    intro st
    induction st with
    | nil => intro _; exact List.nodup_nil
    | cons p st ih =>
      intro h
      rw [List.flatMap_cons, List.nodup_append] at h
      rw [List.map_cons]
      refine List.nodup_cons.mpr ⟨fun hp => ?_, ih h.2.1⟩
      obtain ⟨p', hp', e⟩ := List.mem_map.mp hp
      refine h.2.2 p.1 (rest1_self L p) p.1 (List.mem_flatMap.mpr ⟨p', hp', ?_⟩) rfl
      rw [← e]
      exact rest1_self L p'
  have nd2 := this st n.2.1
  have : (st.map (·.1)).length ≤ l.length := nd2.length_le_of_subset fun x hx => spots_sub L (hm x (by rw [e]; exact List.mem_reverse.mpr hx))
  rw [e, List.length_reverse]
  exact this
end Mh

namespace Mh
open Sq29

/-! ### the row -/
/-- those that are in, by their stamps -/
def ins_ (l : List Deed) : List Deed := l.filter (inOf (spots l))
theorem mem_ins {l : List Deed} {d : Deed} : d ∈ ins_ l ↔ d ∈ l ∧ (d.spot = none ∨ d ∈ spots l) := by
  unfold ins_ inOf
  rw [List.mem_filter]
  simp
theorem ins_srt {l : List Deed} (S : Srt l) : Srt (ins_ l) := S.sublist List.filter_sublist
theorem ins_perm {l ds : List Deed} (S : Srt l) (L : Late l) (p : ds.Perm l) : (spots l ++ ds.filter fun d => d.spot.isNone).Perm (ins_ l) := by
  have nd : (spots l ++ ds.filter fun d => d.spot.isNone).Nodup := by
    rw [List.nodup_append]
    refine ⟨spots_nodup S L, (p.nodup_iff.mpr S.nodup).sublist List.filter_sublist, ?_⟩
    intro x hx y hy e
    subst e
    have h1 := spots_isSome L hx
    have h2 := (List.mem_filter.mp hy).2
    cases q : x.spot with
    | none => rw [q] at h1; cases h1
    | some s => rw [q] at h2; cases h2
  refine (List.perm_ext_iff_of_nodup nd (ins_srt S).nodup).mpr fun d => ?_
  rw [mem_ins, List.mem_append, List.mem_filter, p.mem_iff]
  constructor
  · rintro (h | ⟨h, k⟩)
    · exact ⟨spots_sub L h, .inr h⟩
    · exact ⟨h, .inl (by simpa using k)⟩
  · rintro ⟨h, k | k⟩
    · exact .inr ⟨h, by simpa using k⟩
    · exact .inl k
/-- the last deed of a thing, told by a fold over deeds: what a dict holds -/
def lastId (l : List Deed) (x : Nat) : Option Deed := (l.filter fun d => d.thing == x).getLast?
theorem lastOf_eq (l : List Deed) (x : Nat) : lastOf (spots l) l x = lastId (ins_ l) x := by
  unfold lastOf lastId ins_
  rw [List.filter_filter]
theorem lastId_snoc (l : List Deed) (d : Deed) (x : Nat) : lastId (l ++ [d]) x = if d.thing = x then some d else lastId l x := by
  unfold lastId
  rw [List.filter_append]
  by_cases h : d.thing = x
  · have : (d.thing == x) = true := by simpa using h
    rw [if_pos h, List.filter_cons, this]
    simp
  · have : (d.thing == x) = false := by simpa using h
    rw [if_neg h, List.filter_cons, this]
    simp
theorem row_eq (l : List Deed) : row l = (spots l).filter fun d => lastId (ins_ l) d.thing == some d := by
  unfold row
  simp only [lastOf_eq]
theorem row_sub {l : List Deed} {d : Deed} (h : d ∈ row l) : d ∈ spots l := by
  rw [row_eq] at h
  exact (List.mem_filter.mp h).1
/-- a told spot's thing has a last deed -/
theorem lastId_some {l : List Deed} {d : Deed} (h : d ∈ l) : ∃ e, lastId l d.thing = some e ∧ e ∈ l ∧ e.thing = d.thing := by
  unfold lastId
  cases q : (l.filter fun e => e.thing == d.thing).getLast? with
  | none =>
    rw [List.getLast?_eq_none_iff] at q
    have : d ∈ l.filter fun e => e.thing == d.thing := List.mem_filter.mpr ⟨h, by simp⟩
    rw [q] at this
    cases this
  | some e =>
    have := List.mem_filter.mp (List.mem_of_getLast? q)
    exact ⟨e, rfl, this.1, by simpa using this.2⟩
theorem spots_ins {l : List Deed} (L : Late l) {d : Deed} (h : d ∈ spots l) : d ∈ ins_ l := mem_ins.mpr ⟨spots_sub L h, .inr h⟩

/-! ### right behind -/
theorem at_isEmpty {l : List Deed} {o : Option Stamp} : (at_ l o true).isEmpty = true ↔ ∀ d ∈ l, d.spot ≠ some ⟨o, true⟩ := by
  rw [List.isEmpty_iff]
  constructor
  · intro h d hd e
    have : d ∈ at_ l o true := mem_at.mpr ⟨hd, e⟩
    rw [h] at this
    cases this
  · intro h
    cases q : at_ l o true with
    | nil => rfl
    | cons c t =>
      have : c ∈ at_ l o true := by rw [q]; exact List.mem_cons_self
      have := mem_at.mp this
      exact absurd this.2 (h c this.1)
theorem behind_free {l : List Deed} {o : Option Stamp} (h : ∀ d ∈ l, d.spot ≠ some ⟨o, true⟩) : behind l o = ⟨o, true⟩ := by
  unfold behind
  rw [if_pos (at_isEmpty.mpr h)]
theorem behind_none {l : List Deed} (h : ¬ ∀ d ∈ l, d.spot ≠ some ⟨none, true⟩) {x : Deed} {B : List Deed} (e : spots l = x :: B) : behind l none = ⟨some x.stamp, false⟩ := by
  unfold behind
  rw [if_neg fun q => h (at_isEmpty.mp q)]
  simp only [e]
theorem dropWhile_at {s : Stamp} {e : Deed} {B : List Deed} (he : e.stamp = s) : ∀ {A : List Deed}, (∀ d ∈ A, d.stamp ≠ s) → (A ++ e :: B).dropWhile (fun d => d.stamp != s) = e :: B
  | [], _ => by
    have : (e.stamp != s) = false := by simp [he]
    rw [List.nil_append, List.dropWhile_cons, this]
    rfl
  | a :: A, h => by
    have : (a.stamp != s) = true := by simpa using h a List.mem_cons_self
    rw [List.cons_append, List.dropWhile_cons, this]
    exact dropWhile_at he fun d hd => h d (List.mem_cons_of_mem _ hd)
theorem behind_some {l : List Deed} (S : Srt l) (L : Late l) {e x : Deed} {A B : List Deed} (h : ¬ ∀ d ∈ l, d.spot ≠ some ⟨some e.stamp, true⟩) (q : spots l = A ++ e :: x :: B) : behind l (some e.stamp) = ⟨some x.stamp, false⟩ := by
  unfold behind
  rw [if_neg fun q => h (at_isEmpty.mp q)]
  have nd := spots_nodup S L
  rw [q, List.nodup_append] at nd
  have hA : ∀ d ∈ A, d.stamp ≠ e.stamp := fun d hd es => by
    have h1 : d ∈ spots l := by rw [q]; exact List.mem_append_left _ hd
    have h2 : e ∈ spots l := by rw [q]; exact List.mem_append_right _ List.mem_cons_self
    have := S.inj (spots_sub L h1) (spots_sub L h2) es
    subst this
    exact nd.2.2 d hd d List.mem_cons_self rfl
  simp only [q, dropWhile_at rfl hA]
  rfl
/-- what lies behind a spot: where its number stands in the row of numbers with the beginning ahead -/
theorem behind_at {l : List Deed} (S : Srt l) (L : Late l) {o : Option Stamp} (ho : ∀ s, o = some s → ∃ e ∈ spots l, e.stamp = s) (h : ¬ ∀ d ∈ l, d.spot ≠ some ⟨o, true⟩) :
    ∃ (j : Nat) (x : Deed), (spots l)[j]? = some x ∧ behind l o = ⟨some x.stamp, false⟩ ∧ ((o = none ∧ j = 0) ∨ ∃ i e, j = i + 1 ∧ (spots l)[i]? = some e ∧ o = some e.stamp) := by
  have hne : at_ l o true ≠ [] := fun q => h (at_isEmpty.mp (by rw [q]; rfl))
  cases o with
  | none =>
    obtain ⟨x, B, e⟩ := spots_first L hne
    exact ⟨0, x, by rw [e]; rfl, behind_none h e, .inl ⟨rfl, rfl⟩⟩
  | some s =>
    obtain ⟨e, he, rfl⟩ := ho s rfl
    obtain ⟨A, x, B, q, _⟩ := spots_next S L he hne
    refine ⟨A.length + 1, x, ?_, behind_some S L h q, .inr ⟨A.length, e, rfl, ?_, rfl⟩⟩
    · rw [q, List.getElem?_append_right (by omega)]
      simp
    · rw [q, List.getElem?_append_right (by omega)]
      simp
end Mh

namespace Mh
open Sq29

/-! ### a house that has come about by calls -/
structure HInv (h : House) : Prop where
  few : h.all.length ≤ 120
  ids : ∀ (i : Nat) (d : Deed), h.all[i]? = some d → d.id = i
  inj : ∀ d ∈ h.all, ∀ e ∈ h.all, d.stamp = e.stamp → d = e
  par : ∀ d ∈ h.all, ∀ s, par d = some s → (∃ e ∈ h.all, e.stamp = s) ∧ s.count < d.stamp.count
  srt : ∀ (k : Nat) (l : List Deed), h.desks[k]? = some l → Srt l
  sub : ∀ (k : Nat) (l : List Deed), h.desks[k]? = some l → ∀ d ∈ l, d ∈ h.all
  own : ∀ d ∈ h.all, ∃ l, h.desks[d.stamp.hand]? = some l ∧ d ∈ l
  some_ : 1 ≤ h.desks.length ∧ h.desks.length ≤ 8
theorem HInv.idInj {h : House} (I : HInv h) {d e : Deed} (hd : d ∈ h.all) (he : e ∈ h.all) (q : d.id = e.id) : d = e := by
  obtain ⟨i, hi⟩ := List.getElem?_of_mem hd
  obtain ⟨j, hj⟩ := List.getElem?_of_mem he
  have h1 := I.ids i d hi
  have h2 := I.ids j e hj
  have : i = j := by omega
  subst this
  rw [hi] at hj
  exact Option.some.inj hj
theorem HInv.nodup {h : House} (I : HInv h) : h.all.Nodup := by
  unfold List.Nodup
  rw [List.pairwise_iff_getElem]
  intro i j hi hj hij e
  have h1 := I.ids i _ (List.getElem?_eq_getElem hi)
  have h2 := I.ids j _ (List.getElem?_eq_getElem hj)
  rw [e] at h1
  omega
theorem HInv.fresh {n : Nat} (h1 : 1 ≤ n) (h8 : n ≤ 8) : HInv ⟨[], List.replicate n [], 0⟩ := by
  refine ⟨by simp, by simp, by simp, by simp, fun k l e => ?_, fun k l e => ?_, by simp, ?_⟩
  · rw [List.getElem?_replicate] at e
    split at e
    · cases e; exact List.Pairwise.nil
    · cases e
  · rw [List.getElem?_replicate] at e
    split at e
    · cases e; intro d hd; cases hd
    · cases e
  · show 1 ≤ (List.replicate n ([] : List Deed)).length ∧ (List.replicate n ([] : List Deed)).length ≤ 8
    rw [List.length_replicate]
    exact ⟨h1, h8⟩
theorem HInv.things {h : House} (I : HInv h) (n : Nat) : HInv { h with things := n } := ⟨I.few, I.ids, I.inj, I.par, I.srt, I.sub, I.own, I.some_⟩
theorem desk_of {h : House} {k : Nat} {l : List Deed} (e : h.desks[k]? = some l) : h.desk k = l := by
  unfold House.desk
  rw [e]
  rfl

theorem maxfold_le : ∀ (l : List Deed) (m : Nat), m ≤ l.foldl (fun (m : Nat) d => max m d.stamp.count) m ∧ ∀ d ∈ l, d.stamp.count ≤ l.foldl (fun (m : Nat) d => max m d.stamp.count) m
  | [], m => ⟨Nat.le_refl _, fun d hd => by cases hd⟩
  | x :: l, m => by
    have ih := maxfold_le l (max m x.stamp.count)
    rw [List.foldl_cons]
    refine ⟨by omega, fun d hd => ?_⟩
    rcases List.mem_cons.mp hd with rfl | hd
    · omega
    · exact ih.2 d hd
theorem next_gt {h : House} {k : Nat} {l : List Deed} (e : h.desks[k]? = some l) : ∀ d ∈ l, d.stamp.count < h.next k := fun d hd => by
  unfold House.next
  rw [desk_of e]
  have := (maxfold_le l 0).2 d hd
  omega
def deedOf (h : House) (k x : Nat) (s : Option Spot) : Deed := ⟨h.all.length, ⟨h.next k, k⟩, x, s⟩
theorem does_eq (h : House) (k x : Nat) (s : Option Spot) {l : List Deed} (e : h.desks[k]? = some l) : h.does k x s = ⟨h.all ++ [deedOf h k x s], h.desks.set k (learn (deedOf h k x s) l), h.things⟩ := by
  unfold House.does House.set deedOf
  simp only [desk_of e]
theorem deedOf_new {h : House} (I : HInv h) {k : Nat} {l : List Deed} (e : h.desks[k]? = some l) (x : Nat) (s : Option Spot) : ∀ d ∈ h.all, d.stamp ≠ (deedOf h k x s).stamp := fun d hd q => by
  have hk : d.stamp.hand = k := by rw [q]; rfl
  obtain ⟨l', e', hm⟩ := I.own d hd
  rw [hk, e] at e'
  cases e'
  have := next_gt e d hm
  have q2 : d.stamp.count = h.next k := by rw [q]; rfl
  omega
theorem deedOf_newL {h : House} (I : HInv h) {k : Nat} {l : List Deed} (e : h.desks[k]? = some l) (x : Nat) (s : Option Spot) : ∀ d ∈ l, d.stamp ≠ (deedOf h k x s).stamp := fun d hd => deedOf_new I e x s d (I.sub k l e d hd)
theorem getElem?_set_some {α : Type} {xs : List α} {i j : Nat} {x y : α} (h : (xs.set i x)[j]? = some y) : (i = j ∧ i < xs.length ∧ y = x) ∨ (i ≠ j ∧ xs[j]? = some y) := by
  rw [List.getElem?_set] at h
  split at h
  · split at h
    · exact .inl ⟨by assumption, by assumption, (Option.some.inj h).symm⟩
    · cases h
  · exact .inr ⟨by assumption, h⟩
theorem HInv.does {h : House} (I : HInv h) {k : Nat} {l : List Deed} (e : h.desks[k]? = some l) (x : Nat) (s : Option Spot) (hn : h.all.length < 120) (hs : ∀ st, (s.bind fun q => q.of_) = some st → ∃ d ∈ l, d.stamp = st) : HInv (h.does k x s) := by
  rw [does_eq h k x s e]
  have hkl : k < h.desks.length := (List.getElem?_eq_some_iff.mp e).1
  have new := deedOf_new I e x s
  have newL := deedOf_newL I e x s
  have pm : (learn (deedOf h k x s) l).Perm (deedOf h k x s :: l) := learn_new newL
  refine ⟨?_, fun i d hi => ?_, fun d hd f hf q => ?_, fun d hd st hst => ?_, fun j m hj => ?_, fun j m hj d hd => ?_, fun d hd => ?_, ?_⟩
  · show (h.all ++ [_]).length ≤ 120
    rw [List.length_append, List.length_singleton]
    omega
  · have hi : (h.all ++ [deedOf h k x s])[i]? = some d := hi
    by_cases hlt : i < h.all.length
    · rw [List.getElem?_append_left hlt] at hi
      exact I.ids i d hi
    · rw [List.getElem?_append_right (by omega)] at hi
      have : i - h.all.length = 0 := by
        cases q : i - h.all.length with
        | zero => rfl
        | succ n => rw [q] at hi; simp at hi
      rw [this] at hi
      have hd : deedOf h k x s = d := Option.some.inj hi
      rw [← hd]
      show h.all.length = i
      omega
  · have hd : d ∈ h.all ++ [deedOf h k x s] := hd
    have hf : f ∈ h.all ++ [deedOf h k x s] := hf
    rw [List.mem_append, List.mem_singleton] at hd hf
    rcases hd with hd | hd
    · rcases hf with hf | hf
      · exact I.inj d hd f hf q
      · rw [hf] at q
        exact absurd q (new d hd)
    · rcases hf with hf | hf
      · rw [hd] at q
        exact absurd q.symm (new f hf)
      · rw [hd, hf]
  · have hd : d ∈ h.all ++ [deedOf h k x s] := hd
    rw [List.mem_append, List.mem_singleton] at hd
    rcases hd with hd | rfl
    · obtain ⟨⟨f, hf, ef⟩, h2⟩ := I.par d hd st hst
      exact ⟨⟨f, List.mem_append_left _ hf, ef⟩, h2⟩
    · obtain ⟨f, hf, ef⟩ := hs st hst
      refine ⟨⟨f, List.mem_append_left _ (I.sub k l e f hf), ef⟩, ?_⟩
      rw [← ef]
      exact next_gt e f hf
  · rcases getElem?_set_some hj with ⟨_, _, rfl⟩ | ⟨_, hj⟩
    · exact learn_srt (I.srt k l e)
    · exact I.srt j m hj
  · show d ∈ h.all ++ [deedOf h k x s]
    rcases getElem?_set_some hj with ⟨_, _, rfl⟩ | ⟨_, hj⟩
    · rcases List.mem_cons.mp (pm.mem_iff.mp hd) with rfl | hd
      · simp
      · exact List.mem_append_left _ (I.sub k l e d hd)
    · exact List.mem_append_left _ (I.sub j m hj d hd)
  · have hd : d ∈ h.all ++ [deedOf h k x s] := hd
    rw [List.mem_append, List.mem_singleton] at hd
    show ∃ m, (h.desks.set k (learn (deedOf h k x s) l))[d.stamp.hand]? = some m ∧ d ∈ m
    rw [List.getElem?_set]
    rcases hd with hd | rfl
    · obtain ⟨m, hm, hdm⟩ := I.own d hd
      by_cases hk : k = d.stamp.hand
      · rw [if_pos hk, if_pos hkl]
        rw [← hk, e] at hm
        cases hm
        exact ⟨_, rfl, pm.mem_iff.mpr (List.mem_cons_of_mem _ hdm)⟩
      · rw [if_neg hk]
        exact ⟨m, hm, hdm⟩
    · rw [if_pos (show k = (deedOf h k x s).stamp.hand from rfl), if_pos hkl]
      exact ⟨_, rfl, pm.mem_iff.mpr List.mem_cons_self⟩
  · show 1 ≤ (h.desks.set k _).length ∧ (h.desks.set k _).length ≤ 8
    rw [List.length_set]
    exact I.some_
/-- a desk learns a deed that was done -/
theorem HInv.learn {h : House} (I : HInv h) {k : Nat} {l : List Deed} (e : h.desks[k]? = some l) {d : Deed} (hd : d ∈ h.all) : HInv (h.set k (Sq29.learn d l)) := by
  have hkl : k < h.desks.length := (List.getElem?_eq_some_iff.mp e).1
  have mem : ∀ f, f ∈ Sq29.learn d l → f ∈ h.all := fun f hf => by
    rcases mem_learn hf with rfl | hf
    · exact hd
    · exact I.sub k l e f hf
  have mono : ∀ f ∈ l, f ∈ Sq29.learn d l := fun f hf => by
    by_cases hdl : d ∈ l
    · rw [learn_old (I.srt k l e) hdl]
      exact hf
    · refine (learn_new fun g hg q => hdl ?_).mem_iff.mpr (List.mem_cons_of_mem _ hf)
      rw [← I.inj g (I.sub k l e g hg) d hd q]
      exact hg
  refine ⟨I.few, I.ids, I.inj, I.par, fun j m hj => ?_, fun j m hj f hf => ?_, fun f hf => ?_, ?_⟩
  · rcases getElem?_set_some hj with ⟨_, _, rfl⟩ | ⟨_, hj⟩
    · exact learn_srt (I.srt k l e)
    · exact I.srt j m hj
  · rcases getElem?_set_some hj with ⟨_, _, rfl⟩ | ⟨_, hj⟩
    · exact mem f hf
    · exact I.sub j m hj f hf
  · show ∃ m, (h.desks.set k _)[f.stamp.hand]? = some m ∧ f ∈ m
    rw [List.getElem?_set]
    obtain ⟨m, hm, hfm⟩ := I.own f hf
    by_cases hk : k = f.stamp.hand
    · rw [if_pos hk, if_pos hkl]
      rw [← hk, e] at hm
      cases hm
      exact ⟨_, rfl, mono f hfm⟩
    · rw [if_neg hk]
      exact ⟨m, hm, hfm⟩
  · show 1 ≤ (h.desks.set k _).length ∧ (h.desks.set k _).length ≤ 8
    rw [List.length_set]
    exact I.some_

/-! ### where a new spot is -/
theorem behind_of {l : List Deed} (L : Late l) {o : Option Stamp} (ho : ∀ s, o = some s → ∃ e ∈ l, e.stamp = s) : ∀ s, (behind l o).of_ = some s → ∃ e ∈ l, e.stamp = s := by
  intro s
  unfold behind
  split
  · exact ho s
  · cases o with
    | none =>
      dsimp only
      cases q : spots l with
      | nil => exact ho s
      | cons d r => exact fun e => ⟨d, spots_sub L (by rw [q]; exact List.mem_cons_self), Option.some.inj e⟩
    | some t =>
      dsimp only
      cases q : ((spots l).dropWhile fun (d : Deed) => d.stamp != t).drop 1 with
      | nil => exact ho s
      | cons d r =>
        have hm : d ∈ ((spots l).dropWhile fun (d : Deed) => d.stamp != t).drop 1 := by rw [q]; exact List.mem_cons_self
        exact fun e => ⟨d, spots_sub L ((List.dropWhile_sublist _).subset ((List.drop_sublist _ _).subset hm)), Option.some.inj e⟩
/-- a place of the row -/
theorem ahead_in {l r : List Deed} (hr : ∀ d ∈ r, d ∈ spots l) (i : Nat) : ∀ s, (if i = 0 then none else (r[i - 1]?).map fun d => d.stamp) = some s → ∃ e ∈ spots l, e.stamp = s := by
  intro s h
  split at h
  · cases h
  · cases q : r[i - 1]? with
    | none => rw [q] at h; cases h
    | some d =>
      rw [q] at h
      exact ⟨d, hr d (List.mem_of_getElem? q), Option.some.inj h⟩
end Mh

namespace Mh
open Sq29
section
variable {h : House} {k i x : Nat} {l : List Deed}
theorem step_put_desk (hk : ¬ k < h.desks.length) : h.step (.put k i) = (h, says (-2)) := if_pos (by omega)
theorem step_put (hl : h.desks[k]? = some l) : h.step (.put k i) = if (row l).length < i then (h, says (-1)) else if DEEDS ≤ h.all.length then (h, says (-5)) else
      ({ h.does k h.things (some (spotAt l (row l) i)) with things := h.things + 1 }, ⟨h.all.length, [(h.things : Int)]⟩) := by
  have hk : k < h.desks.length := (List.getElem?_eq_some_iff.mp hl).1
  have e : h.step (.put k i) = if h.desks.length ≤ k then (h, says (-2)) else if (row (h.desk k)).length < i then (h, says (-1)) else if DEEDS ≤ h.all.length then (h, says (-5)) else
      ({ h.does k h.things (some (spotAt (h.desk k) (row (h.desk k)) i)) with things := h.things + 1 }, ⟨h.all.length, [(h.things : Int)]⟩) := rfl
  rw [e, if_neg (by omega), desk_of hl]
theorem step_move_desk (hk : ¬ k < h.desks.length) : h.step (.move k x i) = (h, says (-2)) := if_pos (by omega)
theorem step_move (hl : h.desks[k]? = some l) : h.step (.move k x i) = if ((row l).any fun d => d.thing == x) = false then (h, says (-3)) else if (row l).length ≤ i then (h, says (-1)) else if DEEDS ≤ h.all.length then (h, says (-5)) else
      (h.does k x (some (spotAt l ((row l).filter fun d => d.thing != x) i)), says h.all.length) := by
  have hk : k < h.desks.length := (List.getElem?_eq_some_iff.mp hl).1
  have e : h.step (.move k x i) = if h.desks.length ≤ k then (h, says (-2)) else if ((row (h.desk k)).any fun d => d.thing == x) = false then (h, says (-3)) else if (row (h.desk k)).length ≤ i then (h, says (-1)) else if DEEDS ≤ h.all.length then (h, says (-5)) else
      (h.does k x (some (spotAt (h.desk k) ((row (h.desk k)).filter fun d => d.thing != x) i)), says h.all.length) := rfl
  rw [e, if_neg (by omega), desk_of hl]
theorem step_out_desk (hk : ¬ k < h.desks.length) : h.step (.out k x) = (h, says (-2)) := if_pos (by omega)
theorem step_out (hl : h.desks[k]? = some l) : h.step (.out k x) = if ((row l).any fun d => d.thing == x) = false then (h, says (-3)) else if DEEDS ≤ h.all.length then (h, says (-5)) else (h.does k x none, says h.all.length) := by
  have hk : k < h.desks.length := (List.getElem?_eq_some_iff.mp hl).1
  have e : h.step (.out k x) = if h.desks.length ≤ k then (h, says (-2)) else if ((row (h.desk k)).any fun d => d.thing == x) = false then (h, says (-3)) else if DEEDS ≤ h.all.length then (h, says (-5)) else (h.does k x none, says h.all.length) := rfl
  rw [e, if_neg (by omega), desk_of hl]
theorem step_tell_deed {n : Nat} (hn : ¬ n < h.all.length) : h.step (.tell n k) = (h, says (-2)) := by
  have e : h.all[n]? = none := List.getElem?_eq_none_iff.mpr (by omega)
  show (match h.all[n]? with | none => (h, says (-2)) | some d => _) = _
  rw [e]
theorem step_tell_desk {n : Nat} (hk : ¬ k < h.desks.length) : h.step (.tell n k) = (h, says (-2)) := by
  cases e : h.all[n]? with
  | none =>
    show (match h.all[n]? with | none => (h, says (-2)) | some d => _) = _
    rw [e]
  | some d =>
    show (match h.all[n]? with | none => (h, says (-2)) | some d => if h.desks.length ≤ k then (h, says (-2)) else _) = _
    rw [e]
    exact if_pos (by omega)
theorem step_tell {n : Nat} {d : Deed} (hd : h.all[n]? = some d) (hl : h.desks[k]? = some l) : h.step (.tell n k) = (h.set k (learn d l), ⟨(learn d l).length, [if isIn (learn d l) d = true then 1 else 0]⟩) := by
  have hk : k < h.desks.length := (List.getElem?_eq_some_iff.mp hl).1
  have e : h.step (.tell n k) = match h.all[n]? with
    | none => (h, says (-2))
    | some d => if h.desks.length ≤ k then (h, says (-2)) else (h.set k (learn d (h.desk k)), ⟨((h.set k (learn d (h.desk k))).desk k).length, [if isIn ((h.set k (learn d (h.desk k))).desk k) d = true then 1 else 0]⟩) := rfl
  rw [e, hd, desk_of hl]
  have e2 : (h.set k (learn d l)).desk k = learn d l := by
    apply desk_of
    show (h.desks.set k (learn d l))[k]? = _
    rw [List.getElem?_set, if_pos rfl, if_pos hk]
  show (if h.desks.length ≤ k then _ else _) = _
  rw [if_neg (by omega), e2]
theorem any_thing {l : List Deed} {x : Nat} : ((l.any fun d => d.thing == x) = false) ↔ x ∉ l.map fun d => d.thing := by
  rw [List.any_eq_false]
  simp
end
end Mh
namespace Mh
open Sq29
/-- a thing is in a row once at most: without it the row is one shorter -/
theorem filter_once {x : Nat} : ∀ {r : List Deed}, (∀ a ∈ r, ∀ b ∈ r, a.thing = b.thing → a = b) → r.Nodup → (r.any fun d => d.thing == x) = true → (r.filter fun d => d.thing != x).length + 1 = r.length
  | [], _, _, h => by cases h
  | d :: r, hu, nd, h => by
    obtain ⟨n1, n2⟩ := List.nodup_cons.mp nd
    by_cases hd : d.thing = x
    · have e : (d.thing != x) = false := by simp [hd]
      have all : r.filter (fun d => d.thing != x) = r := by
        refine List.filter_eq_self.mpr fun b hb => ?_
        have : b.thing ≠ x := fun z => n1 (by rw [hu d List.mem_cons_self b (List.mem_cons_of_mem _ hb) (hd.trans z.symm)]; exact hb)
        simpa using this
      rw [List.filter_cons, e, if_neg Bool.false_ne_true, all]
      rfl
    · have e : (d.thing != x) = true := by simpa using hd
      have h' : (r.any fun d => d.thing == x) = true := by
        rw [List.any_cons] at h
        have : (d.thing == x) = false := by simpa using hd
        rw [this, Bool.false_or] at h
        exact h
      rw [List.filter_cons, e, if_pos rfl, List.length_cons, List.length_cons, filter_once (fun a ha b hb => hu a (List.mem_cons_of_mem _ ha) b (List.mem_cons_of_mem _ hb)) n2 h']
theorem row_once {l : List Deed} (S : Srt l) (L : Late l) {x : Nat} (h : ((row l).any fun d => d.thing == x) = true) : ((row l).filter fun d => d.thing != x).length + 1 = (row l).length := by
  refine filter_once (fun a ha b hb e => ?_) ?_ h
  · rw [row_eq] at ha hb
    have h1 := (List.mem_filter.mp ha).2
    have h2 := (List.mem_filter.mp hb).2
    have h1' : lastId (ins_ l) a.thing = some a := by simpa using h1
    have h2' : lastId (ins_ l) b.thing = some b := by simpa using h2
    rw [e, h2'] at h1'
    exact (Option.some.inj h1').symm
  · rw [row_eq]
    exact (spots_nodup S L).sublist List.filter_sublist
end Mh

namespace Mh
open Sq29

/-! ### the calls in one list -/
theorem whole_eq (c : List (List Int)) : PySq29.whole c = c := by
  unfold PySq29.whole
  split <;> rfl
theorem whole_map (cs : List (List (List Int))) : cs.map PySq29.whole = cs := by
  induction cs with
  | nil => rfl
  | cons c cs ih => rw [List.map_cons, whole_eq, ih]
theorem answers_eq {l : List Int} {raw : List (List (List Int))} (h : PyFlat.calls PySq29.shape l.length l = some raw) : PySq29.answers l = PyFlat.told (PyFlat.played Sq29Neutral.step Sq29Neutral.start raw) := by
  unfold PySq29.answers PySq29.calls
  rw [h]
  simp only [whole_map]
/-- how many numbers follow a call's number -/
def size (p : Int) : Nat := match p with
  | 1 => 1 | 2 => 2 | 3 => 3 | 4 => 2 | 5 => 2 | 6 => 2 | 7 => 1 | 8 => 1 | 9 => 1 | 10 => 2 | _ => 0
theorem shape_rows {p : Int} {n k : Nat} (h : PySq29.shape p = some (n, k)) : k = 0 ∧ 1 ≤ p ∧ p ≤ 10 ∧ n = size p := by
  unfold PySq29.shape at h
  by_cases h1 : p = 1
  · subst h1; simp at h; exact ⟨h.2.symm, by decide, by decide, h.1.symm⟩
  by_cases h2 : p = 2
  · subst h2; simp at h; exact ⟨h.2.symm, by decide, by decide, h.1.symm⟩
  by_cases h3 : p = 3
  · subst h3; simp at h; exact ⟨h.2.symm, by decide, by decide, h.1.symm⟩
  by_cases h4 : p = 4
  · subst h4; simp at h; exact ⟨h.2.symm, by decide, by decide, h.1.symm⟩
  by_cases h5 : p = 5
  · subst h5; simp at h; exact ⟨h.2.symm, by decide, by decide, h.1.symm⟩
  by_cases h6 : p = 6
  · subst h6; simp at h; exact ⟨h.2.symm, by decide, by decide, h.1.symm⟩
  by_cases h7 : p = 7
  · subst h7; simp at h; exact ⟨h.2.symm, by decide, by decide, h.1.symm⟩
  by_cases h8 : p = 8
  · subst h8; simp at h; exact ⟨h.2.symm, by decide, by decide, h.1.symm⟩
  by_cases h9 : p = 9
  · subst h9; simp at h; exact ⟨h.2.symm, by decide, by decide, h.1.symm⟩
  by_cases h10 : p = 10
  · subst h10; simp at h; exact ⟨h.2.symm, by decide, by decide, h.1.symm⟩
  simp only [h1, h2, h3, h4, h5, h6, h7, h8, h9, h10, if_false] at h
  cases h
theorem calls_turn {f : Nat} {p : Int} {r : List Int} {cs : List (List (List Int))} (h : PyFlat.calls PySq29.shape f (p :: r) = some cs) :
    ∃ f' cs', 1 ≤ p ∧ p ≤ 10 ∧ size p ≤ r.length ∧ cs = [p :: r.take (size p)] :: cs' ∧ PyFlat.calls PySq29.shape f' (r.drop (size p)) = some cs' := by
  cases f with
  | zero => unfold PyFlat.calls at h; cases h
  | succ f =>
    unfold PyFlat.calls PyFlat.call at h
    cases hs : PySq29.shape p with
    | none => simp [hs] at h
    | some nk =>
      obtain ⟨n, k⟩ := nk
      obtain ⟨rfl, h1, h10, rfl⟩ := shape_rows hs
      simp only [hs] at h
      by_cases hl : r.length < size p
      · simp [hl] at h
      · simp only [if_neg hl, PyFlat.rows] at h
        cases hc : PyFlat.calls PySq29.shape f (r.drop (size p)) with
        | none => simp [hc] at h
        | some cs' =>
          simp only [hc] at h
          exact ⟨f, cs', h1, h10, by omega, (Option.some.inj h).symm, hc⟩
theorem calls_nil {f : Nat} {cs : List (List (List Int))} (h : PyFlat.calls PySq29.shape f [] = some cs) : cs = [] := by
  cases f <;> exact (Option.some.inj h).symm

/-! ### what is asked of one call -/
theorem nat_of {z : Int} {b : Nat} (h : Sq29Neutral.natural z b = true) : ∃ n : Nat, z = (n : Int) := by
  unfold Sq29Neutral.natural at h
  rw [Bool.and_eq_true] at h
  have h1 : 0 ≤ z := of_decide_eq_true h.1
  exact ⟨z.toNat, by omega⟩
/-- a call by its number and numbers -/
inductive Says : Int → List Int → Call → Prop
  | begin_ (a : Nat) : Says 1 [(a : Int)] (.begin_ a)
  | put (a b : Nat) : Says 2 [(a : Int), (b : Int)] (.put a b)
  | move (a b c : Nat) : Says 3 [(a : Int), (b : Int), (c : Int)] (.move a b c)
  | out (a b : Nat) : Says 4 [(a : Int), (b : Int)] (.out a b)
  | tell (a b : Nat) : Says 5 [(a : Int), (b : Int)] (.tell a b)
  | meet (a b : Nat) : Says 6 [(a : Int), (b : Int)] (.meet a b)
  | row (a : Nat) : Says 7 [(a : Int)] (.row a)
  | spots (a : Nat) : Says 8 [(a : Int)] (.spots a)
  | waits (a : Nat) : Says 9 [(a : Int)] (.waits a)
  | same (a b : Nat) : Says 10 [(a : Int), (b : Int)] (.same a b)
theorem says_of {c : Int} {as : List Int} (h : Sq29Neutral.asked1 [c :: as] = true) : ∃ x, Says c as x := by
  unfold Sq29Neutral.asked1 at h
  split at h
  · rename_i a e
    cases e
    obtain ⟨a, rfl⟩ := nat_of h
    exact ⟨_, .begin_ a⟩
  · rename_i a b e
    cases e
    rw [Bool.and_eq_true] at h
    obtain ⟨a, rfl⟩ := nat_of h.1
    obtain ⟨b, rfl⟩ := nat_of h.2
    exact ⟨_, .put a b⟩
  · rename_i a b c e
    cases e
    rw [Bool.and_eq_true, Bool.and_eq_true] at h
    obtain ⟨a, rfl⟩ := nat_of h.1
    obtain ⟨b, rfl⟩ := nat_of h.2.1
    obtain ⟨c, rfl⟩ := nat_of h.2.2
    exact ⟨_, .move a b c⟩
  · rename_i a b e
    cases e
    rw [Bool.and_eq_true] at h
    obtain ⟨a, rfl⟩ := nat_of h.1
    obtain ⟨b, rfl⟩ := nat_of h.2
    exact ⟨_, .out a b⟩
  · rename_i a b e
    cases e
    rw [Bool.and_eq_true] at h
    obtain ⟨a, rfl⟩ := nat_of h.1
    obtain ⟨b, rfl⟩ := nat_of h.2
    exact ⟨_, .tell a b⟩
  · rename_i a b e
    cases e
    rw [Bool.and_eq_true] at h
    obtain ⟨a, rfl⟩ := nat_of h.1
    obtain ⟨b, rfl⟩ := nat_of h.2
    exact ⟨_, .meet a b⟩
  · rename_i a e
    cases e
    obtain ⟨a, rfl⟩ := nat_of h
    exact ⟨_, .row a⟩
  · rename_i a e
    cases e
    obtain ⟨a, rfl⟩ := nat_of h
    exact ⟨_, .spots a⟩
  · rename_i a e
    cases e
    obtain ⟨a, rfl⟩ := nat_of h
    exact ⟨_, .waits a⟩
  · rename_i a b e
    cases e
    rw [Bool.and_eq_true] at h
    obtain ⟨a, rfl⟩ := nat_of h.1
    obtain ⟨b, rfl⟩ := nat_of h.2
    exact ⟨_, .same a b⟩
  · cases h
theorem Says.step {c : Int} {as : List Int} {x : Call} (h : Says c as x) (s : House) : Sq29Neutral.step s [c :: as] = ((s.step x).1, (s.step x).2.value :: (s.step x).2.out) := by
  cases h <;> rfl
theorem Says.size {c : Int} {as : List Int} {x : Call} (h : Says c as x) : as.length = size c := by
  cases h <;> rfl

/-! ### what is asked of the whole -/
theorem asked_all {l : List Int} (h : PySq29.answers_asked l = true) : ∃ raw, PyFlat.calls PySq29.shape l.length l = some raw ∧ raw.length ≤ 200 ∧ (∀ c ∈ raw, Sq29Neutral.asked1 c = true) ∧ (PySq29.answers l).length ≤ 10000000 := by
  unfold PySq29.answers_asked at h
  cases e : PyFlat.calls PySq29.shape l.length l with
  | none => rw [e] at h; cases h
  | some raw =>
    rw [e] at h
    simp only [whole_map, Bool.and_eq_true] at h
    obtain ⟨⟨⟨⟨_, h1⟩, _⟩, h2⟩, h3⟩ := h
    refine ⟨raw, rfl, of_decide_eq_true h1, ?_, of_decide_eq_true h3⟩
    unfold Sq29Neutral.asked at h2
    simp only [Bool.and_eq_true] at h2
    exact fun c hc => List.all_eq_true.mp h2.2.2.1 c hc
/-- one call more is told -/
theorem told_cons (a : List Int) (r : List (List Int)) : PyFlat.told (a :: r) = ((a.length : Int) :: a) ++ PyFlat.told r := by
  unfold PyFlat.told
  rw [List.flatMap_cons]
theorem played_cons (s : House) (c : List (List Int)) (r : List (List (List Int))) : PyFlat.played Sq29Neutral.step s (c :: r) = (Sq29Neutral.step s c).2 :: PyFlat.played Sq29Neutral.step (Sq29Neutral.step s c).1 r := rfl
/-- how long an answer is -/
theorem row_len {h : House} (I : HInv h) {k : Nat} {l : List Deed} (e : h.desks[k]? = some l) : l.length ≤ 120 := by
  have := (I.srt k l e).nodup.length_le_of_subset (fun d hd => I.sub k l e d hd)
  exact Nat.le_trans this I.few
end Mh

namespace Mh
open Sq29

/-! ### two desks meet -/
/-- deeds whose stamps tell them apart -/
def Apart (all : List Deed) : Prop := ∀ d ∈ all, ∀ e ∈ all, d.stamp = e.stamp → d = e
def met (lk lj : List Deed) : List Deed := lj.foldl (fun (m : List Deed) d => learn d m) lk
theorem learn_mem {all l : List Deed} (U : Apart all) (S : Srt l) (hl : ∀ e ∈ l, e ∈ all) {d : Deed} (hd : d ∈ all) (e : Deed) : e ∈ learn d l ↔ e = d ∨ e ∈ l := by
  by_cases hin : d ∈ l
  · rw [learn_old S hin]
    exact ⟨.inr, fun h => h.elim (fun z => by rw [z]; exact hin) id⟩
  · have new : ∀ f ∈ l, f.stamp ≠ d.stamp := fun f hf z => hin (by rw [← U f (hl f hf) d hd z]; exact hf)
    rw [(learn_new new).mem_iff, List.mem_cons]
theorem met_ok {all : List Deed} (U : Apart all) : ∀ {lj lk : List Deed}, Srt lk → (∀ e ∈ lk, e ∈ all) → (∀ e ∈ lj, e ∈ all) → Srt (met lk lj) ∧ ∀ e, e ∈ met lk lj ↔ e ∈ lk ∨ e ∈ lj
  | [], lk, S, _, _ => ⟨S, fun e => by unfold met; simp⟩
  | d :: lj, lk, S, hk, hj => by
    have hd := hj d List.mem_cons_self
    have ih := met_ok U (lj := lj) (lk := learn d lk) (learn_srt S) (fun e he => ((learn_mem U S hk hd e).mp he).elim (fun z => by rw [z]; exact hd) (hk e)) (fun e he => hj e (List.mem_cons_of_mem _ he))
    refine ⟨ih.1, fun e => ?_⟩
    show e ∈ met (learn d lk) lj ↔ _
    rw [ih.2, learn_mem U S hk hd, List.mem_cons]
    constructor
    · rintro ((h | h) | h)
      · exact .inr (.inl h)
      · exact .inl h
      · exact .inr (.inr h)
    · rintro (h | h | h)
      · exact .inl (.inr h)
      · exact .inl (.inl h)
      · exact .inr h
theorem HInv.apart {h : House} (I : HInv h) : Apart h.all := I.inj
section
variable {h : House} {k j : Nat} {lk lj : List Deed}
theorem step_meet_desk (hk : ¬ (k < h.desks.length ∧ j < h.desks.length)) : h.step (.meet k j) = (h, says (-2)) := if_pos (by omega)
theorem step_meet (hk : h.desks[k]? = some lk) (hj : h.desks[j]? = some lj) : h.step (.meet k j) = ((h.set k (met lk lj)).set j (met lk lj), ⟨(met lk lj).length, Sq29.ints [(met lk lj).length - lk.length, (met lk lj).length - lj.length]⟩) := by
  have h1 := (List.getElem?_eq_some_iff.mp hk).1
  have h2 := (List.getElem?_eq_some_iff.mp hj).1
  have e : h.step (.meet k j) = if h.desks.length ≤ k ∨ h.desks.length ≤ j then (h, says (-2)) else
    ((h.set k (met (h.desk k) (h.desk j))).set j (met (h.desk k) (h.desk j)), ⟨(met (h.desk k) (h.desk j)).length, Sq29.ints [(met (h.desk k) (h.desk j)).length - (h.desk k).length, (met (h.desk k) (h.desk j)).length - (h.desk j).length]⟩) := rfl
  rw [e, if_neg (by omega), desk_of hk, desk_of hj]
/-- a desk comes to know more of what was done -/
theorem HInv.more (I : HInv h) {l : List Deed} (e : h.desks[k]? = some lk) (S : Srt l) (sub : ∀ d ∈ l, d ∈ h.all) (sup : ∀ d ∈ lk, d ∈ l) : HInv (h.set k l) := by
  have hkl : k < h.desks.length := (List.getElem?_eq_some_iff.mp e).1
  refine ⟨I.few, I.ids, I.inj, I.par, fun i m hi => ?_, fun i m hi f hf => ?_, fun f hf => ?_, ?_⟩
  · rcases getElem?_set_some hi with ⟨_, _, rfl⟩ | ⟨_, hi⟩
    · exact S
    · exact I.srt i m hi
  · rcases getElem?_set_some hi with ⟨_, _, rfl⟩ | ⟨_, hi⟩
    · exact sub f hf
    · exact I.sub i m hi f hf
  · show ∃ m, (h.desks.set k _)[f.stamp.hand]? = some m ∧ f ∈ m
    rw [List.getElem?_set]
    obtain ⟨m, hm, hfm⟩ := I.own f hf
    by_cases hk : k = f.stamp.hand
    · rw [if_pos hk, if_pos hkl]
      rw [← hk, e] at hm
      cases hm
      exact ⟨_, rfl, sup f hfm⟩
    · rw [if_neg hk]
      exact ⟨m, hm, hfm⟩
  · show 1 ≤ (h.desks.set k _).length ∧ (h.desks.set k _).length ≤ 8
    rw [List.length_set]
    exact I.some_
theorem step_row_desk (hk : ¬ k < h.desks.length) : h.step (.row k) = (h, says (-2)) := if_pos (by omega)
theorem step_row (hk : h.desks[k]? = some lk) : h.step (.row k) = (h, ⟨(seen lk).length, Sq29.ints (seen lk)⟩) := by
  have h1 := (List.getElem?_eq_some_iff.mp hk).1
  have e : h.step (.row k) = if h.desks.length ≤ k then (h, says (-2)) else (h, ⟨(seen (h.desk k)).length, Sq29.ints (seen (h.desk k))⟩) := rfl
  rw [e, if_neg (by omega), desk_of hk]
theorem step_spots_desk (hk : ¬ k < h.desks.length) : h.step (.spots k) = (h, says (-2)) := if_pos (by omega)
theorem step_spots (hk : h.desks[k]? = some lk) : h.step (.spots k) = (h, ⟨(spots lk).length, Sq29.ints ((spots lk).map fun d => d.id)⟩) := by
  have h1 := (List.getElem?_eq_some_iff.mp hk).1
  have e : h.step (.spots k) = if h.desks.length ≤ k then (h, says (-2)) else (h, ⟨(spots (h.desk k)).length, Sq29.ints ((spots (h.desk k)).map fun d => d.id)⟩) := rfl
  rw [e, if_neg (by omega), desk_of hk]
/-- those that wait, by their stamps -/
def waiting (l : List Deed) : List Deed := l.filter fun d => !inOf (spots l) d
theorem step_waits_desk (hk : ¬ k < h.desks.length) : h.step (.waits k) = (h, says (-2)) := if_pos (by omega)
theorem step_waits (hk : h.desks[k]? = some lk) : h.step (.waits k) = (h, ⟨(waiting lk).length, Sq29.ints ((waiting lk).map fun d => d.id)⟩) := by
  have h1 := (List.getElem?_eq_some_iff.mp hk).1
  have e : h.step (.waits k) = if h.desks.length ≤ k then (h, says (-2)) else (h, ⟨(waiting (h.desk k)).length, Sq29.ints ((waiting (h.desk k)).map fun d => d.id)⟩) := rfl
  rw [e, if_neg (by omega), desk_of hk]
theorem step_same_desk (hk : ¬ (k < h.desks.length ∧ j < h.desks.length)) : h.step (.same k j) = (h, says (-2)) := if_pos (by omega)
theorem step_same (hk : h.desks[k]? = some lk) (hj : h.desks[j]? = some lj) : h.step (.same k j) = (h, ⟨if lk = lj then 1 else 0, [if seen lk = seen lj then 1 else 0]⟩) := by
  have h1 := (List.getElem?_eq_some_iff.mp hk).1
  have h2 := (List.getElem?_eq_some_iff.mp hj).1
  have e : h.step (.same k j) = if h.desks.length ≤ k ∨ h.desks.length ≤ j then (h, says (-2)) else (h, ⟨if h.desk k = h.desk j then 1 else 0, [if seen (h.desk k) = seen (h.desk j) then 1 else 0]⟩) := rfl
  rw [e, if_neg (by omega), desk_of hk, desk_of hj]
end
/-- two desks know the same deeds: the same by their stamps -/
theorem same_iff {lk lj : List Deed} (S : Srt lk) (T : Srt lj) : lk = lj ↔ ∀ d, d ∈ lk ↔ d ∈ lj := by
  constructor
  · intro e d
    rw [e]
  · intro e
    exact S.unique T ((List.perm_ext_iff_of_nodup S.nodup T.nodup).mpr e)
end Mh

namespace Mh
open Sq29
theorem met_nil (l : List Deed) : met l [] = l := rfl
theorem met_snoc (l m : List Deed) (d : Deed) : met l (m ++ [d]) = learn d (met l m) := by
  unfold met
  rw [List.foldl_append]
  rfl
theorem met_sub {all : List Deed} (U : Apart all) {a b : List Deed} (S : Srt a) (ha : ∀ e ∈ a, e ∈ all) (hb : ∀ e ∈ b, e ∈ all) : ∀ e ∈ met a b, e ∈ all := fun e he => (((met_ok U S ha hb).2 e).mp he).elim (ha e) (hb e)
/-- what is met is told by its members -/
theorem met_eq {all : List Deed} (U : Apart all) {a b m : List Deed} (S : Srt a) (ha : ∀ e ∈ a, e ∈ all) (hb : ∀ e ∈ b, e ∈ all) (T : Srt m) (hm : ∀ e, e ∈ m ↔ e ∈ a ∨ e ∈ b) : met a b = m := by
  obtain ⟨S1, h1⟩ := met_ok U S ha hb
  exact (same_iff S1 T).mpr fun d => (h1 d).trans (hm d).symm
theorem met_perm {all : List Deed} (U : Apart all) {a b c : List Deed} (S : Srt a) (ha : ∀ e ∈ a, e ∈ all) (hb : ∀ e ∈ b, e ∈ all) (p : c.Perm b) : met a c = met a b := by
  have hc : ∀ e ∈ c, e ∈ all := fun e he => hb e (p.mem_iff.mp he)
  obtain ⟨S1, h1⟩ := met_ok U S ha hb
  exact met_eq U S ha hc S1 fun e => (h1 e).trans (by rw [p.mem_iff])
theorem met_back {all : List Deed} (U : Apart all) {a b : List Deed} (S : Srt a) (T : Srt b) (ha : ∀ e ∈ a, e ∈ all) (hb : ∀ e ∈ b, e ∈ all) : met b (met a b) = met a b := by
  obtain ⟨S1, h1⟩ := met_ok U S ha hb
  exact met_eq U T hb (met_sub U S ha hb) S1 fun e => ⟨.inr, fun h => h.elim (fun z => (h1 e).mpr (.inr z)) id⟩
theorem met_self {all : List Deed} (U : Apart all) {a : List Deed} (S : Srt a) (ha : ∀ e ∈ a, e ∈ all) : met a a = a := met_eq U S ha ha S fun _ => ⟨.inl, fun h => h.elim id id⟩
theorem met_len {all : List Deed} (U : Apart all) {a b : List Deed} (S : Srt a) (T : Srt b) (ha : ∀ e ∈ a, e ∈ all) (hb : ∀ e ∈ b, e ∈ all) : a.length ≤ (met a b).length ∧ b.length ≤ (met a b).length := by
  obtain ⟨S1, h1⟩ := met_ok U S ha hb
  exact ⟨S.nodup.length_le_of_subset fun _ he => (h1 _).mpr (.inl he), T.nodup.length_le_of_subset fun _ he => (h1 _).mpr (.inr he)⟩
theorem set_self {h : House} {k : Nat} {l : List Deed} (e : h.desks[k]? = some l) : h.set k l = h := by
  obtain ⟨a, d, t⟩ := h
  show House.mk a (d.set k l) t = House.mk a d t
  congr 1
  have e : d[k]? = some l := e
  obtain ⟨hk, rfl⟩ := List.getElem?_eq_some_iff.mp e
  exact List.set_getElem_self hk
theorem set_set {h : House} {k : Nat} (l m : List Deed) : (h.set k l).set k m = h.set k m := by
  show House.mk _ ((h.desks.set k l).set k m) _ = House.mk _ (h.desks.set k m) _
  rw [List.set_set]
  rfl
theorem set_at {h : House} {k : Nat} {l : List Deed} (m : List Deed) (e : h.desks[k]? = some l) : (h.set k m).desks[k]? = some m := by
  show (h.desks.set k m)[k]? = some m
  rw [List.getElem?_set, if_pos rfl, if_pos (List.getElem?_eq_some_iff.mp e).1]
theorem set_off {h : House} {k j : Nat} (m : List Deed) (n : k ≠ j) : (h.set k m).desks[j]? = h.desks[j]? := by
  show (h.desks.set k m)[j]? = h.desks[j]?
  rw [List.getElem?_set, if_neg n]
theorem row_stays (h : House) (k : Nat) : (h.step (.row k)).1 = h := by
  have e : h.step (.row k) = if h.desks.length ≤ k then (h, says (-2)) else (h, ⟨(seen (h.desk k)).length, Sq29.ints (seen (h.desk k))⟩) := rfl
  rw [e]
  split <;> rfl
theorem spots_stays (h : House) (k : Nat) : (h.step (.spots k)).1 = h := by
  have e : h.step (.spots k) = if h.desks.length ≤ k then (h, says (-2)) else (h, ⟨(spots (h.desk k)).length, Sq29.ints ((spots (h.desk k)).map fun d => d.id)⟩) := rfl
  rw [e]
  split <;> rfl
theorem waits_stays (h : House) (k : Nat) : (h.step (.waits k)).1 = h := by
  have e : h.step (.waits k) = if h.desks.length ≤ k then (h, says (-2)) else (h, ⟨(waiting (h.desk k)).length, Sq29.ints ((waiting (h.desk k)).map fun d => d.id)⟩) := rfl
  rw [e]
  split <;> rfl
theorem same_stays (h : House) (k j : Nat) : (h.step (.same k j)).1 = h := by
  have e : h.step (.same k j) = if h.desks.length ≤ k ∨ h.desks.length ≤ j then (h, says (-2)) else (h, ⟨if h.desk k = h.desk j then 1 else 0, [if seen (h.desk k) = seen (h.desk j) then 1 else 0]⟩) := rfl
  rw [e]
  split <;> rfl
theorem ints_inj : ∀ {a b : List Nat}, Sq29.ints a = Sq29.ints b → a = b
  | [], [], _ => rfl
  | [], _ :: _, e => by cases e
  | _ :: _, [], e => by cases e
  | x :: a, y :: b, e => by
    have e : Int.ofNat x :: Sq29.ints a = Int.ofNat y :: Sq29.ints b := e
    injection e with e1 e2
    rw [ints_inj e2, Int.ofNat.inj e1]
/-- the numbers of two desks' deeds, in order, are the same just where the deeds are -/
theorem ids_iff {h : House} (I : HInv h) {lk lj dk dj : List Deed} {ms ns : List Int} (S : Srt lk) (T : Srt lj) (hk : ∀ e ∈ lk, e ∈ h.all) (hj : ∀ e ∈ lj, e ∈ h.all) (pk : dk.Perm lk) (pj : dj.Perm lj)
    (pm : ms.Perm (dk.map fun d => (d.id : Int))) (pn : ns.Perm (dj.map fun d => (d.id : Int))) (sm : ms.Pairwise (· ≤ ·)) (sn : ns.Pairwise (· ≤ ·)) : ms = ns ↔ lk = lj := by
  constructor
  · intro e
    subst e
    have q : (dk.map fun d => (d.id : Int)).Perm (dj.map fun d => (d.id : Int)) := pm.symm.trans pn
    refine (same_iff S T).mpr fun d => ⟨fun hd => ?_, fun hd => ?_⟩
    · obtain ⟨e, he, z⟩ := List.mem_map.mp (q.mem_iff.mp (List.mem_map.mpr ⟨d, pk.mem_iff.mpr hd, rfl⟩))
      have he' := pj.mem_iff.mp he
      rw [← I.idInj (hj e he') (hk d hd) (by omega)]
      exact he'
    · obtain ⟨e, he, z⟩ := List.mem_map.mp (q.mem_iff.mpr (List.mem_map.mpr ⟨d, pj.mem_iff.mpr hd, rfl⟩))
      have he' := pk.mem_iff.mp he
      rw [← I.idInj (hk e he') (hj d hd) (by omega)]
      exact he'
  · intro e
    subst e
    have q : ms.Perm ns := pm.trans (((pk.trans pj.symm).map _).trans pn.symm)
    exact q.eq_of_pairwise (fun a b _ _ h1 h2 => by omega) sm sn
end Mh

namespace Mr
open PySem PySem.Spec PyProof.Rows L2

/-- a def whose body is: return (x.f1, x.f2) -/
structure PairDef (st : Stmt) (x f1 f2 : Str) : Prop where
  body : ∃ p1 p2 p3 p4 p5 p6 x1, defBody st = [.Return (some (.Tuple [.Attribute (.Name x p1) f1 p2, .Attribute (.Name x p3) f2 p4] x1 p5)) p6]
  loc : (defScope st).names.lookup x = some .local
  sc : FnScope [x] [x] (defScope st)
  nd : (x == ("__debug__" : Str)) = false

/-- the call of such a def keeps all that was there -/
theorem pair_run {P : Program} {w : World} {K : PySem.W.Frag} {A : Around} {s : Shared} {x f1 f2 nm qual : Str} {st : Stmt} {f p dx C : Addr} {fd : FuncData} {mA : Str → Option Value} {i1 i2 : Int} {t1 t2 : Tok}
    (D : PairDef st x f1 f2) (F : Fun K nm qual st f fd) (hb : Binds K fd [x] []) (hr : Room 1 A) (KX : K.In s.heap) (lim : s.heap.NoLimit) (O : ObjM s.heap p dx C mA) (c : Cls K C) (n1 : NoAttr K C f1) (n2 : NoAttr K C f2)
    (h1 : mA f1 = some (.int i1 t1)) (h2 : mA f2 = some (.int i2 t2)) :
    wpAny (model P w) A (call (.ref f) [.ref p]) (PySem.W.KeyPure (.tuple [.int i1, .int i2]) s) (fun _ _ => False) s := by
  have hbind : BindsTo s fd ⟨[.ref p], []⟩ ([x].zip ([.ref p] ++ ([] : List Value))) := hb s [.ref p] KX rfl
  obtain ⟨c0, d0, kv0, doc0, pm0, an0, cdv, ct0, sl0, rfl, lk, hcd⟩ := F.ex
  obtain ⟨p1, p2, p3, p4, p5, p6, x1, eb⟩ := D.body
  have hkind : ∀ y ∈ [x].zip [Value.ref p], (defScope st).names.lookup y.1 = some .local ∨ ((defScope st).names.lookup y.1 = some .cell ∧ ((cellsFrom (s.heap.objs.size + 1) (defScope st).names []).lookup y.1).isSome = true) := fun y hy => by
    have : y = (x, Value.ref p) := by simpa using hy
    rw [this]
    exact .inl D.loc
  refine wpAny_call (codeAny_call_function hr.depth (KX _ _ lk) rfl D.sc.co D.sc.gen rfl (PySem.W.codeRec_of KX hcd) (hbind _ _ _ _ ?_))
  refine wpAny_newFunctionEnv_cells D.sc.kind hkind fun env he s1 xc => ?_
  subst he
  refine ⟨lim.keeps xc.toInCall.keep, codeAny_func ?_⟩
  show wpAny _ _ (execs (defBody st) _) _ _ _
  rw [eb]
  obtain ⟨h', tk, e, hk⟩ := xc.done
  subst e
  have hns := xc.toInCall.ns
  have KX' : K.In h' := KX.keeps hk
  have O' : ∀ t : Nat, ObjM ({ s with heap := h', toks := t } : Shared).heap p dx C mA := fun _ => ⟨hk _ _ O.obj, O.ns.at fun o q => hk _ _ q, O.ne⟩
  have ld : ∀ {t : Nat} {A' : Around} {E' : Value → Shared → Prop} {pos : Pos} {Q : Value → Shared → Prop}, Q (.ref p) { s with heap := h', toks := t } →
      wpAny (model P w) A' (eval (.Name x pos) (envOfC qual (defScope st) s.heap.objs.size f cdv)) Q E' { s with heap := h', toks := t } := fun {t A' E' pos Q} h => by
    refine wpAny_Name (wpAny_loadName_local D.sc.kind D.loc (m := bindL (envOfC qual (defScope st) s.heap.objs.size f cdv).kindOf ([x].zip [.ref p]) fun _ => none) hns ?_ h) D.nd
    exact bindL_get (i := 0) (by simp) rfl rfl D.loc
  refine wpAny_execs_cons (wpAny_Return_some (wpAny_Tuple_spliced ?_))
  refine Calls.spliced_cons (attr_of rfl (ld (get_map KX' (O' _) (c.get f1) c.hd n1 h1 rfl ?_)))
  refine Calls.spliced_cons (attr_of rfl (ld (get_map KX' (O' _) (c.get f2) c.hd n2 h2 rfl ?_)))
  refine Calls.spliced_nil ⟨by show 2 ≤ sizeLine; decide, ?_⟩
  refine ⟨_, _, rfl, fun b o q => Heap.get?_push_of_some _ (hk b o q), ?_⟩
  exact Reads.tuple (as := []) (Heap.get?_push_size _ rfl) rfl rfl (ReadsAll.cons (as := []) (bs := []) (.int _ _) (ReadsAll.cons (as := []) (bs := []) (.int _ _) .nil))

/-! ### sorted(xs, key=f), sorted(xs, key=f, reverse=True), f such a def -/
def ordBy {β : Type} (b : Bool) (k1 k2 : β → Int) : β → β → Bool := fun p q => if b = true then decide (k1 q < k1 p ∨ (k1 q = k1 p ∧ k2 q ≤ k2 p)) else decide (k1 p < k1 q ∨ (k1 p = k1 q ∧ k2 p ≤ k2 q))
theorem ordBy_data {β : Type} (b : Bool) (k1 k2 : β → Int) : PySem.W.dataLe b (fun x => .tuple [.int (k1 x), .int (k2 x)]) = ordBy b k1 k2 := by
  cases b with
  | false => exact PySem.W.dataLe_ii k1 k2
  | true =>
    have e := PySem.W.dataLe_ii k1 k2
    funext p q
    exact congrFun (congrFun e q) p
def rSortBy {β : Type} (K : PySem.W.Frag) (C : Addr) (f1 f2 : Str) (b : Bool) (zs0 : List V) : List V → List V → Hp → VK → Prop := fun vs zs H Q => ∃ (a : Addr) (bs : List β) (g : β → Addr) (k1 k2 : β → Int),
  vs = [.ref a] ∧ zs = zs0 ∧ SqL K H a (bs.map fun x => V.ref (g x)) ∧ (∀ x ∈ bs, ∃ dx fs, H (g x) = some (.ins C dx fs) ∧ fs.lookup f1 = some (.int (k1 x)) ∧ fs.lookup f2 = some (.int (k2 x))) ∧
  ∀ p, H p = none → Q (.ref p) (upd H p (.lst ((bs.mergeSort (ordBy b k1 k2)).map fun x => V.ref (g x))))
theorem each_of {β : Type} {g : β → V} : ∀ {bs : List β} {us : List Value}, Vals (bs.map g) us → PySem.W.EachIs (fun u b => RelV (g b) u) us bs
  | [], _, r => by cases r; exact .nil
  | b :: bs, _, r => by
    cases r with
    | cons h t => exact .cons h (each_of t)
theorem vals_each {β : Type} {g : β → V} : ∀ {us : List Value} {bs : List β}, PySem.W.EachIs (fun u b => RelV (g b) u) us bs → Vals (bs.map g) us
  | _, _, .nil => .nil
  | _, _, .cons h t => .cons h (vals_each t)
section
variable {X : Cx} {β : Type} {x f1 f2 nm qual : Str} {st : Stmt} {f C : Addr} {fd : FuncData}
theorem sortBy_run {b : Bool} {kw : List (Str × Value)} {pins : List (Addr × Obj)} {s : Shared} {σ : L2.St} {H : Hp} {a : Addr} {bs : List β} {g : β → Addr} {k1 k2 : β → Int} {Q : VK}
    (D : PairDef st x f1 f2) (F : Fun X.K nm qual st f fd) (hb : Binds X.K fd [x] []) (hr : Room 3 X.A) (c : Cls X.K C) (n1 : NoAttr X.K C f1) (n2 : NoAttr X.K C f2) (I : Inv X pins σ H s)
    (hs : SqL X.K H a (bs.map fun x => V.ref (g x))) (hx : ∀ x ∈ bs, ∃ dx fs, H (g x) = some (.ins C dx fs) ∧ fs.lookup f1 = some (.int (k1 x)) ∧ fs.lookup f2 = some (.int (k2 x)))
    (ha1 : argsOk "sorted" ⟨[.ref a], kw⟩) (ha2 : ∀ a, argsOk "list.sort" ⟨[.ref a], kw⟩) (ht : ∀ y, Builtin.«list.sort» ⟨[.ref y], kw⟩ = ksk_tree y (.ref f) b)
    (q : ∀ p, H p = none → Q (.ref p) (upd H p (.lst ((bs.mergeSort (ordBy b k1 k2)).map fun x => V.ref (g x))))) : wpAny (model X.prog X.w) X.A (call (.builtin "sorted") [.ref a] kw) (EP X pins σ Q) X.xe s := by
  obtain ⟨cells, rv, hl, hz⟩ := I.list hs
  rw [List.length_map] at hz
  have hu := hr.un
  refine PySem.W.sorted_key_data (β := β) (R := fun u y => RelV (V.ref (g y)) u) (b := b) (fun y => .tuple [.int (k1 y), .int (k2 y)]) hl.isList (each_of rv) (PySem.W.AllAlike.of fun _ _ => by simp [PySem.W.alike, PySem.W.alikeAll]) (PySem.W.Sortable.tuples fun _ => ⟨_, _, rfl⟩) hz (fun y _ => ?_) ha1 ha2 ht (fun v y hR hy h tk kp => ?_) fun out cc h' tk kp hf hD hlen eo => ?_
  · have hd : (PyData.tuple [.int (k1 y), .int (k2 y)]).depth = 1 := by simp [PyData.depth, PyData.depthAll]
    omega
  · obtain ⟨dx, fs, e, l1, l2⟩ := hx y hy
    obtain rfl : v = Value.ref (g y) := hR
    have hok : HOk X.prog X.w H h := I.hok.kept kp
    obtain ⟨mA, O, r, _, _, _⟩ := ins_get hok e
    obtain ⟨u1, hu1, r1⟩ := RelO.some_of (v := .int (k1 y)) (o := mA f1) (by rw [← l1]; exact r f1)
    obtain ⟨u2, hu2, r2⟩ := RelO.some_of (v := .int (k2 y)) (o := mA f2) (by rw [← l2]; exact r f2)
    obtain ⟨t1, rfl⟩ := r1
    obtain ⟨t2, rfl⟩ := r2
    exact pair_run (s := { s with heap := h, toks := tk }) D F hb hr.in1.in1 (I.kIn.keeps kp) (I.nolimit.keeps kp) O c n1 n2 hu1 hu2
  · rw [ordBy_data] at eo
    have hl2 : ((bs.mergeSort (ordBy b k1 k2)).map fun x => V.ref (g x)).length ≤ sizeLine := by
      rw [List.length_map, List.length_mergeSort]
      exact hz
    exact ⟨.ref _, upd H (s.heap.objs.size + 1) (.lst ((bs.mergeSort (ordBy b k1 k2)).map fun x => V.ref (g x))), I.laid (t' := tk) kp (Nat.le_succ _) ⟨hl2, out, cc, vals_each (g := fun x => V.ref (g x)) eo, hD⟩, rfl, q _ (I.hok.fresh (Nat.le_succ _))⟩
theorem cr_sortBy (D : PairDef st x f1 f2) (F : Fun X.K nm qual st f fd) (hb : Binds X.K fd [x] []) (hr : Room 3 X.A) (c : Cls X.K C) (n1 : NoAttr X.K C f1) (n2 : NoAttr X.K C f2) :
    CallRK X (.builtin "sorted") [Str.ofString "key"] (rSortBy (β := β) X.K C f1 f2 false [.ref f]) := by
  intro pn s0 sl H args kws us ks Q I r rz h
  obtain ⟨a, bs, g, k1, k2, rfl, rfl, hs, hx, q⟩ := h
  obtain rfl := Vals.ref1 r
  obtain ⟨u1, rfl, e1⟩ := vals1 rz
  obtain rfl : u1 = Value.ref f := e1
  exact sortBy_run D F hb hr c n1 n2 I hs hx (ksk_s1 _ _) (fun _ => ksk_l1 _ _) (fun _ => ksk_t1 _ _) q
theorem cr_sortByRev (D : PairDef st x f1 f2) (F : Fun X.K nm qual st f fd) (hb : Binds X.K fd [x] []) (hr : Room 3 X.A) (c : Cls X.K C) (n1 : NoAttr X.K C f1) (n2 : NoAttr X.K C f2) {b : Bool} :
    CallRK X (.builtin "sorted") [Str.ofString "key", Str.ofString "reverse"] (rSortBy (β := β) X.K C f1 f2 b [.ref f, .bl b]) := by
  intro pn s0 sl H args kws us ks Q I r rz h
  obtain ⟨a, bs, g, k1, k2, rfl, rfl, hs, hx, q⟩ := h
  obtain rfl := Vals.ref1 r
  obtain ⟨u1, u2, rfl, e1, e2⟩ := vals2 rz
  obtain rfl : u1 = Value.ref f := e1
  obtain rfl : u2 = Value.bool b := e2
  exact sortBy_run D F hb hr c n1 n2 I hs hx (ksk_s2 _ _ _) (fun _ => ksk_l2 _ _ _) (fun _ => ksk_t2 _ _ _) q
end
end Mr

namespace Mr
open PySem PySem.Spec PyProof.Rows L2

/-! ### d.setdefault(k, x), k a tuple -/
def tDSetdT (td ty tx : TE) : TE := fun σ H Q => td σ H fun x H1 => ∃ a, x = .ref a ∧ IsD H1 a ∧ ty σ H1 fun y H2 => tx σ H2 fun z H3 => ∃ (kvs : List (List Key × V)) (k : List Key) (b : Addr), H3 a = some (.dT kvs) ∧ y = .ref b ∧ H3 b = some (.tup (k.map kV)) ∧ kvs.length < sizeLine ∧
  (∀ v, valV kvs k = some v → Q v H3) ∧ (valV kvs k = none → Q z (upd H3 a (.dT (putK kvs k z))))
section
variable {X : Cx} {od ek ex : Expr} {td ty tx : TE} {pa pc : Pos}
/-- the table itself: there, or laid anew -/
theorem setd_tup {pn : List (Addr × Obj)} {sl : L2.St} {H : Hp} {s : Shared} {tab kt : Addr} {dv : Value} {dV : V} {ks : List Key} {A : Around} {E : Value → Shared → Prop} {prs : List (List Key × V)} {Q : Value → Shared → Prop} (room : A.units + 1 < cLine) (I : Inv X pn sl H s) (hT : H tab = some (.dT prs))
    (hK : H kt = some (.tup (ks.map kV))) (hv : RelV dV dv) (few : prs.length < sizeLine)
    (old : ∀ v, valV prs ks = some v → ∀ (u : Value) (s1 : Shared), Inv X pn sl H s1 → RelV v u → Q u s1) (new : valV prs ks = none → ∀ (u : Value) (s1 : Shared), Inv X pn sl (upd H tab (.dT (putK prs ks dV))) s1 → RelV dV u → Q u s1) :
    wpAny (model X.prog X.w) A (call (.builtin "dict.setdefault") [.ref tab, .ref kt, dv]) Q E s := by
  obtain ⟨size0, notSys, cells, pair, isD⟩ := dt_of I.hok hT
  have size1 : cells.length ≤ sizeLine := Paired.length pair ▸ size0
  have size2 : (putK prs ks dV).length ≤ sizeLine := Nat.le_trans (length_putK prs ks dV) few
  have look := pair.val ks
  refine call_setdefault_heap (hsz := size1) (tupleKind_room_in1 room) (key_of I.hok hK) notSys isD (fun c hc => ?_) (fun hc g isD' rest => ?_)
  · rw [hc] at look
    cases hq : valV prs ks with
    | none => exact False.elim (show False by rw [hq] at look; exact look)
    | some v0 => exact old v0 hq _ _ (I.tok _) (show RelV v0 c.2 by rw [hq] at look; exact look)
  · rw [hc] at look
    have hq : valV prs ks = none := by
      cases hq : valV prs ks with
      | none => rfl
      | some v0 => exact False.elim (show False by rw [hq] at look; exact look)
    obtain ⟨ob, ents, ep, at0, at1, at2, at3, _, at4⟩ := isD'
    refine new hq _ _ (d_write (t' := _) I (by rw [hT]; trivial) rest ⟨ob, at0⟩ ⟨size2, notSys, _, (pair.put ks hK hv).keeps fun c ys hc' => ?_, ob, ents, ep, at0, at1, at2, at3, at4⟩) hv
    have apart : c ≠ tab := ne_of hc' hT (by intro z; cases z)
    exact (upd_ne apart).trans hc'
theorem pe_dsetdT (room : X.A.units + 1 < cLine) (p1 : PE X od td) (p2 : PE X ek ty) (p3 : PE X ex tx) (form : M2 X od "setdefault" pa ek ex pc) : PE X (.Call (.Attribute od "setdefault" pa) [ek, ex] [] pc) (tDSetdT td ty tx) := by
  constructor
  intro pn s0 sl H Q I0 h0
  refine wpAny_Call_method form.base form.few form.line PySem.F.plainAttrs_dict PySem.F.slot_dict_setdefault PySem.F.type_dict_setdefault ?_
  refine thn (p1.run pn s0 sl H _ I0 h0) fun u1 s1 ⟨v1, H1, I1, r1, tab, e1, isD, q1⟩ => ?_
  subst e1
  obtain rfl : u1 = Value.ref tab := r1
  refine ⟨(isD_at I1 isD).1, (isD_at I1 isD).2.1, ?_⟩
  rw [form.trees]
  refine Calls.callWith_builtin rfl (Calls.evalArgs_plain (Calls.spliced_cons ?_))
  refine thn (p2.run pn s1 sl H1 _ I1 q1) fun u2 s2 ⟨v2, H2, I2, r2, q2⟩ => Calls.spliced_cons ?_
  refine thn (p3.run pn s2 sl H2 _ I2 q2) fun u3 s3 ⟨v3, H3, I3, r3, prs, ks, kt, hT, e2, hK, few, g1, g2⟩ => Calls.spliced_nil ?_
  subst e2
  obtain rfl : u2 = Value.ref kt := r2
  exact setd_tup room I3 hT hK r3 few (fun v hv u s4 I4 r4 => ⟨v, _, I4, r4, g1 v hv⟩) fun hn u s4 I4 r4 => ⟨v3, _, I4, r4, g2 hn⟩
end

/-! ### list(d.values()) -/
def tListVals (te : TE) : TE := fun σ H Q => te σ H fun x H1 => ∃ (d : Addr) (kvs : List (Key × V)), x = .ref d ∧ H1 d = some (.dK kvs) ∧ ∀ p, H1 p = none → Q (.ref p) (upd H1 p (.lst (kvs.map (·.2))))
theorem vals_at : ∀ {kvs : List (Key × V)} {vs : List (Key × Value)} {us : List Value}, KV kvs vs → us.length = vs.length → (∀ (j : Nat) (v : Value), us[j]? = some v → ∃ k, vs[j]? = some (k, v)) → Vals (kvs.map (·.2)) us
  | [], [], us, .nil, hl, _ => by
    have : us = [] := List.eq_nil_of_length_eq_zero hl
    subst this
    exact .nil
  | p :: kvs, q :: vs, [], .cons _ _, hl, _ => by cases hl
  | p :: kvs, q :: vs, u :: us, .cons h t, hl, hi => by
    obtain ⟨k, e⟩ := hi 0 u rfl
    have e' : q = (k, u) := Option.some.inj e
    refine .cons ?_ (vals_at t (Nat.succ.inj hl) fun j v e => hi (j + 1) v e)
    have h2 := h.2
    rw [e'] at h2
    exact h2
section
variable {X : Cx} {ed : Expr} {td : TE} {pl pa pc pp : Pos}
theorem pe_listVals (calm : X.calm = true) (p1 : PE X ed td) (gl : Gl X "list") (free : X.mg "list" = none) (boot : bootBuiltins "list" = some (.type "list")) (form : attributeBase ed "values" X.env (eval ed X.env) = eval ed X.env := by rfl) (line : (pa.endLine == pc.line) = true := by rfl)
    (one : starEach [.Call (.Attribute ed "values" pa) [] [] pc] X.env = (false, eval (.Call (.Attribute ed "values" pa) [] [] pc) X.env) :: starEach [] X.env := by rfl) :
    PE X (.Call (.Name "list" pl) [.Call (.Attribute ed "values" pa) [] [] pc] [] pp) (tListVals td) := by
  constructor
  intro pn s0 sl H Q I0 h0
  refine wpAny_Call_Name_kw (ld_blt I0 gl free boot (PyProof.Rows.callWith_type1 ?_ one rfl))
  rw [one]
  show wpAny _ _ (spliced ((false, eval (.Call (.Attribute ed "values" pa) [] [] pc) X.env) :: backTo pp (starEach [] X.env))) _ _ s0
  refine Calls.spliced_cons (wpAny_Call_method (T := "dict") (id := "dict.values") form rfl line F.plainAttrs_dict F.slot_dict_values F.type_dict_values ?_)
  refine thn (p1.run pn s0 sl H _ I0 h0) fun u1 s1 ⟨v1, H1, I1, r1, tab, prs, e1, hT, g1⟩ => ?_
  subst e1
  obtain rfl : u1 = Value.ref tab := r1
  obtain ⟨size0, notSys, cells, pair, isD⟩ := I1.hok tab _ hT
  obtain ⟨ep, at0⟩ := isD.dictAt
  have size1 : prs.length = cells.length := Paired.length pair
  have J := I1.kept (t' := s1.toks) (h' := s1.heap.push { cls := .type "dict_values", data := .fields #[.ref tab] }) fun b ob q => Heap.get?_push_of_some _ q
  refine ⟨isD.typeIs, isD.mapOf.noDict, ?_⟩
  show wpAny _ _ (callWith pc (.builtin "dict.values") [.ref tab] [] []) _ X.xe s1
  refine method_meetsIn F.slot_dict_values F.entry_dict_values rfl (PySem.evalArgs_none ⟨rfl, isD.typeIs, F.args_dict_values_1 _, _, meets_dict_values (mixKind X.prog X.w) tab notSys, ⟨cells, isD⟩, Calls.spliced_nil ?_⟩)
  refine PySem.W.kdl_call (PySem.W.kdl_values (knd := mixKind X.prog X.w) (r := s1.heap.objs.size) (d := tab) (kvs := cells) (ep := ep)) (I1.ok.hd calm) ⟨⟨_, Heap.get?_push_size _ rfl, rfl, rfl⟩, at0.push _⟩ (by omega) fun g tk got c keep at1 its => ?_
  have vals : Vals (prs.map (·.2)) got.toList := vals_at pair (by rw [Array.length_toList]; exact its.1) fun n v e => its.2 n v (by rw [← Array.getElem?_toList]; exact e)
  have size2 : (prs.map (·.2)).length ≤ sizeLine := by rw [List.length_map]; exact size0
  exact ⟨.ref _, upd H1 _ (.lst (prs.map (·.2))), J.laid (t' := tk) keep (Nat.le_refl _) ⟨size2, got.toList, c, vals, by rw [Array.toArray_toList]; exact at1⟩, rfl, g1 _ (J.hok.fresh (Nat.le_refl _))⟩
end

/-! ### max(xs, default=i), ints -/
def maxDf (i : Int) : List Int → Int
  | [] => i
  | n :: r => r.foldl max n
def rMaxDf (K : PySem.W.Frag) : List V → List V → Hp → VK → Prop := fun vs zs H Q => ∃ (a : Addr) (ns : List Int) (i : Int), vs = [.ref a] ∧ zs = [.int i] ∧ SqL K H a (ns.map V.int) ∧
  Q (.int (maxDf i ns)) H
theorem reads_ints {h : Heap} : ∀ {us : List Value} {ns : List Int}, IntsAre us ns → ∃ as, ReadsAll h us (ns.map .int) as
  | _, _, .nil => ⟨[], .nil⟩
  | _, _, .cons _ _ t => by
    obtain ⟨as, r⟩ := reads_ints (h := h) t
    exact ⟨_, .cons (.int _ _) r⟩
theorem cr_maxDf {X : Cx} (calm : X.calm = true) (room : X.A.units + 64 < cLine) : CallRK X (.builtin "max") [Str.ofString "default"] (rMaxDf X.K) := by
  intro pn s0 sl H args kws us ks Q I0 ra rk h0
  obtain ⟨tab, ns, i, ea, ek, hT, g1⟩ := h0
  subst ea ek
  obtain rfl := Vals.ref1 ra
  obtain ⟨u, eu, ru⟩ := vals1 rk
  subst eu
  obtain ⟨t, rfl⟩ : ∃ t, u = Value.int i t := ru
  obtain ⟨cells, rel, at0, _⟩ := I0.list hT
  obtain ⟨ads, rd⟩ := reads_ints (h := s0.heap) rel.ints
  have flat : ∀ l : List Int, PyData.depthAll (l.map .int) = 0 := fun l => by
    induction l with
    | nil => rfl
    | cons y l ih => simp [PyData.depthAll, PyData.depth, ih]
  refine PySem.W.max_list_default (I0.ok.hd calm) at0.isList (by simpa using rd) ⟨fun y hy z hz => ?_, fun y hy => ?_⟩ (by rw [flat]; omega) (fun e g tk keep => ?_) (fun y ys j v g tk bs e _ hR keep => ?_)
  · obtain ⟨m, _, rfl⟩ := List.mem_map.mp hy
    obtain ⟨n, _, rfl⟩ := List.mem_map.mp hz
    simp [PySem.W.alike]
  · obtain ⟨m, _, rfl⟩ := List.mem_map.mp hy
    exact fun z => nomatch z
  · obtain rfl : ns = [] := List.map_eq_nil_iff.mp e
    exact ⟨.int i, H, I0.kept keep, ⟨_, rfl⟩, g1⟩
  · cases ns with
    | nil => cases e
    | cons n r =>
      rw [List.map_cons] at e
      injection e with e1 e2
      subst e1
      subst e2
      rw [PySem.W.maxD_ints] at hR
      cases hR
      exact ⟨.int _, H, I0.kept keep, ⟨_, rfl⟩, g1⟩
end Mr

namespace Mr
open PySem PySem.Spec PyProof.Rows L2
/-- a dict of the module's top whose keys and values are whole numbers -/
structure IntTable (K : PySem.W.Frag) (d : Addr) (f : Int → Option Int) : Prop where
  ex : ∃ (es : Array DictEntry) (n : Nat), K.lookup d = some ⟨.type "dict", none, .dict es n, #[]⟩ ∧ (∀ e ∈ es.toList, ∃ k t, e.key = .int k t ∧ e.hash = hashInt k) ∧
    ∀ k v, f k = some v → ∃ t, findBy Value.isInt es k = some (.int v t)
theorem IntTable.map {K : PySem.W.Frag} {d : Addr} {f : Int → Option Int} (T : IntTable K d f) {prog : Program} {w : World} {h : Heap} (X : K.In h) :
    ∃ g, h.MapOf (intKind prog w) d g ∧ ∀ k v, f k = some v → ∃ t, g k = some (.int v t) := by
  obtain ⟨es, n, hl, hk, hf⟩ := T.ex
  refine ⟨fun k => findBy Value.isInt es k, ⟨_, es, n, X _ _ hl, ⟨rfl, rfl, rfl⟩, rfl, fun e he => ?_, fun _ => rfl⟩, hf⟩
  obtain ⟨k, t, q1, q2⟩ := hk e (Array.mem_toList_iff.mpr he)
  refine ⟨k, ?_, q2⟩
  rw [q1]
  simp [PySem.intKind, Value.isInt]
def tTable (d : Addr) (f : Int → Option Int) (ta tb : TE) : TE := fun σ H Q => ta σ H fun x H1 => tb σ H1 fun y H2 => ∃ k v, x = .ref d ∧ y = .int k ∧ f k = some v ∧ Q (.int v) H2
theorem pe_table {X : Cx} {d : Addr} {f : Int → Option Int} {a b : Expr} {ta tb : TE} {pos : Pos} (T : IntTable X.K d f) (ha : PE X a ta) (hb : PE X b tb) (hs : NoSl b) : PE X (.Subscript a b pos) (tTable d f ta tb) := by
  constructor
  intro pn s0 sl H Q I0 h0
  refine subD_of PySem.F.slot_dict_getitem.lookup hs (thn (ha.run pn s0 sl H _ I0 h0) fun u1 s1 ⟨x, H1, I1, rx, q1⟩ => thn (hb.run pn s1 sl H1 _ I1 q1) fun u2 s2 ⟨y, H2, I2, ry, k, v, ex, ey, ef, q2⟩ => ?_)
  subst ex ey
  obtain rfl : u1 = Value.ref d := rx
  obtain ⟨t2, rfl⟩ := ry
  obtain ⟨g, hm, hg⟩ := T.map (prog := X.prog) (w := X.w) I2.kIn
  obtain ⟨t3, e3⟩ := hg k v ef
  refine ⟨hm.typeIs, wpAny_getItem_of (knd := intKind X.prog X.w) (k := k) (by simp [PySem.intKind, Value.isInt]) hm e3 ?_⟩
  exact ⟨.int v, H2, I2.tok _, ⟨_, rfl⟩, q2⟩
end Mr

namespace Mr
open PySem PySem.Spec PyProof.Rows L2

/-! ### sorted(d), the keys whole numbers, any number of them -/
def rSortedKeys : List V → Hp → VK → Prop := fun args H Q => ∃ (d : Addr) (prs : List (Key × V)) (ns : List Int), args = [.ref d] ∧ H d = some (.dK prs) ∧ prs.map (·.1) = ns.map Sum.inl ∧
  ∀ (ms : List Int) (z : Addr), ms.Perm ns → ms.Pairwise (· ≤ ·) → H z = none → Q (.ref z) (upd H z (.lst (ms.map V.int)))
theorem cr_sortedKeys {X : Cx} (calm : X.calm = true) : CallR X (.builtin "sorted") rSortedKeys := by
  intro pn s0 sl H args us Q I0 ra h0
  obtain ⟨d, prs, ns, ea, hD, hns, g⟩ := h0
  subst ea
  obtain rfl := Vals.ref1 ra
  obtain ⟨size0, notSys, cells, pair, isD⟩ := I0.hok d _ hD
  obtain ⟨ep, at0⟩ := isD.dictAt
  have keys0 : cells.map (·.1) = ns.map Sum.inl := pair.keys.symm.trans hns
  have size1 : cells.length = ns.length := by
    have := congrArg List.length keys0
    rwa [List.length_map, List.length_map] at this
  have size2 : cells.length ≤ sizeLine := Paired.length pair ▸ size0
  refine Calls.call_function_entry kind_sorted plain_sorted entry_sorted (args_sorted1 (.ref d)) ?_
  unfold Builtin.«sorted»
  refine wpAny_bind (m := checkCount "sorted" 1 1 _) (wpAny_pure (wpAny_bind (PySem.W.kdu_collect (A := X.A.in1) (PySem.W.kdl_dict (knd := mixKind X.prog X.w) (kvs := cells) (ep := ep) notSys) (I0.ok.hd calm) at0 size2 fun g1 tk got keep its => ?_)))
  have glen : got.toList.length = ns.length := by rw [Array.length_toList, its.1, size1]
  have whole : IntsAre got.toList ns := ints_each glen fun n v e => by
    obtain ⟨k, u, e1, e2⟩ := its.2 n v (by rw [← Array.getElem?_toList]; exact e)
    have e3 : (cells.map (·.1))[n]? = some k := by rw [List.getElem?_map, e1]; rfl
    rw [keys0, List.getElem?_map] at e3
    cases e4 : ns[n]? with
    | none => rw [e4] at e3; cases e3
    | some m =>
      rw [e4] at e3
      cases (show Sum.inl m = k from Option.some.inj e3)
      rcases keyIs_shape (show keyIs (Sum.inl m) v = true from e2) with ⟨i, t, ek, ev⟩ | ⟨i, t, ek, ev⟩
      · cases ek
        exact ⟨m, t, rfl, ev⟩
      · cases ek
  have J : Inv X pn sl H { s0 with heap := g1, toks := tk } := I0.kept keep
  have size3 : got.toList.length ≤ sizeLine := by rw [glen, ← size1]; exact size2
  refine wpAny_bind (wpAny_newList ?_ size3)
  have at1 : (g1.push (seqObj "list" got.toList.toArray 0)).get? g1.objs.size = some (seqObj "list" got.toList.toArray 0) := Heap.get?_push_size _ rfl
  show wpAny _ _ _ _ _ { s0 with heap := g1.push (seqObj "list" got.toList.toArray 0), toks := tk }
  refine wpAny_bind (wpAny_holding (wpAny_call_entry slot_list_sort ⟨_, at1, rfl⟩ entry_list_sort
    (SrtO.list_sort_ord (s := { s0 with heap := g1.push (seqObj "list" got.toList.toArray 0), toks := tk }) SrtO.swo_int at1 size3 (fun two => SrtO.ints_sortable whole two) fun out o1 o2 => ⟨_, rfl, ?_⟩) (args_list_sort _)))
  obtain ⟨k1, k2, k3⟩ := SrtO.ints_out whole o1 o2
  obtain ⟨e', at2⟩ := sortedHeap_at (vs := got.toList) (out := out.toArray) at1
  have size4 : ((out.map SrtO.iv).map V.int).length ≤ sizeLine := by
    rw [List.length_map, k2.length_eq, ← glen]
    exact size3
  refine wpAny_pure ⟨_, rfl, .ref g1.objs.size, upd H g1.objs.size (.lst ((out.map SrtO.iv).map V.int)), J.laid (t' := tk) (fun b u e => ?_) (Nat.le_refl _)
    ⟨size4, out, e', vals_of_ints k1, at2⟩, rfl, g _ _ k2 k3 (J.hok.fresh (Nat.le_refl _))⟩
  have hb : b < g1.objs.size := Heap.lt_size e
  rw [sortedHeap_old (Nat.ne_of_lt hb) (by rw [size_push']; exact Nat.lt_succ_of_lt hb)]
  exact Heap.get?_push_of_some _ e

/-! ### two lists of whole numbers, equal or not -/
theorem dp_ints {K : PySem.W.Frag} {H : Hp} : ∀ ns : List Int, DpAll K H (ns.map V.int) (ns.map PyData.int)
  | [] => .nil
  | n :: ns => .cons (.int n) (dp_ints ns)
theorem ints_lay : ∀ ns : List Int, PyData.canLayAll0 (ns.map PyData.int) = true ∧ PyData.depthAll (ns.map PyData.int) = 0
  | [] => by simp [PyData.canLayAll0, PyData.depthAll]
  | n :: ns => by
    have h := ints_lay ns
    simp [PyData.canLayAll0, PyData.canLay0, PyData.depthAll, PyData.depth, h.1, h.2]
theorem ints_shaped (l : List Int) : SeqAt.shaped (.list (l.map PyData.int)) = true := by
  have h := ints_lay l
  show (PyData.canLay0 (.list (l.map PyData.int)) && decide (PyData.depth (.list (l.map PyData.int)) ≤ 64)) = true
  rw [Bool.and_eq_true]
  refine ⟨by simp only [PyData.canLay0]; exact h.1, decide_eq_true ?_⟩
  simp only [PyData.depth]
  omega
theorem ints_eqvAll : ∀ ns ms : List Int, PyData.eqvAll (ns.map PyData.int) (ms.map PyData.int) = decide (ns = ms)
  | [], [] => by simp [PyData.eqvAll]
  | [], _ :: _ => by simp [PyData.eqvAll]
  | _ :: _, [] => by simp [PyData.eqvAll]
  | n :: ns, m :: ms => by
    rw [List.map_cons, List.map_cons, PyData.eqvAll, ints_eqvAll ns ms, PyData.eqv]
    by_cases h : n = m
    · by_cases h2 : ns = ms
      · simp [h, h2]
      · simp [h, h2]
    · simp [h]
def rEqI (K : PySem.W.Frag) : R2 := fun x y H Q => ∃ (a b : Addr) (ns ms : List Int), x = .ref a ∧ y = .ref b ∧ SqL K H a (ns.map V.int) ∧ SqL K H b (ms.map V.int) ∧ Q (.bl (decide (ns = ms))) H
theorem op_eqI {X : Cx} (room : X.A.units + 64 < cLine) : OpR X (compareOp .Eq) (rEqI X.K) := by
  intro pn s0 sl H x y u1 u2 Q I0 r1 r2 h0
  obtain ⟨a, b, ns, ms, ex, ey, ha, hb, g⟩ := h0
  subst ex ey
  refine op_eqD room pn s0 sl H _ _ u1 u2 Q I0 r1 r2 ⟨.list (ns.map PyData.int), .list (ms.map PyData.int), .lst ha (dp_ints ns), .lst hb (dp_ints ms), ints_shaped ns, ints_shaped ms, ?_⟩
  rw [show PyData.eqv (.list (ns.map PyData.int)) (.list (ms.map PyData.int)) = decide (ns = ms) by rw [PyData.eqv]; exact ints_eqvAll ns ms]
  exact g
end Mr

namespace Mp
open PySem L2 Mr Mh

/-! ### lookups among attributes -/
theorem lk_here {k : Str} {v : V} {r : List (Str × V)} : List.lookup k ((k, v) :: r) = some v := by
  have e : (k == k) = true := beq_self_eq_true k
  simp only [List.lookup, e]
theorem lk_past {k g : Str} {v : V} {r : List (Str × V)} (h : (k == g) = false) : List.lookup k ((g, v) :: r) = List.lookup k r := by
  simp only [List.lookup, h]
theorem put_here {f : Str} {v x : V} {r : List (Str × V)} : putF f v ((f, x) :: r) = (f, v) :: r := if_pos rfl
theorem put_past {f g : Str} {v x : V} {r : List (Str × V)} (h : ¬ g = f) : putF f v ((g, x) :: r) = (g, x) :: putF f v r := if_neg h

/-! ### a deed's object -/
def dF (n c k x : Int) (pl : V) : List (Str × V) := [("number", .int n), ("count", .int c), ("desk", .int k), ("thing", .int x), ("place", pl)]
section
variable (n c k x : Int) (pl : V)
theorem dF_number : (dF n c k x pl).lookup ("number" : Str) = some (.int n) := lk_here
theorem dF_count : (dF n c k x pl).lookup ("count" : Str) = some (.int c) := (lk_past (by decide +kernel)).trans lk_here
theorem dF_desk : (dF n c k x pl).lookup ("desk" : Str) = some (.int k) := (lk_past (by decide +kernel)).trans ((lk_past (by decide +kernel)).trans lk_here)
theorem dF_thing : (dF n c k x pl).lookup ("thing" : Str) = some (.int x) := (lk_past (by decide +kernel)).trans ((lk_past (by decide +kernel)).trans ((lk_past (by decide +kernel)).trans lk_here))
theorem dF_place : (dF n c k x pl).lookup ("place" : Str) = some pl := (lk_past (by decide +kernel)).trans ((lk_past (by decide +kernel)).trans ((lk_past (by decide +kernel)).trans ((lk_past (by decide +kernel)).trans lk_here)))
end
def side (r : Bool) : Str := if r = true then "right" else "left"
/-- the number that stands for a spot's place: -1 the beginning -/
def num (nm : Sq29.Stamp → Nat) : Option Sq29.Stamp → Int
  | none => -1
  | some s => (nm s : Int)
/-- a place's value in the heap -/
def PlaceAt (nm : Sq29.Stamp → Nat) (H : Hp) : Option Sq29.Spot → V → Prop
  | none, v => v = .non
  | some sp, v => ∃ t, v = .ref t ∧ H t = some (.tup [.int (num nm sp.of_), .str (side sp.right)])
/-- where the deed of a number lies -/
abbrev rf (adr : Nat → Addr) (d : Sq29.Deed) : V := .ref (adr d.id)
def DeedAt (C : Addr) (nm : Sq29.Stamp → Nat) (adr : Nat → Addr) (H : Hp) (d : Sq29.Deed) : Prop :=
  ∃ dx pl, H (adr d.id) = some (.ins C dx (dF d.id d.stamp.count d.stamp.hand d.thing pl)) ∧ PlaceAt nm H d.spot pl
theorem PlaceAt.same {nm : Sq29.Stamp → Nat} {H H' : Hp} (s : Same H H') : ∀ {o : Option Sq29.Spot} {v : V}, PlaceAt nm H o v → PlaceAt nm H' o v
  | none, _, h => h
  | some _, _, ⟨t, e, h⟩ => ⟨t, e, s _ _ h⟩
theorem DeedAt.same {C : Addr} {nm : Sq29.Stamp → Nat} {adr : Nat → Addr} {H H' : Hp} {d : Sq29.Deed} (s : Same H H') (h : DeedAt C nm adr H d) : DeedAt C nm adr H' d := by
  obtain ⟨dx, pl, h1, h2⟩ := h
  exact ⟨dx, pl, s _ _ h1, h2.same s⟩
/-- how all deeds that were done are named -/
structure Kn (all : List Sq29.Deed) (nm : Sq29.Stamp → Nat) : Prop where
  id : ∀ d ∈ all, nm d.stamp = d.id
  inj : ∀ d ∈ all, ∀ e ∈ all, d.id = e.id → d = e
  par : ∀ d ∈ all, ∀ s, Mh.par d = some s → (∃ e ∈ all, e.stamp = s) ∧ s.count < d.stamp.count
/-- a desk's deeds: ds as they came, l by their stamps -/
structure Desk (all ds l : List Sq29.Deed) : Prop where
  sub : ∀ d ∈ l, d ∈ all
  perm : ds.Perm l
  srt : Srt l
theorem Desk.late {all ds l : List Sq29.Deed} {nm : Sq29.Stamp → Nat} (K : Kn all nm) (D : Desk all ds l) : Late l := fun d hd s e => (K.par d (D.sub d hd) s e).2
theorem Desk.subD {all ds l : List Sq29.Deed} (D : Desk all ds l) : ∀ d ∈ ds, d ∈ all := fun d hd => D.sub d (D.perm.mem_iff.mp hd)
/-- a place that is asked for: the beginning, or a deed that was done -/
def Asks (all : List Sq29.Deed) (o : Option Sq29.Stamp) : Prop := ∀ s, o = some s → ∃ e ∈ all, e.stamp = s
theorem num_inj {all : List Sq29.Deed} {nm : Sq29.Stamp → Nat} (K : Kn all nm) {o o' : Option Sq29.Stamp} (h : Asks all o) (h' : Asks all o') (e : num nm o = num nm o') : o = o' := by
  cases o with
  | none =>
    cases o' with
    | none => rfl
    | some s => have e' : (-1 : Int) = (nm s : Int) := e; omega
  | some s =>
    cases o' with
    | none => have e' : (nm s : Int) = (-1 : Int) := e; omega
    | some s' =>
      obtain ⟨d, hd, rfl⟩ := h s rfl
      obtain ⟨d', hd', rfl⟩ := h' s' rfl
      have e' : (nm d.stamp : Int) = (nm d'.stamp : Int) := e
      rw [K.id d hd, K.id d' hd'] at e'
      rw [K.inj d hd d' hd' (by omega)]
theorem side_inj {a b : Bool} (h : side a = side b) : a = b := by
  cases a <;> cases b <;> first | rfl | exact absurd h (by decide +kernel)
theorem Kn.asks {all : List Sq29.Deed} {nm : Sq29.Stamp → Nat} (K : Kn all nm) {d : Sq29.Deed} (hd : d ∈ all) {sp : Sq29.Spot} (e : d.spot = some sp) : Asks all sp.of_ := fun s hs => by
  refine (K.par d hd s ?_).1
  unfold Mh.par
  rw [e]
  exact hs

/-! ### pure comprehensions -/
theorem take_more {α : Type} : ∀ {l : List α} {i : Nat} {x : α}, l[i]? = some x → l.take (i + 1) = l.take i ++ [x]
  | [], i, x, h => by simp at h
  | a :: l, 0, x, h => by
    have e : a = x := Option.some.inj h
    subst e
    rfl
  | a :: l, i + 1, x, h => by
    have ih := take_more (l := l) (i := i) (x := x) h
    show a :: l.take (i + 1) = a :: l.take i ++ [x]
    rw [ih]
    rfl
theorem Same.new {H : Hp} {p : Addr} {o : HO} (h : H p = none) : Same H (upd H p o) := fun b u e => by
  rw [upd_ne (ne_of_none e h)]
  exact e
theorem lc_fm {β : Type} {K : PySem.W.Frag} {a D : Addr} {bs : List β} {g f : β → V} {p : β → Bool} {gt : TG} {tt : TT} {te : TE} {vs : List Nat} {σ : L2.St} {H1 : Hp} {Qd : Hp → Prop}
    (hS : SqL K H1 a (bs.map g)) (hD : H1 D = none) (hz : bs.length ≤ 1000)
    (turn : ∀ b ∈ bs, ∀ H, Same H1 H → ∀ (Y : V → Hp → Prop) (Nn : Hp → Prop), (p b = true → Y (f b) H) → (p b = false → Nn H) →
      gt (g b) (wipe σ vs) H fun σ2 H2 => wipe σ2 vs = wipe σ vs ∧ tt σ2 H2 fun c H3 => if c = true then te σ2 H3 Y else Nn H3)
    (after : Qd (upd H1 D (.lst ((bs.filter p).map f)))) :
    ∃ Wk : Nat → Nat → Hp → Prop, (∃ m, Wk 0 m (upd H1 D (.lst []))) ∧ ∀ n m H, Wk n m H → ((Itl K a).stop n H ∧ Qd H) ∨ ((Itl K a).go n H ∧
      ∃ Nk : Hp → Prop, (∀ H', Nk H' → ∃ m', m' < m ∧ Wk (n + 1) m' H') ∧ ∀ x H', (Itl K a).yld n H x H' → gt x (wipe σ vs) H' fun σ2 H2 => wipe σ2 vs = wipe σ vs ∧
        tt σ2 H2 fun c H3 => if c = true then te σ2 H3 fun y H4 => ∃ got, H4 D = some (.lst got) ∧ got.length < sizeLine ∧ Nk (upd H4 D (.lst (got ++ [y]))) else Nk H3) := by
  refine lc_list (K := K) (a := a) (xs := bs.map g) (fun i H => H = upd H1 D (.lst (((bs.take i).filter p).map f))) rfl (fun i H _ e => ?_) (fun i x H hx e => ?_) (fun H e => ?_)
  · rw [e]
    exact (Same.new hD).seq hS
  · subst e
    rw [List.getElem?_map] at hx
    cases q : bs[i]? with
    | none => rw [q] at hx; cases hx
    | some b =>
      rw [q] at hx
      have hx' : g b = x := Option.some.inj hx
      subst hx'
      have tm := take_more q
      refine turn b (List.mem_of_getElem? q) _ (Same.new hD) _ _ (fun hp => ?_) (fun hp => ?_)
      · refine ⟨_, upd_same, ?_, ?_⟩
        · have h1 : (((bs.take i).filter p).map f).length ≤ bs.length := by
            rw [List.length_map]
            refine Nat.le_trans (List.length_filter_le _ _) ?_
            rw [List.length_take]
            omega
          exact Nat.lt_of_le_of_lt (Nat.le_trans h1 hz) (by decide)
        · rw [upd_upd, tm, List.filter_append, List.filter_cons, hp]
          simp
      · rw [tm, List.filter_append, List.filter_cons, hp]
        simp
  · subst e
    rw [List.length_map, List.take_length]
    exact after
theorem filter_true {α : Type} : ∀ l : List α, l.filter (fun _ => true) = l
  | [] => rfl
  | a :: l => by rw [List.filter_cons, if_pos rfl, filter_true l]
theorem lc_map {β : Type} {K : PySem.W.Frag} {a D : Addr} {bs : List β} {g f : β → V} {i : Nat} {te : TE} {vs : List Nat} {σ : L2.St} {H1 : Hp} {Qd : Hp → Prop}
    (hS : SqL K H1 a (bs.map g)) (hD : H1 D = none) (hz : bs.length ≤ 1000)
    (turn : ∀ b ∈ bs, ∀ H, Same H1 H → ∀ (Y : V → Hp → Prop), Y (f b) H → wipe ((wipe σ vs).set i (some (g b))) vs = wipe σ vs ∧ te ((wipe σ vs).set i (some (g b))) H Y)
    (after : Qd (upd H1 D (.lst (bs.map f)))) :
    ∃ Wk : Nat → Nat → Hp → Prop, (∃ m, Wk 0 m (upd H1 D (.lst []))) ∧ ∀ n m H, Wk n m H → ((Itl K a).stop n H ∧ Qd H) ∨ ((Itl K a).go n H ∧
      ∃ Nk : Hp → Prop, (∀ H', Nk H' → ∃ m', m' < m ∧ Wk (n + 1) m' H') ∧ ∀ x H', (Itl K a).yld n H x H' → gName i x (wipe σ vs) H' fun σ2 H2 => wipe σ2 vs = wipe σ vs ∧
        tYes σ2 H2 fun c H3 => if c = true then te σ2 H3 fun y H4 => ∃ got, H4 D = some (.lst got) ∧ got.length < sizeLine ∧ Nk (upd H4 D (.lst (got ++ [y]))) else Nk H3) := by
  refine lc_fm (bs := bs) (g := g) (f := f) (p := fun _ => true) (gt := gName i) (tt := tYes) (te := te) hS hD hz (fun b hb H s Y Nn hY hN => ?_) (by rw [filter_true]; exact after)
  obtain ⟨h1, h2⟩ := turn b hb H s Y (hY rfl)
  refine ⟨h1, ?_⟩
  show if true = true then te ((wipe σ vs).set i (some (g b))) H Y else Nn H
  rw [if_pos rfl]
  exact h2
end Mp

namespace Mp
open PySem L2 Mr Mh

def top (i : Nat) : Stmt := PySem.Challenge.pw_manyhandssheet_s01_answers.main.body.getD i (.Pass ⟨0, 0, 0, 0⟩)
abbrev sDInit : Stmt := inClass (top 20) 0
abbrev sStamp : Stmt := top 21
abbrev sLatest : Stmt := top 22

/-! ### what lies at each place, the latest first -/
def key (nm : Sq29.Stamp → Nat) (o : Option Sq29.Stamp) (r : Bool) : List Key := [.inl (num nm o), .inr (side r)]
theorem key_inj {all : List Sq29.Deed} {nm : Sq29.Stamp → Nat} (K : Kn all nm) {o o' : Option Sq29.Stamp} {r r' : Bool} (h : Asks all o) (h' : Asks all o') (e : key nm o r = key nm o' r') : o = o' ∧ r = r' := by
  unfold key at e
  injection e with e1 e2
  injection e2 with e2 _
  exact ⟨num_inj K h h' (Sum.inl.inj e1), side_inj (Sum.inr.inj e2)⟩
structure By (all : List Sq29.Deed) (nm : Sq29.Stamp → Nat) (adr : Nat → Addr) (H0 H : Hp) (pre : List Sq29.Deed) (kvs : List (List Key × V)) : Prop where
  here : ∀ o r, Asks all o → (valV kvs (key nm o r) = none ∧ Sq29.at_ pre o r = []) ∨ ∃ q, valV kvs (key nm o r) = some (.ref q) ∧ H0 q = none ∧ H q = some (.lst ((Sq29.at_ pre o r).map (rf adr)))
  apart : ∀ o r o' r' q, Asks all o → Asks all o' → valV kvs (key nm o r) = some (.ref q) → valV kvs (key nm o' r') = some (.ref q) → o = o' ∧ r = r'
theorem at_snoc (pre : List Sq29.Deed) (d : Sq29.Deed) (o : Option Sq29.Stamp) (r : Bool) : Sq29.at_ (pre ++ [d]) o r = Sq29.at_ pre o r ++ (if d.spot = some ⟨o, r⟩ then [d] else []) := by
  unfold Sq29.at_
  rw [List.filter_append]
  congr 1
  by_cases h : d.spot = some ⟨o, r⟩
  · have e : (d.spot == some ⟨o, r⟩) = true := by simpa using h
    rw [if_pos h, List.filter_cons, e]
    rfl
  · have e : (d.spot == some ⟨o, r⟩) = false := by simpa using h
    rw [if_neg h, List.filter_cons, e]
    rfl
theorem at_rev (l : List Sq29.Deed) (o : Option Sq29.Stamp) (r : Bool) : Sq29.at_ l.reverse o r = (Sq29.at_ l o r).reverse := by
  unfold Sq29.at_
  rw [List.filter_reverse]
section
variable {all : List Sq29.Deed} {nm : Sq29.Stamp → Nat} {adr : Nat → Addr} {H0 H H' : Hp} {pre : List Sq29.Deed} {kvs : List (List Key × V)} {d : Sq29.Deed} {o : Option Sq29.Stamp} {r : Bool} {q : Addr}
theorem By.start : By all nm adr H0 H [] [] := ⟨fun _ _ _ => .inl ⟨rfl, rfl⟩, fun _ _ _ _ _ _ _ e _ => by cases e⟩
theorem By.keep (B : By all nm adr H0 H pre kvs) (s : Same H H') : By all nm adr H0 H' pre kvs := by
  refine ⟨fun o r ha => ?_, B.apart⟩
  rcases B.here o r ha with h | ⟨q, h1, h2, h3⟩
  · exact .inl h
  · exact .inr ⟨q, h1, h2, s _ _ h3⟩
theorem By.base {Hb : Hp} (B : By all nm adr Hb H pre kvs) (s : Same H0 Hb) : By all nm adr H0 H pre kvs := by
  refine ⟨fun o r ha => ?_, B.apart⟩
  rcases B.here o r ha with h | ⟨q, h1, h2, h3⟩
  · exact .inl h
  · exact .inr ⟨q, h1, s.free h2, h3⟩
theorem By.skip (B : By all nm adr H0 H pre kvs) (hd : d.spot = none) : By all nm adr H0 H (pre ++ [d]) kvs := by
  refine ⟨fun o r ha => ?_, B.apart⟩
  rw [at_snoc, if_neg (by rw [hd]; intro e; cases e), List.append_nil]
  exact B.here o r ha
theorem By.more (K : Kn all nm) (B : By all nm adr H0 H pre kvs) (hd : d.spot = some ⟨o, r⟩) (ha : Asks all o) (hv : valV kvs (key nm o r) = some (.ref q))
    (hq : H' q = some (.lst ((Sq29.at_ pre o r).map (rf adr) ++ [rf adr d]))) (hk : ∀ b u, b ≠ q → H b = some u → H' b = some u) : By all nm adr H0 H' (pre ++ [d]) kvs := by
  refine ⟨fun o' r' ha' => ?_, B.apart⟩
  rw [at_snoc]
  by_cases h : o = o' ∧ r = r'
  · obtain ⟨rfl, rfl⟩ := h
    rcases B.here o r ha with ⟨h1, _⟩ | ⟨q', h1, h2, h3⟩
    · rw [hv] at h1; cases h1
    · rw [hv] at h1
      cases h1
      refine .inr ⟨q, hv, h2, ?_⟩
      rw [if_pos hd, List.map_append]
      exact hq
  · have ne : ¬ d.spot = some ⟨o', r'⟩ := fun e => by
      rw [hd] at e
      have e' := Option.some.inj e
      exact h ⟨congrArg Sq29.Spot.of_ e', congrArg Sq29.Spot.right e'⟩
    rw [if_neg ne, List.append_nil]
    rcases B.here o' r' ha' with h1 | ⟨q', h1, h2, h3⟩
    · exact .inl h1
    · refine .inr ⟨q', h1, h2, hk q' _ (fun e => ?_) h3⟩
      subst e
      exact h (B.apart o r o' r' q' ha ha' hv h1)
theorem By.first (K : Kn all nm) (B : By all nm adr H0 H pre kvs) (hd : d.spot = some ⟨o, r⟩) (ha : Asks all o) (hv : valV kvs (key nm o r) = none) (h0 : H0 q = none) (hn : H q = none) {p : Addr} (hp : H p = some (.dT kvs))
    (hq : H' q = some (.lst [rf adr d])) (hk : ∀ b u, b ≠ p → H b = some u → H' b = some u) : By all nm adr H0 H' (pre ++ [d]) (putK kvs (key nm o r) (.ref q)) := by
  have hput : ∀ o' r', valV (putK kvs (key nm o r) (.ref q)) (key nm o' r') = if key nm o' r' = key nm o r then some (.ref q) else valV kvs (key nm o' r') := fun o' r' => valV_put _ _ _ _
  have new : ∀ o' r', Asks all o' → valV kvs (key nm o' r') ≠ some (.ref q) := fun o' r' ha' e => by
    rcases B.here o' r' ha' with ⟨h1, _⟩ | ⟨q', h1, _, h3⟩
    · rw [e] at h1; cases h1
    · rw [e] at h1
      cases h1
      rw [hn] at h3
      cases h3
  refine ⟨fun o' r' ha' => ?_, fun o1 r1 o2 r2 q' ha1 ha2 e1 e2 => ?_⟩
  · rw [at_snoc, hput]
    by_cases h : key nm o' r' = key nm o r
    · obtain ⟨rfl, rfl⟩ := key_inj K ha' ha h
      rw [if_pos rfl]
      refine .inr ⟨q, rfl, h0, ?_⟩
      rcases B.here o' r' ha with ⟨_, h2⟩ | ⟨q', h1, _⟩
      · rw [if_pos hd, h2]
        exact hq
      · rw [hv] at h1; cases h1
    · rw [if_neg h]
      have ne : ¬ d.spot = some ⟨o', r'⟩ := fun e => by
        rw [hd] at e
        have e' := Option.some.inj e
        have e1 : o = o' := congrArg Sq29.Spot.of_ e'
        have e2 : r = r' := congrArg Sq29.Spot.right e'
        rw [e1, e2] at h
        exact h rfl
      rw [if_neg ne, List.append_nil]
      rcases B.here o' r' ha' with h1 | ⟨q', h1, h2, h3⟩
      · exact .inl h1
      · exact .inr ⟨q', h1, h2, hk q' _ (ne_of h3 hp (by intro z; cases z)) h3⟩
  · rw [hput] at e1 e2
    by_cases h1 : key nm o1 r1 = key nm o r
    · obtain ⟨rfl, rfl⟩ := key_inj K ha1 ha h1
      rw [if_pos rfl] at e1
      cases e1
      by_cases h2 : key nm o2 r2 = key nm o1 r1
      · obtain ⟨rfl, rfl⟩ := key_inj K ha2 ha1 h2
        exact ⟨rfl, rfl⟩
      · rw [if_neg h2] at e2
        exact absurd e2 (new o2 r2 ha2)
    · rw [if_neg h1] at e1
      by_cases h2 : key nm o2 r2 = key nm o r
      · rw [if_pos h2] at e2
        cases e2
        exact absurd e1 (new o1 r1 ha1)
      · rw [if_neg h2] at e2
        exact B.apart o1 r1 o2 r2 q' ha1 ha2 e1 e2
end

/-! ### the text -/
structure TDeed (K : PySem.W.Frag) (mg : Str → Option Value) (C : Addr) : Prop where
  cl : Cls K C
  nN : NoAttr K C "number"
  nC : NoAttr K C "count"
  nD : NoAttr K C "desk"
  nT : NoAttr K C "thing"
  nP : NoAttr K C "place"
  gC : mg "Deed" = some (.ref C)
  sorted : mg "sorted" = none
  len : mg "len" = none
  list : mg "list" = none
  max : mg "max" = none
  range : mg "range" = none
/-- what is asked of a list of deeds that is handed in -/
structure Given (C : Addr) (all : List Sq29.Deed) (nm : Sq29.Stamp → Nat) (adr : Nat → Addr) (H : Hp) (ds l : List Sq29.Deed) : Prop where
  kn : Kn all nm
  dk : Desk all ds l
  few : all.length ≤ 120
  nd : all.Nodup
  at_ : ∀ d ∈ ds, DeedAt C nm adr H d
theorem Given.same {C : Addr} {all : List Sq29.Deed} {nm : Sq29.Stamp → Nat} {adr : Nat → Addr} {H H' : Hp} {ds l : List Sq29.Deed} (G : Given C all nm adr H ds l) (s : Same H H') : Given C all nm adr H' ds l :=
  ⟨G.kn, G.dk, G.few, G.nd, fun d hd => (G.at_ d hd).same s⟩
theorem Given.len {C : Addr} {all : List Sq29.Deed} {nm : Sq29.Stamp → Nat} {adr : Nat → Addr} {H : Hp} {ds l : List Sq29.Deed} (G : Given C all nm adr H ds l) : l.length ≤ 120 :=
  Nat.le_trans (G.dk.srt.nodup.length_le_of_subset fun d hd => G.dk.sub d hd) G.few
theorem Given.atL {C : Addr} {all : List Sq29.Deed} {nm : Sq29.Stamp → Nat} {adr : Nat → Addr} {H : Hp} {ds l : List Sq29.Deed} (G : Given C all nm adr H ds l) : ∀ d ∈ l, DeedAt C nm adr H d := fun d hd => G.at_ d (G.dk.perm.mem_iff.mpr hd)
theorem Given.late {C : Addr} {all : List Sq29.Deed} {nm : Sq29.Stamp → Nat} {adr : Nat → Addr} {H : Hp} {ds l : List Sq29.Deed} (G : Given C all nm adr H ds l) : Late l := G.dk.late G.kn

def spLatest (C : Addr) : Sp := fun vs H Q _ => ∃ (a : Addr) (all : List Sq29.Deed) (nm : Sq29.Stamp → Nat) (adr : Nat → Addr) (ds l : List Sq29.Deed), vs = [.ref a] ∧ Given C all nm adr H ds l ∧ H a = some (.lst (ds.map (rf adr))) ∧
  ∀ (H' : Hp) (p : Addr) (kvs : List (List Key × V)), Same H H' → H p = none → H' p = some (.dT kvs) → By all nm adr H H' l.reverse kvs → Q (.ref p) H'

section
variable {P : Program} {w : World} {K : PySem.W.Frag} {mg : Str → Option Value} {base : Heap}
theorem scStamp : FnScope ["deed"] ["deed"] (defScope sStamp) := ⟨rfl, rfl, rfl, by decide +kernel, rfl, by decide +kernel, by decide +kernel⟩
theorem stampDef : PairDef sStamp "deed" "count" "desk" := ⟨⟨_, _, _, _, _, _, _, rfl⟩, rfl, scStamp, by decide +kernel⟩
theorem scLatest : FnScope ["deeds", "by_place", "deed"] ["deeds"] (defScope sLatest) := ⟨rfl, rfl, rfl, by decide +kernel, rfl, by decide +kernel, by decide +kernel⟩
theorem ok_latest {f C fS : Addr} {fd fdS : FuncData} (F : Fun K "latest_first_by_place" "latest_first_by_place" sLatest f fd) (T : TDeed K mg C) (FS : Fun K "stamp" "stamp" sStamp fS fdS) (bS : Binds K fdS ["deed"] []) (gS : mg "stamp" = some (.ref fS)) :
    FnOk P w K mg base CX0 4 f fd ["deeds"] (spLatest C) := by
  refine F.ok scLatest (fun vs H Q E h => ?_) (fun cdv A outer s H vs Q E hr h => ?_)
  · obtain ⟨a, all, nm, adr, ds, l, rfl, _⟩ := h
    rfl
  · obtain ⟨a, all, nm, adr, ds, l, rfl, G, hA, k⟩ := h
    refine ⟨_, pss_cons (ps_set (i := 1) scLatest.nd rfl (Or.inl rfl) pe_dnewT)
      (pss_cons (ps_for PassesOwn.never rfl (pi_list (pe_callBK (cr_sortByRev (β := Sq29.Deed) (b := true) stampDef FS bS hr T.cl T.nC T.nD) (by rfl) T.sorted PyProof.Rows.boot_sorted (pa_cons (pv 0) pa_nil) (pk_cons (pe_glob (v := .ref fS) rfl gS rfl) (pk_cons pe_bl pk_nil)))) (pg_name (i := 2) scLatest.nd rfl (Or.inl rfl))
        (pss_one (ps_if (pt_cmp (pc_notN (pe_fld (pv 2) rfl)))
          (pss_one (ps_expr (pe_bm PySem.F.plainAttrs_list PySem.F.slot_list_append PySem.F.type_list_append mt_append (pe_dsetdT (hu_of hr) (pv 1) (pe_fld (pv 2) rfl) (pe_lst pa_nil) ⟨rfl, rfl, rfl, rfl⟩) (pa_cons (pv 2) pa_nil)))) pss_nil)))
      (pss_one (ps_ret (pv 1)))), ?_⟩
    intro p hp
    have s1 : Same H (upd H p (.dT [])) := Same.new hp
    refine ⟨_, rfl, ?_⟩
    refine ⟨a, ds, fun d => adr d.id, fun d => (d.stamp.count : Int), fun d => (d.stamp.hand : Int), rfl, rfl, SqL.of (s1 _ _ hA), fun d hd => ?_, fun z hz => ?_⟩
    · obtain ⟨dx, pl, h1, _⟩ := G.at_ d hd
      exact ⟨dx, _, s1 _ _ h1, dF_count _ _ _ _ _, dF_desk _ _ _ _ _⟩
    have eo : ds.mergeSort (ordBy true (fun d : Sq29.Deed => (d.stamp.count : Int)) (fun d => (d.stamp.hand : Int))) = l.reverse := G.dk.srt.down G.dk.perm
    rw [eo]
    have s2 : Same (upd H p (.dT [])) (upd (upd H p (.dT [])) z (.lst (l.reverse.map (rf adr)))) := Same.new hz
    have npz : p ≠ z := ne_of_none (H := upd H p (.dT [])) upd_same hz
    refine ⟨z, rfl, ⟨_, SqL.of upd_same⟩, for_list (K := K) (a := z) (xs := l.reverse.map (rf adr)) (fun i σ H' => ∃ (v : Option V) (kvs : List (List Key × V)), σ = [some (.ref a), some (.ref p), v] ∧ Same H H' ∧ H' z = some (.lst (l.reverse.map (rf adr))) ∧
      H' p = some (.dT kvs) ∧ kvs.length ≤ i ∧ By all nm adr (upd (upd H p (.dT [])) z (.lst (l.reverse.map (rf adr)))) H' (l.reverse.take i) kvs) ⟨none, [], rfl, s1.trans s2, upd_same, by rw [upd_ne npz]; exact upd_same, Nat.le_refl _, By.start⟩ (fun i σ H' _ ⟨_, _, _, _, h, _⟩ => SqL.of h) ?_ ?_⟩
    · rintro i y σ H' hi ⟨v, kvs, rfl, sm, hZ, hP, hlen, B⟩
      rw [List.getElem?_map] at hi
      cases q : l.reverse[i]? with
      | none => rw [q] at hi; cases hi
      | some d =>
      rw [q] at hi
      obtain rfl : rf adr d = y := Option.some.inj hi
      have hd : d ∈ l := List.mem_reverse.mp (List.mem_of_getElem? q)
      have hi2 : i < l.length := by
        have := (List.getElem?_eq_some_iff.mp q).1
        rwa [List.length_reverse] at this
      have hlen2 : kvs.length ≤ 120 := by have := G.len; omega
      have tm := take_more q
      obtain ⟨dx, pl, h1, h2⟩ := (G.atL d hd).same sm
      refine ⟨_, rfl, _, C, dx, _, _, rfl, h1, T.cl, T.nP, dF_place _ _ _ _ _, ?_⟩
      cases es : d.spot with
      | none =>
        rw [es] at h2
        cases (show pl = V.non from h2)
        refine ⟨_, rfl, ?_⟩
        refine iteNS rfl ?_
        exact ⟨_, kvs, rfl, sm, hZ, hP, Nat.le_succ_of_le hlen, by rw [tm]; exact B.skip es⟩
      | some sp =>
        rw [es] at h2
        obtain ⟨t, rfl, ht⟩ := (show ∃ t, pl = V.ref t ∧ H' t = some (.tup [.int (num nm sp.of_), .str (side sp.right)]) from h2)
        refine ⟨_, rfl, ?_⟩
        refine iteT ?_
        refine ⟨_, rfl, p, rfl, .inr ⟨kvs, .inl hP⟩, _, rfl, _, C, dx, _, _, rfl, h1, T.cl, T.nP, dF_place _ _ _ _ _, Nat.zero_le _, fun q hq => ?_⟩
        have ha : Asks all sp.of_ := G.kn.asks (G.dk.sub d hd) es
        have npq : p ≠ q := ne_of_none hP hq
        have nzq : z ≠ q := ne_of_none hZ hq
        have ntq : t ≠ q := ne_of_none ht hq
        have s3 : Same H' (upd H' q (.lst [])) := Same.new hq
        refine ⟨kvs, key nm sp.of_ sp.right, t, s3 _ _ hP, rfl, s3 _ _ ht, Nat.lt_of_le_of_lt hlen2 (by decide), fun v hv => ?_, fun hn => ?_⟩
        · -- there is a list already
          rcases B.here sp.of_ sp.right ha with ⟨e1, _⟩ | ⟨q', e1, e2, e3⟩
          · rw [hv] at e1; cases e1
          rw [hv] at e1
          cases e1
          have e4 := s3 _ _ e3
          have hl3 : ((Sq29.at_ (l.reverse.take i) sp.of_ sp.right).map (rf adr)).length ≤ 120 := by
            rw [List.length_map]
            have := List.length_filter_le (fun d : Sq29.Deed => d.spot == some ⟨sp.of_, sp.right⟩) (l.reverse.take i)
            have := G.len
            rw [List.length_take, List.length_reverse] at *
            unfold Sq29.at_
            omega
          refine ⟨.inl ⟨rfl, _, SqL.of e4⟩, _, rfl, q', _, _, rfl, rfl, e4, Nat.lt_of_le_of_lt hl3 (by decide), ?_⟩
          have nb : ∀ b u, H b = some u → b ≠ q' := fun b u e => ne_of_none ((s1.trans s2) _ _ e) e2
          have nzq' : z ≠ q' := ne_of_none (H := upd (upd H p (.dT [])) z (.lst (l.reverse.map (rf adr)))) upd_same e2
          refine ⟨_, kvs, rfl, fun b u e => ?_, ?_, ?_, Nat.le_succ_of_le hlen, ?_⟩
          · rw [upd_ne (nb b u e)]
            exact s3 _ _ (sm _ _ e)
          · rw [upd_ne nzq']
            exact s3 _ _ hZ
          · rw [upd_ne (ne_of (s3 _ _ hP) e4 (by intro z; cases z))]
            exact s3 _ _ hP
          · rw [tm]
            exact By.more G.kn B es ha hv upd_same fun b u hb e => by rw [upd_ne hb]; exact s3 _ _ e
        · -- a new list
          have e4 : upd (upd H' q (.lst [])) p (.dT (putK kvs (key nm sp.of_ sp.right) (.ref q))) q = some (.lst []) := by rw [upd_ne npq.symm, upd_same]
          refine ⟨.inl ⟨rfl, _, SqL.of e4⟩, _, rfl, q, _, _, rfl, rfl, e4, by show 0 < sizeLine; decide, ?_⟩
          have hbq : (upd (upd H p (.dT [])) z (.lst (l.reverse.map (rf adr)))) q = none := by
            rw [upd_ne nzq.symm, upd_ne npq.symm]
            exact sm.free hq
          have nb : ∀ b u, H b = some u → b ≠ p ∧ b ≠ q := fun b u e => ⟨ne_of_none e hp, ne_of_none (sm _ _ e) hq⟩
          refine ⟨_, putK kvs (key nm sp.of_ sp.right) (.ref q), rfl, fun b u e => ?_, ?_, ?_, ?_, ?_⟩
          · rw [upd_ne (nb b u e).2, upd_ne (nb b u e).1]
            exact s3 _ _ (sm _ _ e)
          · rw [upd_ne nzq, upd_ne npz.symm]
            exact s3 _ _ hZ
          · rw [upd_ne npq]
            exact upd_same
          · have := length_putK kvs (key nm sp.of_ sp.right) (.ref q)
            omega
          · rw [tm]
            refine By.first G.kn B es ha hn hbq hq hP upd_same fun b u hb e => ?_
            rw [upd_ne (ne_of_none e hq), upd_ne hb]
            exact s3 _ _ e
    · rintro σ H' ⟨v, kvs, rfl, sm, hZ, hP, hlen, B⟩
      rw [List.length_map, List.take_length] at B
      exact ⟨_, rfl, k _ p kvs sm hp hP (B.base (s1.trans s2))⟩
end
end Mp

namespace Mp
open PySem L2 Mr Mh
abbrev sSpots : Stmt := top 23

/-- what is got at a place -/
theorem By.got {all : List Sq29.Deed} {nm : Sq29.Stamp → Nat} {adr : Nat → Addr} {H0 H : Hp} {l : List Sq29.Deed} {kvs : List (List Key × V)} (B : By all nm adr H0 H l.reverse kvs) {o : Option Sq29.Stamp} (r : Bool) (ha : Asks all o) {e : Addr} (he : H e = some (.lst [])) :
    ∃ q, (valV kvs (key nm o r)).getD (.ref e) = .ref q ∧ H q = some (.lst ((Sq29.at_ l o r).reverse.map (rf adr))) := by
  rcases B.here o r ha with ⟨h1, h2⟩ | ⟨q, h1, _, h3⟩
  · rw [at_rev] at h2
    exact ⟨e, by rw [h1]; rfl, by rw [h2]; exact he⟩
  · rw [at_rev] at h3
    exact ⟨q, by rw [h1]; rfl, h3⟩

/-! ### whose lefts were laid -/
def doneK (done : List Sq29.Deed) : List (Key × V) := done.map fun d => (.inl (d.id : Int), .bl true)
theorem doneK_in {all done : List Sq29.Deed} {nm : Sq29.Stamp → Nat} (K : Kn all nm) (hs : ∀ d ∈ done, d ∈ all) {d : Sq29.Deed} (hd : d ∈ all) : (valV (doneK done) (.inl (d.id : Int))).isSome = decide (d ∈ done) := by
  rw [← valV_any]
  unfold doneK
  rw [List.any_map]
  by_cases h : d ∈ done
  · rw [decide_eq_true h]
    exact List.any_eq_true.mpr ⟨d, h, decide_eq_true rfl⟩
  · rw [decide_eq_false h]
    refine List.any_eq_false.mpr fun e he q => h ?_
    have q' : (Sum.inl (e.id : Int) : Key) = Sum.inl (d.id : Int) := of_decide_eq_true q
    have := Sum.inl.inj q'
    rw [← K.inj e (hs e he) d hd (by omega)]
    exact he
theorem doneK_put {all done : List Sq29.Deed} {nm : Sq29.Stamp → Nat} (K : Kn all nm) (hs : ∀ d ∈ done, d ∈ all) {d : Sq29.Deed} (hd : d ∈ all) (h : d ∉ done) : putK (doneK done) (.inl (d.id : Int)) (.bl true) = doneK (done ++ [d]) := by
  have e : valV (doneK done) (.inl (d.id : Int)) = none := by
    have q := doneK_in K hs hd
    rw [decide_eq_false h] at q
    cases z : valV (doneK done) (.inl (d.id : Int)) with
    | none => rfl
    | some v => rw [z] at q; cases q
  rw [putK_new _ e]
  unfold doneK
  rw [List.map_append]
  rfl

/-- the three things that the walk changes, over a heap that stays -/
structure Lp (Hb : Hp) (S D A : Addr) (H : Hp) (xs : List V) (ks : List (Key × V)) (ys : List V) : Prop where
  same : Same Hb H
  nS : Hb S = none
  nD : Hb D = none
  nA : Hb A = none
  hS : H S = some (.lst ys)
  hD : H D = some (.dK ks)
  hA : H A = some (.lst xs)
  ne : S ≠ A
section
variable {Hb H : Hp} {S D A p : Addr} {xs ys : List V} {ks : List (Key × V)} {o : HO}
theorem Lp.neSD (L : Lp Hb S D A H xs ks ys) : S ≠ D := ne_of L.hS L.hD (by intro z; cases z)
theorem Lp.neAD (L : Lp Hb S D A H xs ks ys) : A ≠ D := ne_of L.hA L.hD (by intro z; cases z)
theorem Lp.new (L : Lp Hb S D A H xs ks ys) (hp : H p = none) : Lp Hb S D A (upd H p o) xs ks ys :=
  have s := Same.new (o := o) hp
  ⟨L.same.trans s, L.nS, L.nD, L.nA, s _ _ L.hS, s _ _ L.hD, s _ _ L.hA, L.ne⟩
theorem Lp.setA (L : Lp Hb S D A H xs ks ys) (xs' : List V) : Lp Hb S D A (upd H A (.lst xs')) xs' ks ys :=
  ⟨fun b u e => by rw [upd_ne (ne_of_none e L.nA)]; exact L.same _ _ e, L.nS, L.nD, L.nA, by rw [upd_ne L.ne]; exact L.hS, by rw [upd_ne L.neAD.symm]; exact L.hD, upd_same, L.ne⟩
theorem Lp.setS (L : Lp Hb S D A H xs ks ys) (ys' : List V) : Lp Hb S D A (upd H S (.lst ys')) xs ks ys' :=
  ⟨fun b u e => by rw [upd_ne (ne_of_none e L.nS)]; exact L.same _ _ e, L.nS, L.nD, L.nA, upd_same, by rw [upd_ne L.neSD.symm]; exact L.hD, by rw [upd_ne L.ne.symm]; exact L.hA, L.ne⟩
theorem Lp.setD (L : Lp Hb S D A H xs ks ys) (ks' : List (Key × V)) : Lp Hb S D A (upd H D (.dK ks')) xs ks' ys :=
  ⟨fun b u e => by rw [upd_ne (ne_of_none e L.nD)]; exact L.same _ _ e, L.nS, L.nD, L.nA, by rw [upd_ne L.neSD]; exact L.hS, upd_same, by rw [upd_ne L.neAD]; exact L.hA, L.ne⟩
end

structure TConst (mg : Str → Option Value) : Prop where
  beg : ∃ t, mg "BEGINNING" = some (.int (-1) t)
  right : ∃ t, mg "RIGHT" = some (.str "right" t)
  left : ∃ t, mg "LEFT" = some (.str "left" t)

def spSpots (C : Addr) : Sp := fun vs H Q _ => ∃ (a : Addr) (all : List Sq29.Deed) (nm : Sq29.Stamp → Nat) (adr : Nat → Addr) (ds l : List Sq29.Deed), vs = [.ref a] ∧ Given C all nm adr H ds l ∧ H a = some (.lst (ds.map (rf adr))) ∧
  ∀ (H' : Hp) (p : Addr), Same H H' → H p = none → H' p = some (.lst ((Sq29.spots l).map (rf adr))) → Q (.ref p) H'

section
variable {P : Program} {w : World} {K : PySem.W.Frag} {mg : Str → Option Value} {base : Heap}
theorem scSpots : FnScope ["deeds", "by_place", "spots", "lefts_done", "ahead", "deed"] ["deeds"] (defScope sSpots) := ⟨rfl, rfl, rfl, by decide +kernel, rfl, by decide +kernel, by decide +kernel⟩
theorem ok_spots {f C fL : Addr} {fd fdL : FuncData} (F : Fun K "spots_of" "spots_of" sSpots f fd) (T : TDeed K mg C) (TC : TConst mg)
    (GL : FnOk P w K mg base CX0 4 fL fdL ["deeds"] (spLatest C)) (kL : PySem.W.keepIn K (.ref fL) = true) (bL : Binds K fdL ["deeds"] []) (gL : mg "latest_first_by_place" = some (.ref fL)) :
    FnOk P w K mg base CX0 5 f fd ["deeds"] (spSpots C) := by
  obtain ⟨tb, gB⟩ := TC.beg
  obtain ⟨tr, gR⟩ := TC.right
  obtain ⟨tl, gLe⟩ := TC.left
  refine F.ok scSpots (fun vs H Q E h => ?_) (fun cdv A outer s H vs Q E hr h => ?_)
  · obtain ⟨a, all, nm, adr, ds, l, rfl, _⟩ := h
    rfl
  · obtain ⟨a, all, nm, adr, ds, l, rfl, G, hA, k⟩ := h
    refine ⟨_, pss_cons (ps_set (i := 1) scSpots.nd rfl (Or.inl rfl) (pe_call GL hr rfl gL kL bL .nil pass0 (pa_cons (pv 0) pa_nil)))
      (pss_cons (ps_set (i := 2) scSpots.nd rfl (Or.inl rfl) (pe_lst pa_nil))
      (pss_cons (ps_set (i := 3) scSpots.nd rfl (Or.inl rfl) pe_dnewK)
      (pss_cons (ps_set (i := 4) scSpots.nd rfl (Or.inl rfl) (pe_callTy call_list_of (by rfl) T.list PyProof.Rows.boot_list (pa_cons (pe_dget2 (hu_of hr) (pv 1) (pe_tup (pa_cons (pe_glob (v := .int (-1)) rfl gB ⟨_, rfl⟩) (pa_cons (pe_glob (v := .str "right") rfl gR ⟨_, rfl⟩) pa_nil))) (pe_lst pa_nil) ⟨rfl, rfl, rfl, rfl⟩) pa_nil)))
      (pss_cons (ps_while PassesOwn.never (pt_cmpR op_gt (pe_callB call_len_seq (by rfl) T.len PySem.boot_len (pa_cons (pv 4) pa_nil)) pe_int (nomark _))
        (pss_cons (ps_set (i := 5) scSpots.nd rfl (Or.inl rfl) (pe_bm0 PySem.F.plainAttrs_list PySem.F.slot_list_pop PySem.F.type_list_pop mt_pop (pv 4)))
        (pss_one (ps_if (pt_cmp (pc_din (hu_of hr) (pe_fld (pv 5) rfl) (pv 3)))
          (pss_one (ps_expr (pe_bm PySem.F.plainAttrs_list PySem.F.slot_list_append PySem.F.type_list_append mt_append (pv 2) (pa_cons (pv 5) pa_nil))))
          (pss_cons (ps_dput (hu_of hr) (pv 3) (pe_fld (pv 5) rfl) pe_bl rfl)
          (pss_cons (ps_expr (pe_bm PySem.F.plainAttrs_list PySem.F.slot_list_extend PySem.F.type_list_extend mt_extend (pv 4) (pa_cons (pe_dget2 (hu_of hr) (pv 1) (pe_tup (pa_cons (pe_fld (pv 5) rfl) (pa_cons (pe_glob (v := .str "right") rfl gR ⟨_, rfl⟩) pa_nil))) (pe_lst pa_nil) ⟨rfl, rfl, rfl, rfl⟩) pa_nil)))
          (pss_cons (ps_expr (pe_bm PySem.F.plainAttrs_list PySem.F.slot_list_append PySem.F.type_list_append mt_append (pv 4) (pa_cons (pv 5) pa_nil)))
          (pss_one (ps_expr (pe_bm PySem.F.plainAttrs_list PySem.F.slot_list_extend PySem.F.type_list_extend mt_extend (pv 4) (pa_cons (pe_dget2 (hu_of hr) (pv 1) (pe_tup (pa_cons (pe_fld (pv 5) rfl) (pa_cons (pe_glob (v := .str "left") rfl gLe ⟨_, rfl⟩) pa_nil))) (pe_lst pa_nil) ⟨rfl, rfl, rfl, rfl⟩) pa_nil)))))))))))
      (pss_one (ps_ret (pv 2))))))), ?_⟩
    have L := G.late
    -- by_place
    refine ⟨_, rfl, a, all, nm, adr, ds, l, rfl, G, hA, fun Hb p kvs sb hp hP B => ?_⟩
    -- spots, lefts_done
    refine ⟨Nat.zero_le _, fun S hS => fun D hD => ?_⟩
    -- ahead
    refine ⟨_, rfl, p, rfl, .inr ⟨kvs, .inl ?_⟩, by show 2 ≤ sizeLine; decide, fun t ht => ⟨Nat.zero_le _, fun e he => ?_⟩⟩
    · rw [upd_ne (ne_of_none (Same.new (o := .lst []) hS _ _ hP) hD), upd_ne (ne_of_none hP hS)]
      exact hP
    have sb2 : Same Hb (upd (upd (upd (upd Hb S (.lst [])) D (.dK [])) t (.tup [.int (-1), .str "right"])) e (.lst [])) := ((Same.new hS).trans (Same.new hD)).trans ((Same.new ht).trans (Same.new he))
    have hte : upd (upd (upd (upd Hb S (.lst [])) D (.dK [])) t (.tup [.int (-1), .str "right"])) e (.lst []) t = some (.tup ((key nm none true).map kV)) := by
      rw [upd_ne (ne_of_none (H := upd (upd (upd Hb S (.lst [])) D (.dK [])) t (.tup [.int (-1), .str "right"])) upd_same he), upd_same]
      rfl
    refine ⟨_, DGet.t (sb2 _ _ hP) hte, ?_⟩
    obtain ⟨q, eq, hq⟩ := (B.keep sb2).got (o := none) true (fun s z => by cases z) (e := e) upd_same
    refine ⟨q, _, congrArg (fun v => [v]) eq, .inl (SqL.of hq), fun A' hA' => ?_⟩
    have nS : Hb S = none := hS
    have nD : Hb D = none := (Same.new hS).free hD
    have nA : Hb A' = none := sb2.free hA'
    have neSA : S ≠ A' := fun z => by
      subst z
      have h1 : (upd (upd Hb S (.lst [])) D (.dK [])) S = some (.lst []) := Same.new hD _ _ upd_same
      have h2 := (Same.new (o := .lst []) he) _ _ ((Same.new ht) _ _ h1)
      rw [hA'] at h2
      cases h2
    have L0 : Lp Hb S D A' (upd (upd (upd (upd (upd Hb S (.lst [])) D (.dK [])) t (.tup [.int (-1), .str "right"])) e (.lst [])) A' (.lst ((Sq29.at_ l none true).reverse.map (rf adr)))) ((Sq29.at_ l none true).reverse.map (rf adr)) [] [] := by
      have s5 := (Same.new ht).trans ((Same.new he).trans (Same.new (o := .lst ((Sq29.at_ l none true).reverse.map (rf adr))) hA'))
      exact ⟨sb2.trans (Same.new hA'), nS, nD, nA, s5 _ _ (Same.new hD _ _ upd_same), s5 _ _ upd_same, upd_same, neSA⟩
    refine ⟨fun m σ H' => ∃ (ahead done out : List Sq29.Deed) (v : Option V), σ = [some (.ref a), some (.ref p), some (.ref S), some (.ref D), some (.ref A'), v] ∧ Lp Hb S D A' H' (ahead.map (rf adr)) (doneK done) (out.map (rf adr)) ∧ WalkI l ahead done out ∧ m = 2 * (Sq29.spots l).length - (out.length + done.length),
      ⟨_, _, [], [], none, rfl, L0, walk_start l, rfl⟩, ?_⟩
    rintro m σ H' ⟨ahead, done, out, v, rfl, L1, W, rfl⟩
    refine ⟨_, rfl, A', _, rfl, .inl (SqL.of L1.hA), _, _, rfl, rfl, _, rfl, ?_⟩
    have hb := walk_bound L W
    refine ite2 (fun hc => ?_) (fun hc => ?_)
    · -- a turn
      have hc' : (0 : Int) < ((ahead.map (rf adr)).length : Int) := of_decide_eq_true hc
      rw [List.length_map] at hc'
      obtain ⟨A1, d, rfl⟩ : ∃ A1 d, ahead = A1 ++ [d] := by
        refine ⟨ahead.dropLast, ahead.getLast (fun z => by rw [z] at hc'; exact absurd hc' (by decide)), ?_⟩
        exact (List.dropLast_concat_getLast _).symm
      have hz := walk_size G.dk.srt L W
      have hm := walk_mem L W
      have hdS : d ∈ Sq29.spots l := hm.1 d (by simp)
      have hdl : d ∈ l := spots_sub L hdS
      have hda : d ∈ all := G.dk.sub d hdl
      have hl := G.len
      have hsl : (Sq29.spots l).length ≤ l.length := (spots_nodup G.dk.srt L).length_le_of_subset fun x hx => spots_sub L hx
      have subd : ∀ e ∈ done, e ∈ all := fun e he => G.dk.sub e (spots_sub L (hm.2.2 e he))
      refine ⟨fun σ' H2 => ∃ (ahead done' out' : List Sq29.Deed) (v : Option V), σ' = [some (.ref a), some (.ref p), some (.ref S), some (.ref D), some (.ref A'), v] ∧ Lp Hb S D A' H2 (ahead.map (rf adr)) (doneK done') (out'.map (rf adr)) ∧ WalkI l ahead done' out' ∧ out'.length + done'.length = out.length + done.length + 1,
        fun σ' H2 ⟨ahead', done', out', v', e1, L2, W2, e2⟩ => ⟨_, ?_, ahead', done', out', v', e1, L2, W2, rfl⟩, ?_⟩
      · have := (walk_bound L W2).1
        omega
      -- deed = ahead.pop()
      refine ⟨_, rfl, .inl ⟨rfl, _, SqL.of L1.hA⟩, A', _, rf adr d, rfl, rfl, L1.hA, ?_, ?_⟩
      · rw [List.map_append]
        simp
      have edl : ((A1 ++ [d]).map (rf adr)).dropLast = A1.map (rf adr) := by rw [List.map_append]; simp
      rw [edl]
      have L2 := L1.setA (A1.map (rf adr))
      obtain ⟨dx, pl, g1, g2⟩ := (G.atL d hdl).same (sb.trans L2.same)
      refine ⟨_, rfl, _, C, dx, _, _, rfl, g1, T.cl, T.nN, dF_number _ _ _ _ _, _, rfl, D, _, rfl, DGet.k (k := Sum.inl (d.id : Int)) L2.hD, _, rfl, ?_⟩
      rw [doneK_in G.kn subd hda]
      refine ite2 (fun hin => ?_) (fun hin => ?_)
      · -- its lefts are done: told
        have hin' : d ∈ done := of_decide_eq_true hin
        refine ⟨_, rfl, .inl ⟨rfl, _, SqL.of L2.hS⟩, _, rfl, S, _, _, rfl, rfl, L2.hS, ?_, ?_⟩
        · rw [List.length_map]
          exact Nat.lt_of_le_of_lt (Nat.le_trans hb.2 (Nat.le_trans hsl hl)) (by decide)
        refine ⟨A1, done, out ++ [d], _, rfl, ?_, walk_told G.dk.srt L W hin', ?_⟩
        · have L3 := L2.setS (out.map (rf adr) ++ [rf adr d])
          rw [List.map_append]
          exact L3
        · rw [List.length_append, List.length_singleton]
          omega
      · have hin' : d ∉ done := fun z => hin (decide_eq_true z)
        have W2 := walk_laid G.dk.srt L W hin'
        have hz2 := walk_size G.dk.srt L W2
        -- lefts_done[deed.number] = True
        refine ⟨_, rfl, _, rfl, _, C, dx, _, _, rfl, g1, T.cl, T.nN, dF_number _ _ _ _ _, D, _, rfl, DPut.k (k := Sum.inl (d.id : Int)) L2.hD ?_, ?_⟩
        · have e9 : (doneK done).length = done.length := List.length_map _
          rw [e9]
          exact Nat.lt_of_le_of_lt (show done.length ≤ 240 by omega) (by decide)
        rw [doneK_put G.kn subd hda hin']
        have L3 := L2.setD (doneK (done ++ [d]))
        have g3 : ∀ {H2 : Hp} {xs : List V} {ks : List (Key × V)} {ys : List V}, Lp Hb S D A' H2 xs ks ys → ∃ dx pl, H2 (adr d.id) = some (.ins C dx (dF d.id d.stamp.count d.stamp.hand d.thing pl)) := fun l2 => by
          obtain ⟨dx, pl, z1, _⟩ := (G.atL d hdl).same (sb.trans l2.same)
          exact ⟨dx, pl, z1⟩
        have ek : ∀ r, (key nm (some d.stamp) r).map kV = [.int (d.id : Int), .str (side r)] := fun r => by
          show [V.int ((nm d.stamp : Nat) : Int), V.str (side r)] = _
          rw [G.kn.id d hda]
        have ha : Asks all (some d.stamp) := fun s z => ⟨d, hda, Option.some.inj z⟩
        have sz : ∀ r, (Sq29.at_ l (some d.stamp) r).length ≤ 120 := fun r => Nat.le_trans (List.length_filter_le _ _) hl
        have szA : A1.length ≤ 120 := by rw [List.length_append] at hz; omega
        -- ahead.extend(by_place.get((deed.number, RIGHT), []))
        obtain ⟨dx3, pl3, i3⟩ := g3 L3
        refine ⟨_, rfl, .inl ⟨rfl, _, SqL.of L3.hA⟩, _, rfl, p, rfl, .inr ⟨kvs, .inl (L3.same _ _ hP)⟩, _, rfl, _, C, dx3, _, _, rfl, i3, T.cl, T.nN, dF_number _ _ _ _ _, by show 2 ≤ sizeLine; decide, fun t1 ht1 => ⟨Nat.zero_le _, fun e1 he1 => ?_⟩⟩
        have L4 := (L3.new (o := .tup [.int (d.id : Int), .str "right"]) ht1).new (o := .lst []) he1
        have hk1 : upd (upd (upd (upd H' A' (.lst (A1.map (rf adr)))) D (.dK (doneK (done ++ [d])))) t1 (.tup [.int (d.id : Int), .str "right"])) e1 (.lst []) t1 = some (.tup ((key nm (some d.stamp) true).map kV)) := by
          rw [ek]
          exact Same.new he1 _ _ upd_same
        refine ⟨_, DGet.t (L4.same _ _ hP) hk1, ?_⟩
        obtain ⟨q1, eq1, hq1⟩ := (B.keep L4.same).got true ha (e := e1) upd_same
        refine ⟨A', q1, _, _, rfl, congrArg (fun v => [v]) eq1, L4.hA, hq1, ?_, ?_⟩
        · rw [List.length_map, List.length_map, List.length_reverse]
          exact Nat.le_trans (Nat.add_le_add szA (sz true)) (by decide)
        have L5 := L4.setA (A1.map (rf adr) ++ (Sq29.at_ l (some d.stamp) true).reverse.map (rf adr))
        -- ahead.append(deed)
        refine ⟨_, rfl, .inl ⟨rfl, _, SqL.of L5.hA⟩, _, rfl, A', _, _, rfl, rfl, L5.hA, ?_, ?_⟩
        · rw [List.length_append, List.length_map, List.length_map, List.length_reverse]
          exact Nat.lt_of_le_of_lt (Nat.add_le_add szA (sz true)) (by decide)
        have L6 := L5.setA ((A1.map (rf adr) ++ (Sq29.at_ l (some d.stamp) true).reverse.map (rf adr)) ++ [rf adr d])
        -- ahead.extend(by_place.get((deed.number, LEFT), []))
        obtain ⟨dx6, pl6, i6⟩ := g3 L6
        refine ⟨_, rfl, .inl ⟨rfl, _, SqL.of L6.hA⟩, _, rfl, p, rfl, .inr ⟨kvs, .inl (L6.same _ _ hP)⟩, _, rfl, _, C, dx6, _, _, rfl, i6, T.cl, T.nN, dF_number _ _ _ _ _, by show 2 ≤ sizeLine; decide, fun t2 ht2 => ⟨Nat.zero_le _, fun e2 he2 => ?_⟩⟩
        have L7 := (L6.new (o := .tup [.int (d.id : Int), .str "left"]) ht2).new (o := .lst []) he2
        refine ⟨_, DGet.t (k := key nm (some d.stamp) false) (L7.same _ _ hP) ?_, ?_⟩
        · rw [ek]
          exact Same.new he2 _ _ upd_same
        obtain ⟨q2, eq2, hq2⟩ := (B.keep L7.same).got false ha (e := e2) upd_same
        refine ⟨A', q2, _, _, rfl, congrArg (fun v => [v]) eq2, L7.hA, hq2, ?_, ?_⟩
        · simp only [List.length_append, List.length_map, List.length_reverse, List.length_singleton]
          exact Nat.le_trans (Nat.add_le_add (Nat.add_le_add (Nat.add_le_add szA (sz true)) (Nat.le_refl 1)) (sz false)) (by decide)
        have L8 := L7.setA (((A1.map (rf adr) ++ (Sq29.at_ l (some d.stamp) true).reverse.map (rf adr)) ++ [rf adr d]) ++ (Sq29.at_ l (some d.stamp) false).reverse.map (rf adr))
        refine ⟨_, _, out, _, rfl, ?_, W2, ?_⟩
        · simp only [List.map_append, List.map_cons, List.map_nil]
          exact L8
        · rw [List.length_append, List.length_singleton]
          omega
    · -- the end
      have e0 : ahead = [] := by
        cases ahead with
        | nil => rfl
        | cons x r => exact absurd (decide_eq_true (by rw [List.length_map, List.length_cons]; omega)) hc
      subst e0
      have e1 := walk_end W
      subst e1
      exact ⟨_, rfl, k _ S (sb.trans L1.same) (sb.free L1.nS) L1.hS⟩
end
end Mp

namespace Mp
open PySem L2 Mr Mh
abbrev sLast : Stmt := top 24
abbrev sRow : Stmt := top 25

def LastK (pre : List Sq29.Deed) (kvs : List (Key × V)) : Prop := ∀ x : Nat, valV kvs (.inl (x : Int)) = (lastId pre x).map fun d => V.int (d.id : Int)
theorem LastK.step {pre : List Sq29.Deed} {kvs : List (Key × V)} (h : LastK pre kvs) (d : Sq29.Deed) : LastK (pre ++ [d]) (putK kvs (.inl (d.thing : Int)) (.int (d.id : Int))) := fun x => by
  rw [valV_put, lastId_snoc]
  by_cases e : d.thing = x
  · rw [if_pos (by rw [e]), if_pos e]
    rfl
  · have ne : ¬ (Sum.inl (x : Int) : Key) = Sum.inl (d.thing : Int) := fun z => e (by have := Sum.inl.inj z; omega)
    rw [if_neg ne, if_neg e]
    exact h x

def spLast (C : Addr) : Sp := fun vs H Q _ => ∃ (a : Addr) (all : List Sq29.Deed) (nm : Sq29.Stamp → Nat) (adr : Nat → Addr) (ds l : List Sq29.Deed), vs = [.ref a] ∧ Given C all nm adr H ds l ∧ H a = some (.lst (ds.map (rf adr))) ∧
  ∀ (H' : Hp) (p : Addr) (kvs : List (Key × V)), Same H H' → H p = none → H' p = some (.dK kvs) → LastK l kvs → Q (.ref p) H'
def spRow (C : Addr) : Sp := fun vs H Q _ => ∃ (a : Addr) (all : List Sq29.Deed) (nm : Sq29.Stamp → Nat) (adr : Nat → Addr) (ds l : List Sq29.Deed), vs = [.ref a] ∧ Given C all nm adr H ds l ∧ H a = some (.lst (ds.map (rf adr))) ∧
  ∀ (H' : Hp) (p : Addr), Same H H' → H p = none → H' p = some (.lst ((Sq29.row l).map (rf adr))) → Q (.ref p) H'

section
variable {P : Program} {w : World} {K : PySem.W.Frag} {mg : Str → Option Value} {base : Heap}
theorem scLast : FnScope ["deeds", "last", "deed"] ["deeds"] (defScope sLast) := ⟨rfl, rfl, rfl, by decide +kernel, rfl, by decide +kernel, by decide +kernel⟩
theorem ok_last {f C fS : Addr} {fd fdS : FuncData} (F : Fun K "last_deed_by_thing" "last_deed_by_thing" sLast f fd) (T : TDeed K mg C) (FS : Fun K "stamp" "stamp" sStamp fS fdS) (bS : Binds K fdS ["deed"] []) (gS : mg "stamp" = some (.ref fS)) :
    FnOk P w K mg base CX0 4 f fd ["deeds"] (spLast C) := by
  refine F.ok scLast (fun vs H Q E h => ?_) (fun cdv A outer s H vs Q E hr h => ?_)
  · obtain ⟨a, all, nm, adr, ds, l, rfl, _⟩ := h
    rfl
  · obtain ⟨a, all, nm, adr, ds, l, rfl, G, hA, k⟩ := h
    refine ⟨_, pss_cons (ps_set (i := 1) scLast.nd rfl (Or.inl rfl) pe_dnewK)
      (pss_cons (ps_for PassesOwn.never rfl (pi_list (pe_callBK (cr_sortBy (β := Sq29.Deed) stampDef FS bS hr T.cl T.nC T.nD) (by rfl) T.sorted PyProof.Rows.boot_sorted (pa_cons (pv 0) pa_nil) (pk_cons (pe_glob (v := .ref fS) rfl gS rfl) pk_nil))) (pg_name (i := 2) scLast.nd rfl (Or.inl rfl))
        (pss_one (ps_dput (hu_of hr) (pv 1) (pe_fld (pv 2) rfl) (pe_fld (pv 2) rfl) rfl)))
      (pss_one (ps_ret (pv 1)))), ?_⟩
    intro p hp
    have s1 : Same H (upd H p (.dK [])) := Same.new hp
    refine ⟨_, rfl, ?_⟩
    refine ⟨a, ds, fun d => adr d.id, fun d => (d.stamp.count : Int), fun d => (d.stamp.hand : Int), rfl, rfl, SqL.of (s1 _ _ hA), fun d hd => ?_, fun z hz => ?_⟩
    · obtain ⟨dx, pl, h1, _⟩ := G.at_ d hd
      exact ⟨dx, _, s1 _ _ h1, dF_count _ _ _ _ _, dF_desk _ _ _ _ _⟩
    have eo : ds.mergeSort (ordBy false (fun d : Sq29.Deed => (d.stamp.count : Int)) (fun d => (d.stamp.hand : Int))) = l := G.dk.srt.up G.dk.perm
    rw [eo]
    have s2 : Same (upd H p (.dK [])) (upd (upd H p (.dK [])) z (.lst (l.map (rf adr)))) := Same.new hz
    have npz : p ≠ z := ne_of_none (H := upd H p (.dK [])) upd_same hz
    refine ⟨z, rfl, ⟨_, SqL.of upd_same⟩, for_list (K := K) (a := z) (xs := l.map (rf adr)) (fun i σ H' => ∃ (v : Option V) (kvs : List (Key × V)), σ = [some (.ref a), some (.ref p), v] ∧ Same H H' ∧ H' z = some (.lst (l.map (rf adr))) ∧
      H' p = some (.dK kvs) ∧ kvs.length ≤ i ∧ LastK (l.take i) kvs) ⟨none, [], rfl, s1.trans s2, upd_same, by rw [upd_ne npz]; exact upd_same, Nat.le_refl _, fun x => rfl⟩ (fun i σ H' _ ⟨_, _, _, _, h, _⟩ => SqL.of h) ?_ ?_⟩
    · rintro i y σ H' hi ⟨v, kvs, rfl, sm, hZ, hP, hlen, B⟩
      rw [List.getElem?_map] at hi
      cases q : l[i]? with
      | none => rw [q] at hi; cases hi
      | some d =>
      rw [q] at hi
      obtain rfl : rf adr d = y := Option.some.inj hi
      have hd : d ∈ l := List.mem_of_getElem? q
      have hi2 : i < l.length := (List.getElem?_eq_some_iff.mp q).1
      have hlen2 : kvs.length ≤ 120 := by have := G.len; omega
      have tm := take_more q
      obtain ⟨dx, pl, h1, h2⟩ := (G.atL d hd).same sm
      refine ⟨_, rfl, _, C, dx, _, _, rfl, h1, T.cl, T.nN, dF_number _ _ _ _ _, _, rfl, _, rfl, _, C, dx, _, _, rfl, h1, T.cl, T.nT, dF_thing _ _ _ _ _, p, _, rfl, DPut.k (k := Sum.inl (d.thing : Int)) hP (Nat.lt_of_le_of_lt hlen2 (by decide)), ?_⟩
      refine ⟨_, putK kvs (.inl (d.thing : Int)) (.int (d.id : Int)), rfl, fun b u e => ?_, ?_, upd_same, ?_, ?_⟩
      · rw [upd_ne (ne_of_none e hp)]
        exact sm _ _ e
      · rw [upd_ne npz.symm]
        exact hZ
      · have := length_putK kvs (Sum.inl (d.thing : Int)) (V.int (d.id : Int))
        omega
      · rw [tm]
        exact B.step d
    · rintro σ H' ⟨v, kvs, rfl, sm, hZ, hP, hlen, B⟩
      rw [List.length_map, List.take_length] at B
      exact ⟨_, rfl, k _ p kvs sm hp hP B⟩

theorem scRow : FnScope ["deeds", "spots", "taking_out", "last", "deed"] ["deeds"] (defScope sRow) := ⟨rfl, rfl, rfl, by decide +kernel, rfl, by decide +kernel, by decide +kernel⟩
theorem ok_row {f C fS fL : Addr} {fd fdS fdL : FuncData} (F : Fun K "row_of" "row_of" sRow f fd) (T : TDeed K mg C)
    (GS : FnOk P w K mg base CX0 5 fS fdS ["deeds"] (spSpots C)) (kS : PySem.W.keepIn K (.ref fS) = true) (bS : Binds K fdS ["deeds"] []) (gS : mg "spots_of" = some (.ref fS))
    (GL : FnOk P w K mg base CX0 4 fL fdL ["deeds"] (spLast C)) (kL : PySem.W.keepIn K (.ref fL) = true) (bL : Binds K fdL ["deeds"] []) (gL : mg "last_deed_by_thing" = some (.ref fL)) :
    FnOk P w K mg base CX0 6 f fd ["deeds"] (spRow C) := by
  refine F.ok scRow (fun vs H Q E h => ?_) (fun cdv A outer s H vs Q E hr h => ?_)
  · obtain ⟨a, all, nm, adr, ds, l, rfl, _⟩ := h
    rfl
  · obtain ⟨a, all, nm, adr, ds, l, rfl, G, hA, k⟩ := h
    have hr4 : Room 4 _ := hr.mono (by decide)
    refine ⟨_, pss_cons (ps_set (i := 1) scRow.nd rfl (Or.inl rfl) (pe_call GS hr rfl gS kS bS .nil pass0 (pa_cons (pv 0) pa_nil)))
      (pss_cons (ps_setLc (i := 2) (own := [("deed", 4)]) (g := gName 4) (tt := tB (tIsN (tFld K (tVar 4) "place"))) (te := tVar 4) rfl scRow.nd rfl rfl (sw_true rfl rfl rfl (by decide +kernel)) (pi_list (pv 0)) (blkOk_by (N := ["deeds", "spots", "taking_out", "last", "deed"]) (sc := defScope sRow) (by decide +kernel))
        (fun _ _ _ _ _ => pg_name (i := 4) scRow.nd rfl (Or.inl rfl)) (fun _ _ _ _ _ => pts_one (pt_cmp (pc_isN (pe_fld (pv 4) rfl)))) (fun _ _ _ _ _ => pv 4))
      (pss_cons (ps_set (i := 3) scRow.nd rfl (Or.inr rfl) (pe_call GL hr4 rfl gL kL bL .nil pass0 (pa_cons (pe_op op_cat (pv 1) (pv 2)) pa_nil)))
      (pss_one (ps_ret (pe_lc (own := [("deed", 4)]) (g := gName 4) (tt := tTest (tOp rEq (tDGet (tVar 3) (tFld K (tVar 4) "thing")) (tFld K (tVar 4) "number"))) (te := tVar 4) rfl scRow.nd (pi_list (pv 1)) (blkOk_by (N := ["deeds", "spots", "taking_out", "last", "deed"]) (sc := defScope sRow) (by decide +kernel))
        (fun _ _ _ _ _ => pg_name (i := 4) scRow.nd rfl (Or.inl rfl)) (fun _ _ _ _ _ => pts_one (pt_cmpR op_eq (pe_dget (hu_of hr) (pv 3) (pe_fld (pv 4) rfl) (fun _ _ => rfl)) (pe_fld (pv 4) rfl) (nomark _))) (fun _ _ _ _ _ => pv 4)))))), ?_⟩
    have L := G.late
    have hl := G.len
    have hsl : (Sq29.spots l).length ≤ 120 := Nat.le_trans ((spots_nodup G.dk.srt L).length_le_of_subset fun x hx => spots_sub L hx) hl
    have hds : ds.length ≤ 120 := by rw [G.dk.perm.length_eq]; exact hl
    -- spots
    refine ⟨_, rfl, a, all, nm, adr, ds, l, rfl, G, hA, fun H1 S s1 nS hS => ?_⟩
    -- taking_out
    refine ⟨_, rfl, a, rfl, ⟨_, SqL.of (s1 _ _ hA)⟩, fun O hO => lc_fm (bs := ds) (g := rf adr) (f := rf adr) (p := fun d => d.spot.isNone) (SqL.of (s1 _ _ hA)) hO (by omega) (fun d hd H2 s2 Y Nn hY hN => ?_) ?_⟩
    · obtain ⟨dx, pl, g1, g2⟩ := ((G.at_ d hd).same s1).same s2
      refine ⟨rfl, _, rfl, _, C, dx, _, _, rfl, g1, T.cl, T.nP, dF_place _ _ _ _ _, _, rfl, ?_⟩
      cases es : d.spot with
      | none =>
        rw [es] at g2
        cases (show pl = V.non from g2)
        exact iteT ⟨_, rfl, hY (by rw [es]; rfl)⟩
      | some sp =>
        rw [es] at g2
        obtain ⟨t, rfl, _⟩ := (show ∃ t, pl = V.ref t ∧ _ from g2)
        exact iteF (hN (by rw [es]; rfl))
    have s2 : Same H1 (upd H1 O (.lst ((ds.filter fun d => d.spot.isNone).map (rf adr)))) := Same.new hO
    -- last
    have pm := ins_perm G.dk.srt L G.dk.perm
    have lf : (ds.filter fun d => d.spot.isNone).length ≤ 120 := Nat.le_trans (List.length_filter_le _ _) hds
    refine ⟨_, rfl, _, rfl, S, O, _, _, rfl, rfl, s2 _ _ hS, upd_same, ?_, fun z hz => ?_⟩
    · rw [List.length_map, List.length_map]
      exact Nat.le_trans (Nat.add_le_add hsl lf) (by decide)
    have s3 := s1.trans (s2.trans (Same.new (o := .lst ((Sq29.spots l).map (rf adr) ++ (ds.filter fun d => d.spot.isNone).map (rf adr))) hz))
    refine ⟨z, all, nm, adr, Sq29.spots l ++ ds.filter fun d => d.spot.isNone, ins_ l, rfl, ⟨G.kn, ⟨fun d hd => G.dk.sub d (mem_ins.mp hd).1, pm, ins_srt G.dk.srt⟩, G.few, G.nd, fun d hd => (G.atL d (mem_ins.mp (pm.mem_iff.mp hd)).1).same s3⟩, ?_, fun H4 p kvs s4 np hp B => ?_⟩
    · rw [List.map_append]
      exact upd_same
    have s14 : Same H1 H4 := (s2.trans (Same.new hz)).trans s4
    -- the row
    refine ⟨_, rfl, S, rfl, ⟨_, SqL.of (s14 _ _ hS)⟩, fun R hR => lc_fm (bs := Sq29.spots l) (g := rf adr) (f := rf adr) (p := fun d => lastId (ins_ l) d.thing == some d) (SqL.of (s14 _ _ hS)) hR (by omega) (fun d hd H5 s5 Y Nn hY hN => ?_) ?_⟩
    · have hdl := spots_sub L hd
      obtain ⟨dx, pl, g1, g2⟩ := ((G.atL d hdl).same (s1.trans s14)).same s5
      obtain ⟨e, he, hel, _⟩ := lastId_some (spots_ins L hd)
      have hb := B d.thing
      rw [he] at hb
      refine ⟨rfl, _, rfl, _, rfl, _, C, dx, _, _, rfl, g1, T.cl, T.nT, dF_thing _ _ _ _ _, p, V.int (e.id : Int), rfl, ?_, _, rfl, _, C, dx, _, _, rfl, g1, T.cl, T.nN, dF_number _ _ _ _ _, rfl, _, rfl, ?_⟩
      · have q := DGet.k (k := Sum.inl (d.thing : Int)) (s5 _ _ hp)
        rw [hb] at q
        exact q
      · by_cases h : e = d
        · subst h
          rw [decide_eq_true rfl]
          exact iteT ⟨_, rfl, hY (by rw [he]; simp)⟩
        · have ne : ¬ (V.int (e.id : Int) = V.int (d.id : Int)) := fun z => by
            injection z with z
            exact h (G.kn.inj e (G.dk.sub e (mem_ins.mp hel).1) d (G.dk.sub d hdl) (by omega))
          rw [decide_eq_false ne]
          exact iteF (hN (by rw [he]; simpa using h))
    refine k _ R (s1.trans (s14.trans (Same.new hR))) ((s1.trans s14).free hR) ?_
    rw [upd_same, row_eq]
end
end Mp

namespace Mp
open PySem L2 Mr Mh
abbrev sThings : Stmt := top 27
abbrev sNumbers : Stmt := top 28
abbrev sIsIn : Stmt := top 29
abbrev sWith : Stmt := top 30
abbrev sAhead : Stmt := top 31
abbrev sBehind : Stmt := top 32
abbrev sWaiting : Stmt := top 26

def spThings (C : Addr) : Sp := fun vs H Q _ => ∃ (a : Addr) (nm : Sq29.Stamp → Nat) (adr : Nat → Addr) (es : List Sq29.Deed), vs = [.ref a] ∧ (∀ d ∈ es, DeedAt C nm adr H d) ∧ es.length ≤ 120 ∧ H a = some (.lst (es.map (rf adr))) ∧
  ∀ (H' : Hp) (p : Addr), Same H H' → H p = none → H' p = some (.lst (es.map fun d => V.int (d.thing : Int))) → Q (.ref p) H'
def spNumbers (C : Addr) : Sp := fun vs H Q _ => ∃ (a : Addr) (nm : Sq29.Stamp → Nat) (adr : Nat → Addr) (es : List Sq29.Deed), vs = [.ref a] ∧ (∀ d ∈ es, DeedAt C nm adr H d) ∧ es.length ≤ 120 ∧ H a = some (.lst (es.map (rf adr))) ∧
  ∀ (H' : Hp) (p : Addr), Same H H' → H p = none → H' p = some (.lst (es.map fun d => V.int (d.id : Int))) → Q (.ref p) H'
def spWith : Sp := fun vs H Q _ => ∃ (a : Addr) (xs : List V), vs = [.ref a] ∧ xs.length ≤ 120 ∧ H a = some (.lst xs) ∧
  ∀ (H' : Hp) (p : Addr), Same H H' → H p = none → H' p = some (.lst (V.int (xs.length : Nat) :: xs)) → Q (.ref p) H'
def spIsIn (C : Addr) : Sp := fun vs H Q _ => ∃ (a : Addr) (all : List Sq29.Deed) (nm : Sq29.Stamp → Nat) (adr : Nat → Addr) (ds l : List Sq29.Deed) (d : Sq29.Deed), vs = [rf adr d, .ref a] ∧ Given C all nm adr H ds l ∧ d ∈ l ∧ H a = some (.lst (ds.map (rf adr))) ∧
  ∀ (H' : Hp), Same H H' → Q (.bl (Sq29.isIn l d)) H'
def spAhead (C : Addr) : Sp := fun vs H Q _ => ∃ (a : Addr) (nm : Sq29.Stamp → Nat) (adr : Nat → Addr) (es : List Sq29.Deed) (i : Nat), vs = [.ref a, .int (i : Int)] ∧ (∀ d ∈ es, DeedAt C nm adr H d ∧ nm d.stamp = d.id) ∧ es.length ≤ 120 ∧ i ≤ es.length ∧ H a = some (.lst (es.map (rf adr))) ∧
  Q (.int (num nm (if i = 0 then none else (es[i - 1]?).map fun d => d.stamp))) H
def spBehind (C : Addr) : Sp := fun vs H Q _ => ∃ (a : Addr) (all : List Sq29.Deed) (nm : Sq29.Stamp → Nat) (adr : Nat → Addr) (ds l : List Sq29.Deed) (o : Option Sq29.Stamp), vs = [.ref a, .int (num nm o)] ∧ Given C all nm adr H ds l ∧ H a = some (.lst (ds.map (rf adr))) ∧
  (∀ s, o = some s → ∃ e ∈ Sq29.spots l, e.stamp = s) ∧
  ∀ (H' : Hp) (t : Addr), Same H H' → H t = none → H' t = some (.tup [.int (num nm (Sq29.behind l o).of_), .str (side (Sq29.behind l o).right)]) → Q (.ref t) H'

section
variable {P : Program} {w : World} {K : PySem.W.Frag} {mg : Str → Option Value} {base : Heap}
theorem scThings : FnScope ["row", "deed"] ["row"] (defScope sThings) := ⟨rfl, rfl, rfl, by decide +kernel, rfl, by decide +kernel, by decide +kernel⟩
theorem ok_things {f C : Addr} {fd : FuncData} (F : Fun K "things_of" "things_of" sThings f fd) (T : TDeed K mg C) : FnOk P w K mg base CX0 1 f fd ["row"] (spThings C) := by
  refine F.ok scThings (fun vs H Q E h => ?_) (fun cdv A outer s H vs Q E hr h => ?_)
  · obtain ⟨a, nm, adr, es, rfl, _⟩ := h
    rfl
  · obtain ⟨a, nm, adr, es, rfl, G, hl, hA, k⟩ := h
    refine ⟨_, pss_one (ps_ret (pe_lc (own := [("deed", 1)]) (g := gName 1) (tt := tYes) (te := tFld K (tVar 1) "thing") rfl scThings.nd (pi_list (pv 0)) (blkOk_by (N := ["row", "deed"]) (sc := defScope sThings) (by decide +kernel))
        (fun _ _ _ _ _ => pg_name (i := 1) scThings.nd rfl (Or.inl rfl)) (fun _ _ _ _ _ => pts_nil) (fun _ _ _ _ _ => pe_fld (pv 1) rfl))), ?_⟩
    refine ⟨_, rfl, a, rfl, ⟨_, SqL.of hA⟩, fun D hD => lc_map (bs := es) (g := rf adr) (f := fun d => V.int (d.thing : Int)) (SqL.of hA) hD (by omega) (fun d hd H2 s2 Y hY => ?_) ?_⟩
    · obtain ⟨dx, pl, g1, g2⟩ := (G d hd).same s2
      exact ⟨rfl, _, rfl, _, C, dx, _, _, rfl, g1, T.cl, T.nT, dF_thing _ _ _ _ _, hY⟩
    exact k _ D (Same.new hD) hD upd_same

theorem scNumbers : FnScope ["deeds", "deed"] ["deeds"] (defScope sNumbers) := ⟨rfl, rfl, rfl, by decide +kernel, rfl, by decide +kernel, by decide +kernel⟩
theorem ok_numbers {f C : Addr} {fd : FuncData} (F : Fun K "numbers_of" "numbers_of" sNumbers f fd) (T : TDeed K mg C) : FnOk P w K mg base CX0 1 f fd ["deeds"] (spNumbers C) := by
  refine F.ok scNumbers (fun vs H Q E h => ?_) (fun cdv A outer s H vs Q E hr h => ?_)
  · obtain ⟨a, nm, adr, es, rfl, _⟩ := h
    rfl
  · obtain ⟨a, nm, adr, es, rfl, G, hl, hA, k⟩ := h
    refine ⟨_, pss_one (ps_ret (pe_lc (own := [("deed", 1)]) (g := gName 1) (tt := tYes) (te := tFld K (tVar 1) "number") rfl scNumbers.nd (pi_list (pv 0)) (blkOk_by (N := ["deeds", "deed"]) (sc := defScope sNumbers) (by decide +kernel))
        (fun _ _ _ _ _ => pg_name (i := 1) scNumbers.nd rfl (Or.inl rfl)) (fun _ _ _ _ _ => pts_nil) (fun _ _ _ _ _ => pe_fld (pv 1) rfl))), ?_⟩
    refine ⟨_, rfl, a, rfl, ⟨_, SqL.of hA⟩, fun D hD => lc_map (bs := es) (g := rf adr) (f := fun d => V.int (d.id : Int)) (SqL.of hA) hD (by omega) (fun d hd H2 s2 Y hY => ?_) ?_⟩
    · obtain ⟨dx, pl, g1, g2⟩ := (G d hd).same s2
      exact ⟨rfl, _, rfl, _, C, dx, _, _, rfl, g1, T.cl, T.nN, dF_number _ _ _ _ _, hY⟩
    exact k _ D (Same.new hD) hD upd_same

theorem scWith : FnScope ["numbers"] ["numbers"] (defScope sWith) := ⟨rfl, rfl, rfl, by decide +kernel, rfl, by decide +kernel, by decide +kernel⟩
theorem ok_with {f C : Addr} {fd : FuncData} (F : Fun K "with_count" "with_count" sWith f fd) (T : TDeed K mg C) : FnOk P w K mg base CX0 1 f fd ["numbers"] spWith := by
  refine F.ok scWith (fun vs H Q E h => ?_) (fun cdv A outer s H vs Q E hr h => ?_)
  · obtain ⟨a, xs, rfl, _⟩ := h
    rfl
  · obtain ⟨a, xs, rfl, hl, hA, k⟩ := h
    refine ⟨_, pss_one (ps_ret (pe_op op_cat (pe_lst (pa_cons (pe_callB call_len_seq (by rfl) T.len PySem.boot_len (pa_cons (pv 0) pa_nil)) pa_nil)) (pv 0))), ?_⟩
    refine ⟨_, rfl, a, _, rfl, .inl (SqL.of hA), by show 1 ≤ sizeLine; decide, fun B hB => ?_⟩
    have s1 := Same.new (o := .lst [V.int (xs.length : Nat)]) hB
    refine ⟨_, rfl, B, a, _, _, rfl, rfl, upd_same, s1 _ _ hA, ?_, fun N hN => ?_⟩
    · exact Nat.le_trans (Nat.add_le_add (Nat.le_refl 1) hl) (by decide)
    exact k _ N (s1.trans (Same.new hN)) (s1.free hN) upd_same

theorem scIsIn : FnScope ["deed", "deeds"] ["deed", "deeds"] (defScope sIsIn) := ⟨rfl, rfl, rfl, by decide +kernel, rfl, by decide +kernel, by decide +kernel⟩
theorem ok_isIn {f C fS fN : Addr} {fd fdS fdN : FuncData} (F : Fun K "is_in" "is_in" sIsIn f fd) (T : TDeed K mg C)
    (GS : FnOk P w K mg base CX0 5 fS fdS ["deeds"] (spSpots C)) (kS : PySem.W.keepIn K (.ref fS) = true) (bS : Binds K fdS ["deeds"] []) (gS : mg "spots_of" = some (.ref fS))
    (GN : FnOk P w K mg base CX0 1 fN fdN ["deeds"] (spNumbers C)) (kN : PySem.W.keepIn K (.ref fN) = true) (bN : Binds K fdN ["deeds"] []) (gN : mg "numbers_of" = some (.ref fN)) : FnOk P w K mg base CX0 6 f fd ["deed", "deeds"] (spIsIn C) := by
  refine F.ok scIsIn (fun vs H Q E h => ?_) (fun cdv A outer s H vs Q E hr h => ?_)
  · obtain ⟨a, all, nm, adr, ds, l, d, rfl, _⟩ := h
    rfl
  · obtain ⟨a, all, nm, adr, ds, l, d, rfl, G, hdl, hA, k⟩ := h
    have hr1 : Room 1 _ := hr.mono (by decide)
    refine ⟨_, pss_one (ps_ret (pe_or (pe_cmp (pc_isN (pe_fld (pv 0) rfl))) (pe_one (pe_cmpR op_in_seq (pe_fld (pv 0) rfl)
      (pe_call GN hr1 rfl gN kN bN .nil pass0 (pa_cons (pe_call GS hr rfl gS kS bS .nil pass0 (pa_cons (pv 1) pa_nil)) pa_nil)) (by with_unfolding_all rfl))))), ?_⟩
    have L := G.late
    have hl := G.len
    have hsl : (Sq29.spots l).length ≤ 120 := Nat.le_trans ((spots_nodup G.dk.srt L).length_le_of_subset fun x hx => spots_sub L hx) hl
    obtain ⟨dx, pl, g1, g2⟩ := G.atL d hdl
    refine ⟨_, rfl, _, C, dx, _, _, rfl, g1, T.cl, T.nP, dF_place _ _ _ _ _, _, rfl, ?_⟩
    cases es : d.spot with
    | none =>
      rw [es] at g2
      cases (show pl = V.non from g2)
      refine iteT ?_
      have e : Sq29.isIn l d = true := by
        unfold Sq29.isIn Sq29.inOf
        rw [es]
        rfl
      have := k H (Same.refl H)
      rw [e] at this
      exact this
    | some sp =>
      rw [es] at g2
      obtain ⟨t, rfl, _⟩ := (show ∃ t, pl = V.ref t ∧ _ from g2)
      refine iteF ?_
      refine ⟨_, rfl, _, C, dx, _, _, rfl, g1, T.cl, T.nN, dF_number _ _ _ _ _, _, rfl, a, all, nm, adr, ds, l, rfl, G, hA, fun H1 S s1 nS hS => ?_⟩
      refine ⟨S, nm, adr, Sq29.spots l, rfl, fun e he => (G.atL e (spots_sub L he)).same s1, hsl, hS, fun H2 D s2 nD hD => ?_⟩
      refine ⟨D, _, rfl, .inl (SqL.of hD), rfl, ?_, ?_⟩
      · rw [List.all_map]
        exact List.all_eq_true.mpr fun _ _ => rfl
      have e : inV (V.int (d.id : Int)) ((Sq29.spots l).map fun d => V.int (d.id : Int)) = Sq29.isIn l d := by
        unfold Sq29.isIn Sq29.inOf inV
        rw [es, List.any_map]
        show _ = (false || _)
        rw [Bool.false_or]
        by_cases h : d ∈ Sq29.spots l
        · rw [List.contains_iff_mem.mpr h]
          exact List.any_eq_true.mpr ⟨d, h, by show ((d.id : Int) == (d.id : Int)) = true; simp⟩
        · have hc : (Sq29.spots l).contains d = false := by
            cases z : (Sq29.spots l).contains d with
            | false => rfl
            | true => exact absurd (List.contains_iff_mem.mp z) h
          rw [hc]
          refine List.any_eq_false.mpr fun x hx z => h ?_
          have z' : ((x.id : Int) == (d.id : Int)) = true := z
          have z2 : (x.id : Int) = (d.id : Int) := by simpa using z'
          rw [← G.kn.inj x (G.dk.sub x (spots_sub L hx)) d (G.dk.sub d hdl) (by omega)]
          exact hx
      show Q (.bl (inV _ _)) _
      rw [e]
      exact k _ (s1.trans s2)

theorem scAhead : FnScope ["row", "i"] ["row", "i"] (defScope sAhead) := ⟨rfl, rfl, rfl, by decide +kernel, rfl, by decide +kernel, by decide +kernel⟩
theorem ok_ahead {f C : Addr} {fd : FuncData} (F : Fun K "spot_ahead" "spot_ahead" sAhead f fd) (T : TDeed K mg C) (TC : TConst mg) : FnOk P w K mg base CX0 1 f fd ["row", "i"] (spAhead C) := by
  obtain ⟨tb, gB⟩ := TC.beg
  refine F.ok scAhead (fun vs H Q E h => ?_) (fun cdv A outer s H vs Q E hr h => ?_)
  · obtain ⟨a, nm, adr, es, i, rfl, _⟩ := h
    rfl
  · obtain ⟨a, nm, adr, es, i, rfl, G, hl, hi, hA, k⟩ := h
    refine ⟨_, pss_cons (ps_if (pt_cmpR op_eq (pv 1) pe_int (nomark _)) (pss_one (ps_ret (pe_glob (v := .int (-1)) rfl gB ⟨_, rfl⟩))) pss_nil)
      (pss_one (ps_ret (pe_fld (pe_ix ix_list (pv 0) (pe_op op_sub (pv 1) pe_int) (fun _ _ => rfl)) rfl))), ?_⟩
    refine ⟨_, rfl, rfl, _, rfl, ?_⟩
    refine ite2 (fun hc => ?_) (fun hc => ?_)
    · have e : V.int (i : Int) = V.int 0 := of_decide_eq_true hc
      injection e with e
      rw [if_pos (by omega)] at k
      exact k
    · have ne : i ≠ 0 := fun z => hc (by rw [z]; rfl)
      rw [if_neg ne] at k
      obtain ⟨d, hd⟩ : ∃ d, es[i - 1]? = some d := ⟨_, List.getElem?_eq_getElem (by omega)⟩
      rw [hd] at k
      obtain ⟨⟨dx, pl, g1, g2⟩, gn⟩ := G d (List.mem_of_getElem? hd)
      refine ⟨_, rfl, _, rfl, _, _, rfl, rfl, a, _, _, rf adr d, rfl, rfl, SqL.of hA, at_of (j := i - 1) (by omega) (by rw [List.getElem?_map, hd]; rfl), _, C, dx, _, _, rfl, g1, T.cl, T.nN, dF_number _ _ _ _ _, ?_⟩
      have k' : Q (.int ((nm d.stamp : Nat) : Int)) H := k
      rw [gn] at k'
      exact k'

/-! ### right behind -/
theorem neV : Nonempty V := ⟨.non⟩
theorem side_ok (r : Bool) : PyData.strOk (side r) = true := by cases r <;> decide +kernel
noncomputable def plOf (C : Addr) (nm : Sq29.Stamp → Nat) (adr : Nat → Addr) (H : Hp) (d : Sq29.Deed) : V :=
  @Classical.epsilon V neV fun pl => ∃ dx, H (adr d.id) = some (.ins C dx (dF d.id d.stamp.count d.stamp.hand d.thing pl)) ∧ PlaceAt nm H d.spot pl
theorem plOf_spec {C : Addr} {nm : Sq29.Stamp → Nat} {adr : Nat → Addr} {H : Hp} {d : Sq29.Deed} (h : DeedAt C nm adr H d) : ∃ dx, H (adr d.id) = some (.ins C dx (dF d.id d.stamp.count d.stamp.hand d.thing (plOf C nm adr H d))) ∧ PlaceAt nm H d.spot (plOf C nm adr H d) := by
  obtain ⟨dx, pl, h1, h2⟩ := h
  exact Classical.epsilon_spec (p := fun pl => ∃ dx, H (adr d.id) = some (.ins C dx (dF d.id d.stamp.count d.stamp.hand d.thing pl)) ∧ PlaceAt nm H d.spot pl) ⟨pl, dx, h1, h2⟩
def plD (nm : Sq29.Stamp → Nat) (d : Sq29.Deed) : PyData := match d.spot with
  | none => .none
  | some sp => .tuple [.int (num nm sp.of_), .str (side sp.right)]
theorem plD_dp {K : PySem.W.Frag} {C : Addr} {nm : Sq29.Stamp → Nat} {adr : Nat → Addr} {H H' : Hp} {d : Sq29.Deed} (h : DeedAt C nm adr H d) (s : Same H H') : Dp K H' (plOf C nm adr H d) (plD nm d) := by
  obtain ⟨_, _, h2⟩ := plOf_spec h
  unfold plD
  cases e : d.spot with
  | none =>
    rw [e] at h2
    rw [show plOf C nm adr H d = V.non from h2]
    exact .non
  | some sp =>
    rw [e] at h2
    obtain ⟨t, h3, h4⟩ := (show ∃ t, plOf C nm adr H d = V.ref t ∧ H t = some (.tup [.int (num nm sp.of_), .str (side sp.right)]) from h2)
    rw [h3]
    exact .tup (SqT.of (s _ _ h4)) (.cons (.int _) (.cons (.str _) .nil))
theorem plD_all {K : PySem.W.Frag} {C : Addr} {nm : Sq29.Stamp → Nat} {adr : Nat → Addr} {H H' : Hp} (s : Same H H') : ∀ {ds : List Sq29.Deed}, (∀ d ∈ ds, DeedAt C nm adr H d) → DpAll K H' (ds.map (plOf C nm adr H)) (ds.map (plD nm))
  | [], _ => .nil
  | d :: ds, h => .cons (plD_dp (h d List.mem_cons_self) s) (plD_all s fun e he => h e (List.mem_cons_of_mem _ he))
theorem plD_lay (nm : Sq29.Stamp → Nat) (d : Sq29.Deed) : (plD nm d).canLay0 = true ∧ (plD nm d).depth ≤ 1 := by
  unfold plD
  cases d.spot with
  | none => simp [PyData.canLay0, PyData.depth]
  | some sp => simp [PyData.canLay0, PyData.canLayAll0, PyData.depth, PyData.depthAll, side_ok]
theorem plDs_lay (nm : Sq29.Stamp → Nat) : ∀ ds : List Sq29.Deed, PyData.canLayAll0 (ds.map (plD nm)) = true ∧ PyData.depthAll (ds.map (plD nm)) ≤ 1
  | [] => by simp [PyData.canLayAll0, PyData.depthAll]
  | d :: ds => by
    have h1 := plD_lay nm d
    have h2 := plDs_lay nm ds
    simp only [List.map_cons, PyData.canLayAll0, PyData.depthAll, h1.1, h2.1, Bool.and_self, true_and]
    omega
theorem plDs_shaped (nm : Sq29.Stamp → Nat) (ds : List Sq29.Deed) : SeqAt.shaped (.list (ds.map (plD nm))) = true := by
  have h := plDs_lay nm ds
  show (PyData.canLay0 (.list (ds.map (plD nm))) && decide (PyData.depth (.list (ds.map (plD nm))) ≤ 64)) = true
  rw [Bool.and_eq_true]
  refine ⟨by simp only [PyData.canLay0]; exact h.1, decide_eq_true ?_⟩
  simp only [PyData.depth]
  omega
theorem plD_eqv {all : List Sq29.Deed} {nm : Sq29.Stamp → Nat} (KN : Kn all nm) {d : Sq29.Deed} (hd : d ∈ all) {o : Option Sq29.Stamp} (ho : Asks all o) : PyData.eqv (plD nm d) (.tuple [.int (num nm o), .str "right"]) = decide (d.spot = some ⟨o, true⟩) := by
  unfold plD
  cases e : d.spot with
  | none => simp [PyData.eqv]
  | some sp =>
    have e2 : PyData.eqv (.tuple [.int (num nm sp.of_), .str (side sp.right)]) (.tuple [.int (num nm o), .str "right"]) = ((num nm sp.of_ == num nm o) && ((side sp.right == ("right" : Str)) && true)) := by simp only [PyData.eqv, PyData.eqvAll]
    show PyData.eqv (.tuple [.int (num nm sp.of_), .str (side sp.right)]) (.tuple [.int (num nm o), .str "right"]) = _
    rw [e2, Bool.and_true]
    by_cases h : some sp = some ⟨o, true⟩
    · rw [decide_eq_true h]
      have h' := Option.some.inj h
      rw [h']
      show ((num nm o == num nm o) && (side true == ("right" : Str))) = true
      rw [beq_self_eq_true, Bool.true_and]
      exact beq_self_eq_true _
    · rw [decide_eq_false h]
      cases z : ((num nm sp.of_ == num nm o) && (side sp.right == ("right" : Str))) with
      | false => rfl
      | true =>
        rw [Bool.and_eq_true] at z
        have z1 : num nm sp.of_ = num nm o := by simpa using z.1
        have z2 : side sp.right = side true := eq_of_beq z.2
        refine absurd ?_ h
        rw [← num_inj KN (KN.asks hd e) ho z1]
        have z3 := side_inj z2
        cases sp
        simp at z3
        rw [z3]
theorem plD_any {all : List Sq29.Deed} {nm : Sq29.Stamp → Nat} (KN : Kn all nm) {ds : List Sq29.Deed} (hd : ∀ d ∈ ds, d ∈ all) {o : Option Sq29.Stamp} (ho : Asks all o) :
    (((ds.map (plD nm)).any fun z => PyData.eqv z (.tuple [.int (num nm o), .str "right"])) = true) ↔ ¬ ∀ d ∈ ds, d.spot ≠ some ⟨o, true⟩ := by
  rw [List.any_map, List.any_eq_true]
  constructor
  · rintro ⟨d, h1, h2⟩ h
    have h2' : PyData.eqv (plD nm d) (.tuple [.int (num nm o), .str "right"]) = true := h2
    rw [plD_eqv KN (hd d h1) ho] at h2'
    exact h d h1 (of_decide_eq_true h2')
  · intro h
    apply Classical.byContradiction
    intro h2
    refine h fun d h1 e => h2 ⟨d, h1, ?_⟩
    show PyData.eqv (plD nm d) (.tuple [.int (num nm o), .str "right"]) = true
    rw [plD_eqv KN (hd d h1) ho]
    exact decide_eq_true e

theorem scBehind : FnScope ["deeds", "number", "in_order", "deed"] ["deeds", "number"] (defScope sBehind) := ⟨rfl, rfl, rfl, by decide +kernel, rfl, by decide +kernel, by decide +kernel⟩
theorem ok_behind {f C fS fN : Addr} {fd fdS fdN : FuncData} (F : Fun K "place_right_behind" "place_right_behind" sBehind f fd) (T : TDeed K mg C) (TC : TConst mg)
    (GS : FnOk P w K mg base CX0 5 fS fdS ["deeds"] (spSpots C)) (kS : PySem.W.keepIn K (.ref fS) = true) (bS : Binds K fdS ["deeds"] []) (gS : mg "spots_of" = some (.ref fS))
    (GN : FnOk P w K mg base CX0 1 fN fdN ["deeds"] (spNumbers C)) (kN : PySem.W.keepIn K (.ref fN) = true) (bN : Binds K fdN ["deeds"] []) (gN : mg "numbers_of" = some (.ref fN)) : FnOk P w K mg base CX0 6 f fd ["deeds", "number"] (spBehind C) := by
  obtain ⟨tb, gB⟩ := TC.beg
  obtain ⟨tr, gR⟩ := TC.right
  obtain ⟨tl, gLe⟩ := TC.left
  refine F.ok scBehind (fun vs H Q E h => ?_) (fun cdv A outer s H vs Q E hr h => ?_)
  · obtain ⟨a, all, nm, adr, ds, l, o, rfl, _⟩ := h
    rfl
  · obtain ⟨a, all, nm, adr, ds, l, o, rfl, G, hA, ho, k⟩ := h
    have hr1 : Room 1 _ := hr.mono (by decide)
    have hu65 : (A.deeper (PyProof.Rows.envOfC "place_right_behind" (defScope sBehind) s.heap.objs.size f cdv)).units + 65 < cLine := by have := hr.un; omega
    refine ⟨_, pss_cons (ps_if (pt_cmpR (op_notInD hu65) (pe_tup (pa_cons (pv 1) (pa_cons (pe_glob (v := .str "right") rfl gR ⟨_, rfl⟩) pa_nil)))
        (pe_lc (own := [("deed", 3)]) (g := gName 3) (tt := tYes) (te := tFld K (tVar 3) "place") rfl scBehind.nd (pi_list (pv 0)) (blkOk_by (N := ["deeds", "number", "in_order", "deed"]) (sc := defScope sBehind) (by decide +kernel))
          (fun _ _ _ _ _ => pg_name (i := 3) scBehind.nd rfl (Or.inl rfl)) (fun _ _ _ _ _ => pts_nil) (fun _ _ _ _ _ => pe_fld (pv 3) rfl)) (by with_unfolding_all rfl))
        (pss_one (ps_ret (pe_tup (pa_cons (pv 1) (pa_cons (pe_glob (v := .str "right") rfl gR ⟨_, rfl⟩) pa_nil))))) pss_nil)
      (pss_cons (ps_set (i := 2) scBehind.nd rfl (Or.inl rfl) (pe_op op_cat (pe_lst (pa_cons (pe_glob (v := .int (-1)) rfl gB ⟨_, rfl⟩) pa_nil))
        (pe_call GN hr1 rfl gN kN bN .nil pass0 (pa_cons (pe_call GS hr rfl gS kS bS .nil pass0 (pa_cons (pv 0) pa_nil)) pa_nil))))
      (pss_one (ps_ret (pe_tup (pa_cons (pe_ix ix_list (pv 2) (pe_op op_add (pe_bm PySem.F.plainAttrs_list PySem.F.slot_list_index PySem.F.type_list_index mt_index (pv 2) (pa_cons (pv 1) pa_nil)) pe_int) (fun _ _ => rfl)) (pa_cons (pe_glob (v := .str "left") rfl gLe ⟨_, rfl⟩) pa_nil)))))), ?_⟩
    have L := G.late
    have hl := G.len
    have hsl : (Sq29.spots l).length ≤ 120 := Nat.le_trans ((spots_nodup G.dk.srt L).length_le_of_subset fun x hx => spots_sub L hx) hl
    have hds : ds.length ≤ 120 := by rw [G.dk.perm.length_eq]; exact hl
    have asks : Asks all o := fun s e => by
      obtain ⟨x, hx, es⟩ := ho s e
      exact ⟨x, G.dk.sub x (spots_sub L hx), es⟩
    have mem_ds : (∀ d ∈ ds, d.spot ≠ some ⟨o, true⟩) ↔ ∀ d ∈ l, d.spot ≠ some ⟨o, true⟩ := ⟨fun h d hd => h d (G.dk.perm.mem_iff.mpr hd), fun h d hd => h d (G.dk.perm.mem_iff.mp hd)⟩
    -- (number, RIGHT) not in [..]
    refine ⟨_, rfl, by show 2 ≤ sizeLine; decide, fun t ht => ?_⟩
    have s1 : Same H (upd H t (.tup [.int (num nm o), .str "right"])) := Same.new ht
    refine ⟨_, rfl, a, rfl, ⟨_, SqL.of (s1 _ _ hA)⟩, fun D hD => lc_map (bs := ds) (g := rf adr) (f := plOf C nm adr H) (SqL.of (s1 _ _ hA)) hD (by omega) (fun d hd H2 s2 Y hY => ?_) ?_⟩
    · obtain ⟨dx, g1, _⟩ := plOf_spec (G.at_ d hd)
      exact ⟨rfl, _, rfl, _, C, dx, _, _, rfl, s2 _ _ (s1 _ _ g1), T.cl, T.nP, dF_place _ _ _ _ _, hY⟩
    have s2 : Same H (upd (upd H t (.tup [.int (num nm o), .str "right"])) D (.lst (ds.map (plOf C nm adr H)))) := s1.trans (Same.new hD)
    have ht2 : (upd (upd H t (.tup [.int (num nm o), .str "right"])) D (.lst (ds.map (plOf C nm adr H)))) t = some (.tup [.int (num nm o), .str "right"]) := Same.new hD _ _ upd_same
    refine ⟨.tuple [.int (num nm o), .str "right"], ds.map (plD nm), .tup (SqT.of ht2) (.cons (.int _) (.cons (.str _) .nil)), .lst (SqL.of upd_same) (plD_all s2 G.at_), ?_, plDs_shaped nm ds, _, rfl, ?_⟩
    · show (PyData.canLay0 _ && decide (PyData.depth _ ≤ 64)) = true
      have q : PyData.strOk ("right" : Str) = true := side_ok true
      simp [PyData.canLay0, PyData.canLayAll0, PyData.depth, PyData.depthAll, q]
    by_cases hfree : ∀ d ∈ ds, d.spot ≠ some ⟨o, true⟩
    · have e : ((ds.map (plD nm)).any fun z => PyData.eqv z (.tuple [.int (num nm o), .str "right"])) = false := by
        cases z : ((ds.map (plD nm)).any fun z => PyData.eqv z (.tuple [.int (num nm o), .str "right"])) with
        | false => rfl
        | true => exact absurd hfree ((plD_any G.kn G.dk.subD asks).mp z)
      rw [e]
      refine iteT ?_
      refine ⟨_, rfl, by show 2 ≤ sizeLine; decide, fun u hu => ?_⟩
      refine k _ u (s2.trans (Same.new hu)) (s2.free hu) ?_
      rw [upd_same, behind_free (mem_ds.mp hfree)]
      rfl
    · rw [(plD_any G.kn G.dk.subD asks).mpr hfree]
      refine iteF ?_
      -- in_order
      refine ⟨by show 1 ≤ sizeLine; decide, fun B hB => ?_⟩
      have s3 := s2.trans (Same.new (o := .lst [.int (-1)]) hB)
      refine ⟨_, rfl, a, all, nm, adr, ds, l, rfl, G.same s3, s3 _ _ hA, fun H1 S s4 nS hS => ?_⟩
      refine ⟨S, nm, adr, Sq29.spots l, rfl, fun e he => (G.atL e (spots_sub L he)).same (s3.trans s4), hsl, hS, fun H5 R s5 nR hR => ?_⟩
      have hB2 := (s4.trans s5) _ _ (upd_same (H := upd (upd H t (.tup [.int (num nm o), .str "right"])) D (.lst (ds.map (plOf C nm adr H)))) (a := B) (o := .lst [.int (-1)]))
      refine ⟨B, R, _, _, rfl, rfl, hB2, hR, ?_, fun N hN => ?_⟩
      · simp only [List.length_map, List.length_cons, List.length_nil]
        exact Nat.le_trans (Nat.add_le_add (Nat.le_refl 1) hsl) (by decide)
      obtain ⟨j, x, hj, eb, hcase⟩ := behind_at G.dk.srt L ho (fun z => hfree (mem_ds.mpr z))
      have s6 := ((s3.trans s4).trans s5).trans (Same.new (o := .lst ([V.int (-1)] ++ (Sq29.spots l).map fun d => V.int (d.id : Int))) hN)
      -- where number stands
      have inj : ∀ y ∈ Sq29.spots l, ∀ z ∈ Sq29.spots l, y.id = z.id → y = z := fun y hy z hz => G.kn.inj y (G.dk.sub y (spots_sub L hy)) z (G.dk.sub z (spots_sub L hz))
      obtain ⟨h1, h2⟩ : ([V.int (-1)] ++ (Sq29.spots l).map fun d => V.int (d.id : Int))[j]? = some (V.int (num nm o)) ∧ ∀ (m : Nat) (z : V), m < j → ([V.int (-1)] ++ (Sq29.spots l).map fun d => V.int (d.id : Int))[m]? = some z → eqV z (V.int (num nm o)) = false := by
        rcases hcase with ⟨rfl, rfl⟩ | ⟨i, e, rfl, he, rfl⟩
        · exact ⟨rfl, fun m z hm => absurd hm (Nat.not_lt_zero _)⟩
        · have hes : e ∈ Sq29.spots l := List.mem_of_getElem? he
          have ne : num nm (some e.stamp) = (e.id : Int) := by
            show ((nm e.stamp : Nat) : Int) = _
            rw [G.kn.id e (G.dk.sub e (spots_sub L hes))]
          rw [ne]
          refine ⟨by show ((Sq29.spots l).map fun d => V.int (d.id : Int))[i]? = _; rw [List.getElem?_map, he]; rfl, fun m z hm hz => ?_⟩
          cases m with
          | zero =>
            have z0 : V.int (-1) = z := Option.some.inj hz
            rw [← z0]
            show ((-1 : Int) == (e.id : Int)) = false
            exact beq_eq_false_iff_ne.mpr (by omega)
          | succ m =>
            have hz' : ((Sq29.spots l).map fun d => V.int (d.id : Int))[m]? = some z := hz
            rw [List.getElem?_map] at hz'
            cases q : (Sq29.spots l)[m]? with
            | none => rw [q] at hz'; cases hz'
            | some y =>
              rw [q] at hz'
              have z0 : V.int (y.id : Int) = z := Option.some.inj hz'
              rw [← z0]
              show ((y.id : Int) == (e.id : Int)) = false
              refine beq_eq_false_iff_ne.mpr fun z2 => ?_
              have ey : y = e := inj y (List.mem_of_getElem? q) e hes (by omega)
              subst ey
              have := nd_ix (spots_nodup G.dk.srt L) q he
              omega
      refine ⟨_, rfl, _, rfl, .inl ⟨rfl, _, SqL.of upd_same⟩, _, rfl, N, _, V.int (num nm o), j, V.int (num nm o), rfl, rfl, SqL.of upd_same, rfl, ?_, h1, ?_, h2, ?_⟩
      · rw [List.all_append, List.all_map]
        exact Bool.and_eq_true_iff.mpr ⟨rfl, List.all_eq_true.mpr fun _ _ => rfl⟩
      · show (num nm o == num nm o) = true
        exact beq_self_eq_true _
      refine ⟨_, _, rfl, rfl, N, _, _, V.int (x.id : Int), rfl, rfl, SqL.of upd_same, at_of (j := j + 1) (by omega) ?_, by show 2 ≤ sizeLine; decide, fun u hu => ?_⟩
      · show ((Sq29.spots l).map fun d => V.int (d.id : Int))[j]? = _
        rw [List.getElem?_map, hj]
        rfl
      refine k _ u (s6.trans (Same.new hu)) (s6.free hu) ?_
      have hx : nm x.stamp = x.id := G.kn.id x (G.dk.sub x (spots_sub L (List.mem_of_getElem? hj)))
      rw [upd_same, eb]
      show some (HO.tup [V.int (x.id : Int), V.str "left"]) = some (HO.tup [V.int ((nm x.stamp : Nat) : Int), V.str (side false)])
      rw [hx]
      rfl
end
end Mp

namespace Mp
open PySem L2 Mr Mh

/-! ### what waits -/
def spWaiting (C : Addr) : Sp := fun vs H Q _ => ∃ (a : Addr) (all : List Sq29.Deed) (nm : Sq29.Stamp → Nat) (adr : Nat → Addr) (ds l : List Sq29.Deed), vs = [.ref a] ∧ Given C all nm adr H ds l ∧ H a = some (.lst (ds.map (rf adr))) ∧
  ∀ (H' : Hp) (p : Addr), Same H H' → H p = none → H' p = some (.lst ((waiting l).map (rf adr))) → Q (.ref p) H'
theorem inV_ids {all l : List Sq29.Deed} {nm : Sq29.Stamp → Nat} (KN : Kn all nm) (hl : ∀ d ∈ l, d ∈ all) {d : Sq29.Deed} (hd : d ∈ all) : inV (V.int (d.id : Int)) (l.map fun d => V.int (d.id : Int)) = l.contains d := by
  unfold inV
  rw [List.any_map]
  by_cases h : d ∈ l
  · rw [List.contains_iff_mem.mpr h]
    exact List.any_eq_true.mpr ⟨d, h, by show ((d.id : Int) == (d.id : Int)) = true; simp⟩
  · have hc : l.contains d = false := by
      cases z : l.contains d with
      | false => rfl
      | true => exact absurd (List.contains_iff_mem.mp z) h
    rw [hc]
    refine List.any_eq_false.mpr fun x hx z => h ?_
    have z' : ((x.id : Int) == (d.id : Int)) = true := z
    have z2 : (x.id : Int) = (d.id : Int) := by simpa using z'
    rw [← KN.inj x (hl x hx) d hd (by omega)]
    exact hx
theorem waiting_eq (l : List Sq29.Deed) : ((l.filter fun d => d.spot.isSome).filter fun d => !(Sq29.spots l).contains d) = waiting l := by
  unfold waiting
  rw [List.filter_filter]
  refine List.filter_congr fun d _ => ?_
  unfold Sq29.inOf
  cases d.spot <;> simp
section
variable {P : Program} {w : World} {K : PySem.W.Frag} {mg : Str → Option Value} {base : Heap}
theorem scWaiting : FnScope ["deeds", "come_to", "making_spots", "deed"] ["deeds"] (defScope sWaiting) := ⟨rfl, rfl, rfl, by decide +kernel, rfl, by decide +kernel, by decide +kernel⟩
theorem ok_waiting {f C fS fN fT : Addr} {fd fdS fdN fdT : FuncData} (F : Fun K "waiting_of" "waiting_of" sWaiting f fd) (T : TDeed K mg C)
    (FT : Fun K "stamp" "stamp" sStamp fT fdT) (bT : Binds K fdT ["deed"] []) (gT : mg "stamp" = some (.ref fT))
    (GS : FnOk P w K mg base CX0 5 fS fdS ["deeds"] (spSpots C)) (kS : PySem.W.keepIn K (.ref fS) = true) (bS : Binds K fdS ["deeds"] []) (gS : mg "spots_of" = some (.ref fS))
    (GN : FnOk P w K mg base CX0 1 fN fdN ["deeds"] (spNumbers C)) (kN : PySem.W.keepIn K (.ref fN) = true) (bN : Binds K fdN ["deeds"] []) (gN : mg "numbers_of" = some (.ref fN)) :
    FnOk P w K mg base CX0 6 f fd ["deeds"] (spWaiting C) := by
  refine F.ok scWaiting (fun vs H Q E h => ?_) (fun cdv A outer s H vs Q E hr h => ?_)
  · obtain ⟨a, all, nm, adr, ds, l, rfl, _⟩ := h
    rfl
  · obtain ⟨a, all, nm, adr, ds, l, rfl, G, hA, k⟩ := h
    have hr1 : Room 1 _ := hr.mono (by decide)
    have hr3 : Room 3 _ := hr.mono (by decide)
    refine ⟨_, pss_cons (ps_set (i := 1) scWaiting.nd rfl (Or.inr rfl) (pe_call GN hr1 rfl gN kN bN .nil pass0 (pa_cons (pe_call GS hr rfl gS kS bS .nil pass0 (pa_cons (pv 0) pa_nil)) pa_nil)))
      (pss_cons (ps_setLc (i := 2) (own := [("deed", 3)]) (g := gName 3) (tt := tB (tNotN (tFld K (tVar 3) "place"))) (te := tVar 3) rfl scWaiting.nd rfl rfl (sw_true rfl rfl rfl (by decide +kernel)) (pi_list (pe_callBK (cr_sortBy (β := Sq29.Deed) stampDef FT bT hr3 T.cl T.nC T.nD) (by rfl) T.sorted PyProof.Rows.boot_sorted (pa_cons (pv 0) pa_nil) (pk_cons (pe_glob (v := .ref fT) rfl gT rfl) pk_nil))) (blkOk_by (N := ["deeds", "come_to", "making_spots", "deed"]) (sc := defScope sWaiting) (by decide +kernel))
        (fun _ _ _ _ _ => pg_name (i := 3) scWaiting.nd rfl (Or.inl rfl)) (fun _ _ _ _ _ => pts_one (pt_cmp (pc_notN (pe_fld (pv 3) rfl)))) (fun _ _ _ _ _ => pv 3))
      (pss_one (ps_ret (pe_lc (own := [("deed", 3)]) (g := gName 3) (tt := tTest (tOp (rIn K true) (tFld K (tVar 3) "number") (tVar 1))) (te := tVar 3) rfl scWaiting.nd (pi_list (pv 2)) (blkOk_by (N := ["deeds", "come_to", "making_spots", "deed"]) (sc := defScope sWaiting) (by decide +kernel))
        (fun _ _ _ _ _ => pg_name (i := 3) scWaiting.nd rfl (Or.inl rfl)) (fun _ _ _ _ _ => pts_one (pt_cmpR op_notIn_seq (pe_fld (pv 3) rfl) (pv 1) (by with_unfolding_all rfl))) (fun _ _ _ _ _ => pv 3))))), ?_⟩
    have L := G.late
    have hl := G.len
    have hsl : (Sq29.spots l).length ≤ 120 := Nat.le_trans ((spots_nodup G.dk.srt L).length_le_of_subset fun x hx => spots_sub L hx) hl
    have hat : ∀ d ∈ Sq29.spots l, DeedAt C nm adr H d := fun d hd => G.atL d (spots_sub L hd)
    -- come_to
    refine ⟨_, rfl, a, all, nm, adr, ds, l, rfl, G, hA, fun H1 S s1 nS hS => ?_⟩
    refine ⟨S, nm, adr, Sq29.spots l, rfl, fun d hd => (hat d hd).same s1, hsl, hS, fun H2 Z s2 nZ hZ => ?_⟩
    have s12 := s1.trans s2
    -- making_spots
    refine ⟨_, rfl, ?_⟩
    refine ⟨a, ds, fun d => adr d.id, fun d => (d.stamp.count : Int), fun d => (d.stamp.hand : Int), rfl, rfl, SqL.of (s12 _ _ hA), fun d hd => ?_, fun z hz => ?_⟩
    · obtain ⟨dx, pl, h1, _⟩ := (G.at_ d hd).same s12
      exact ⟨dx, _, h1, dF_count _ _ _ _ _, dF_desk _ _ _ _ _⟩
    have eo : ds.mergeSort (ordBy false (fun d : Sq29.Deed => (d.stamp.count : Int)) (fun d => (d.stamp.hand : Int))) = l := G.dk.srt.up G.dk.perm
    rw [eo]
    have s3 := s12.trans (Same.new (o := .lst (l.map (rf adr))) hz)
    refine ⟨z, rfl, ⟨_, SqL.of upd_same⟩, fun M hM => lc_fm (bs := l) (g := rf adr) (f := rf adr) (p := fun d => d.spot.isSome) (SqL.of upd_same) hM (by omega) (fun d hd H4 s4 Y Nn hY hN => ?_) ?_⟩
    · obtain ⟨dx, pl, g1, g2⟩ := ((G.atL d hd).same s3).same s4
      refine ⟨rfl, _, rfl, _, C, dx, _, _, rfl, g1, T.cl, T.nP, dF_place _ _ _ _ _, _, rfl, ?_⟩
      cases es : d.spot with
      | none =>
        rw [es] at g2
        cases (show pl = V.non from g2)
        exact iteF (hN (by rw [es]; rfl))
      | some sp =>
        rw [es] at g2
        obtain ⟨t, rfl, _⟩ := (show ∃ t, pl = V.ref t ∧ _ from g2)
        exact iteT ⟨_, rfl, hY (by rw [es]; rfl)⟩
    have s4 := s3.trans (Same.new (o := .lst ((l.filter fun d => d.spot.isSome).map (rf adr))) hM)
    have hfl : (l.filter fun d => d.spot.isSome).length ≤ 120 := Nat.le_trans (List.length_filter_le _ _) hl
    have hZ4 := ((Same.new (o := .lst (l.map (rf adr))) hz).trans (Same.new (o := .lst ((l.filter fun d => d.spot.isSome).map (rf adr))) hM)) _ _ hZ
    -- those that are not come to
    refine ⟨_, rfl, M, rfl, ⟨_, SqL.of upd_same⟩, fun R hR => lc_fm (bs := l.filter fun d => d.spot.isSome) (g := rf adr) (f := rf adr) (p := fun d => !(Sq29.spots l).contains d) (SqL.of upd_same) hR (by omega) (fun d hd H5 s5 Y Nn hY hN => ?_) ?_⟩
    · have hdl : d ∈ l := (List.mem_filter.mp hd).1
      obtain ⟨dx, pl, g1, g2⟩ := ((G.atL d hdl).same s4).same s5
      refine ⟨rfl, _, rfl, _, C, dx, _, _, rfl, g1, T.cl, T.nN, dF_number _ _ _ _ _, _, rfl, Z, _, rfl, .inl (SqL.of (s5 _ _ hZ4)), rfl, ?_, _, rfl, ?_⟩
      · rw [List.all_map]
        exact List.all_eq_true.mpr fun _ _ => rfl
      show if (!inV (V.int (d.id : Int)) ((Sq29.spots l).map fun d => V.int (d.id : Int))) = true then _ else _
      rw [inV_ids G.kn (fun e he => G.dk.sub e (spots_sub L he)) (G.dk.sub d hdl)]
      cases hc : (Sq29.spots l).contains d with
      | false => exact iteT ⟨_, rfl, hY (by rw [hc]; rfl)⟩
      | true => exact iteF (hN (by rw [hc]; rfl))
    refine k _ R (s4.trans (Same.new hR)) (s4.free hR) ?_
    rw [upd_same, waiting_eq]
end
end Mp

namespace Mp
open PySem L2 Mr Mh
abbrev sHouse : Stmt := top 33
abbrev sHInit : Stmt := inClass sHouse 0
abbrev sSettle : Stmt := inClass sHouse 1
abbrev sHas : Stmt := inClass sHouse 2
abbrev sFull : Stmt := inClass sHouse 3
abbrev sKnown : Stmt := inClass sHouse 4
abbrev sDo : Stmt := inClass sHouse 5

/-! ### a house in the heap -/
def hF (dl : Addr) (n : Int) (kl : Addr) : List (Str × V) := [("deeds", .ref dl), ("things", .int n), ("known", .ref kl)]
section
variable (dl kl : Addr) (n : Int)
theorem hF_deeds : (hF dl n kl).lookup ("deeds" : Str) = some (.ref dl) := lk_here
theorem hF_things : (hF dl n kl).lookup ("things" : Str) = some (.int n) := (lk_past (by decide +kernel)).trans lk_here
theorem hF_known : (hF dl n kl).lookup ("known" : Str) = some (.ref kl) := (lk_past (by decide +kernel)).trans ((lk_past (by decide +kernel)).trans lk_here)
theorem hF_no {m : Str} (h1 : (m == ("deeds" : Str)) = false) (h2 : (m == ("things" : Str)) = false) (h3 : (m == ("known" : Str)) = false) : (hF dl n kl).lookup m = none := (lk_past h1).trans ((lk_past h2).trans ((lk_past h3).trans rfl))
theorem hF_putT (y : Int) : putF "things" (.int y) (hF dl n kl) = hF dl y kl := (put_past (by decide +kernel)).trans (congrArg _ put_here)
theorem hF_putD (y : Addr) : putF "deeds" (.ref y) (hF dl n kl) = hF y n kl := put_here
theorem hF_putK (y : Addr) : putF "known" (.ref y) (hF dl n kl) = hF dl n y := (put_past (by decide +kernel)).trans (congrArg _ ((put_past (by decide +kernel)).trans (congrArg _ put_here)))
theorem hF_new : putF "known" (.ref kl) (putF "things" (.int n) (putF "deeds" (.ref dl) [])) = hF dl n kl := by
  have e1 : putF "deeds" (.ref dl) [] = [(("deeds" : Str), V.ref dl)] := rfl
  have e2 : putF "things" (.int n) [(("deeds" : Str), V.ref dl)] = [(("deeds" : Str), V.ref dl), ("things", .int n)] := (put_past (by decide +kernel)).trans rfl
  rw [e1, e2]
  exact (put_past (by decide +kernel)).trans (congrArg _ ((put_past (by decide +kernel)).trans rfl))
end
/-- what a desk's dict holds -/
def knK (adr : Nat → Addr) (ds : List Sq29.Deed) : List (Key × V) := ds.map fun d => (Sum.inl (d.id : Int), rf adr d)
theorem knK_vals (adr : Nat → Addr) (ds : List Sq29.Deed) : (knK adr ds).map (·.2) = ds.map (rf adr) := by
  unfold knK
  rw [List.map_map]
  rfl
theorem knK_put {all ds : List Sq29.Deed} (inj : ∀ d ∈ all, ∀ e ∈ all, d.id = e.id → d = e) (adr : Nat → Addr) (hs : ∀ d ∈ ds, d ∈ all) {d : Sq29.Deed} (hd : d ∈ all) :
    putK (knK adr ds) (.inl (d.id : Int)) (rf adr d) = knK adr (if d ∈ ds then ds else ds ++ [d]) := by
  have key : ∀ e ∈ ds, ((Sum.inl (e.id : Int) : Key) = Sum.inl (d.id : Int)) → e = d := fun e he q => inj e (hs e he) d hd (by have := Sum.inl.inj q; omega)
  have ha : ((knK adr ds).any fun kv => decide (kv.1 = (Sum.inl (d.id : Int) : Key))) = decide (d ∈ ds) := by
    unfold knK
    rw [List.any_map]
    by_cases h : d ∈ ds
    · rw [decide_eq_true h]
      exact List.any_eq_true.mpr ⟨d, h, decide_eq_true rfl⟩
    · rw [decide_eq_false h]
      refine List.any_eq_false.mpr fun e he q => h ?_
      rw [← key e he (of_decide_eq_true q)]
      exact he
  unfold putK
  rw [ha]
  by_cases h : d ∈ ds
  · rw [if_pos (decide_eq_true h), if_pos h]
    unfold knK
    rw [List.map_map]
    refine List.map_congr_left fun e he => ?_
    show (if (Sum.inl (e.id : Int) : Key) = Sum.inl (d.id : Int) then (Sum.inl (e.id : Int), rf adr d) else (Sum.inl (e.id : Int), rf adr e)) = _
    by_cases q : (Sum.inl (e.id : Int) : Key) = Sum.inl (d.id : Int)
    · rw [if_pos q, key e he q]
    · rw [if_neg q]
  · rw [if_neg (by rw [decide_eq_false h]; exact Bool.false_ne_true), if_neg h]
    unfold knK
    rw [List.map_append]
    rfl
structure HAt (CH CD : Addr) (Hx H : Hp) (p : Addr) (h : Sq29.House) (dl kl : Addr) (nm : Sq29.Stamp → Nat) (adr : Nat → Addr) (ks : List Addr) (dss : List (List Sq29.Deed)) : Prop where
  same : Same Hx H
  np : Hx p = none
  ndl : Hx dl = none
  nkl : Hx kl = none
  nks : ∀ q ∈ ks, Hx q = none
  hp : ∃ dx, H p = some (.ins CH dx (hF dl h.things kl))
  hdl : H dl = some (.lst (h.all.map (rf adr)))
  hkl : H kl = some (.lst (ks.map V.ref))
  ne : dl ≠ kl
  len : ks.length = h.desks.length
  lend : dss.length = h.desks.length
  nd : ks.Nodup
  dict : ∀ (k : Nat) (q : Addr) (ds : List Sq29.Deed), ks[k]? = some q → dss[k]? = some ds → H q = some (.dK (knK adr ds))
  desk : ∀ (k : Nat) (ds l : List Sq29.Deed), dss[k]? = some ds → h.desks[k]? = some l → ds.Perm l
  kn : Kn h.all nm
  deeds : ∀ d ∈ h.all, DeedAt CD nm adr H d
  inv : HInv h
def HouseAt (CH CD : Addr) (Hx H : Hp) (p : Addr) (h : Sq29.House) : Prop := ∃ dl kl nm adr ks dss, HAt CH CD Hx H p h dl kl nm adr ks dss
section
variable {CH CD : Addr} {Hx H H' : Hp} {p dl kl : Addr} {h : Sq29.House} {nm : Sq29.Stamp → Nat} {adr : Nat → Addr} {ks : List Addr} {dss : List (List Sq29.Deed)} {o : HO}
theorem HAt.keep (A : HAt CH CD Hx H p h dl kl nm adr ks dss) (s : Same H H') : HAt CH CD Hx H' p h dl kl nm adr ks dss :=
  ⟨A.same.trans s, A.np, A.ndl, A.nkl, A.nks, let ⟨dx, e⟩ := A.hp; ⟨dx, s _ _ e⟩, s _ _ A.hdl, s _ _ A.hkl, A.ne, A.len, A.lend, A.nd, fun k q ds e1 e2 => s _ _ (A.dict k q ds e1 e2), A.desk, A.kn, fun d hd => (A.deeds d hd).same s, A.inv⟩
theorem HAt.at_ (A : HAt CH CD Hx H p h dl kl nm adr ks dss) {k : Nat} (hk : k < h.desks.length) : ∃ q ds l, ks[k]? = some q ∧ dss[k]? = some ds ∧ h.desks[k]? = some l ∧ H q = some (.dK (knK adr ds)) ∧ h.desk k = l ∧ Given CD h.all nm adr H ds l := by
  obtain ⟨q, e1⟩ : ∃ q, ks[k]? = some q := ⟨_, List.getElem?_eq_getElem (by rw [A.len]; exact hk)⟩
  obtain ⟨ds, e2⟩ : ∃ ds, dss[k]? = some ds := ⟨_, List.getElem?_eq_getElem (by rw [A.lend]; exact hk)⟩
  obtain ⟨l, e3⟩ : ∃ l, h.desks[k]? = some l := ⟨_, List.getElem?_eq_getElem hk⟩
  have pm := A.desk k _ _ e2 e3
  refine ⟨_, _, _, e1, e2, e3, A.dict k _ _ e1 e2, desk_of e3, A.kn, ⟨A.inv.sub k _ e3, pm, A.inv.srt k _ e3⟩, A.inv.few, A.inv.nodup, fun d hd => A.deeds d (A.inv.sub k _ e3 d (pm.mem_iff.mp hd))⟩
end
structure THouse (K : PySem.W.Frag) (mg : Str → Option Value) (C : Addr) : Prop where
  cl : Cls K C
  nD : NoAttr K C "deeds"
  nT : NoAttr K C "things"
  nK : NoAttr K C "known"
  gC : mg "House" = some (.ref C)
  most : ∃ t, mg "MOST_DEEDS" = some (.int 120 t)

def spHas (CH CD : Addr) : Sp := fun vs H Q _ => ∃ (Hx : Hp) (p : Addr) (h : Sq29.House) (k : Nat), vs = [.ref p, .int (k : Int)] ∧ HouseAt CH CD Hx H p h ∧ Q (.bl (decide (k < h.desks.length))) H
def spFull (CH CD : Addr) : Sp := fun vs H Q _ => ∃ (Hx : Hp) (p : Addr) (h : Sq29.House), vs = [.ref p] ∧ HouseAt CH CD Hx H p h ∧ Q (.bl (decide (120 ≤ h.all.length))) H
def spKnown (CH CD : Addr) : Sp := fun vs H Q _ => ∃ (Hx : Hp) (p : Addr) (h : Sq29.House) (dl kl : Addr) (nm : Sq29.Stamp → Nat) (adr : Nat → Addr) (ks : List Addr) (dss : List (List Sq29.Deed)) (k : Nat) (ds : List Sq29.Deed), vs = [.ref p, .int (k : Int)] ∧
  HAt CH CD Hx H p h dl kl nm adr ks dss ∧ k < h.desks.length ∧ dss[k]? = some ds ∧ ∀ q, H q = none → Q (.ref q) (upd H q (.lst (ds.map (rf adr))))

section
variable {P : Program} {w : World} {K : PySem.W.Frag} {mg : Str → Option Value} {base : Heap}
theorem scHas : FnScope ["self", "desk"] ["self", "desk"] (defScope sHas) := ⟨rfl, rfl, rfl, by decide +kernel, rfl, by decide +kernel, by decide +kernel⟩
theorem ok_has {f CH CD : Addr} {fd : FuncData} (F : Fun K "has_desk" "House.has_desk" sHas f fd) (T : TDeed K mg CD) (TH : THouse K mg CH) : FnOk P w K mg base CX0 1 f fd ["self", "desk"] (spHas CH CD) := by
  refine F.ok scHas (fun vs H Q E h => ?_) (fun cdv A outer s H vs Q E hr h => ?_)
  · obtain ⟨Hx, p, h, k, rfl, _⟩ := h
    rfl
  · obtain ⟨Hx, p, h, k, rfl, ⟨dl, kl, nm, adr, ks, dss, A⟩, kk⟩ := h
    obtain ⟨dx, hp⟩ := A.hp
    refine ⟨_, pss_one (ps_ret (pe_cmpR op_lt (pv 1) (pe_callB call_len_seq (by rfl) T.len PySem.boot_len (pa_cons (pe_fld (pv 0) rfl) pa_nil)) (nomark _))), ?_⟩
    refine ⟨_, rfl, _, rfl, p, CH, dx, _, _, rfl, hp, TH.cl, TH.nK, hF_known _ _ _, kl, _, rfl, .inl (SqL.of A.hkl), _, _, rfl, rfl, ?_⟩
    have e : decide ((k : Int) < ((ks.map V.ref).length : Int)) = decide (k < h.desks.length) := by
      rw [List.length_map, A.len]
      exact decide_eq_decide.mpr (by omega)
    show Q (.bl (decide _)) H
    rw [e]
    exact kk
theorem scFull : FnScope ["self"] ["self"] (defScope sFull) := ⟨rfl, rfl, rfl, by decide +kernel, rfl, by decide +kernel, by decide +kernel⟩
theorem ok_full {f CH CD : Addr} {fd : FuncData} (F : Fun K "is_full" "House.is_full" sFull f fd) (T : TDeed K mg CD) (TH : THouse K mg CH) : FnOk P w K mg base CX0 1 f fd ["self"] (spFull CH CD) := by
  obtain ⟨tm, gM⟩ := TH.most
  refine F.ok scFull (fun vs H Q E h => ?_) (fun cdv A outer s H vs Q E hr h => ?_)
  · obtain ⟨Hx, p, h, rfl, _⟩ := h
    rfl
  · obtain ⟨Hx, p, h, rfl, ⟨dl, kl, nm, adr, ks, dss, A⟩, kk⟩ := h
    obtain ⟨dx, hp⟩ := A.hp
    refine ⟨_, pss_one (ps_ret (pe_cmpR op_ge (pe_callB call_len_seq (by rfl) T.len PySem.boot_len (pa_cons (pe_fld (pv 0) rfl) pa_nil)) (pe_glob (v := .int 120) rfl gM ⟨_, rfl⟩) (nomark _))), ?_⟩
    refine ⟨_, rfl, p, CH, dx, _, _, rfl, hp, TH.cl, TH.nD, hF_deeds _ _ _, dl, _, rfl, .inl (SqL.of A.hdl), _, _, rfl, rfl, ?_⟩
    have e : decide ((120 : Int) ≤ ((h.all.map (rf adr)).length : Int)) = decide (120 ≤ h.all.length) := by
      rw [List.length_map]
      exact decide_eq_decide.mpr (by omega)
    show Q (.bl (decide _)) H
    rw [e]
    exact kk
theorem scKnown : FnScope ["self", "desk"] ["self", "desk"] (defScope sKnown) := ⟨rfl, rfl, rfl, by decide +kernel, rfl, by decide +kernel, by decide +kernel⟩
theorem ok_known {f CH CD : Addr} {fd : FuncData} (F : Fun K "deeds_known" "House.deeds_known" sKnown f fd) (T : TDeed K mg CD) (TH : THouse K mg CH) : FnOk P w K mg base CX0 1 f fd ["self", "desk"] (spKnown CH CD) := by
  refine F.ok scKnown (fun vs H Q E h => ?_) (fun cdv A outer s H vs Q E hr h => ?_)
  · obtain ⟨Hx, p, h, dl, kl, nm, adr, ks, dss, k, ds, rfl, _⟩ := h
    rfl
  · obtain ⟨Hx, p, h, dl, kl, nm, adr, ks, dss, k, ds, rfl, A, hk, hds, kk⟩ := h
    obtain ⟨dx, hp⟩ := A.hp
    obtain ⟨q, ds', l, e1, e2, e3, e4, _⟩ := A.at_ hk
    rw [hds] at e2
    cases e2
    refine ⟨_, pss_one (ps_ret (pe_listVals rfl (pe_ix ix_list (pe_fld (pv 0) rfl) (pv 1) (fun _ _ => rfl)) (by rfl) T.list PyProof.Rows.boot_list)), ?_⟩
    refine ⟨_, rfl, p, CH, dx, _, _, rfl, hp, TH.cl, TH.nK, hF_known _ _ _, _, rfl, kl, _, _, V.ref q, rfl, rfl, SqL.of A.hkl, atI_nat (by rw [List.getElem?_map, e1]; rfl), q, _, rfl, e4, fun z hz => ?_⟩
    rw [knK_vals]
    exact kk z hz
end
end Mp

namespace Mp
open PySem L2 Mr Mh

/-! ### what a write leaves -/
def NotDeed (C : Addr) (o : HO) : Prop := (∀ dx n c k y pl, o ≠ .ins C dx (dF n c k y pl)) ∧ ∀ xs, o ≠ .tup xs
theorem notDeed_lst {C : Addr} {xs : List V} : NotDeed C (.lst xs) := ⟨fun _ _ _ _ _ _ z => (nomatch z), fun _ z => (nomatch z)⟩
theorem notDeed_dK {C : Addr} {xs : List (Key × V)} : NotDeed C (.dK xs) := ⟨fun _ _ _ _ _ _ z => (nomatch z), fun _ z => (nomatch z)⟩
theorem notDeed_house {C CH dx dl kl : Addr} {n : Int} : NotDeed C (.ins CH dx (hF dl n kl)) := ⟨fun _ _ _ _ _ _ z => by
  injection z with _ _ z
  unfold hF dF at z
  injection z with z _
  have : (("deeds" : Str)) = "number" := congrArg Prod.fst z
  exact absurd this (by decide +kernel), fun _ z => by cases z⟩
theorem DeedAt.write {C : Addr} {nm : Sq29.Stamp → Nat} {adr : Nat → Addr} {H : Hp} {d : Sq29.Deed} {x : Addr} {o o' : HO} (hx : H x = some o) (hn : NotDeed C o) (h : DeedAt C nm adr H d) : DeedAt C nm adr (upd H x o') d := by
  obtain ⟨dx, pl, h1, h2⟩ := h
  refine ⟨dx, pl, ?_, ?_⟩
  · rw [upd_ne (ne_of h1 hx fun z => hn.1 _ _ _ _ _ _ z.symm)]
    exact h1
  · cases e : d.spot with
    | none => rw [e] at h2; exact h2
    | some sp =>
      rw [e] at h2
      obtain ⟨t, e1, e2⟩ := (show ∃ t, pl = V.ref t ∧ H t = some (.tup [.int (num nm sp.of_), .str (side sp.right)]) from h2)
      exact ⟨t, e1, by rw [upd_ne (ne_of e2 hx fun z => hn.2 _ z.symm)]; exact e2⟩
theorem Kn.of {h : Sq29.House} {nm : Sq29.Stamp → Nat} (I : HInv h) (hid : ∀ d ∈ h.all, nm d.stamp = d.id) : Kn h.all nm :=
  ⟨hid, fun d hd e he q => I.idInj hd he q, I.par⟩

/-! ### Deed.__init__ -/
def spDInit (C : Addr) : Sp := fun vs H Q _ => ∃ (x dx : Addr) (n c k y : Int) (pl : V), vs = [.ref x, .int n, .int c, .int k, .int y, pl] ∧ H x = some (.ins C dx []) ∧ Q .non (upd H x (.ins C dx (dF n c k y pl)))
theorem dF_new (n c k y : Int) (pl : V) : putF "place" pl (putF "thing" (.int y) (putF "desk" (.int k) (putF "count" (.int c) (putF "number" (.int n) [])))) = dF n c k y pl := by
  have e1 : putF "number" (.int n) [] = [(("number" : Str), V.int n)] := rfl
  have e2 : putF "count" (.int c) [(("number" : Str), V.int n)] = [(("number" : Str), V.int n), ("count", .int c)] := (put_past (by decide +kernel)).trans rfl
  have e3 : putF "desk" (.int k) [(("number" : Str), V.int n), ("count", .int c)] = [(("number" : Str), V.int n), ("count", .int c), ("desk", .int k)] := (put_past (by decide +kernel)).trans (congrArg _ ((put_past (by decide +kernel)).trans rfl))
  have e4 : putF "thing" (.int y) [(("number" : Str), V.int n), ("count", .int c), ("desk", .int k)] = [(("number" : Str), V.int n), ("count", .int c), ("desk", .int k), ("thing", .int y)] := (put_past (by decide +kernel)).trans (congrArg _ ((put_past (by decide +kernel)).trans (congrArg _ ((put_past (by decide +kernel)).trans rfl))))
  rw [e1, e2, e3, e4]
  exact (put_past (by decide +kernel)).trans (congrArg _ ((put_past (by decide +kernel)).trans (congrArg _ ((put_past (by decide +kernel)).trans (congrArg _ ((put_past (by decide +kernel)).trans rfl))))))
theorem len_putF (f : Str) (v : V) (fs : List (Str × V)) : (putF f v fs).length ≤ fs.length + 1 := length_putF f v fs
section
variable {P : Program} {w : World} {K : PySem.W.Frag} {mg : Str → Option Value} {base : Heap}
theorem scDInit : FnScope ["self", "number", "count", "desk", "thing", "place"] ["self", "number", "count", "desk", "thing", "place"] (defScope sDInit) := ⟨rfl, rfl, rfl, by decide +kernel, rfl, by decide +kernel, by decide +kernel⟩
theorem ok_dinit {f C : Addr} {fd : FuncData} (F : Fun K "__init__" "Deed.__init__" sDInit f fd) (T : TDeed K mg C) : FnOk P w K mg base CX0 1 f fd ["self", "number", "count", "desk", "thing", "place"] (spDInit C) := by
  refine F.ok scDInit (fun vs H Q E h => ?_) (fun cdv A outer s H vs Q E hr h => ?_)
  · obtain ⟨x, dx, n, c, k, y, pl, rfl, _⟩ := h
    rfl
  · obtain ⟨x, dx, n, c, k, y, pl, rfl, hx, kk⟩ := h
    refine ⟨_, pss_cons (ps_fld (pv 0) (pv 1) rfl) (pss_cons (ps_fld (pv 0) (pv 2) rfl) (pss_cons (ps_fld (pv 0) (pv 3) rfl) (pss_cons (ps_fld (pv 0) (pv 4) rfl) (pss_one (ps_fld (pv 0) (pv 5) rfl))))), ?_⟩
    have l1 := length_putF "number" (V.int n) []
    have l2 := length_putF "count" (V.int c) (putF "number" (V.int n) [])
    have l3 := length_putF "desk" (V.int k) (putF "count" (V.int c) (putF "number" (V.int n) []))
    have l4 := length_putF "thing" (V.int y) (putF "desk" (V.int k) (putF "count" (V.int c) (putF "number" (V.int n) [])))
    have l0 : ([] : List (Str × V)).length = 0 := rfl
    refine ⟨_, rfl, _, rfl, x, C, dx, [], rfl, hx, T.cl, T.nN, by show 0 < 1000; decide, ?_⟩
    refine ⟨_, rfl, _, rfl, x, C, dx, _, rfl, upd_same, T.cl, T.nC, by omega, ?_⟩
    refine ⟨_, rfl, _, rfl, x, C, dx, _, rfl, upd_same, T.cl, T.nD, by omega, ?_⟩
    refine ⟨_, rfl, _, rfl, x, C, dx, _, rfl, upd_same, T.cl, T.nT, by omega, ?_⟩
    refine ⟨_, rfl, _, rfl, x, C, dx, _, rfl, upd_same, T.cl, T.nP, by omega, ?_⟩
    rw [upd_upd, upd_upd, upd_upd, upd_upd, dF_new]
    exact kk

/-! ### do_deed -/
theorem HAt.did {CH CD : Addr} {Hx H H6 : Hp} {p dl kl q y dy : Addr} {h : Sq29.House} {nm : Sq29.Stamp → Nat} {adr : Nat → Addr} {ks : List Addr} {dss : List (List Sq29.Deed)} {k x : Nat} {ds l : List Sq29.Deed} {sp : Option Sq29.Spot} {pl : V}
    (A : HAt CH CD Hx H p h dl kl nm adr ks dss) (hl : h.desks[k]? = some l) (hn : h.all.length < 120) (hpl : PlaceAt nm H sp pl) (hsp : ∀ st, (sp.bind fun q => q.of_) = some st → ∃ d ∈ l, d.stamp = st)
    (e1 : ks[k]? = some q) (e2 : dss[k]? = some ds) (sm : ∀ b u, H b = some u → b ≠ dl → b ≠ q → H6 b = some u) (ny : H y = none)
    (hy : H6 y = some (.ins CD dy (dF (deedOf h k x sp).id (deedOf h k x sp).stamp.count (deedOf h k x sp).stamp.hand (deedOf h k x sp).thing pl)))
    (hdl : H6 dl = some (.lst (h.all.map (rf adr) ++ [.ref y]))) (hq : H6 q = some (.dK (putK (knK adr ds) (.inl ((deedOf h k x sp).id : Int)) (.ref y)))) : HouseAt CH CD Hx H6 p (h.does k x sp) := by
  have I' := A.inv.does hl x sp hn hsp
  have eqH := does_eq h k x sp hl
  have new := deedOf_new A.inv hl x sp
  have newL := deedOf_newL A.inv hl x sp
  generalize hd : deedOf h k x sp = d at *
  have did : d.id = h.all.length := by rw [← hd]; rfl
  rw [eqH] at I' ⊢
  have lt : ∀ e ∈ h.all, e.id < h.all.length := fun e he => by
    obtain ⟨i, hi⟩ := List.getElem?_of_mem he
    rw [A.inv.ids i e hi]
    exact (List.getElem?_eq_some_iff.mp hi).1
  -- the new names
  have radr : ∀ e ∈ h.all, rf (fun i => if i = h.all.length then y else adr i) e = rf adr e := fun e he => by
    show V.ref (if e.id = h.all.length then y else adr e.id) = _
    rw [if_neg (by have := lt e he; omega)]
  have radd : rf (fun i => if i = h.all.length then y else adr i) d = .ref y := by
    show V.ref (if d.id = h.all.length then y else adr d.id) = _
    rw [if_pos did]
  have rmap : ∀ es : List Sq29.Deed, (∀ e ∈ es, e ∈ h.all) → es.map (rf fun i => if i = h.all.length then y else adr i) = es.map (rf adr) := fun es hes => List.map_congr_left fun e he => radr e (hes e he)
  have kmap : ∀ es : List Sq29.Deed, (∀ e ∈ es, e ∈ h.all) → knK (fun i => if i = h.all.length then y else adr i) es = knK adr es := fun es hes => List.map_congr_left fun e he => by
    show (_, rf (fun i => if i = h.all.length then y else adr i) e) = _
    rw [radr e (hes e he)]
  have rnm : ∀ s, (∃ e ∈ h.all, e.stamp = s) → (if s = d.stamp then d.id else nm s) = nm s := fun s ⟨e, he, es⟩ => by
    rw [if_neg]
    intro z
    exact new e he (es.trans z)
  have nq : q ∈ ks := List.mem_of_getElem? e1
  have hqd := A.dict k q ds e1 e2
  have nqdl : q ≠ dl := ne_of hqd A.hdl (by intro z; cases z)
  have hsub : ∀ e ∈ ds, e ∈ h.all := fun e he => A.inv.sub k l hl e ((A.desk k ds l e2 hl).mem_iff.mp he)
  have hnd : d ∉ ds := fun z => new d (hsub d z) rfl
  -- places
  have plk : ∀ (o : Option Sq29.Spot) (v : V), (∀ st, (o.bind fun q => q.of_) = some st → ∃ e ∈ h.all, e.stamp = st) → PlaceAt nm H o v → PlaceAt (fun s => if s = d.stamp then d.id else nm s) H6 o v := by
    intro o v ho hv
    cases o with
    | none => exact hv
    | some s =>
      obtain ⟨t, et, ht⟩ := (show ∃ t, v = V.ref t ∧ H t = some (.tup [.int (num nm s.of_), .str (side s.right)]) from hv)
      refine ⟨t, et, ?_⟩
      have en : num (fun s => if s = d.stamp then d.id else nm s) s.of_ = num nm s.of_ := by
        cases eo : s.of_ with
        | none => rfl
        | some st =>
          show (((if st = d.stamp then d.id else nm st : Nat)) : Int) = _
          rw [rnm st (ho st eo)]
          rfl
      rw [en]
      exact sm t _ ht (ne_of ht A.hdl (by intro z; cases z)) (ne_of ht hqd (by intro z; cases z))
  have hk : k < h.desks.length := (List.getElem?_eq_some_iff.mp hl).1
  obtain ⟨dx, hp⟩ := A.hp
  have old : ∀ b u, Hx b = some u → b ≠ dl ∧ b ≠ q := fun b u e => ⟨ne_of_none e A.ndl, ne_of_none e (A.nks q nq)⟩
  refine ⟨dl, kl, fun s => if s = d.stamp then d.id else nm s, fun i => if i = h.all.length then y else adr i, ks, dss.set k (ds ++ [d]), ?_⟩
  refine ⟨fun b u e => sm b u (A.same _ _ e) (old b u e).1 (old b u e).2, A.np, A.ndl, A.nkl, A.nks, ⟨dx, sm _ _ hp (ne_of hp A.hdl (by intro z; cases z)) (ne_of hp hqd (by intro z; cases z))⟩, ?_, sm _ _ A.hkl A.ne.symm (ne_of A.hkl hqd (by intro z; cases z)), A.ne, ?_, ?_, A.nd, fun j q' ds' f1 f2 => ?_, fun j ds' l' f1 f2 => ?_, Kn.of I' fun e he => ?_, fun e he => ?_, I'⟩
  · rw [hdl, List.map_append, rmap _ fun e he => he]
    show _ = some (HO.lst (_ ++ [rf _ d]))
    rw [radd]
  · rw [A.len]
    exact (List.length_set ..).symm
  · rw [List.length_set, A.lend]
    exact (List.length_set ..).symm
  · rcases getElem?_set_some f2 with ⟨rfl, _, rfl⟩ | ⟨hjk, f2⟩
    · rw [e1] at f1
      cases f1
      rw [hq, ← radd]
      have q1 := knK_put (all := h.all ++ [d]) (ds := ds) (fun a ha b hb z => I'.idInj ha hb z) (fun i => if i = h.all.length then y else adr i) (fun e he => List.mem_append_left _ (hsub e he)) (d := d) (by simp)
      rw [if_neg hnd, kmap ds hsub] at q1
      rw [q1]
    · have f3 := A.dict j q' ds' f1 f2
      have hsub' : ∀ e ∈ ds', e ∈ h.all := fun e he => by
        have hj : j < h.desks.length := by rw [← A.lend]; exact (List.getElem?_eq_some_iff.mp f2).1
        obtain ⟨l', hl'⟩ : ∃ l', h.desks[j]? = some l' := ⟨_, List.getElem?_eq_getElem hj⟩
        exact A.inv.sub j l' hl' e ((A.desk j ds' l' f2 hl').mem_iff.mp he)
      rw [kmap ds' hsub']
      refine sm q' _ f3 (ne_of f3 A.hdl (by intro z; cases z)) fun z => hjk ?_
      subst z
      exact nd_ix A.nd e1 f1
  · rcases getElem?_set_some f1 with ⟨rfl, _, rfl⟩ | ⟨hjk, f1⟩
    · rcases getElem?_set_some f2 with ⟨_, _, rfl⟩ | ⟨hjk, _⟩
      · refine List.Perm.trans ?_ (learn_new newL).symm
        exact (List.perm_append_comm (l₁ := ds) (l₂ := [d])).trans ((A.desk k ds l e2 hl).cons d)
      · exact absurd rfl hjk
    · rcases getElem?_set_some f2 with ⟨hjk2, _, _⟩ | ⟨_, f2⟩
      · exact absurd hjk2 hjk
      · exact A.desk j ds' l' f1 f2
  · have he : e ∈ h.all ++ [d] := he
    rw [List.mem_append, List.mem_singleton] at he
    rcases he with he | rfl
    · show (if e.stamp = d.stamp then d.id else nm e.stamp) = e.id
      rw [rnm _ ⟨e, he, rfl⟩]
      exact A.kn.id e he
    · exact if_pos rfl
  · have he : e ∈ h.all ++ [d] := he
    rw [List.mem_append, List.mem_singleton] at he
    rcases he with he | rfl
    · obtain ⟨dx2, pl2, g1, g2⟩ := A.deeds e he
      refine ⟨dx2, pl2, ?_, plk _ _ (fun st z => (A.inv.par e he st z).1) g2⟩
      show H6 (if e.id = h.all.length then y else adr e.id) = _
      rw [if_neg (by have := lt e he; omega)]
      exact sm _ _ g1 (ne_of g1 A.hdl (by intro z; cases z)) (ne_of g1 hqd (by intro z; cases z))
    · refine ⟨dy, pl, ?_, ?_⟩
      · show H6 (if e.id = h.all.length then y else adr e.id) = _
        rw [if_pos did]
        exact hy
      · have es : e.spot = sp := by rw [← hd]; rfl
        rw [es]
        exact plk _ _ (fun st z => by
          obtain ⟨f, hf, ef⟩ := hsp st z
          exact ⟨f, A.inv.sub k l hl f hf, ef⟩) hpl
def spDo (CH CD : Addr) : Sp := fun vs H Q _ => ∃ (Hx : Hp) (p : Addr) (h : Sq29.House) (dl kl : Addr) (nm : Sq29.Stamp → Nat) (adr : Nat → Addr) (ks : List Addr) (dss : List (List Sq29.Deed)) (k x : Nat) (l : List Sq29.Deed) (sp : Option Sq29.Spot) (pl : V),
  vs = [.ref p, .int (k : Int), .int (x : Int), pl] ∧ HAt CH CD Hx H p h dl kl nm adr ks dss ∧ h.desks[k]? = some l ∧ h.all.length < 120 ∧ PlaceAt nm H sp pl ∧ (∀ st, (sp.bind fun q => q.of_) = some st → ∃ d ∈ l, d.stamp = st) ∧
  ∀ H', HouseAt CH CD Hx H' p (h.does k x sp) → Q (.int (h.all.length : Int)) H'
theorem foldmax_int : ∀ (ds : List Sq29.Deed) (m : Nat), (ds.map fun d => (d.stamp.count : Int)).foldl max (m : Int) = ((ds.foldl (fun (m : Nat) d => max m d.stamp.count) m : Nat) : Int)
  | [], m => rfl
  | d :: ds, m => by
    rw [List.map_cons, List.foldl_cons, List.foldl_cons]
    have e : max (m : Int) (d.stamp.count : Int) = ((max m d.stamp.count : Nat) : Int) := by omega
    rw [e]
    exact foldmax_int ds _
theorem foldmax_lub : ∀ (ds : List Sq29.Deed) (m b : Nat), m ≤ b → (∀ d ∈ ds, d.stamp.count ≤ b) → ds.foldl (fun (m : Nat) d => max m d.stamp.count) m ≤ b
  | [], m, b, h, _ => h
  | d :: ds, m, b, h, hd => by
    rw [List.foldl_cons]
    exact foldmax_lub ds _ b (by have := hd d List.mem_cons_self; omega) fun e he => hd e (List.mem_cons_of_mem _ he)
theorem foldmax_perm {ds l : List Sq29.Deed} (p : ds.Perm l) : ds.foldl (fun (m : Nat) d => max m d.stamp.count) 0 = l.foldl (fun (m : Nat) d => max m d.stamp.count) 0 :=
  Nat.le_antisymm (foldmax_lub ds 0 _ (Nat.zero_le _) fun d hd => (maxfold_le l 0).2 d (p.mem_iff.mp hd)) (foldmax_lub l 0 _ (Nat.zero_le _) fun d hd => (maxfold_le ds 0).2 d (p.mem_iff.mpr hd))
theorem foldmax_df (ds : List Sq29.Deed) : maxDf 0 (ds.map fun d => (d.stamp.count : Int)) = ((ds.foldl (fun (m : Nat) d => max m d.stamp.count) 0 : Nat) : Int) := by
  cases ds with
  | nil => rfl
  | cons d ds =>
    show (ds.map fun d => (d.stamp.count : Int)).foldl max (d.stamp.count : Int) = _
    rw [foldmax_int, List.foldl_cons]
    congr 2

theorem scDo : FnScope ["self", "desk", "thing", "place", "counts", "deed"] ["self", "desk", "thing", "place"] (defScope sDo) := ⟨rfl, rfl, rfl, by decide +kernel, rfl, by decide +kernel, by decide +kernel⟩
theorem ok_do {f CH CD fK fI : Addr} {fd fdK fdI : FuncData} (F : Fun K "do_deed" "House.do_deed" sDo f fd) (T : TDeed K mg CD) (TH : THouse K mg CH)
    (GK : FnOk P w K mg base CX0 1 fK fdK ["self", "desk"] (spKnown CH CD)) (mK : Meth K CH "deeds_known" fK) (bK : Binds K fdK ["self", "desk"] [])
    (M : Mk K CD fI) (GI : FnOk P w K mg base CX0 1 fI fdI ["self", "number", "count", "desk", "thing", "place"] (spDInit CD)) (bI : Binds K fdI ["self", "number", "count", "desk", "thing", "place"] []) :
    FnOk P w K mg base CX0 3 f fd ["self", "desk", "thing", "place"] (spDo CH CD) := by
  refine F.ok scDo (fun vs H Q E h => ?_) (fun cdv A outer s H vs Q E hr h => ?_)
  · obtain ⟨Hx, p, h, dl, kl, nm, adr, ks, dss, k, x, l, sp, pl, rfl, _⟩ := h
    rfl
  · obtain ⟨Hx, p, h, dl, kl, nm, adr, ks, dss, k, x, l, sp, pl, rfl, A, hl, hn, hpl, hsp, kk⟩ := h
    have hr1 : Room 1 _ := hr.mono (by decide)
    refine ⟨_, pss_cons (ps_setLc (i := 4) (own := [("deed", 5)]) (g := gName 5) (tt := tYes) (te := tFld K (tVar 5) "count") rfl scDo.nd rfl rfl (sw_true rfl rfl rfl (by decide +kernel)) (pi_list (pe_meth (pv 0) TH.cl mK GK hr1 bK .nil pass0 (pa_cons (pv 1) pa_nil))) (blkOk_by (N := ["self", "desk", "thing", "place", "counts", "deed"]) (sc := defScope sDo) (by decide +kernel))
        (fun _ _ _ _ _ => pg_name (i := 5) scDo.nd rfl (Or.inl rfl)) (fun _ _ _ _ _ => pts_nil) (fun _ _ _ _ _ => pe_fld (pv 5) rfl))
      (pss_cons (ps_set (i := 5) scDo.nd rfl (Or.inl rfl) (pe_make M GI hr rfl T.gC bI .nil pass0 (pa_cons (pe_callB call_len_seq (by rfl) T.len PySem.boot_len (pa_cons (pe_fld (pv 0) rfl) pa_nil))
        (pa_cons (pe_op op_add (pe_callBK (cr_maxDf rfl hr.units) (by rfl) T.max PyProof.Rows.boot_max (pa_cons (pv 4) pa_nil) (pk_cons pe_int pk_nil)) pe_int) (pa_cons (pv 1) (pa_cons (pv 2) (pa_cons (pv 3) pa_nil)))))))
      (pss_cons (ps_expr (pe_bm PySem.F.plainAttrs_list PySem.F.slot_list_append PySem.F.type_list_append mt_append (pe_fld (pv 0) rfl) (pa_cons (pv 5) pa_nil)))
      (pss_cons (ps_dput (hu_of hr) (pe_ix ix_list (pe_fld (pv 0) rfl) (pv 1) (fun _ _ => rfl)) (pe_fld (pv 5) rfl) (pv 5) rfl)
      (pss_one (ps_ret (pe_fld (pv 5) rfl)))))), ?_⟩
    obtain ⟨dx, hp⟩ := A.hp
    have hk : k < h.desks.length := (List.getElem?_eq_some_iff.mp hl).1
    obtain ⟨q, ds, l', e1, e2, e3, e4, _, G⟩ := A.at_ hk
    rw [hl] at e3
    cases e3
    have hds : ds.length ≤ 120 := by rw [G.dk.perm.length_eq]; exact G.len
    -- counts
    refine ⟨_, rfl, p, dx, _, rfl, hp, hF_no _ _ _ (by decide +kernel) (by decide +kernel) (by decide +kernel), _, rfl, Hx, p, h, dl, kl, nm, adr, ks, dss, k, ds, rfl, A, hk, e2, fun z hz => ?_⟩
    have s1 : Same H (upd H z (.lst (ds.map (rf adr)))) := Same.new hz
    refine ⟨z, rfl, ⟨_, SqL.of upd_same⟩, fun D hD => lc_map (bs := ds) (g := rf adr) (f := fun d => V.int (d.stamp.count : Int)) (SqL.of upd_same) hD (by omega) (fun d hd H2 s2 Y hY => ?_) ?_⟩
    · obtain ⟨dx2, pl2, g1, g2⟩ := ((G.at_ d hd).same s1).same s2
      exact ⟨rfl, _, rfl, _, CD, dx2, _, _, rfl, g1, T.cl, T.nC, dF_count _ _ _ _ _, hY⟩
    have s2 := s1.trans (Same.new (o := .lst (ds.map fun d => V.int (d.stamp.count : Int))) hD)
    have eD : (upd (upd H z (.lst (ds.map (rf adr)))) D (.lst (ds.map fun d => V.int (d.stamp.count : Int)))) D = some (.lst ((ds.map fun d => (d.stamp.count : Int)).map V.int)) := by
      rw [upd_same, List.map_map]
      rfl
    -- Deed(..)
    refine ⟨_, rfl, p, CH, dx, _, _, rfl, s2 _ _ hp, TH.cl, TH.nD, hF_deeds _ _ _, dl, _, rfl, .inl (SqL.of (s2 _ _ A.hdl)), _, rfl, D, ds.map fun d => (d.stamp.count : Int), 0, rfl, rfl, SqL.of eD, _, _, rfl, rfl, _, rfl, _, rfl, _, rfl, ?_⟩
    intro y dy ny ndy ney
    refine ⟨y, dy, _, _, _, _, _, rfl, upd_same, rfl, ?_⟩
    have ec : maxDf 0 (ds.map fun d => (d.stamp.count : Int)) + 1 = ((deedOf h k x sp).stamp.count : Int) := by
      rw [foldmax_df, foldmax_perm G.dk.perm]
      show _ = ((h.next k : Nat) : Int)
      unfold Sq29.House.next
      rw [desk_of hl]
      omega
    have en : (((h.all.map (rf adr)).length : Nat) : Int) = ((deedOf h k x sp).id : Int) := by
      rw [List.length_map]
      rfl
    rw [ec, en]
    have s4 : Same H (upd (upd (upd (upd (upd H z (.lst (ds.map (rf adr)))) D (.lst (ds.map fun d => V.int (d.stamp.count : Int)))) dy (.own y)) y (.ins CD dy [])) y (.ins CD dy (dF (deedOf h k x sp).id (deedOf h k x sp).stamp.count k x pl))) := fun b u e => by
      have e' := s2 _ _ e
      rw [upd_ne (ne_of_none e' ny), upd_ne (ne_of_none e' ny), upd_ne (ne_of_none e' ndy)]
      exact e'
    have nyH : H y = none := s2.free ny
    have h4y : (upd (upd (upd (upd (upd H z (.lst (ds.map (rf adr)))) D (.lst (ds.map fun d => V.int (d.stamp.count : Int)))) dy (.own y)) y (.ins CD dy [])) y (.ins CD dy (dF (deedOf h k x sp).id (deedOf h k x sp).stamp.count k x pl))) y = some (.ins CD dy (dF (deedOf h k x sp).id (deedOf h k x sp).stamp.count k x pl)) := upd_same
    generalize (upd (upd (upd (upd (upd H z (.lst (ds.map (rf adr)))) D (.lst (ds.map fun d => V.int (d.stamp.count : Int)))) dy (.own y)) y (.ins CD dy [])) y (.ins CD dy (dF (deedOf h k x sp).id (deedOf h k x sp).stamp.count k x pl))) = H4 at s4 h4y ⊢
    -- self.deeds.append(deed)
    refine ⟨_, rfl, p, CH, dx, _, _, rfl, s4 _ _ hp, TH.cl, TH.nD, hF_deeds _ _ _, .inl ⟨rfl, _, SqL.of (s4 _ _ A.hdl)⟩, _, rfl, dl, _, _, rfl, rfl, s4 _ _ A.hdl, ?_, ?_⟩
    · rw [List.length_map]
      exact Nat.lt_trans hn (by decide)
    have npd : p ≠ dl := ne_of hp A.hdl (by intro z; cases z)
    have nyd : y ≠ dl := ne_of h4y (s4 _ _ A.hdl) (by intro z; cases z)
    have nqd : q ≠ dl := ne_of e4 A.hdl (by intro z; cases z)
    -- self.known[desk][deed.number] = deed
    refine ⟨_, rfl, _, rfl, p, CH, dx, _, _, rfl, by rw [upd_ne npd]; exact s4 _ _ hp, TH.cl, TH.nK, hF_known _ _ _, _, rfl, kl, _, _, V.ref q, rfl, rfl, SqL.of (by rw [upd_ne A.ne.symm]; exact s4 _ _ A.hkl), atI_nat (by rw [List.getElem?_map, e1]; rfl), _, rfl, y, CD, dy, _, _, rfl, by rw [upd_ne nyd]; exact h4y, T.cl, T.nN, dF_number _ _ _ _ _, q, _, rfl, DPut.k (k := Sum.inl ((deedOf h k x sp).id : Int)) (by rw [upd_ne nqd]; exact s4 _ _ e4) ?_, ?_⟩
    · have e9 : (knK adr ds).length = ds.length := List.length_map _
      rw [e9]
      exact Nat.lt_of_le_of_lt hds (by decide)
    have nyq : y ≠ q := ne_of h4y (s4 _ _ e4) (by intro z; cases z)
    refine ⟨_, rfl, y, CD, dy, _, _, rfl, by rw [upd_ne nyq, upd_ne nyd]; exact h4y, T.cl, T.nN, dF_number _ _ _ _ _, ?_⟩
    refine kk _ (HAt.did A hl hn hpl hsp e1 e2 (fun b u e n1 n2 => by rw [upd_ne n2, upd_ne n1]; exact s4 _ _ e) nyH (by rw [upd_ne nyq, upd_ne nyd]; exact h4y) (by rw [upd_ne nqd.symm, upd_same]) upd_same)
end
end Mp

namespace Mp
open PySem L2 Mr Mh

theorem tYes_if {te : TE} {σ : L2.St} {H : Hp} {Y : V → Hp → Prop} {Nn : Hp → Prop} (h : te σ H Y) : tYes σ H fun b H3 => if b = true then te σ H3 Y else Nn H3 := by
  show if true = true then te σ H Y else Nn H
  rw [if_pos rfl]
  exact h
def spSettle (CH CD : Addr) : Sp := fun vs H Q _ => ∃ (Hx : Hp) (p dx : Addr) (fs : List (Str × V)) (n : Nat), vs = [.ref p, .int (n : Int)] ∧ 1 ≤ n ∧ n ≤ 8 ∧ Same Hx H ∧ Hx p = none ∧ H p = some (.ins CH dx fs) ∧ fs.length ≤ 3 ∧
  (∀ a b, putF "known" (.ref b) (putF "things" (.int 0) (putF "deeds" (.ref a) fs)) = hF a 0 b) ∧ ∀ H', HouseAt CH CD Hx H' p ⟨[], List.replicate n [], 0⟩ → Q .non H'
section
variable {P : Program} {w : World} {K : PySem.W.Frag} {mg : Str → Option Value} {base : Heap}
theorem scSettle : FnScope ["self", "desks", "desk"] ["self", "desks"] (defScope sSettle) := ⟨rfl, rfl, rfl, by decide +kernel, rfl, by decide +kernel, by decide +kernel⟩
theorem ok_settle {f CH CD : Addr} {fd : FuncData} (F : Fun K "settle" "House.settle" sSettle f fd) (T : TDeed K mg CD) (TH : THouse K mg CH) : FnOk P w K mg base CX0 1 f fd ["self", "desks"] (spSettle CH CD) := by
  refine F.ok scSettle (fun vs H Q E h => ?_) (fun cdv A outer s H vs Q E hr h => ?_)
  · obtain ⟨Hx, p, dx, fs, n, rfl, _⟩ := h
    rfl
  · obtain ⟨Hx, p, dx, fs, n, rfl, n1, n8, sx, np, hp, hfs, hput, kk⟩ := h
    refine ⟨_, pss_cons (ps_fld (pv 0) (pe_lst pa_nil) rfl) (pss_cons (ps_fld (pv 0) pe_int rfl)
      (pss_one (ps_fld (pv 0) (pe_lc (own := [("desk", 2)]) (g := gName 2) (tt := tYes) (te := tDNewK) rfl scSettle.nd (pi_range1 rfl T.range (pa_cons (pv 1) pa_nil)) (blkOk_by (N := ["self", "desks", "desk"]) (sc := defScope sSettle) (by decide +kernel))
        (fun _ _ _ _ _ => pg_name (i := 2) scSettle.nd rfl (Or.inl rfl)) (fun _ _ _ _ _ => pts_nil) (fun _ _ _ _ _ => pe_dnewK)) rfl))), ?_⟩
    refine ⟨Nat.zero_le _, fun dl hdl => ?_⟩
    have npl : p ≠ dl := ne_of_none hp hdl
    have l1 := length_putF "deeds" (V.ref dl) fs
    have l2 := length_putF "things" (V.int 0) (putF "deeds" (V.ref dl) fs)
    refine ⟨_, rfl, p, CH, dx, fs, rfl, by rw [upd_ne npl]; exact hp, TH.cl, TH.nD, by omega, ?_⟩
    refine ⟨_, rfl, p, CH, dx, _, rfl, upd_same, TH.cl, TH.nT, by omega, ?_⟩
    rw [upd_upd]
    have h3p : (upd (upd H dl (.lst [])) p (.ins CH dx (putF "things" (.int 0) (putF "deeds" (.ref dl) fs)))) p = some (.ins CH dx (putF "things" (.int 0) (putF "deeds" (.ref dl) fs))) := upd_same
    have h3l : (upd (upd H dl (.lst [])) p (.ins CH dx (putF "things" (.int 0) (putF "deeds" (.ref dl) fs)))) dl = some (.lst []) := by rw [upd_ne npl.symm, upd_same]
    have s3 : Same Hx (upd (upd H dl (.lst [])) p (.ins CH dx (putF "things" (.int 0) (putF "deeds" (.ref dl) fs)))) := fun b u e => by
      rw [upd_ne (ne_of_none e np), upd_ne (ne_of_none (sx _ _ e) hdl)]
      exact sx _ _ e
    have ndl : Hx dl = none := sx.free hdl
    generalize (upd (upd H dl (.lst [])) p (.ins CH dx (putF "things" (.int 0) (putF "deeds" (.ref dl) fs)))) = H3 at h3p h3l s3 ⊢
    refine ⟨_, rfl, (n : Int), rfl, by omega, by omega, fun D hD => lc_range (fun i H' => ∃ ks : List Addr, ks.length = i ∧ ks.Nodup ∧ (∀ q ∈ ks, H3 q = none ∧ q ≠ D ∧ H' q = some (.dK [])) ∧ H' D = some (.lst (ks.map V.ref)) ∧ Same H3 H') ⟨[], rfl, List.nodup_nil, fun q hq => (nomatch hq), upd_same, Same.new hD⟩ (fun i H' hi ⟨ks, e1, e2, e3, e4, e5⟩ => ?_) (fun H' ⟨ks, e1, e2, e3, e4, e5⟩ => ?_)⟩
    · refine ⟨rfl, tYes_if (te := tDNewK) ?_⟩
      intro q hq
      have nqD : q ≠ D := (ne_of_none e4 hq).symm
      refine ⟨_, Same.new hq _ _ e4, ?_, ks ++ [q], ?_, ?_, ?_, ?_, ?_⟩
      · rw [List.length_map, e1]
        have : i < n := by have : i < (n : Int).toNat := hi; omega
        exact Nat.lt_of_le_of_lt (show i ≤ 8 by omega) (by decide)
      · rw [List.length_append, e1]
        rfl
      · rw [List.nodup_append]
        refine ⟨e2, List.nodup_cons.mpr ⟨by simp, List.nodup_nil⟩, fun a ha b hb z => ?_⟩
        have : b = q := by simpa using hb
        subst this
        subst z
        rw [(e3 a ha).2.2] at hq
        cases hq
      · intro a ha
        rw [List.mem_append, List.mem_singleton] at ha
        rcases ha with ha | rfl
        · obtain ⟨g1, g2, g3⟩ := e3 a ha
          exact ⟨g1, g2, by rw [upd_ne g2]; exact Same.new hq _ _ g3⟩
        · exact ⟨e5.free hq, nqD, by rw [upd_ne nqD, upd_same]⟩
      · rw [upd_same, List.map_append]
        rfl
      · intro b u e
        rw [upd_ne (ne_of_none e hD)]
        exact Same.new hq _ _ (e5 _ _ e)
    · refine ⟨_, rfl, p, CH, dx, _, rfl, e5 _ _ h3p, TH.cl, TH.nK, by omega, ?_⟩
      rw [hput]
      have npD : p ≠ D := ne_of_none h3p hD
      have nlD : dl ≠ D := ne_of_none h3l hD
      have nkp : ∀ q ∈ ks, q ≠ p := fun q hq => (ne_of_none h3p (e3 q hq).1).symm
      have en : ks.length = n := by rw [e1]; omega
      refine kk _ ⟨dl, D, fun _ => 0, fun _ => 0, ks, List.replicate n [], ?_⟩
      refine ⟨fun b u e => ?_, np, ndl, s3.free hD, fun q hq => s3.free (e3 q hq).1, ⟨dx, upd_same⟩, ?_, ?_, nlD, ?_, rfl, e2, fun k q ds f1 f2 => ?_, fun k ds l f1 f2 => ?_, ⟨fun d hd => (nomatch hd), fun d hd => (nomatch hd), fun d hd => (nomatch hd)⟩, fun d hd => (nomatch hd), HInv.fresh n1 n8⟩
      · rw [upd_ne (ne_of_none e np)]
        exact e5 _ _ (s3 _ _ e)
      · rw [upd_ne npl.symm]
        exact e5 _ _ h3l
      · rw [upd_ne npD.symm]
        exact e4
      · show ks.length = (List.replicate n []).length
        rw [List.length_replicate, en]
      · have hq := List.mem_of_getElem? f1
        rw [List.getElem?_replicate] at f2
        split at f2
        · cases f2
          rw [upd_ne (nkp q hq)]
          exact (e3 q hq).2.2
        · cases f2
      · have f2 : (List.replicate n ([] : List Sq29.Deed))[k]? = some l := f2
        rw [f1] at f2
        cases f2
        exact List.Perm.refl _
end
end Mp

namespace Mp
open PySem L2 Mr Mh
abbrev sLearn : Stmt := inClass sHouse 6
abbrev sBegin : Stmt := inClass sHouse 7
abbrev sPut : Stmt := inClass sHouse 8
abbrev sMove : Stmt := inClass sHouse 9
abbrev sOut : Stmt := inClass sHouse 10
abbrev sTell : Stmt := inClass sHouse 11
abbrev sMeet : Stmt := inClass sHouse 12
abbrev sRowM : Stmt := inClass sHouse 13
abbrev sSpotsM : Stmt := inClass sHouse 14
abbrev sWaitsM : Stmt := inClass sHouse 15
abbrev sSame : Stmt := inClass sHouse 16

structure TRef (mg : Str → Option Value) : Prop where
  range : ∃ t, mg "OUT_OF_RANGE" = some (.int (-1) t)
  such : ∃ t, mg "NO_SUCH" = some (.int (-2) t)
  row : ∃ t, mg "NOT_IN_ROW" = some (.int (-3) t)
  more : ∃ t, mg "NO_MORE_DEEDS" = some (.int (-5) t)
  desks : ∃ t, mg "MOST_DESKS" = some (.int 8 t)

/-- what a call answers, as a list -/
def ansV (o : Sq29.Out) : List V := (o.value :: o.out).map V.int
/-- what follows a call -/
def Post (CH CD : Addr) (Hx : Hp) (p : Addr) (r : Sq29.House × Sq29.Out) (Q : VK) : Prop := ∀ (H' : Hp) (q : Addr), HouseAt CH CD Hx H' p r.1 → Hx q = none → H' q = some (.lst (ansV r.2)) → Q (.ref q) H'
theorem HouseAt.keep {CH CD : Addr} {Hx H H' : Hp} {p : Addr} {h : Sq29.House} (A : HouseAt CH CD Hx H p h) (s : Same H H') : HouseAt CH CD Hx H' p h := by
  obtain ⟨dl, kl, nm, adr, ks, dss, A⟩ := A
  exact ⟨dl, kl, nm, adr, ks, dss, A.keep s⟩
theorem HouseAt.same {CH CD : Addr} {Hx H : Hp} {p : Addr} {h : Sq29.House} (A : HouseAt CH CD Hx H p h) : Same Hx H := by
  obtain ⟨dl, kl, nm, adr, ks, dss, A⟩ := A
  exact A.same
/-- a refusal: a new list of one number -/
theorem Post.refuse {CH CD : Addr} {Hx H : Hp} {p q : Addr} {h : Sq29.House} {Q : VK} {r : Sq29.House × Sq29.Out} {z : Int} (k : Post CH CD Hx p r Q) (A : HouseAt CH CD Hx H p h) (e : r = (h, Sq29.says z)) (hq : H q = none) : Q (.ref q) (upd H q (.lst [.int z])) := by
  subst e
  exact k _ q (A.keep (Same.new hq)) (A.same.free hq) upd_same

def spHInit (CH CD : Addr) : Sp := fun vs H Q _ => ∃ (Hx : Hp) (p dx : Addr), vs = [.ref p] ∧ Same Hx H ∧ Hx p = none ∧ H p = some (.ins CH dx []) ∧ ∀ H', HouseAt CH CD Hx H' p Sq29.fresh → Q .non H'
def spBegin (CH CD : Addr) : Sp := fun vs H Q _ => ∃ (Hx : Hp) (p : Addr) (h : Sq29.House) (n : Nat), vs = [.ref p, .int (n : Int)] ∧ HouseAt CH CD Hx H p h ∧ Post CH CD Hx p (h.step (.begin_ n)) Q
def spPut (CH CD : Addr) : Sp := fun vs H Q _ => ∃ (Hx : Hp) (p : Addr) (h : Sq29.House) (k i : Nat), vs = [.ref p, .int (k : Int), .int (i : Int)] ∧ HouseAt CH CD Hx H p h ∧ Post CH CD Hx p (h.step (.put k i)) Q
def spMove (CH CD : Addr) : Sp := fun vs H Q _ => ∃ (Hx : Hp) (p : Addr) (h : Sq29.House) (k x i : Nat), vs = [.ref p, .int (k : Int), .int (x : Int), .int (i : Int)] ∧ HouseAt CH CD Hx H p h ∧ Post CH CD Hx p (h.step (.move k x i)) Q
def spOut (CH CD : Addr) : Sp := fun vs H Q _ => ∃ (Hx : Hp) (p : Addr) (h : Sq29.House) (k x : Nat), vs = [.ref p, .int (k : Int), .int (x : Int)] ∧ HouseAt CH CD Hx H p h ∧ Post CH CD Hx p (h.step (.out k x)) Q
def spTell (CH CD : Addr) : Sp := fun vs H Q _ => ∃ (Hx : Hp) (p : Addr) (h : Sq29.House) (n k : Nat), vs = [.ref p, .int (n : Int), .int (k : Int)] ∧ HouseAt CH CD Hx H p h ∧ Post CH CD Hx p (h.step (.tell n k)) Q

section
variable {P : Program} {w : World} {K : PySem.W.Frag} {mg : Str → Option Value} {base : Heap}
theorem scHInit : FnScope ["self"] ["self"] (defScope sHInit) := ⟨rfl, rfl, rfl, by decide +kernel, rfl, by decide +kernel, by decide +kernel⟩
theorem ok_hinit {f CH CD fS : Addr} {fd fdS : FuncData} (F : Fun K "__init__" "House.__init__" sHInit f fd) (TH : THouse K mg CH)
    (GS : FnOk P w K mg base CX0 1 fS fdS ["self", "desks"] (spSettle CH CD)) (mS : Meth K CH "settle" fS) (bS : Binds K fdS ["self", "desks"] []) : FnOk P w K mg base CX0 2 f fd ["self"] (spHInit CH CD) := by
  refine F.ok scHInit (fun vs H Q E h => ?_) (fun cdv A outer s H vs Q E hr h => ?_)
  · obtain ⟨Hx, p, dx, rfl, _⟩ := h
    rfl
  · obtain ⟨Hx, p, dx, rfl, sx, np, hp, kk⟩ := h
    refine ⟨_, pss_one (ps_expr (pe_meth (pv 0) TH.cl mS GS hr bS .nil pass0 (pa_cons pe_int pa_nil))), ?_⟩
    exact ⟨_, rfl, p, dx, _, rfl, hp, rfl, Hx, p, dx, [], 1, rfl, by decide, by decide, sx, np, hp, by decide, fun a b => hF_new _ _ _, fun H' A => kk H' A⟩

theorem scBegin : FnScope ["self", "desks"] ["self", "desks"] (defScope sBegin) := ⟨rfl, rfl, rfl, by decide +kernel, rfl, by decide +kernel, by decide +kernel⟩
theorem ok_begin {f CH CD fS : Addr} {fd fdS : FuncData} (F : Fun K "begin" "House.begin" sBegin f fd) (TH : THouse K mg CH) (TR : TRef mg)
    (GS : FnOk P w K mg base CX0 1 fS fdS ["self", "desks"] (spSettle CH CD)) (mS : Meth K CH "settle" fS) (bS : Binds K fdS ["self", "desks"] []) : FnOk P w K mg base CX0 2 f fd ["self", "desks"] (spBegin CH CD) := by
  obtain ⟨t1, gO⟩ := TR.range
  obtain ⟨t2, gD⟩ := TR.desks
  refine F.ok scBegin (fun vs H Q E h => ?_) (fun cdv A outer s H vs Q E hr h => ?_)
  · obtain ⟨Hx, p, h, n, rfl, _⟩ := h
    rfl
  · obtain ⟨Hx, p, h, n, rfl, A, kk⟩ := h
    refine ⟨_, pss_cons (ps_if (PW.pt (pw_or (pt_cmpR op_lt (pv 1) pe_int (nomark _)) (pw_or1 (pt_cmpR op_gt (pv 1) (pe_glob (v := .int 8) rfl gD ⟨_, rfl⟩) (nomark _))))) (pss_one (ps_ret (pe_lst (pa_cons (pe_glob (v := .int (-1)) rfl gO ⟨_, rfl⟩) pa_nil)))) pss_nil)
      (pss_cons (ps_expr (pe_meth (pv 0) TH.cl mS GS hr bS .nil pass0 (pa_cons (pv 1) pa_nil))) (pss_one (ps_ret (pe_lst (pa_cons pe_int pa_nil))))), ?_⟩
    have ref : (n = 0 ∨ 8 < n) → h.step (.begin_ n) = (h, Sq29.says (-1)) := fun z => if_pos z
    refine ⟨_, rfl, _, _, rfl, rfl, _, rfl, ?_⟩
    refine ite2 (fun hc => ?_) (fun hc => ?_)
    · have hc' : (n : Int) < 1 := of_decide_eq_true hc
      refine iteT ?_
      refine ⟨by show 1 ≤ sizeLine; decide, fun q hq => ?_⟩
      exact kk.refuse A (ref (.inl (by omega))) hq
    have hc' : ¬ (n : Int) < 1 := fun z => hc (decide_eq_true z)
    refine ⟨_, rfl, _, _, rfl, rfl, _, rfl, ?_⟩
    refine ite2 (fun hc2 => ?_) (fun hc2 => ?_)
    · have hc2' : (8 : Int) < n := of_decide_eq_true hc2
      refine ⟨by show 1 ≤ sizeLine; decide, fun q hq => ?_⟩
      exact kk.refuse A (ref (.inr (by omega))) hq
    have hc2' : ¬ (8 : Int) < n := fun z => hc2 (decide_eq_true z)
    obtain ⟨dl, kl, nm, adr, ks, dss, A⟩ := A
    obtain ⟨dx, hp⟩ := A.hp
    have est : h.step (.begin_ n) = (⟨[], List.replicate n [], 0⟩, Sq29.says 0) := if_neg (by show ¬ (n = 0 ∨ 8 < n); omega)
    unfold Post at kk
    rw [est] at kk
    refine ⟨_, rfl, p, dx, _, rfl, hp, hF_no _ _ _ (by decide +kernel) (by decide +kernel) (by decide +kernel), _, rfl, Hx, p, dx, _, n, rfl, by omega, by omega, A.same, A.np, hp, by show 3 ≤ 3; decide, fun a b => by rw [hF_putD, hF_putT, hF_putK], fun H' A' => ?_⟩
    refine ⟨by show 1 ≤ sizeLine; decide, fun q hq => ?_⟩
    exact kk _ q (A'.keep (Same.new hq)) (A'.same.free hq) upd_same

/-- the parts of a desk that is there -/
theorem HAt.thing {CH CD : Addr} {Hx H : Hp} {p dl kl : Addr} {h : Sq29.House} {nm : Sq29.Stamp → Nat} {adr : Nat → Addr} {ks : List Addr} {dss : List (List Sq29.Deed)} {dx : Addr} (A : HAt CH CD Hx H p h dl kl nm adr ks dss) (hp : H p = some (.ins CH dx (hF dl h.things kl))) (n : Nat) :
    HAt CH CD Hx (upd H p (.ins CH dx (hF dl n kl))) p { h with things := n } dl kl nm adr ks dss := by
  have npl : dl ≠ p := ne_of A.hdl hp (by intro z; cases z)
  have npk : kl ≠ p := ne_of A.hkl hp (by intro z; cases z)
  refine ⟨fun b u e => by rw [upd_ne (ne_of_none e A.np)]; exact A.same _ _ e, A.np, A.ndl, A.nkl, A.nks, ⟨dx, upd_same⟩, by rw [upd_ne npl]; exact A.hdl, by rw [upd_ne npk]; exact A.hkl, A.ne, A.len, A.lend, A.nd, fun k q ds e1 e2 => ?_, A.desk, A.kn, fun d hd => (A.deeds d hd).write hp notDeed_house, A.inv.things n⟩
  have f := A.dict k q ds e1 e2
  rw [upd_ne (ne_of f hp (by intro z; cases z))]
  exact f

theorem scPut : FnScope ["self", "desk", "i", "deeds", "row", "thing", "place"] ["self", "desk", "i"] (defScope sPut) := ⟨rfl, rfl, rfl, by decide +kernel, rfl, by decide +kernel, by decide +kernel⟩
theorem ok_put {f CH CD fH fF fK fD fR fA fB : Addr} {fd fdH fdF fdK fdD fdR fdA fdB : FuncData} (F : Fun K "put" "House.put" sPut f fd) (T : TDeed K mg CD) (TH : THouse K mg CH) (TR : TRef mg)
    (GH : FnOk P w K mg base CX0 1 fH fdH ["self", "desk"] (spHas CH CD)) (mH : Meth K CH "has_desk" fH) (bH : Binds K fdH ["self", "desk"] [])
    (GF : FnOk P w K mg base CX0 1 fF fdF ["self"] (spFull CH CD)) (mF : Meth K CH "is_full" fF) (bF : Binds K fdF ["self"] [])
    (GK : FnOk P w K mg base CX0 1 fK fdK ["self", "desk"] (spKnown CH CD)) (mK : Meth K CH "deeds_known" fK) (bK : Binds K fdK ["self", "desk"] [])
    (GD : FnOk P w K mg base CX0 3 fD fdD ["self", "desk", "thing", "place"] (spDo CH CD)) (mD : Meth K CH "do_deed" fD) (bD : Binds K fdD ["self", "desk", "thing", "place"] [])
    (GR : FnOk P w K mg base CX0 6 fR fdR ["deeds"] (spRow CD)) (kR : PySem.W.keepIn K (.ref fR) = true) (bR : Binds K fdR ["deeds"] []) (gR : mg "row_of" = some (.ref fR))
    (GA : FnOk P w K mg base CX0 1 fA fdA ["row", "i"] (spAhead CD)) (kA : PySem.W.keepIn K (.ref fA) = true) (bA : Binds K fdA ["row", "i"] []) (gA : mg "spot_ahead" = some (.ref fA))
    (GB : FnOk P w K mg base CX0 6 fB fdB ["deeds", "number"] (spBehind CD)) (kB : PySem.W.keepIn K (.ref fB) = true) (bB : Binds K fdB ["deeds", "number"] []) (gB : mg "place_right_behind" = some (.ref fB)) :
    FnOk P w K mg base CX0 7 f fd ["self", "desk", "i"] (spPut CH CD) := by
  obtain ⟨t1, gO⟩ := TR.range
  obtain ⟨t2, gS⟩ := TR.such
  obtain ⟨t3, gM⟩ := TR.more
  refine F.ok scPut (fun vs H Q E h => ?_) (fun cdv A outer s H vs Q E hr h => ?_)
  · obtain ⟨Hx, p, h, k, i, rfl, _⟩ := h
    rfl
  · obtain ⟨Hx, p, h, k, i, rfl, A, kk⟩ := h
    have hr1 : Room 1 _ := hr.mono (by decide)
    have hr3 : Room 3 _ := hr.mono (by decide)
    refine ⟨_, (pss_cons (ps_if (pt_not (pt_val (pe_meth (pv 0) TH.cl mH GH hr1 bH .nil pass0 (pa_cons (pv 1) pa_nil)))) (pss_one (ps_ret (pe_lst (pa_cons (pe_glob (v := .int (-2)) rfl gS ⟨_, rfl⟩) pa_nil)))) pss_nil)
      (pss_cons (ps_set (i := 3) scPut.nd rfl (Or.inl rfl) (pe_meth (pv 0) TH.cl mK GK hr1 bK .nil pass0 (pa_cons (pv 1) pa_nil)))
      (pss_cons (ps_set (i := 4) scPut.nd rfl (Or.inl rfl) (pe_call GR hr rfl gR kR bR .nil pass0 (pa_cons (pv 3) pa_nil)))
      (pss_cons (ps_if (pt_cmpR op_gt (pv 2) (pe_callB call_len_seq (by rfl) T.len PySem.boot_len (pa_cons (pv 4) pa_nil)) (nomark _)) (pss_one (ps_ret (pe_lst (pa_cons (pe_glob (v := .int (-1)) rfl gO ⟨_, rfl⟩) pa_nil)))) pss_nil)
      (pss_cons (ps_if (pt_val (pe_meth0 (pv 0) TH.cl mF GF hr1 bF .nil pass0)) (pss_one (ps_ret (pe_lst (pa_cons (pe_glob (v := .int (-5)) rfl gM ⟨_, rfl⟩) pa_nil)))) pss_nil)
      (pss_cons (ps_set (i := 5) scPut.nd rfl (Or.inl rfl) (pe_fld (pv 0) rfl))
      (pss_cons (ps_fld (pv 0) (pe_op op_add (pv 5) pe_int) rfl)
      (pss_cons (ps_set (i := 6) scPut.nd rfl (Or.inl rfl) (pe_call GB hr rfl gB kB bB .nil pass0 (pa_cons (pv 3) (pa_cons (pe_call GA hr1 rfl gA kA bA .nil pass0 (pa_cons (pv 4) (pa_cons (pv 2) pa_nil))) pa_nil))))
      (pss_one (ps_ret (pe_lst (pa_cons (pe_meth (pv 0) TH.cl mD GD hr3 bD .nil pass0 (pa_cons (pv 1) (pa_cons (pv 5) (pa_cons (pv 6) pa_nil)))) (pa_cons (pv 5) pa_nil))))))))))))), ?_⟩
    obtain ⟨dl, kl, nm, adr, ks, dss, A⟩ := A
    have AH : HouseAt CH CD Hx H p h := ⟨dl, kl, nm, adr, ks, dss, A⟩
    obtain ⟨dx, hp⟩ := A.hp
    refine ⟨_, rfl, p, dx, _, rfl, hp, hF_no _ _ _ (by decide +kernel) (by decide +kernel) (by decide +kernel), _, rfl, Hx, p, h, k, rfl, AH, _, rfl, ?_⟩
    by_cases hk : k < h.desks.length
    rotate_left
    · rw [decide_eq_false hk]
      refine iteT ?_
      exact ⟨by show 1 ≤ sizeLine; decide, fun q hq => kk.refuse AH (step_put_desk hk) hq⟩
    rw [decide_eq_true hk]
    refine iteF ?_
    obtain ⟨q, ds, l, e1, e2, e3, e4, _, G⟩ := A.at_ hk
    have L := G.late
    have hlen := G.len
    have est := step_put (i := i) e3
    have hrl : (Sq29.row l).length ≤ 120 := by
      have h1 : (Sq29.row l).length ≤ (Sq29.spots l).length := by rw [row_eq]; exact List.length_filter_le _ _
      exact Nat.le_trans h1 (Nat.le_trans ((spots_nodup G.dk.srt L).length_le_of_subset fun x hx => spots_sub L hx) hlen)
    -- deeds, row
    refine ⟨_, rfl, p, dx, _, rfl, hp, hF_no _ _ _ (by decide +kernel) (by decide +kernel) (by decide +kernel), _, rfl, Hx, p, h, dl, kl, nm, adr, ks, dss, k, ds, rfl, A, hk, e2, fun z hz => ?_⟩
    have s1 : Same H (upd H z (.lst (ds.map (rf adr)))) := Same.new hz
    refine ⟨_, rfl, z, h.all, nm, adr, ds, l, rfl, G.same s1, upd_same, fun H2 R s2 nR hR => ?_⟩
    have s12 := s1.trans s2
    have hz2 := s2 _ _ (upd_same (H := H) (a := z) (o := .lst (ds.map (rf adr))))
    have A2 := A.keep s12
    have AH2 : HouseAt CH CD Hx H2 p h := ⟨dl, kl, nm, adr, ks, dss, A2⟩
    have hp2 := s12 _ _ hp
    -- i > len(row)
    refine ⟨_, rfl, _, rfl, R, _, rfl, .inl (SqL.of hR), _, _, rfl, rfl, _, rfl, ?_⟩
    rw [List.length_map]
    refine ite2 (fun hc => ?_) (fun hc => ?_)
    · have hc' : ((Sq29.row l).length : Int) < (i : Int) := of_decide_eq_true hc
      rw [if_pos (by omega)] at est
      exact ⟨by show 1 ≤ sizeLine; decide, fun q hq => kk.refuse AH2 est hq⟩
    have hc' : ¬ ((Sq29.row l).length : Int) < (i : Int) := fun z => hc (decide_eq_true z)
    rw [if_neg (by omega)] at est
    -- full
    refine ⟨_, rfl, p, dx, _, rfl, hp2, hF_no _ _ _ (by decide +kernel) (by decide +kernel) (by decide +kernel), Hx, p, h, rfl, AH2, _, rfl, ?_⟩
    refine ite2 (fun hf => ?_) (fun hf => ?_)
    · have hf' : 120 ≤ h.all.length := of_decide_eq_true hf
      rw [if_pos (show Sq29.DEEDS ≤ _ from hf')] at est
      exact ⟨by show 1 ≤ sizeLine; decide, fun q hq => kk.refuse AH2 est hq⟩
    have hf' : ¬ 120 ≤ h.all.length := fun z => hf (decide_eq_true z)
    rw [if_neg (show ¬ Sq29.DEEDS ≤ _ from hf')] at est
    -- thing, self.things
    refine ⟨_, rfl, p, CH, dx, _, _, rfl, hp2, TH.cl, TH.nT, hF_things _ _ _, _, rfl, _, _, rfl, rfl, _, rfl, p, CH, dx, _, rfl, hp2, TH.cl, TH.nT, by show 3 < 1000; decide, ?_⟩
    have et : ((h.things : Int) + 1) = ((h.things + 1 : Nat) : Int) := by omega
    rw [hF_putT, et]
    have A3 := A2.thing hp2 (h.things + 1)
    have nzp : z ≠ p := ne_of hz2 hp2 (by intro z; cases z)
    have nRp : R ≠ p := ne_of hR hp2 (by intro z; cases z)
    obtain ⟨q', ds', l', f1, f2, f3, _, _, G3⟩ := A3.at_ (k := k) hk
    rw [e2] at f2
    cases f2
    have f3 : h.desks[k]? = some l' := f3
    rw [e3] at f3
    cases f3
    have hrow : ∀ d ∈ Sq29.row l, d ∈ Sq29.spots l := fun d hd => row_sub hd
    -- place
    refine ⟨_, rfl, _, rfl, _, rfl, R, nm, adr, Sq29.row l, i, rfl, fun d hd => ?_, hrl, by omega, by rw [upd_ne nRp]; exact hR, ?_⟩
    · have hdl := spots_sub L (hrow d hd)
      exact ⟨G3.atL d hdl, G3.kn.id d (G3.dk.sub d hdl)⟩
    refine ⟨z, h.all, nm, adr, ds, l, _, rfl, G3, by rw [upd_ne nzp]; exact hz2, ahead_in hrow i, fun H4 t s4 nt ht => ?_⟩
    have A4 := A3.keep s4
    -- do_deed
    have hsp : ∀ st, ((some (Sq29.spotAt l (Sq29.row l) i)).bind fun q => q.of_) = some st → ∃ d ∈ l, d.stamp = st := behind_of L fun s e => by
      obtain ⟨d, hd, es⟩ := ahead_in hrow i s e
      exact ⟨d, spots_sub L hd, es⟩
    refine ⟨_, rfl, p, dx, _, rfl, s4 _ _ upd_same, hF_no _ _ _ (by decide +kernel) (by decide +kernel) (by decide +kernel), _, rfl, _, rfl, _, rfl, Hx, p, { h with things := h.things + 1 }, dl, kl, nm, adr, ks, dss, k, h.things, l, some (Sq29.spotAt l (Sq29.row l) i), .ref t, rfl, A4, e3, by show h.all.length < 120; omega, ⟨t, rfl, ht⟩, hsp, fun H5 A5 => ?_⟩
    refine ⟨_, rfl, by show 2 ≤ sizeLine; decide, fun q hq => ?_⟩
    unfold Post at kk
    rw [est] at kk
    exact kk _ q (A5.keep (Same.new hq)) (A5.same.free hq) upd_same
end
end Mp

namespace Mp
open PySem L2 Mr Mh

theorem inV_things (x : Nat) : ∀ l : List Sq29.Deed, inV (V.int (x : Int)) (l.map fun d => V.int (d.thing : Int)) = l.any fun d => d.thing == x
  | [] => rfl
  | d :: l => by
    have ih := inV_things x l
    unfold inV at ih ⊢
    rw [List.map_cons, List.any_cons, List.any_cons, ih]
    congr 1
    show ((d.thing : Int) == (x : Int)) = (d.thing == x)
    by_cases h : d.thing = x
    · rw [h]
      simp
    · have h2 : ¬ (d.thing : Int) = (x : Int) := by omega
      rw [beq_eq_false_iff_ne.mpr h, beq_eq_false_iff_ne.mpr h2]
theorem flat_things (l : List Sq29.Deed) : (l.map fun d => V.int (d.thing : Int)).all flatV = true := by
  rw [List.all_map]
  exact List.all_eq_true.mpr fun _ _ => rfl
theorem Given.rowLen {C : Addr} {all : List Sq29.Deed} {nm : Sq29.Stamp → Nat} {adr : Nat → Addr} {H : Hp} {ds l : List Sq29.Deed} (G : Given C all nm adr H ds l) : (Sq29.row l).length ≤ 120 := by
  have h1 : (Sq29.row l).length ≤ (Sq29.spots l).length := by rw [row_eq]; exact List.length_filter_le _ _
  exact Nat.le_trans h1 (Nat.le_trans ((spots_nodup G.dk.srt G.late).length_le_of_subset fun x hx => spots_sub G.late hx) G.len)
/-- a desk learns a deed that was done -/
theorem HAt.told {CH CD : Addr} {Hx H : Hp} {p dl kl q : Addr} {h : Sq29.House} {nm : Sq29.Stamp → Nat} {adr : Nat → Addr} {ks : List Addr} {dss : List (List Sq29.Deed)} {k : Nat} {ds l : List Sq29.Deed} {d : Sq29.Deed}
    (A : HAt CH CD Hx H p h dl kl nm adr ks dss) (hl : h.desks[k]? = some l) (e1 : ks[k]? = some q) (e2 : dss[k]? = some ds) (hd : d ∈ h.all) :
    HAt CH CD Hx (upd H q (.dK (putK (knK adr ds) (.inl (d.id : Int)) (rf adr d)))) p (h.set k (Sq29.learn d l)) dl kl nm adr ks (dss.set k (if d ∈ ds then ds else ds ++ [d])) := by
  have hqd := A.dict k q ds e1 e2
  have nq : q ∈ ks := List.mem_of_getElem? e1
  obtain ⟨dx, hp⟩ := A.hp
  have pm := A.desk k ds l e2 hl
  have hsub : ∀ e ∈ ds, e ∈ h.all := fun e he => A.inv.sub k l hl e (pm.mem_iff.mp he)
  have sm : ∀ b u, H b = some u → b ≠ q → (upd H q (.dK (putK (knK adr ds) (.inl (d.id : Int)) (rf adr d)))) b = some u := fun b u e n => by rw [upd_ne n]; exact e
  refine ⟨fun b u e => sm b u (A.same _ _ e) (ne_of_none e (A.nks q nq)), A.np, A.ndl, A.nkl, A.nks, ⟨dx, sm _ _ hp (ne_of hp hqd (by intro z; cases z))⟩, sm _ _ A.hdl (ne_of A.hdl hqd (by intro z; cases z)), sm _ _ A.hkl (ne_of A.hkl hqd (by intro z; cases z)), A.ne, ?_, ?_, A.nd, fun j q' ds' f1 f2 => ?_, fun j ds' l' f1 f2 => ?_, A.kn, fun e he => (A.deeds e he).write hqd notDeed_dK, A.inv.learn hl hd⟩
  · rw [A.len]
    exact (List.length_set ..).symm
  · rw [List.length_set, A.lend]
    exact (List.length_set ..).symm
  · rcases getElem?_set_some f2 with ⟨rfl, _, rfl⟩ | ⟨hjk, f2⟩
    · rw [e1] at f1
      cases f1
      rw [upd_same, knK_put (fun a ha b hb z => A.inv.idInj ha hb z) adr hsub hd]
    · have f3 := A.dict j q' ds' f1 f2
      refine sm q' _ f3 fun z => hjk ?_
      subst z
      exact nd_ix A.nd e1 f1
  · rcases getElem?_set_some f1 with ⟨rfl, _, rfl⟩ | ⟨hjk, f1⟩
    · rcases getElem?_set_some f2 with ⟨_, _, rfl⟩ | ⟨hjk, _⟩
      · by_cases hin : d ∈ ds
        · rw [if_pos hin, learn_old (A.inv.srt k l hl) (pm.mem_iff.mp hin)]
          exact pm
        · rw [if_neg hin]
          have newL : ∀ e ∈ l, e.stamp ≠ d.stamp := fun e he z => hin (pm.mem_iff.mpr (by rw [← A.inv.inj e (A.inv.sub k l hl e he) d hd z]; exact he))
          refine List.Perm.trans ?_ (learn_new newL).symm
          exact (List.perm_append_comm (l₁ := ds) (l₂ := [d])).trans (pm.cons d)
      · exact absurd rfl hjk
    · rcases getElem?_set_some f2 with ⟨hjk2, _, _⟩ | ⟨_, f2⟩
      · exact absurd hjk2 hjk
      · exact A.desk j ds' l' f1 f2

section
variable {P : Program} {w : World} {K : PySem.W.Frag} {mg : Str → Option Value} {base : Heap}
theorem scMove : FnScope ["self", "desk", "thing", "i", "deeds", "row", "others", "place", "deed"] ["self", "desk", "thing", "i"] (defScope sMove) := ⟨rfl, rfl, rfl, by decide +kernel, rfl, by decide +kernel, by decide +kernel⟩
theorem ok_move {f CH CD fH fF fK fD fR fA fB fT : Addr} {fd fdH fdF fdK fdD fdR fdA fdB fdT : FuncData} (F : Fun K "move" "House.move" sMove f fd) (T : TDeed K mg CD) (TH : THouse K mg CH) (TR : TRef mg)
    (GH : FnOk P w K mg base CX0 1 fH fdH ["self", "desk"] (spHas CH CD)) (mH : Meth K CH "has_desk" fH) (bH : Binds K fdH ["self", "desk"] [])
    (GF : FnOk P w K mg base CX0 1 fF fdF ["self"] (spFull CH CD)) (mF : Meth K CH "is_full" fF) (bF : Binds K fdF ["self"] [])
    (GK : FnOk P w K mg base CX0 1 fK fdK ["self", "desk"] (spKnown CH CD)) (mK : Meth K CH "deeds_known" fK) (bK : Binds K fdK ["self", "desk"] [])
    (GD : FnOk P w K mg base CX0 3 fD fdD ["self", "desk", "thing", "place"] (spDo CH CD)) (mD : Meth K CH "do_deed" fD) (bD : Binds K fdD ["self", "desk", "thing", "place"] [])
    (GR : FnOk P w K mg base CX0 6 fR fdR ["deeds"] (spRow CD)) (kR : PySem.W.keepIn K (.ref fR) = true) (bR : Binds K fdR ["deeds"] []) (gR : mg "row_of" = some (.ref fR))
    (GT : FnOk P w K mg base CX0 1 fT fdT ["row"] (spThings CD)) (kT : PySem.W.keepIn K (.ref fT) = true) (bT : Binds K fdT ["row"] []) (gT : mg "things_of" = some (.ref fT))
    (GA : FnOk P w K mg base CX0 1 fA fdA ["row", "i"] (spAhead CD)) (kA : PySem.W.keepIn K (.ref fA) = true) (bA : Binds K fdA ["row", "i"] []) (gA : mg "spot_ahead" = some (.ref fA))
    (GB : FnOk P w K mg base CX0 6 fB fdB ["deeds", "number"] (spBehind CD)) (kB : PySem.W.keepIn K (.ref fB) = true) (bB : Binds K fdB ["deeds", "number"] []) (gB : mg "place_right_behind" = some (.ref fB)) :
    FnOk P w K mg base CX0 7 f fd ["self", "desk", "thing", "i"] (spMove CH CD) := by
  obtain ⟨t1, gO⟩ := TR.range
  obtain ⟨t2, gS⟩ := TR.such
  obtain ⟨t3, gM⟩ := TR.more
  obtain ⟨t4, gN⟩ := TR.row
  refine F.ok scMove (fun vs H Q E h => ?_) (fun cdv A outer s H vs Q E hr h => ?_)
  · obtain ⟨Hx, p, h, k, x, i, rfl, _⟩ := h
    rfl
  · obtain ⟨Hx, p, h, k, x, i, rfl, A, kk⟩ := h
    have hr1 : Room 1 _ := hr.mono (by decide)
    have hr3 : Room 3 _ := hr.mono (by decide)
    refine ⟨_, (pss_cons (ps_if (pt_not (pt_val (pe_meth (pv 0) TH.cl mH GH hr1 bH .nil pass0 (pa_cons (pv 1) pa_nil)))) (pss_one (ps_ret (pe_lst (pa_cons (pe_glob (v := .int (-2)) rfl gS ⟨_, rfl⟩) pa_nil)))) pss_nil)
      (pss_cons (ps_set (i := 4) scMove.nd rfl (Or.inl rfl) (pe_meth (pv 0) TH.cl mK GK hr1 bK .nil pass0 (pa_cons (pv 1) pa_nil)))
      (pss_cons (ps_set (i := 5) scMove.nd rfl (Or.inl rfl) (pe_call GR hr rfl gR kR bR .nil pass0 (pa_cons (pv 4) pa_nil)))
      (pss_cons (ps_if (pt_cmpR op_notIn_seq (pv 2) (pe_call GT hr1 rfl gT kT bT .nil pass0 (pa_cons (pv 5) pa_nil)) (by with_unfolding_all rfl)) (pss_one (ps_ret (pe_lst (pa_cons (pe_glob (v := .int (-3)) rfl gN ⟨_, rfl⟩) pa_nil)))) pss_nil)
      (pss_cons (ps_if (pt_cmpR op_ge (pv 3) (pe_callB call_len_seq (by rfl) T.len PySem.boot_len (pa_cons (pv 5) pa_nil)) (nomark _)) (pss_one (ps_ret (pe_lst (pa_cons (pe_glob (v := .int (-1)) rfl gO ⟨_, rfl⟩) pa_nil)))) pss_nil)
      (pss_cons (ps_if (pt_val (pe_meth0 (pv 0) TH.cl mF GF hr1 bF .nil pass0)) (pss_one (ps_ret (pe_lst (pa_cons (pe_glob (v := .int (-5)) rfl gM ⟨_, rfl⟩) pa_nil)))) pss_nil)
      (pss_cons (ps_setLc (i := 6) (own := [("deed", 8)]) (g := gName 8) (tt := tTest (tOp rNe (tFld K (tVar 8) "thing") (tVar 2))) (te := tVar 8) rfl scMove.nd rfl rfl (sw_true rfl rfl rfl (by decide +kernel)) (pi_list (pv 5)) (blkOk_by (N := ["self", "desk", "thing", "i", "deeds", "row", "others", "place", "deed"]) (sc := defScope sMove) (by decide +kernel))
        (fun _ _ _ _ _ => pg_name (i := 8) scMove.nd rfl (Or.inl rfl)) (fun _ _ _ _ _ => pts_one (pt_cmpR op_ne (pe_fld (pv 8) rfl) (pv 2) (nomark _))) (fun _ _ _ _ _ => pv 8))
      (pss_cons (ps_set (i := 7) scMove.nd rfl (Or.inl rfl) (pe_call GB hr rfl gB kB bB .nil pass0 (pa_cons (pv 4) (pa_cons (pe_call GA hr1 rfl gA kA bA .nil pass0 (pa_cons (pv 6) (pa_cons (pv 3) pa_nil))) pa_nil))))
      (pss_one (ps_ret (pe_lst (pa_cons (pe_meth (pv 0) TH.cl mD GD hr3 bD .nil pass0 (pa_cons (pv 1) (pa_cons (pv 2) (pa_cons (pv 7) pa_nil)))) pa_nil)))))))))))), ?_⟩
    obtain ⟨dl, kl, nm, adr, ks, dss, A⟩ := A
    have AH : HouseAt CH CD Hx H p h := ⟨dl, kl, nm, adr, ks, dss, A⟩
    obtain ⟨dx, hp⟩ := A.hp
    refine ⟨_, rfl, p, dx, _, rfl, hp, hF_no _ _ _ (by decide +kernel) (by decide +kernel) (by decide +kernel), _, rfl, Hx, p, h, k, rfl, AH, _, rfl, ?_⟩
    by_cases hk : k < h.desks.length
    rotate_left
    · rw [decide_eq_false hk]
      refine iteT ?_
      exact ⟨by show 1 ≤ sizeLine; decide, fun q hq => kk.refuse AH (step_move_desk hk) hq⟩
    rw [decide_eq_true hk]
    refine iteF ?_
    obtain ⟨q, ds, l, e1, e2, e3, e4, _, G⟩ := A.at_ hk
    have L := G.late
    have hrl := G.rowLen
    have est := step_move (x := x) (i := i) e3
    refine ⟨_, rfl, p, dx, _, rfl, hp, hF_no _ _ _ (by decide +kernel) (by decide +kernel) (by decide +kernel), _, rfl, Hx, p, h, dl, kl, nm, adr, ks, dss, k, ds, rfl, A, hk, e2, fun z hz => ?_⟩
    have s1 : Same H (upd H z (.lst (ds.map (rf adr)))) := Same.new hz
    refine ⟨_, rfl, z, h.all, nm, adr, ds, l, rfl, G.same s1, upd_same, fun H2 R s2 nR hR => ?_⟩
    have s12 := s1.trans s2
    have hz2 := s2 _ _ (upd_same (H := H) (a := z) (o := .lst (ds.map (rf adr))))
    have hrow : ∀ d ∈ Sq29.row l, d ∈ Sq29.spots l := fun d hd => row_sub hd
    have hat : ∀ d ∈ Sq29.row l, DeedAt CD nm adr H d := fun d hd => G.atL d (spots_sub L (hrow d hd))
    -- thing not in things_of(row)
    refine ⟨_, rfl, _, rfl, R, nm, adr, Sq29.row l, rfl, fun d hd => (hat d hd).same s12, hrl, hR, fun H3 Z s3 nZ hZ => ?_⟩
    have s13 := s12.trans s3
    have A3 := A.keep s13
    have AH3 : HouseAt CH CD Hx H3 p h := ⟨dl, kl, nm, adr, ks, dss, A3⟩
    have hp3 := s13 _ _ hp
    have hR3 := s3 _ _ hR
    have hz3 := s3 _ _ hz2
    refine ⟨Z, _, rfl, .inl (SqL.of hZ), rfl, flat_things _, _, rfl, ?_⟩
    show if (!inV (V.int (x : Int)) ((Sq29.row l).map fun d => V.int (d.thing : Int))) = true then _ else _
    rw [inV_things]
    cases hany : (Sq29.row l).any fun d => d.thing == x with
    | false =>
      rw [if_pos hany] at est
      refine iteT ?_
      exact ⟨by show 1 ≤ sizeLine; decide, fun q hq => kk.refuse AH3 est hq⟩
    | true =>
    rw [if_neg (by rw [hany]; exact Bool.noConfusion)] at est
    refine iteF ?_
    -- i >= len(row)
    refine ⟨_, rfl, _, rfl, R, _, rfl, .inl (SqL.of hR3), _, _, rfl, rfl, _, rfl, ?_⟩
    rw [List.length_map]
    refine ite2 (fun hc => ?_) (fun hc => ?_)
    · have hc' : ((Sq29.row l).length : Int) ≤ (i : Int) := of_decide_eq_true hc
      rw [if_pos (by omega)] at est
      exact ⟨by show 1 ≤ sizeLine; decide, fun q hq => kk.refuse AH3 est hq⟩
    have hc' : ¬ ((Sq29.row l).length : Int) ≤ (i : Int) := fun z => hc (decide_eq_true z)
    rw [if_neg (by omega)] at est
    -- full
    refine ⟨_, rfl, p, dx, _, rfl, hp3, hF_no _ _ _ (by decide +kernel) (by decide +kernel) (by decide +kernel), Hx, p, h, rfl, AH3, _, rfl, ?_⟩
    refine ite2 (fun hf => ?_) (fun hf => ?_)
    · have hf' : 120 ≤ h.all.length := of_decide_eq_true hf
      rw [if_pos (show Sq29.DEEDS ≤ _ from hf')] at est
      exact ⟨by show 1 ≤ sizeLine; decide, fun q hq => kk.refuse AH3 est hq⟩
    have hf' : ¬ 120 ≤ h.all.length := fun z => hf (decide_eq_true z)
    rw [if_neg (show ¬ Sq29.DEEDS ≤ _ from hf')] at est
    -- others
    refine ⟨_, rfl, R, rfl, ⟨_, SqL.of hR3⟩, fun O hO => lc_fm (bs := Sq29.row l) (g := rf adr) (f := rf adr) (p := fun d => d.thing != x) (SqL.of hR3) hO (by omega) (fun d hd H4 s4 Y Nn hY hN => ?_) ?_⟩
    · obtain ⟨dx2, pl, g1, g2⟩ := ((hat d hd).same s13).same s4
      refine ⟨rfl, _, rfl, _, CD, dx2, _, _, rfl, g1, T.cl, T.nT, dF_thing _ _ _ _ _, _, rfl, rfl, _, rfl, ?_⟩
      by_cases he : d.thing = x
      · have e5 : V.int (d.thing : Int) = V.int (x : Int) := by rw [he]
        rw [decide_eq_true e5]
        exact iteF (hN (by rw [he]; simp))
      · have e5 : ¬ V.int (d.thing : Int) = V.int (x : Int) := fun z => by
          injection z with z
          omega
        rw [decide_eq_false e5]
        exact iteT ⟨_, rfl, hY (by simpa using he)⟩
    have s4 : Same H3 (upd H3 O (.lst (((Sq29.row l).filter fun d => d.thing != x).map (rf adr)))) := Same.new hO
    have s14 := s13.trans s4
    have G4 := G.same s14
    have hoth : ∀ d ∈ (Sq29.row l).filter (fun d => d.thing != x), d ∈ Sq29.spots l := fun d hd => hrow d (List.mem_filter.mp hd).1
    have hol : ((Sq29.row l).filter fun d => d.thing != x).length ≤ 120 := Nat.le_trans (List.length_filter_le _ _) hrl
    have once : i ≤ ((Sq29.row l).filter fun d => d.thing != x).length := by
      have := row_once G.dk.srt L hany
      omega
    -- place
    refine ⟨_, rfl, _, rfl, _, rfl, O, nm, adr, (Sq29.row l).filter fun d => d.thing != x, i, rfl, fun d hd => ?_, hol, once, upd_same, ?_⟩
    · have hdl := spots_sub L (hoth d hd)
      exact ⟨G4.atL d hdl, G4.kn.id d (G4.dk.sub d hdl)⟩
    refine ⟨z, h.all, nm, adr, ds, l, _, rfl, G4, s4 _ _ hz3, ahead_in hoth i, fun H5 t s5 nt ht => ?_⟩
    have A5 := A3.keep (s4.trans s5)
    have hsp : ∀ st, ((some (Sq29.spotAt l ((Sq29.row l).filter fun d => d.thing != x) i)).bind fun q => q.of_) = some st → ∃ d ∈ l, d.stamp = st := behind_of L fun s e => by
      obtain ⟨d, hd, es⟩ := ahead_in hoth i s e
      exact ⟨d, spots_sub L hd, es⟩
    refine ⟨_, rfl, p, dx, _, rfl, (s4.trans s5) _ _ hp3, hF_no _ _ _ (by decide +kernel) (by decide +kernel) (by decide +kernel), _, rfl, _, rfl, _, rfl, Hx, p, h, dl, kl, nm, adr, ks, dss, k, x, l, some (Sq29.spotAt l ((Sq29.row l).filter fun d => d.thing != x) i), .ref t, rfl, A5, e3, by omega, ⟨t, rfl, ht⟩, hsp, fun H6 A6 => ?_⟩
    refine ⟨by show 1 ≤ sizeLine; decide, fun q hq => ?_⟩
    unfold Post at kk
    rw [est] at kk
    exact kk _ q (A6.keep (Same.new hq)) (A6.same.free hq) upd_same
end
end Mp

namespace Mp
open PySem L2 Mr Mh
section
variable {P : Program} {w : World} {K : PySem.W.Frag} {mg : Str → Option Value} {base : Heap}
theorem scOut : FnScope ["self", "desk", "thing"] ["self", "desk", "thing"] (defScope sOut) := ⟨rfl, rfl, rfl, by decide +kernel, rfl, by decide +kernel, by decide +kernel⟩
theorem ok_out {f CH CD fH fF fK fD fR fT : Addr} {fd fdH fdF fdK fdD fdR fdT : FuncData} (F : Fun K "out" "House.out" sOut f fd) (T : TDeed K mg CD) (TH : THouse K mg CH) (TR : TRef mg)
    (GH : FnOk P w K mg base CX0 1 fH fdH ["self", "desk"] (spHas CH CD)) (mH : Meth K CH "has_desk" fH) (bH : Binds K fdH ["self", "desk"] [])
    (GF : FnOk P w K mg base CX0 1 fF fdF ["self"] (spFull CH CD)) (mF : Meth K CH "is_full" fF) (bF : Binds K fdF ["self"] [])
    (GK : FnOk P w K mg base CX0 1 fK fdK ["self", "desk"] (spKnown CH CD)) (mK : Meth K CH "deeds_known" fK) (bK : Binds K fdK ["self", "desk"] [])
    (GD : FnOk P w K mg base CX0 3 fD fdD ["self", "desk", "thing", "place"] (spDo CH CD)) (mD : Meth K CH "do_deed" fD) (bD : Binds K fdD ["self", "desk", "thing", "place"] [])
    (GR : FnOk P w K mg base CX0 6 fR fdR ["deeds"] (spRow CD)) (kR : PySem.W.keepIn K (.ref fR) = true) (bR : Binds K fdR ["deeds"] []) (gR : mg "row_of" = some (.ref fR))
    (GT : FnOk P w K mg base CX0 1 fT fdT ["row"] (spThings CD)) (kT : PySem.W.keepIn K (.ref fT) = true) (bT : Binds K fdT ["row"] []) (gT : mg "things_of" = some (.ref fT)) :
    FnOk P w K mg base CX0 7 f fd ["self", "desk", "thing"] (spOut CH CD) := by
  obtain ⟨t2, gS⟩ := TR.such
  obtain ⟨t3, gM⟩ := TR.more
  obtain ⟨t4, gN⟩ := TR.row
  refine F.ok scOut (fun vs H Q E h => ?_) (fun cdv A outer s H vs Q E hr h => ?_)
  · obtain ⟨Hx, p, h, k, x, rfl, _⟩ := h
    rfl
  · obtain ⟨Hx, p, h, k, x, rfl, A, kk⟩ := h
    have hr1 : Room 1 _ := hr.mono (by decide)
    have hr3 : Room 3 _ := hr.mono (by decide)
    refine ⟨_, (pss_cons (ps_if (pt_not (pt_val (pe_meth (pv 0) TH.cl mH GH hr1 bH .nil pass0 (pa_cons (pv 1) pa_nil)))) (pss_one (ps_ret (pe_lst (pa_cons (pe_glob (v := .int (-2)) rfl gS ⟨_, rfl⟩) pa_nil)))) pss_nil)
      (pss_cons (ps_if (pt_cmpR op_notIn_seq (pv 2) (pe_call GT hr1 rfl gT kT bT .nil pass0 (pa_cons (pe_call GR hr rfl gR kR bR .nil pass0 (pa_cons (pe_meth (pv 0) TH.cl mK GK hr1 bK .nil pass0 (pa_cons (pv 1) pa_nil)) pa_nil)) pa_nil)) (by with_unfolding_all rfl)) (pss_one (ps_ret (pe_lst (pa_cons (pe_glob (v := .int (-3)) rfl gN ⟨_, rfl⟩) pa_nil)))) pss_nil)
      (pss_cons (ps_if (pt_val (pe_meth0 (pv 0) TH.cl mF GF hr1 bF .nil pass0)) (pss_one (ps_ret (pe_lst (pa_cons (pe_glob (v := .int (-5)) rfl gM ⟨_, rfl⟩) pa_nil)))) pss_nil)
      (pss_one (ps_ret (pe_lst (pa_cons (pe_meth (pv 0) TH.cl mD GD hr3 bD .nil pass0 (pa_cons (pv 1) (pa_cons (pv 2) (pa_cons pe_non pa_nil)))) pa_nil))))))), ?_⟩
    obtain ⟨dl, kl, nm, adr, ks, dss, A⟩ := A
    have AH : HouseAt CH CD Hx H p h := ⟨dl, kl, nm, adr, ks, dss, A⟩
    obtain ⟨dx, hp⟩ := A.hp
    refine ⟨_, rfl, p, dx, _, rfl, hp, hF_no _ _ _ (by decide +kernel) (by decide +kernel) (by decide +kernel), _, rfl, Hx, p, h, k, rfl, AH, _, rfl, ?_⟩
    by_cases hk : k < h.desks.length
    rotate_left
    · rw [decide_eq_false hk]
      refine iteT ?_
      exact ⟨by show 1 ≤ sizeLine; decide, fun q hq => kk.refuse AH (step_out_desk hk) hq⟩
    rw [decide_eq_true hk]
    refine iteF ?_
    obtain ⟨q, ds, l, e1, e2, e3, e4, _, G⟩ := A.at_ hk
    have L := G.late
    have hrl := G.rowLen
    have est := step_out (x := x) e3
    have hrow : ∀ d ∈ Sq29.row l, d ∈ Sq29.spots l := fun d hd => row_sub hd
    have hat : ∀ d ∈ Sq29.row l, DeedAt CD nm adr H d := fun d hd => G.atL d (spots_sub L (hrow d hd))
    refine ⟨_, rfl, _, rfl, p, dx, _, rfl, hp, hF_no _ _ _ (by decide +kernel) (by decide +kernel) (by decide +kernel), _, rfl, Hx, p, h, dl, kl, nm, adr, ks, dss, k, ds, rfl, A, hk, e2, fun z hz => ?_⟩
    have s1 : Same H (upd H z (.lst (ds.map (rf adr)))) := Same.new hz
    refine ⟨z, h.all, nm, adr, ds, l, rfl, G.same s1, upd_same, fun H2 R s2 nR hR => ?_⟩
    have s12 := s1.trans s2
    refine ⟨R, nm, adr, Sq29.row l, rfl, fun d hd => (hat d hd).same s12, hrl, hR, fun H3 Z s3 nZ hZ => ?_⟩
    have s13 := s12.trans s3
    have A3 := A.keep s13
    have AH3 : HouseAt CH CD Hx H3 p h := ⟨dl, kl, nm, adr, ks, dss, A3⟩
    have hp3 := s13 _ _ hp
    refine ⟨Z, _, rfl, .inl (SqL.of hZ), rfl, flat_things _, _, rfl, ?_⟩
    show if (!inV (V.int (x : Int)) ((Sq29.row l).map fun d => V.int (d.thing : Int))) = true then _ else _
    rw [inV_things]
    cases hany : (Sq29.row l).any fun d => d.thing == x with
    | false =>
      rw [if_pos hany] at est
      refine iteT ?_
      exact ⟨by show 1 ≤ sizeLine; decide, fun q hq => kk.refuse AH3 est hq⟩
    | true =>
    rw [if_neg (by rw [hany]; exact Bool.noConfusion)] at est
    refine iteF ?_
    refine ⟨_, rfl, p, dx, _, rfl, hp3, hF_no _ _ _ (by decide +kernel) (by decide +kernel) (by decide +kernel), Hx, p, h, rfl, AH3, _, rfl, ?_⟩
    refine ite2 (fun hf => ?_) (fun hf => ?_)
    · have hf' : 120 ≤ h.all.length := of_decide_eq_true hf
      rw [if_pos (show Sq29.DEEDS ≤ _ from hf')] at est
      exact ⟨by show 1 ≤ sizeLine; decide, fun q hq => kk.refuse AH3 est hq⟩
    have hf' : ¬ 120 ≤ h.all.length := fun z => hf (decide_eq_true z)
    rw [if_neg (show ¬ Sq29.DEEDS ≤ _ from hf')] at est
    refine ⟨_, rfl, p, dx, _, rfl, hp3, hF_no _ _ _ (by decide +kernel) (by decide +kernel) (by decide +kernel), _, rfl, _, rfl, Hx, p, h, dl, kl, nm, adr, ks, dss, k, x, l, none, .non, rfl, A3, e3, by omega, rfl, (fun st z => by cases z), fun H6 A6 => ?_⟩
    refine ⟨by show 1 ≤ sizeLine; decide, fun q hq => ?_⟩
    unfold Post at kk
    rw [est] at kk
    exact kk _ q (A6.keep (Same.new hq)) (A6.same.free hq) upd_same

theorem scTell : FnScope ["self", "number", "desk", "deed", "deeds"] ["self", "number", "desk"] (defScope sTell) := ⟨rfl, rfl, rfl, by decide +kernel, rfl, by decide +kernel, by decide +kernel⟩
theorem ok_tell {f CH CD fH fK fI : Addr} {fd fdH fdK fdI : FuncData} (F : Fun K "tell" "House.tell" sTell f fd) (T : TDeed K mg CD) (TH : THouse K mg CH) (TR : TRef mg)
    (GH : FnOk P w K mg base CX0 1 fH fdH ["self", "desk"] (spHas CH CD)) (mH : Meth K CH "has_desk" fH) (bH : Binds K fdH ["self", "desk"] [])
    (GK : FnOk P w K mg base CX0 1 fK fdK ["self", "desk"] (spKnown CH CD)) (mK : Meth K CH "deeds_known" fK) (bK : Binds K fdK ["self", "desk"] [])
    (GI : FnOk P w K mg base CX0 6 fI fdI ["deed", "deeds"] (spIsIn CD)) (kI : PySem.W.keepIn K (.ref fI) = true) (bI : Binds K fdI ["deed", "deeds"] []) (gI : mg "is_in" = some (.ref fI)) :
    FnOk P w K mg base CX0 7 f fd ["self", "number", "desk"] (spTell CH CD) := by
  obtain ⟨t2, gS⟩ := TR.such
  refine F.ok scTell (fun vs H Q E h => ?_) (fun cdv A outer s H vs Q E hr h => ?_)
  · obtain ⟨Hx, p, h, n, k, rfl, _⟩ := h
    rfl
  · obtain ⟨Hx, p, h, n, k, rfl, A, kk⟩ := h
    have hr1 : Room 1 _ := hr.mono (by decide)
    refine ⟨_, (pss_cons (ps_if (PW.pt (pw_or (pt_cmpR op_ge (pv 1) (pe_callB call_len_seq (by rfl) T.len PySem.boot_len (pa_cons (pe_fld (pv 0) rfl) pa_nil)) (nomark _)) (pw_or1 (pt_not (pt_val (pe_meth (pv 0) TH.cl mH GH hr1 bH .nil pass0 (pa_cons (pv 2) pa_nil))))))) (pss_one (ps_ret (pe_lst (pa_cons (pe_glob (v := .int (-2)) rfl gS ⟨_, rfl⟩) pa_nil)))) pss_nil)
      (pss_cons (ps_set (i := 3) scTell.nd rfl (Or.inl rfl) (pe_ix ix_list (pe_fld (pv 0) rfl) (pv 1) (fun _ _ => rfl)))
      (pss_cons (ps_dput (hu_of hr) (pe_ix ix_list (pe_fld (pv 0) rfl) (pv 2) (fun _ _ => rfl)) (pv 1) (pv 3) rfl)
      (pss_cons (ps_set (i := 4) scTell.nd rfl (Or.inl rfl) (pe_meth (pv 0) TH.cl mK GK hr1 bK .nil pass0 (pa_cons (pv 2) pa_nil)))
      (pss_one (ps_ret (pe_lst (pa_cons (pe_callB call_len_seq (by rfl) T.len PySem.boot_len (pa_cons (pv 4) pa_nil)) (pa_cons (pe_ifExp (pt_val (pe_call GI hr rfl gI kI bI .nil pass0 (pa_cons (pv 3) (pa_cons (pv 4) pa_nil)))) pe_int pe_int) pa_nil))))))))), ?_⟩
    obtain ⟨dl, kl, nm, adr, ks, dss, A⟩ := A
    have AH : HouseAt CH CD Hx H p h := ⟨dl, kl, nm, adr, ks, dss, A⟩
    obtain ⟨dx, hp⟩ := A.hp
    -- number >= len(self.deeds)
    refine ⟨_, rfl, _, rfl, p, CH, dx, _, _, rfl, hp, TH.cl, TH.nD, hF_deeds _ _ _, dl, _, rfl, .inl (SqL.of A.hdl), _, _, rfl, rfl, _, rfl, ?_⟩
    rw [List.length_map]
    refine ite2 (fun hc => ?_) (fun hc => ?_)
    · have hc' : (h.all.length : Int) ≤ (n : Int) := of_decide_eq_true hc
      refine iteT ?_
      exact ⟨by show 1 ≤ sizeLine; decide, fun q hq => kk.refuse AH (step_tell_deed (by omega)) hq⟩
    have hc' : ¬ (h.all.length : Int) ≤ (n : Int) := fun z => hc (decide_eq_true z)
    refine ⟨_, rfl, p, dx, _, rfl, hp, hF_no _ _ _ (by decide +kernel) (by decide +kernel) (by decide +kernel), _, rfl, Hx, p, h, k, rfl, AH, _, rfl, ?_⟩
    by_cases hk : k < h.desks.length
    rotate_left
    · rw [decide_eq_false hk]
      refine iteT ?_
      exact ⟨by show 1 ≤ sizeLine; decide, fun q hq => kk.refuse AH (step_tell_desk hk) hq⟩
    rw [decide_eq_true hk]
    refine iteF ?_
    obtain ⟨q, ds, l, e1, e2, e3, e4, _, G⟩ := A.at_ hk
    obtain ⟨d, hd⟩ : ∃ d, h.all[n]? = some d := ⟨_, List.getElem?_eq_getElem (by omega)⟩
    have hda : d ∈ h.all := List.mem_of_getElem? hd
    have hid : d.id = n := A.inv.ids n d hd
    have est := step_tell (k := k) hd e3
    have hds : ds.length ≤ 120 := by rw [G.dk.perm.length_eq]; exact G.len
    -- deed
    refine ⟨_, rfl, p, CH, dx, _, _, rfl, hp, TH.cl, TH.nD, hF_deeds _ _ _, _, rfl, dl, _, _, rf adr d, rfl, rfl, SqL.of A.hdl, atI_nat (by rw [List.getElem?_map, hd]; rfl), ?_⟩
    -- self.known[desk][number] = deed
    refine ⟨_, rfl, _, rfl, p, CH, dx, _, _, rfl, hp, TH.cl, TH.nK, hF_known _ _ _, _, rfl, kl, _, _, V.ref q, rfl, rfl, SqL.of A.hkl, atI_nat (by rw [List.getElem?_map, e1]; rfl), _, rfl, q, _, rfl, DPut.k (k := Sum.inl (n : Int)) e4 ?_, ?_⟩
    · have e9 : (knK adr ds).length = ds.length := List.length_map _
      rw [e9]
      exact Nat.lt_of_le_of_lt hds (by decide)
    have A1 := A.told e3 e1 e2 hda
    rw [hid] at A1
    have hk1 : k < (h.set k (Sq29.learn d l)).desks.length := by
      show k < (h.desks.set k _).length
      rw [List.length_set]
      exact hk
    obtain ⟨q', ds', l', f1, f2, f3, f4, _, G1⟩ := A1.at_ hk1
    have fl : l' = Sq29.learn d l := by
      have f3 : (h.desks.set k (Sq29.learn d l))[k]? = some l' := f3
      rw [List.getElem?_set, if_pos rfl, if_pos hk] at f3
      exact (Option.some.inj f3).symm
    subst fl
    obtain ⟨dx1, hp1⟩ := A1.hp
    have hdl1 : d ∈ Sq29.learn d l := by
      by_cases hin : d ∈ l
      · rw [learn_old (A.inv.srt k l e3) hin]
        exact hin
      · exact (learn_new fun e he z => hin (by rw [← A.inv.inj e (A.inv.sub k l e3 e he) d hda z]; exact he)).mem_iff.mpr List.mem_cons_self
    -- deeds
    refine ⟨_, rfl, p, dx1, _, rfl, hp1, hF_no _ _ _ (by decide +kernel) (by decide +kernel) (by decide +kernel), _, rfl, Hx, p, _, dl, kl, nm, adr, ks, _, k, ds', rfl, A1, hk1, f2, fun z hz => ?_⟩
    have s1 := Same.new (o := .lst (ds'.map (rf adr))) hz
    -- the answer
    refine ⟨_, rfl, z, _, rfl, .inl (SqL.of upd_same), _, rfl, _, rfl, z, h.all, nm, adr, ds', Sq29.learn d l, d, rfl, G1.same s1, hdl1, upd_same, fun H2 s2 => ?_⟩
    refine ⟨_, rfl, ?_⟩
    have eans : ∀ b : Bool, ansV ⟨(Sq29.learn d l).length, [if b = true then 1 else 0]⟩ = [V.int ((ds'.map (rf adr)).length : Nat), V.int (if b = true then 1 else 0)] := fun b => by
      rw [List.length_map, G1.dk.perm.length_eq]
      rfl
    unfold Post at kk
    rw [est] at kk
    have AH2 : HouseAt CH CD Hx H2 p (h.set k (Sq29.learn d l)) := ⟨dl, kl, nm, adr, ks, _, A1.keep (s1.trans s2)⟩
    cases hin : Sq29.isIn (Sq29.learn d l) d with
    | true =>
      refine iteT ?_
      refine ⟨by show 2 ≤ sizeLine; decide, fun q hq => ?_⟩
      refine kk _ q (AH2.keep (Same.new hq)) (AH2.same.free hq) ?_
      rw [upd_same, hin, eans]
      rfl
    | false =>
      refine iteF ?_
      refine ⟨by show 2 ≤ sizeLine; decide, fun q hq => ?_⟩
      refine kk _ q (AH2.keep (Same.new hq)) (AH2.same.free hq) ?_
      rw [upd_same, hin, eans]
      rfl
end
end Mp

namespace Mp
open PySem L2 Mr Mh

/-! ### two desks meet -/
def spLearn (CH CD : Addr) : Sp := fun vs H Q _ => ∃ (Hx : Hp) (p : Addr) (h : Sq29.House) (k j : Nat) (lk lj : List Sq29.Deed), vs = [.ref p, .int (k : Int), .int (j : Int)] ∧ HouseAt CH CD Hx H p h ∧ h.desks[k]? = some lk ∧ h.desks[j]? = some lj ∧
  ∀ H', HouseAt CH CD Hx H' p (h.set k (met lk lj)) → Q (.int (((met lk lj).length : Int) - (lk.length : Int))) H'
def spMeet (CH CD : Addr) : Sp := fun vs H Q _ => ∃ (Hx : Hp) (p : Addr) (h : Sq29.House) (k j : Nat), vs = [.ref p, .int (k : Int), .int (j : Int)] ∧ HouseAt CH CD Hx H p h ∧ Post CH CD Hx p (h.step (.meet k j)) Q
theorem knK_len (adr : Nat → Addr) (ds : List Sq29.Deed) : (knK adr ds).length = ds.length := List.length_map _
section
variable {P : Program} {w : World} {K : PySem.W.Frag} {mg : Str → Option Value} {base : Heap}
theorem scLearn : FnScope ["self", "desk", "other", "before", "deed"] ["self", "desk", "other"] (defScope sLearn) := ⟨rfl, rfl, rfl, by decide +kernel, rfl, by decide +kernel, by decide +kernel⟩
theorem ok_learn {f CH CD fK : Addr} {fd fdK : FuncData} (F : Fun K "learn_from" "House.learn_from" sLearn f fd) (T : TDeed K mg CD) (TH : THouse K mg CH)
    (GK : FnOk P w K mg base CX0 1 fK fdK ["self", "desk"] (spKnown CH CD)) (mK : Meth K CH "deeds_known" fK) (bK : Binds K fdK ["self", "desk"] []) :
    FnOk P w K mg base CX0 2 f fd ["self", "desk", "other"] (spLearn CH CD) := by
  refine F.ok scLearn (fun vs H Q E h => ?_) (fun cdv A outer s H vs Q E hr h => ?_)
  · obtain ⟨Hx, p, h, k, j, lk, lj, rfl, _⟩ := h
    rfl
  · obtain ⟨Hx, p, h, k, j, lk, lj, rfl, ⟨dl, kl, nm, adr, ks, dss, A⟩, hlk, hlj, kk⟩ := h
    refine ⟨_, (pss_cons (ps_set (i := 3) scLearn.nd rfl (Or.inl rfl) (pe_callB call_lenD (by rfl) T.len PySem.boot_len (pa_cons (pe_ix ix_list (pe_fld (pv 0) rfl) (pv 1) (fun _ _ => rfl)) pa_nil)))
      (pss_cons (ps_for PassesOwn.never rfl (pi_list (pe_meth (pv 0) TH.cl mK GK hr bK .nil pass0 (pa_cons (pv 2) pa_nil))) (pg_name (i := 4) scLearn.nd rfl (Or.inl rfl))
        (pss_one (ps_dput (hu_of hr) (pe_ix ix_list (pe_fld (pv 0) rfl) (pv 1) (fun _ _ => rfl)) (pe_fld (pv 4) rfl) (pv 4) rfl)))
      (pss_one (ps_ret (pe_op op_sub (pe_callB call_lenD (by rfl) T.len PySem.boot_len (pa_cons (pe_ix ix_list (pe_fld (pv 0) rfl) (pv 1) (fun _ _ => rfl)) pa_nil)) (pv 3)))))), ?_⟩
    obtain ⟨dx, hp⟩ := A.hp
    have hk : k < h.desks.length := (List.getElem?_eq_some_iff.mp hlk).1
    have hj : j < h.desks.length := (List.getElem?_eq_some_iff.mp hlj).1
    obtain ⟨q, dk, l1, e1, e2, e3, e4, _, G⟩ := A.at_ hk
    obtain ⟨q2, dj, l2, f1, f2, f3, f4, _, G2⟩ := A.at_ hj
    rw [hlk] at e3
    cases e3
    rw [hlj] at f3
    cases f3
    have U := A.inv.apart
    have Sk := A.inv.srt k lk hlk
    have Sj := A.inv.srt j lj hlj
    have subk := A.inv.sub k lk hlk
    have subj := A.inv.sub j lj hlj
    have subd : ∀ d ∈ dj, d ∈ h.all := fun d hd => subj d (G2.dk.perm.mem_iff.mp hd)
    have ekl : ∀ {H' : Hp} {h' : Sq29.House} {dss' : List (List Sq29.Deed)}, HAt CH CD Hx H' p h' dl kl nm adr ks dss' → atI (ks.map V.ref) (k : Int) = some (V.ref q) := fun _ => atI_nat (by rw [List.getElem?_map, e1]; rfl)
    -- before
    refine ⟨_, rfl, p, CH, dx, _, _, rfl, hp, TH.cl, TH.nK, hF_known _ _ _, _, rfl, kl, _, _, V.ref q, rfl, rfl, SqL.of A.hkl, ekl A, q, _, rfl, e4, ?_⟩
    -- the loop
    refine ⟨_, rfl, p, dx, _, rfl, hp, hF_no _ _ _ (by decide +kernel) (by decide +kernel) (by decide +kernel), _, rfl, Hx, p, h, dl, kl, nm, adr, ks, dss, j, dj, rfl, A, hj, f2, fun z hz => ?_⟩
    have A0 := A.keep (Same.new (o := .lst (dj.map (rf adr))) hz)
    refine ⟨z, rfl, ⟨_, SqL.of upd_same⟩, for_list (K := K) (a := z) (xs := dj.map (rf adr)) (fun i σ H' => ∃ (v : Option V) (dss' : List (List Sq29.Deed)), σ = [some (.ref p), some (.int (k : Int)), some (.int (j : Int)), some (.int ((knK adr dk).length : Nat)), v] ∧
      H' z = some (.lst (dj.map (rf adr))) ∧ HAt CH CD Hx H' p (h.set k (met lk (dj.take i))) dl kl nm adr ks dss') ⟨none, dss, rfl, upd_same, by rw [List.take_zero, met_nil, set_self hlk]; exact A0⟩ (fun i σ H' _ ⟨_, _, _, h, _⟩ => SqL.of h) ?_ ?_⟩
    · rintro i y σ H' hi ⟨v, dss', rfl, hZ, B⟩
      rw [List.getElem?_map] at hi
      cases qd : dj[i]? with
      | none => rw [qd] at hi; cases hi
      | some d =>
      rw [qd] at hi
      obtain rfl : rf adr d = y := Option.some.inj hi
      have hd : d ∈ h.all := subd d (List.mem_of_getElem? qd)
      obtain ⟨dx1, hp1⟩ := B.hp
      have hk1 : k < (h.set k (met lk (dj.take i))).desks.length := by
        show k < (h.desks.set k _).length
        rw [List.length_set]
        exact hk
      obtain ⟨q', ds1, l1, g1, g2, g3, g4, _, G1⟩ := B.at_ hk1
      rw [e1] at g1
      cases g1
      rw [set_at _ hlk] at g3
      cases g3
      obtain ⟨dy, pl, o1, o2⟩ := B.deeds d hd
      refine ⟨_, rfl, _, rfl, p, CH, dx1, _, _, rfl, hp1, TH.cl, TH.nK, hF_known _ _ _, _, rfl, kl, _, _, V.ref q, rfl, rfl, SqL.of B.hkl, ekl B, _, rfl, _, CD, dy, _, _, rfl, o1, T.cl, T.nN, dF_number _ _ _ _ _, q, _, rfl, DPut.k (k := Sum.inl (d.id : Int)) g4 ?_, ?_⟩
      · rw [knK_len]
        have : ds1.length ≤ 120 := by rw [G1.dk.perm.length_eq]; exact G1.len
        exact Nat.lt_of_le_of_lt this (by decide)
      have B1 := B.told (set_at _ hlk) e1 g2 (d := d) hd
      rw [set_set] at B1
      refine ⟨_, _, rfl, ?_, by rw [take_more qd, met_snoc]; exact B1⟩
      rw [upd_ne (ne_of hZ g4 (by intro z; cases z))]
      exact hZ
    · rintro σ H' ⟨v, dss', rfl, hZ, B⟩
      rw [List.length_map, List.take_length, met_perm U Sk subk subj G2.dk.perm] at B
      obtain ⟨dx1, hp1⟩ := B.hp
      have hk1 : k < (h.set k (met lk lj)).desks.length := by
        show k < (h.desks.set k _).length
        rw [List.length_set]
        exact hk
      obtain ⟨q', ds1, l1, g1, g2, g3, g4, _, G1⟩ := B.at_ hk1
      rw [e1] at g1
      cases g1
      rw [set_at _ hlk] at g3
      cases g3
      refine ⟨_, rfl, p, CH, dx1, _, _, rfl, hp1, TH.cl, TH.nK, hF_known _ _ _, _, rfl, kl, _, _, V.ref q, rfl, rfl, SqL.of B.hkl, ekl B, q, _, rfl, g4, _, rfl, _, _, rfl, rfl, ?_⟩
      rw [knK_len, knK_len, G1.dk.perm.length_eq, G.dk.perm.length_eq]
      exact kk _ ⟨dl, kl, nm, adr, ks, dss', B⟩

theorem scMeet : FnScope ["self", "desk", "other", "by_desk", "by_other"] ["self", "desk", "other"] (defScope sMeet) := ⟨rfl, rfl, rfl, by decide +kernel, rfl, by decide +kernel, by decide +kernel⟩
theorem ok_meet {f CH CD fH fL : Addr} {fd fdH fdL : FuncData} (F : Fun K "meet" "House.meet" sMeet f fd) (T : TDeed K mg CD) (TH : THouse K mg CH) (TR : TRef mg)
    (GH : FnOk P w K mg base CX0 1 fH fdH ["self", "desk"] (spHas CH CD)) (mH : Meth K CH "has_desk" fH) (bH : Binds K fdH ["self", "desk"] [])
    (GL : FnOk P w K mg base CX0 2 fL fdL ["self", "desk", "other"] (spLearn CH CD)) (mL : Meth K CH "learn_from" fL) (bL : Binds K fdL ["self", "desk", "other"] []) :
    FnOk P w K mg base CX0 3 f fd ["self", "desk", "other"] (spMeet CH CD) := by
  obtain ⟨t2, gS⟩ := TR.such
  refine F.ok scMeet (fun vs H Q E h => ?_) (fun cdv A outer s H vs Q E hr h => ?_)
  · obtain ⟨Hx, p, h, k, j, rfl, _⟩ := h
    rfl
  · obtain ⟨Hx, p, h, k, j, rfl, AH, kk⟩ := h
    have hr1 : Room 1 _ := hr.mono (by decide)
    refine ⟨_, (pss_cons (ps_if (PW.pt (pw_or (pt_not (pt_val (pe_meth (pv 0) TH.cl mH GH hr1 bH .nil pass0 (pa_cons (pv 1) pa_nil)))) (pw_or1 (pt_not (pt_val (pe_meth (pv 0) TH.cl mH GH hr1 bH .nil pass0 (pa_cons (pv 2) pa_nil))))))) (pss_one (ps_ret (pe_lst (pa_cons (pe_glob (v := .int (-2)) rfl gS ⟨_, rfl⟩) pa_nil)))) pss_nil)
      (pss_cons (ps_set (i := 3) scMeet.nd rfl (Or.inl rfl) (pe_meth (pv 0) TH.cl mL GL hr bL .nil pass0 (pa_cons (pv 1) (pa_cons (pv 2) pa_nil))))
      (pss_cons (ps_set (i := 4) scMeet.nd rfl (Or.inl rfl) (pe_meth (pv 0) TH.cl mL GL hr bL .nil pass0 (pa_cons (pv 2) (pa_cons (pv 1) pa_nil))))
      (pss_one (ps_ret (pe_lst (pa_cons (pe_callB call_lenD (by rfl) T.len PySem.boot_len (pa_cons (pe_ix ix_list (pe_fld (pv 0) rfl) (pv 1) (fun _ _ => rfl)) pa_nil)) (pa_cons (pv 3) (pa_cons (pv 4) pa_nil))))))))), ?_⟩
    obtain ⟨dl, kl, nm, adr, ks, dss, A⟩ := AH
    have AH : HouseAt CH CD Hx H p h := ⟨dl, kl, nm, adr, ks, dss, A⟩
    obtain ⟨dx, hp⟩ := A.hp
    refine ⟨_, rfl, p, dx, _, rfl, hp, hF_no _ _ _ (by decide +kernel) (by decide +kernel) (by decide +kernel), _, rfl, Hx, p, h, k, rfl, AH, _, rfl, ?_⟩
    by_cases hk : k < h.desks.length
    rotate_left
    · rw [decide_eq_false hk]
      refine iteT ?_
      refine iteT ?_
      exact ⟨by show 1 ≤ sizeLine; decide, fun q hq => kk.refuse AH (step_meet_desk fun z => hk z.1) hq⟩
    rw [decide_eq_true hk]
    refine iteF ?_
    refine ⟨_, rfl, p, dx, _, rfl, hp, hF_no _ _ _ (by decide +kernel) (by decide +kernel) (by decide +kernel), _, rfl, Hx, p, h, j, rfl, AH, _, rfl, ?_⟩
    by_cases hj : j < h.desks.length
    rotate_left
    · rw [decide_eq_false hj]
      refine iteT ?_
      exact ⟨by show 1 ≤ sizeLine; decide, fun q hq => kk.refuse AH (step_meet_desk fun z => hj z.2) hq⟩
    rw [decide_eq_true hj]
    refine iteF ?_
    obtain ⟨lk, hlk⟩ : ∃ l, h.desks[k]? = some l := ⟨_, List.getElem?_eq_getElem hk⟩
    obtain ⟨lj, hlj⟩ : ∃ l, h.desks[j]? = some l := ⟨_, List.getElem?_eq_getElem hj⟩
    have est := step_meet hlk hlj
    have U := A.inv.apart
    have Sk := A.inv.srt k lk hlk
    have Sj := A.inv.srt j lj hlj
    have subk := A.inv.sub k lk hlk
    have subj := A.inv.sub j lj hlj
    have hlen := met_len U Sk Sj subk subj
    -- by_desk
    refine ⟨_, rfl, p, dx, _, rfl, hp, hF_no _ _ _ (by decide +kernel) (by decide +kernel) (by decide +kernel), _, rfl, _, rfl, Hx, p, h, k, j, lk, lj, rfl, AH, hlk, hlj, fun H1 A1 => ?_⟩
    -- by_other
    obtain ⟨lj', hlj', eback, elen⟩ : ∃ l, (h.set k (met lk lj)).desks[j]? = some l ∧ met l (met lk lj) = met lk lj ∧ (met lk lj).length - l.length = (met lk lj).length - lj.length := by
      by_cases hkj : k = j
      · subst hkj
        rw [hlk] at hlj
        cases hlj
        refine ⟨_, set_at _ hlk, ?_, ?_⟩
        · rw [met_self U Sk subk, met_self U Sk subk]
        · rw [met_self U Sk subk]
      · exact ⟨lj, by rw [set_off _ hkj]; exact hlj, met_back U Sk Sj subk subj, rfl⟩
    have hle : lj'.length ≤ (met lk lj).length := by
      by_cases hkj : k = j
      · subst hkj
        rw [set_at _ hlk] at hlj'
        cases hlj'
        exact Nat.le_refl _
      · rw [set_off _ hkj, hlj] at hlj'
        cases hlj'
        exact hlen.2
    obtain ⟨dl1, kl1, nm1, adr1, ks1, dss1, A1⟩ := A1
    obtain ⟨dx1, hp1⟩ := A1.hp
    refine ⟨_, rfl, p, dx1, _, rfl, hp1, hF_no _ _ _ (by decide +kernel) (by decide +kernel) (by decide +kernel), _, rfl, _, rfl, Hx, p, _, j, k, lj', met lk lj, rfl, ⟨dl1, kl1, nm1, adr1, ks1, dss1, A1⟩, hlj', set_at _ hlk, fun H2 A2 => ?_⟩
    rw [eback] at A2 ⊢
    have AH2 := A2
    obtain ⟨dl2, kl2, nm2, adr2, ks2, dss2, A2⟩ := A2
    obtain ⟨dx2, hp2⟩ := A2.hp
    have hlk2 : ((h.set k (met lk lj)).set j (met lk lj)).desks[k]? = some (met lk lj) := by
      by_cases hkj : j = k
      · subst hkj
        exact set_at _ hlj'
      · rw [set_off _ hkj]
        exact set_at _ hlk
    obtain ⟨q, ds, l, e1, e2, e3, e4, _, G⟩ := A2.at_ (List.getElem?_eq_some_iff.mp hlk2).1
    rw [hlk2] at e3
    cases e3
    -- the answer
    refine ⟨_, rfl, p, CH, dx2, _, _, rfl, hp2, TH.cl, TH.nK, hF_known _ _ _, _, rfl, kl2, _, _, V.ref q, rfl, rfl, SqL.of A2.hkl, atI_nat (by rw [List.getElem?_map, e1]; rfl), q, _, rfl, e4, _, rfl, _, rfl, by show 3 ≤ sizeLine; decide, fun z hz => ?_⟩
    unfold Post at kk
    rw [est] at kk
    refine kk _ z (AH2.keep (Same.new hz)) (AH2.same.free hz) ?_
    rw [upd_same, knK_len, G.dk.perm.length_eq]
    have n1 : (((met lk lj).length : Int) - (lk.length : Int)) = Int.ofNat ((met lk lj).length - lk.length) := by
      have := hlen.1
      show _ = (((met lk lj).length - lk.length : Nat) : Int)
      omega
    have n2 : (((met lk lj).length : Int) - (lj'.length : Int)) = Int.ofNat ((met lk lj).length - lj.length) := by
      show _ = (((met lk lj).length - lj.length : Nat) : Int)
      omega
    rw [n1, n2]
    rfl
end
end Mp

namespace Mp
open PySem L2 Mr Mh

/-! ### calls that only look -/
def Look (H : Hp) (o : Sq29.Out) (Q : VK) : Prop := ∀ (H' : Hp) (q : Addr), Same H H' → H q = none → H' q = some (.lst (ansV o)) → Q (.ref q) H'
theorem Post.look {CH CD : Addr} {Hx H : Hp} {p : Addr} {h : Sq29.House} {r : Sq29.House × Sq29.Out} {Q : VK} (k : Post CH CD Hx p r Q) (e : r.1 = h) (A : HouseAt CH CD Hx H p h) : Look H r.2 Q := fun H' q s n x => k H' q (by rw [e]; exact A.keep s) (A.same.free n) x
theorem Look.refuse {H : Hp} {q : Addr} {h : Sq29.House} {Q : VK} {r : Sq29.House × Sq29.Out} {z : Int} (k : Look H r.2 Q) (e : r = (h, Sq29.says z)) (hq : H q = none) : Q (.ref q) (upd H q (.lst [.int z])) := by
  subst e
  exact k _ q (Same.new hq) hq upd_same
theorem ansV_list (ns : List Nat) : ansV ⟨(ns.length : Int), Sq29.ints ns⟩ = V.int (ns.length : Nat) :: ns.map fun (n : Nat) => V.int (n : Int) := by
  unfold ansV Sq29.ints
  rw [List.map_cons, List.map_map]
  rfl
def spRowM (CH CD : Addr) : Sp := fun vs H Q _ => ∃ (Hx : Hp) (p : Addr) (h : Sq29.House) (k : Nat), vs = [.ref p, .int (k : Int)] ∧ HouseAt CH CD Hx H p h ∧ Look H (h.step (.row k)).2 Q
def spSpotsM (CH CD : Addr) : Sp := fun vs H Q _ => ∃ (Hx : Hp) (p : Addr) (h : Sq29.House) (k : Nat), vs = [.ref p, .int (k : Int)] ∧ HouseAt CH CD Hx H p h ∧ Look H (h.step (.spots k)).2 Q
def spWaitsM (CH CD : Addr) : Sp := fun vs H Q _ => ∃ (Hx : Hp) (p : Addr) (h : Sq29.House) (k : Nat), vs = [.ref p, .int (k : Int)] ∧ HouseAt CH CD Hx H p h ∧ Look H (h.step (.waits k)).2 Q
def spSame (CH CD : Addr) : Sp := fun vs H Q _ => ∃ (Hx : Hp) (p : Addr) (h : Sq29.House) (k j : Nat), vs = [.ref p, .int (k : Int), .int (j : Int)] ∧ HouseAt CH CD Hx H p h ∧ Look H (h.step (.same k j)).2 Q
theorem Given.spotsLen {C : Addr} {all : List Sq29.Deed} {nm : Sq29.Stamp → Nat} {adr : Nat → Addr} {H : Hp} {ds l : List Sq29.Deed} (G : Given C all nm adr H ds l) : (Sq29.spots l).length ≤ 120 :=
  Nat.le_trans ((spots_nodup G.dk.srt G.late).length_le_of_subset fun x hx => spots_sub G.late hx) G.len
section
variable {P : Program} {w : World} {K : PySem.W.Frag} {mg : Str → Option Value} {base : Heap}
theorem scRowM : FnScope ["self", "desk"] ["self", "desk"] (defScope sRowM) := ⟨rfl, rfl, rfl, by decide +kernel, rfl, by decide +kernel, by decide +kernel⟩
theorem ok_rowM {f CH CD fH fK fR fT fW : Addr} {fd fdH fdK fdR fdT fdW : FuncData} (F : Fun K "row" "House.row" sRowM f fd) (T : TDeed K mg CD) (TH : THouse K mg CH) (TR : TRef mg)
    (GH : FnOk P w K mg base CX0 1 fH fdH ["self", "desk"] (spHas CH CD)) (mH : Meth K CH "has_desk" fH) (bH : Binds K fdH ["self", "desk"] [])
    (GK : FnOk P w K mg base CX0 1 fK fdK ["self", "desk"] (spKnown CH CD)) (mK : Meth K CH "deeds_known" fK) (bK : Binds K fdK ["self", "desk"] [])
    (GR : FnOk P w K mg base CX0 6 fR fdR ["deeds"] (spRow CD)) (kR : PySem.W.keepIn K (.ref fR) = true) (bR : Binds K fdR ["deeds"] []) (gR : mg "row_of" = some (.ref fR))
    (GT : FnOk P w K mg base CX0 1 fT fdT ["row"] (spThings CD)) (kT : PySem.W.keepIn K (.ref fT) = true) (bT : Binds K fdT ["row"] []) (gT : mg "things_of" = some (.ref fT))
    (GW : FnOk P w K mg base CX0 1 fW fdW ["numbers"] spWith) (kW : PySem.W.keepIn K (.ref fW) = true) (bW : Binds K fdW ["numbers"] []) (gW : mg "with_count" = some (.ref fW)) :
    FnOk P w K mg base CX0 7 f fd ["self", "desk"] (spRowM CH CD) := by
  obtain ⟨t2, gS⟩ := TR.such
  refine F.ok scRowM (fun vs H Q E h => ?_) (fun cdv A outer s H vs Q E hr h => ?_)
  · obtain ⟨Hx, p, h, k, rfl, _⟩ := h
    rfl
  · obtain ⟨Hx, p, h, k, rfl, AH, kk⟩ := h
    have hr1 : Room 1 _ := hr.mono (by decide)
    refine ⟨_, (pss_cons (ps_if (pt_not (pt_val (pe_meth (pv 0) TH.cl mH GH hr1 bH .nil pass0 (pa_cons (pv 1) pa_nil)))) (pss_one (ps_ret (pe_lst (pa_cons (pe_glob (v := .int (-2)) rfl gS ⟨_, rfl⟩) pa_nil)))) pss_nil)
      (pss_one (ps_ret (pe_call GW hr1 rfl gW kW bW .nil pass0 (pa_cons (pe_call GT hr1 rfl gT kT bT .nil pass0 (pa_cons (pe_call GR hr rfl gR kR bR .nil pass0 (pa_cons (pe_meth (pv 0) TH.cl mK GK hr1 bK .nil pass0 (pa_cons (pv 1) pa_nil)) pa_nil)) pa_nil)) pa_nil))))), ?_⟩
    obtain ⟨dl, kl, nm, adr, ks, dss, A⟩ := AH
    have AH : HouseAt CH CD Hx H p h := ⟨dl, kl, nm, adr, ks, dss, A⟩
    obtain ⟨dx, hp⟩ := A.hp
    refine ⟨_, rfl, p, dx, _, rfl, hp, hF_no _ _ _ (by decide +kernel) (by decide +kernel) (by decide +kernel), _, rfl, Hx, p, h, k, rfl, AH, _, rfl, ?_⟩
    by_cases hk : k < h.desks.length
    rotate_left
    · rw [decide_eq_false hk]
      refine iteT ?_
      exact ⟨by show 1 ≤ sizeLine; decide, fun q hq => kk.refuse (step_row_desk hk) hq⟩
    rw [decide_eq_true hk]
    refine iteF ?_
    obtain ⟨q, ds, l, e1, e2, e3, e4, _, G⟩ := A.at_ hk
    have L := G.late
    have hat : ∀ d ∈ Sq29.row l, DeedAt CD nm adr H d := fun d hd => G.atL d (spots_sub L (row_sub hd))
    rw [step_row e3] at kk
    refine ⟨_, rfl, p, dx, _, rfl, hp, hF_no _ _ _ (by decide +kernel) (by decide +kernel) (by decide +kernel), _, rfl, Hx, p, h, dl, kl, nm, adr, ks, dss, k, ds, rfl, A, hk, e2, fun z hz => ?_⟩
    have s1 : Same H (upd H z (.lst (ds.map (rf adr)))) := Same.new hz
    refine ⟨z, h.all, nm, adr, ds, l, rfl, G.same s1, upd_same, fun H2 R s2 nR hR => ?_⟩
    have s12 := s1.trans s2
    refine ⟨R, nm, adr, Sq29.row l, rfl, fun d hd => (hat d hd).same s12, G.rowLen, hR, fun H3 Z s3 nZ hZ => ?_⟩
    have s13 := s12.trans s3
    refine ⟨Z, _, rfl, by rw [List.length_map]; exact G.rowLen, hZ, fun H4 y s4 ny hy => ?_⟩
    refine kk _ y (s13.trans s4) (s13.free ny) ?_
    rw [hy, ansV_list, List.length_map]
    unfold Sq29.seen
    rw [List.map_map, List.length_map]
    rfl

theorem scSpotsM : FnScope ["self", "desk"] ["self", "desk"] (defScope sSpotsM) := ⟨rfl, rfl, rfl, by decide +kernel, rfl, by decide +kernel, by decide +kernel⟩
theorem ok_spotsM {f CH CD fH fK fR fT fW : Addr} {fd fdH fdK fdR fdT fdW : FuncData} (F : Fun K "spots" "House.spots" sSpotsM f fd) (T : TDeed K mg CD) (TH : THouse K mg CH) (TR : TRef mg)
    (GH : FnOk P w K mg base CX0 1 fH fdH ["self", "desk"] (spHas CH CD)) (mH : Meth K CH "has_desk" fH) (bH : Binds K fdH ["self", "desk"] [])
    (GK : FnOk P w K mg base CX0 1 fK fdK ["self", "desk"] (spKnown CH CD)) (mK : Meth K CH "deeds_known" fK) (bK : Binds K fdK ["self", "desk"] [])
    (GR : FnOk P w K mg base CX0 5 fR fdR ["deeds"] (spSpots CD)) (kR : PySem.W.keepIn K (.ref fR) = true) (bR : Binds K fdR ["deeds"] []) (gR : mg "spots_of" = some (.ref fR))
    (GT : FnOk P w K mg base CX0 1 fT fdT ["deeds"] (spNumbers CD)) (kT : PySem.W.keepIn K (.ref fT) = true) (bT : Binds K fdT ["deeds"] []) (gT : mg "numbers_of" = some (.ref fT))
    (GW : FnOk P w K mg base CX0 1 fW fdW ["numbers"] spWith) (kW : PySem.W.keepIn K (.ref fW) = true) (bW : Binds K fdW ["numbers"] []) (gW : mg "with_count" = some (.ref fW)) :
    FnOk P w K mg base CX0 7 f fd ["self", "desk"] (spSpotsM CH CD) := by
  obtain ⟨t2, gS⟩ := TR.such
  refine F.ok scSpotsM (fun vs H Q E h => ?_) (fun cdv A outer s H vs Q E hr h => ?_)
  · obtain ⟨Hx, p, h, k, rfl, _⟩ := h
    rfl
  · obtain ⟨Hx, p, h, k, rfl, AH, kk⟩ := h
    have hr1 : Room 1 _ := hr.mono (by decide)
    have hr5 : Room 5 _ := hr.mono (by decide)
    refine ⟨_, (pss_cons (ps_if (pt_not (pt_val (pe_meth (pv 0) TH.cl mH GH hr1 bH .nil pass0 (pa_cons (pv 1) pa_nil)))) (pss_one (ps_ret (pe_lst (pa_cons (pe_glob (v := .int (-2)) rfl gS ⟨_, rfl⟩) pa_nil)))) pss_nil)
      (pss_one (ps_ret (pe_call GW hr1 rfl gW kW bW .nil pass0 (pa_cons (pe_call GT hr1 rfl gT kT bT .nil pass0 (pa_cons (pe_call GR hr5 rfl gR kR bR .nil pass0 (pa_cons (pe_meth (pv 0) TH.cl mK GK hr1 bK .nil pass0 (pa_cons (pv 1) pa_nil)) pa_nil)) pa_nil)) pa_nil))))), ?_⟩
    obtain ⟨dl, kl, nm, adr, ks, dss, A⟩ := AH
    have AH : HouseAt CH CD Hx H p h := ⟨dl, kl, nm, adr, ks, dss, A⟩
    obtain ⟨dx, hp⟩ := A.hp
    refine ⟨_, rfl, p, dx, _, rfl, hp, hF_no _ _ _ (by decide +kernel) (by decide +kernel) (by decide +kernel), _, rfl, Hx, p, h, k, rfl, AH, _, rfl, ?_⟩
    by_cases hk : k < h.desks.length
    rotate_left
    · rw [decide_eq_false hk]
      refine iteT ?_
      exact ⟨by show 1 ≤ sizeLine; decide, fun q hq => kk.refuse (step_spots_desk hk) hq⟩
    rw [decide_eq_true hk]
    refine iteF ?_
    obtain ⟨q, ds, l, e1, e2, e3, e4, _, G⟩ := A.at_ hk
    have L := G.late
    have hat : ∀ d ∈ Sq29.spots l, DeedAt CD nm adr H d := fun d hd => G.atL d (spots_sub L hd)
    rw [step_spots e3] at kk
    refine ⟨_, rfl, p, dx, _, rfl, hp, hF_no _ _ _ (by decide +kernel) (by decide +kernel) (by decide +kernel), _, rfl, Hx, p, h, dl, kl, nm, adr, ks, dss, k, ds, rfl, A, hk, e2, fun z hz => ?_⟩
    have s1 : Same H (upd H z (.lst (ds.map (rf adr)))) := Same.new hz
    refine ⟨z, h.all, nm, adr, ds, l, rfl, G.same s1, upd_same, fun H2 R s2 nR hR => ?_⟩
    have s12 := s1.trans s2
    refine ⟨R, nm, adr, Sq29.spots l, rfl, fun d hd => (hat d hd).same s12, G.spotsLen, hR, fun H3 Z s3 nZ hZ => ?_⟩
    have s13 := s12.trans s3
    refine ⟨Z, _, rfl, by rw [List.length_map]; exact G.spotsLen, hZ, fun H4 y s4 ny hy => ?_⟩
    refine kk _ y (s13.trans s4) (s13.free ny) ?_
    have e := ansV_list ((Sq29.spots l).map fun d => d.id)
    rw [List.map_map] at e
    simp only [List.length_map] at e hy
    rw [hy, e]
    rfl

theorem scWaitsM : FnScope ["self", "desk"] ["self", "desk"] (defScope sWaitsM) := ⟨rfl, rfl, rfl, by decide +kernel, rfl, by decide +kernel, by decide +kernel⟩
theorem ok_waitsM {f CH CD fH fK fR fT fW : Addr} {fd fdH fdK fdR fdT fdW : FuncData} (F : Fun K "waits" "House.waits" sWaitsM f fd) (T : TDeed K mg CD) (TH : THouse K mg CH) (TR : TRef mg)
    (GH : FnOk P w K mg base CX0 1 fH fdH ["self", "desk"] (spHas CH CD)) (mH : Meth K CH "has_desk" fH) (bH : Binds K fdH ["self", "desk"] [])
    (GK : FnOk P w K mg base CX0 1 fK fdK ["self", "desk"] (spKnown CH CD)) (mK : Meth K CH "deeds_known" fK) (bK : Binds K fdK ["self", "desk"] [])
    (GR : FnOk P w K mg base CX0 6 fR fdR ["deeds"] (spWaiting CD)) (kR : PySem.W.keepIn K (.ref fR) = true) (bR : Binds K fdR ["deeds"] []) (gR : mg "waiting_of" = some (.ref fR))
    (GT : FnOk P w K mg base CX0 1 fT fdT ["deeds"] (spNumbers CD)) (kT : PySem.W.keepIn K (.ref fT) = true) (bT : Binds K fdT ["deeds"] []) (gT : mg "numbers_of" = some (.ref fT))
    (GW : FnOk P w K mg base CX0 1 fW fdW ["numbers"] spWith) (kW : PySem.W.keepIn K (.ref fW) = true) (bW : Binds K fdW ["numbers"] []) (gW : mg "with_count" = some (.ref fW)) :
    FnOk P w K mg base CX0 7 f fd ["self", "desk"] (spWaitsM CH CD) := by
  obtain ⟨t2, gS⟩ := TR.such
  refine F.ok scWaitsM (fun vs H Q E h => ?_) (fun cdv A outer s H vs Q E hr h => ?_)
  · obtain ⟨Hx, p, h, k, rfl, _⟩ := h
    rfl
  · obtain ⟨Hx, p, h, k, rfl, AH, kk⟩ := h
    have hr1 : Room 1 _ := hr.mono (by decide)
    refine ⟨_, (pss_cons (ps_if (pt_not (pt_val (pe_meth (pv 0) TH.cl mH GH hr1 bH .nil pass0 (pa_cons (pv 1) pa_nil)))) (pss_one (ps_ret (pe_lst (pa_cons (pe_glob (v := .int (-2)) rfl gS ⟨_, rfl⟩) pa_nil)))) pss_nil)
      (pss_one (ps_ret (pe_call GW hr1 rfl gW kW bW .nil pass0 (pa_cons (pe_call GT hr1 rfl gT kT bT .nil pass0 (pa_cons (pe_call GR hr rfl gR kR bR .nil pass0 (pa_cons (pe_meth (pv 0) TH.cl mK GK hr1 bK .nil pass0 (pa_cons (pv 1) pa_nil)) pa_nil)) pa_nil)) pa_nil))))), ?_⟩
    obtain ⟨dl, kl, nm, adr, ks, dss, A⟩ := AH
    have AH : HouseAt CH CD Hx H p h := ⟨dl, kl, nm, adr, ks, dss, A⟩
    obtain ⟨dx, hp⟩ := A.hp
    refine ⟨_, rfl, p, dx, _, rfl, hp, hF_no _ _ _ (by decide +kernel) (by decide +kernel) (by decide +kernel), _, rfl, Hx, p, h, k, rfl, AH, _, rfl, ?_⟩
    by_cases hk : k < h.desks.length
    rotate_left
    · rw [decide_eq_false hk]
      refine iteT ?_
      exact ⟨by show 1 ≤ sizeLine; decide, fun q hq => kk.refuse (step_waits_desk hk) hq⟩
    rw [decide_eq_true hk]
    refine iteF ?_
    obtain ⟨q, ds, l, e1, e2, e3, e4, _, G⟩ := A.at_ hk
    have hat : ∀ d ∈ waiting l, DeedAt CD nm adr H d := fun d hd => G.atL d (List.mem_filter.mp hd).1
    have hwl : (waiting l).length ≤ 120 := Nat.le_trans (List.length_filter_le _ _) G.len
    rw [step_waits e3] at kk
    refine ⟨_, rfl, p, dx, _, rfl, hp, hF_no _ _ _ (by decide +kernel) (by decide +kernel) (by decide +kernel), _, rfl, Hx, p, h, dl, kl, nm, adr, ks, dss, k, ds, rfl, A, hk, e2, fun z hz => ?_⟩
    have s1 : Same H (upd H z (.lst (ds.map (rf adr)))) := Same.new hz
    refine ⟨z, h.all, nm, adr, ds, l, rfl, G.same s1, upd_same, fun H2 R s2 nR hR => ?_⟩
    have s12 := s1.trans s2
    refine ⟨R, nm, adr, waiting l, rfl, fun d hd => (hat d hd).same s12, hwl, hR, fun H3 Z s3 nZ hZ => ?_⟩
    have s13 := s12.trans s3
    refine ⟨Z, _, rfl, by rw [List.length_map]; exact hwl, hZ, fun H4 y s4 ny hy => ?_⟩
    refine kk _ y (s13.trans s4) (s13.free ny) ?_
    have e := ansV_list ((waiting l).map fun d => d.id)
    rw [List.map_map] at e
    simp only [List.length_map] at e hy
    rw [hy, e]
    rfl

theorem scSame : FnScope ["self", "desk", "other", "same_deeds", "same_row"] ["self", "desk", "other"] (defScope sSame) := ⟨rfl, rfl, rfl, by decide +kernel, rfl, by decide +kernel, by decide +kernel⟩
theorem knK_keys (adr : Nat → Addr) (ds : List Sq29.Deed) : (knK adr ds).map (·.1) = (ds.map fun d => (d.id : Int)).map Sum.inl := by
  unfold knK
  rw [List.map_map, List.map_map]
  rfl
theorem ok_same {f CH CD fH fR : Addr} {fd fdH fdR : FuncData} (F : Fun K "same" "House.same" sSame f fd) (T : TDeed K mg CD) (TH : THouse K mg CH) (TR : TRef mg)
    (GH : FnOk P w K mg base CX0 1 fH fdH ["self", "desk"] (spHas CH CD)) (mH : Meth K CH "has_desk" fH) (bH : Binds K fdH ["self", "desk"] [])
    (GR : FnOk P w K mg base CX0 7 fR fdR ["self", "desk"] (spRowM CH CD)) (mR : Meth K CH "row" fR) (bR : Binds K fdR ["self", "desk"] []) :
    FnOk P w K mg base CX0 8 f fd ["self", "desk", "other"] (spSame CH CD) := by
  obtain ⟨t2, gS⟩ := TR.such
  refine F.ok scSame (fun vs H Q E h => ?_) (fun cdv A outer s H vs Q E hr h => ?_)
  · obtain ⟨Hx, p, h, k, j, rfl, _⟩ := h
    rfl
  · obtain ⟨Hx, p, h, k, j, rfl, AH, kk⟩ := h
    have hr1 : Room 1 _ := hr.mono (by decide)
    refine ⟨_, (pss_cons (ps_if (PW.pt (pw_or (pt_not (pt_val (pe_meth (pv 0) TH.cl mH GH hr1 bH .nil pass0 (pa_cons (pv 1) pa_nil)))) (pw_or1 (pt_not (pt_val (pe_meth (pv 0) TH.cl mH GH hr1 bH .nil pass0 (pa_cons (pv 2) pa_nil))))))) (pss_one (ps_ret (pe_lst (pa_cons (pe_glob (v := .int (-2)) rfl gS ⟨_, rfl⟩) pa_nil)))) pss_nil)
      (pss_cons (ps_set (i := 3) scSame.nd rfl (Or.inl rfl) (pe_cmpR (op_eqI hr.units) (pe_callB (cr_sortedKeys rfl) (by rfl) T.sorted PyProof.Rows.boot_sorted (pa_cons (pe_ix ix_list (pe_fld (pv 0) rfl) (pv 1) (fun _ _ => rfl)) pa_nil)) (pe_callB (cr_sortedKeys rfl) (by rfl) T.sorted PyProof.Rows.boot_sorted (pa_cons (pe_ix ix_list (pe_fld (pv 0) rfl) (pv 2) (fun _ _ => rfl)) pa_nil)) (nomark _)))
      (pss_cons (ps_set (i := 4) scSame.nd rfl (Or.inl rfl) (pe_cmpR (op_eqI hr.units) (pe_meth (pv 0) TH.cl mR GR hr bR .nil pass0 (pa_cons (pv 1) pa_nil)) (pe_meth (pv 0) TH.cl mR GR hr bR .nil pass0 (pa_cons (pv 2) pa_nil)) (nomark _)))
      (pss_one (ps_ret (pe_lst (pa_cons (pe_ifExp (pt_val (pv 3)) pe_int pe_int) (pa_cons (pe_ifExp (pt_val (pv 4)) pe_int pe_int) pa_nil)))))))), ?_⟩
    obtain ⟨dl, kl, nm, adr, ks, dss, A⟩ := AH
    have AH : HouseAt CH CD Hx H p h := ⟨dl, kl, nm, adr, ks, dss, A⟩
    obtain ⟨dx, hp⟩ := A.hp
    refine ⟨_, rfl, p, dx, _, rfl, hp, hF_no _ _ _ (by decide +kernel) (by decide +kernel) (by decide +kernel), _, rfl, Hx, p, h, k, rfl, AH, _, rfl, ?_⟩
    by_cases hk : k < h.desks.length
    rotate_left
    · rw [decide_eq_false hk]
      refine iteT ?_
      refine iteT ?_
      exact ⟨by show 1 ≤ sizeLine; decide, fun q hq => kk.refuse (step_same_desk fun z => hk z.1) hq⟩
    rw [decide_eq_true hk]
    refine iteF ?_
    refine ⟨_, rfl, p, dx, _, rfl, hp, hF_no _ _ _ (by decide +kernel) (by decide +kernel) (by decide +kernel), _, rfl, Hx, p, h, j, rfl, AH, _, rfl, ?_⟩
    by_cases hj : j < h.desks.length
    rotate_left
    · rw [decide_eq_false hj]
      refine iteT ?_
      exact ⟨by show 1 ≤ sizeLine; decide, fun q hq => kk.refuse (step_same_desk fun z => hj z.2) hq⟩
    rw [decide_eq_true hj]
    refine iteF ?_
    obtain ⟨qk, dk, lk, e1, e2, hlk, e4, _, Gk⟩ := A.at_ hk
    obtain ⟨qj, dj, lj, f1, f2, hlj, f4, _, Gj⟩ := A.at_ hj
    rw [step_same hlk hlj] at kk
    -- same_deeds
    refine ⟨_, rfl, p, CH, dx, _, _, rfl, hp, TH.cl, TH.nK, hF_known _ _ _, _, rfl, kl, _, _, V.ref qk, rfl, rfl, SqL.of A.hkl, atI_nat (by rw [List.getElem?_map, e1]; rfl), qk, _, _, rfl, e4, knK_keys adr dk, fun ms z1 pm sm hz1 => ?_⟩
    have s1 := Same.new (o := .lst (ms.map V.int)) hz1
    refine ⟨_, rfl, p, CH, dx, _, _, rfl, s1 _ _ hp, TH.cl, TH.nK, hF_known _ _ _, _, rfl, kl, _, _, V.ref qj, rfl, rfl, SqL.of (s1 _ _ A.hkl), atI_nat (by rw [List.getElem?_map, f1]; rfl), qj, _, _, rfl, s1 _ _ f4, knK_keys adr dj, fun ns z2 pn sn hz2 => ?_⟩
    have s2 := s1.trans (Same.new (o := .lst (ns.map V.int)) hz2)
    refine ⟨z1, z2, ms, ns, rfl, rfl, SqL.of (Same.new hz2 _ _ upd_same), SqL.of upd_same, ?_⟩
    have hiff := ids_iff A.inv (A.inv.srt k lk hlk) (A.inv.srt j lj hlj) (A.inv.sub k lk hlk) (A.inv.sub j lj hlj) Gk.dk.perm Gj.dk.perm pm pn sm sn
    rw [decide_eq_decide.mpr hiff]
    -- same_row
    have A2 := A.keep s2
    refine ⟨_, rfl, p, dx, _, rfl, s2 _ _ hp, hF_no _ _ _ (by decide +kernel) (by decide +kernel) (by decide +kernel), _, rfl, Hx, p, h, k, rfl, ⟨dl, kl, nm, adr, ks, dss, A2⟩, fun H3 q1 s3 n1 hq1 => ?_⟩
    have A3 := A2.keep s3
    refine ⟨_, rfl, p, dx, _, rfl, s3 _ _ (s2 _ _ hp), hF_no _ _ _ (by decide +kernel) (by decide +kernel) (by decide +kernel), _, rfl, Hx, p, h, j, rfl, ⟨dl, kl, nm, adr, ks, dss, A3⟩, fun H4 q2 s4 n2 hq2 => ?_⟩
    rw [step_row hlk] at hq1
    rw [step_row hlj] at hq2
    refine ⟨q1, q2, _, _, rfl, rfl, SqL.of (s4 _ _ hq1), SqL.of hq2, ?_⟩
    have hrow : ((((Sq29.seen lk).length : Nat) : Int) :: Sq29.ints (Sq29.seen lk)) = ((((Sq29.seen lj).length : Nat) : Int) :: Sq29.ints (Sq29.seen lj)) ↔ Sq29.seen lk = Sq29.seen lj := by
      constructor
      · intro e
        injection e with _ e
        exact ints_inj e
      · intro e
        rw [e]
    rw [decide_eq_decide.mpr hrow]
    -- the answer
    have s5 := (s2.trans s3).trans s4
    have fin : ∀ (x y : Int), x = (if lk = lj then 1 else 0) → y = (if Sq29.seen lk = Sq29.seen lj then 1 else 0) → ∀ z, H4 z = none → Q (.ref z) (upd H4 z (.lst [.int x, .int y])) := fun x y ex ey z hz => by
      refine kk _ z (s5.trans (Same.new hz)) (s5.free hz) ?_
      rw [upd_same, ex, ey]
      rfl
    refine ⟨_, rfl, _, rfl, ?_⟩
    refine ite2 (fun h1 => ?_) (fun h1 => ?_)
    · have h1' : lk = lj := of_decide_eq_true h1
      refine ⟨_, rfl, _, rfl, ?_⟩
      refine ite2 (fun h2 => ?_) (fun h2 => ?_)
      · exact ⟨by show 2 ≤ sizeLine; decide, fun z hz => fin 1 1 (by rw [if_pos h1']) (by rw [if_pos (of_decide_eq_true h2)]) z hz⟩
      · exact ⟨by show 2 ≤ sizeLine; decide, fun z hz => fin 1 0 (by rw [if_pos h1']) (by rw [if_neg (fun y => h2 (decide_eq_true y))]) z hz⟩
    · have h1' : ¬ lk = lj := fun y => h1 (decide_eq_true y)
      refine ⟨_, rfl, _, rfl, ?_⟩
      refine ite2 (fun h2 => ?_) (fun h2 => ?_)
      · exact ⟨by show 2 ≤ sizeLine; decide, fun z hz => fin 0 1 (by rw [if_neg h1']) (by rw [if_pos (of_decide_eq_true h2)]) z hz⟩
      · exact ⟨by show 2 ≤ sizeLine; decide, fun z hz => fin 0 0 (by rw [if_neg h1']) (by rw [if_neg (fun y => h2 (decide_eq_true y))]) z hz⟩
end
end Mp

namespace Mp
open PySem L2 Mr Mh
abbrev sAnsTo : Stmt := top 34
abbrev sAnswers : Stmt := top 35

/-! ### what lies beside the house -/
section
variable {CH CD : Addr} {Hx H : Hp} {p r : Addr} {h : Sq29.House} {o o' : HO}
theorem HouseAt.beside (A : HouseAt CH CD Hx H p h) (hr : H r = none) : HouseAt CH CD (upd Hx r o) (upd H r o) p h := by
  obtain ⟨dl, kl, nm, adr, ks, dss, A⟩ := A
  obtain ⟨dx, hp⟩ := A.hp
  have s := Same.new (o := o) hr
  have B := A.keep s
  have off : ∀ {b : Addr} {u : HO}, H b = some u → Hx b = none → (upd Hx r o) b = none := fun {b u} e n => by rw [upd_ne (ne_of_none e hr)]; exact n
  refine ⟨dl, kl, nm, adr, ks, dss, fun b u e => ?_, off hp A.np, off A.hdl A.ndl, off A.hkl A.nkl, fun q hq => ?_, B.hp, B.hdl, B.hkl, B.ne, B.len, B.lend, B.nd, B.dict, B.desk, B.kn, B.deeds, B.inv⟩
  · by_cases z : b = r
    · subst z
      rw [upd_same] at e ⊢
      exact e
    · rw [upd_ne z] at e ⊢
      exact A.same _ _ e
  · obtain ⟨k, hk⟩ := List.getElem?_of_mem hq
    obtain ⟨ds, hds⟩ : ∃ ds, dss[k]? = some ds := ⟨_, List.getElem?_eq_getElem (by rw [A.lend, ← A.len]; exact (List.getElem?_eq_some_iff.mp hk).1)⟩
    exact off (A.dict k q ds hk hds) (A.nks q hq)
theorem HouseAt.rewrite (A : HouseAt CH CD Hx H p h) (hr : Hx r = some o) (hn : NotDeed CD o) : HouseAt CH CD (upd Hx r o') (upd H r o') p h := by
  obtain ⟨dl, kl, nm, adr, ks, dss, A⟩ := A
  obtain ⟨dx, hp⟩ := A.hp
  have hH := A.same _ _ hr
  have ne : ∀ {b : Addr}, Hx b = none → b ≠ r := fun {b} n => (ne_of_none hr n).symm
  have off : ∀ {b : Addr}, Hx b = none → (upd Hx r o') b = none := fun {b} n => by rw [upd_ne (ne n)]; exact n
  refine ⟨dl, kl, nm, adr, ks, dss, fun b u e => ?_, off A.np, off A.ndl, off A.nkl, fun q hq => off (A.nks q hq), ⟨dx, by rw [upd_ne (ne A.np)]; exact hp⟩, by rw [upd_ne (ne A.ndl)]; exact A.hdl, by rw [upd_ne (ne A.nkl)]; exact A.hkl, A.ne, A.len, A.lend, A.nd, fun k q ds e1 e2 => ?_, A.desk, A.kn, fun d hd => (A.deeds d hd).write hH hn, A.inv⟩
  · by_cases z : b = r
    · subst z
      rw [upd_same] at e ⊢
      exact e
    · rw [upd_ne z] at e ⊢
      exact A.same _ _ e
  · rw [upd_ne (ne (A.nks q (List.mem_of_getElem? e1)))]
    exact A.dict k q ds e1 e2
end

def spAnsTo (CH CD : Addr) : Sp := fun vs H Q _ => ∃ (Hx : Hp) (p q : Addr) (h : Sq29.House) (c : Int) (as : List Int) (x : Sq29.Call), vs = [.ref p, .int c, .ref q] ∧ HouseAt CH CD Hx H p h ∧ H q = some (.lst (as.map V.int)) ∧ Says c as x ∧ Post CH CD Hx p (h.step x) Q
structure TCalls (mg : Str → Option Value) : Prop where
  begin_ : ∃ t, mg "BEGIN" = some (.int 1 t)
  put : ∃ t, mg "PUT" = some (.int 2 t)
  move : ∃ t, mg "MOVE" = some (.int 3 t)
  out : ∃ t, mg "OUT" = some (.int 4 t)
  tell : ∃ t, mg "TELL" = some (.int 5 t)
  meet : ∃ t, mg "MEET" = some (.int 6 t)
  row : ∃ t, mg "ROW" = some (.int 7 t)
  spots : ∃ t, mg "SPOTS" = some (.int 8 t)
  waits : ∃ t, mg "WAITS" = some (.int 9 t)
section
variable {P : Program} {w : World} {K : PySem.W.Frag} {mg : Str → Option Value} {base : Heap}
theorem scAnsTo : FnScope ["house", "call", "numbers"] ["house", "call", "numbers"] (defScope sAnsTo) := ⟨rfl, rfl, rfl, by decide +kernel, rfl, by decide +kernel, by decide +kernel⟩
theorem ok_ansTo {f CH CD f1 f2 f3 f4 f5 f6 f7 f8 f9 f10 : Addr} {fd fd1 fd2 fd3 fd4 fd5 fd6 fd7 fd8 fd9 fd10 : FuncData} (F : Fun K "answer_to" "answer_to" sAnsTo f fd) (TH : THouse K mg CH) (TC : TCalls mg)
    (G1 : FnOk P w K mg base CX0 2 f1 fd1 ["self", "desks"] (spBegin CH CD)) (m1 : Meth K CH "begin" f1) (b1 : Binds K fd1 ["self", "desks"] [])
    (G2 : FnOk P w K mg base CX0 7 f2 fd2 ["self", "desk", "i"] (spPut CH CD)) (m2 : Meth K CH "put" f2) (b2 : Binds K fd2 ["self", "desk", "i"] [])
    (G3 : FnOk P w K mg base CX0 7 f3 fd3 ["self", "desk", "thing", "i"] (spMove CH CD)) (m3 : Meth K CH "move" f3) (b3 : Binds K fd3 ["self", "desk", "thing", "i"] [])
    (G4 : FnOk P w K mg base CX0 7 f4 fd4 ["self", "desk", "thing"] (spOut CH CD)) (m4 : Meth K CH "out" f4) (b4 : Binds K fd4 ["self", "desk", "thing"] [])
    (G5 : FnOk P w K mg base CX0 7 f5 fd5 ["self", "number", "desk"] (spTell CH CD)) (m5 : Meth K CH "tell" f5) (b5 : Binds K fd5 ["self", "number", "desk"] [])
    (G6 : FnOk P w K mg base CX0 3 f6 fd6 ["self", "desk", "other"] (spMeet CH CD)) (m6 : Meth K CH "meet" f6) (b6 : Binds K fd6 ["self", "desk", "other"] [])
    (G7 : FnOk P w K mg base CX0 7 f7 fd7 ["self", "desk"] (spRowM CH CD)) (m7 : Meth K CH "row" f7) (b7 : Binds K fd7 ["self", "desk"] [])
    (G8 : FnOk P w K mg base CX0 7 f8 fd8 ["self", "desk"] (spSpotsM CH CD)) (m8 : Meth K CH "spots" f8) (b8 : Binds K fd8 ["self", "desk"] [])
    (G9 : FnOk P w K mg base CX0 7 f9 fd9 ["self", "desk"] (spWaitsM CH CD)) (m9 : Meth K CH "waits" f9) (b9 : Binds K fd9 ["self", "desk"] [])
    (G10 : FnOk P w K mg base CX0 8 f10 fd10 ["self", "desk", "other"] (spSame CH CD)) (m10 : Meth K CH "same" f10) (b10 : Binds K fd10 ["self", "desk", "other"] []) :
    FnOk P w K mg base CX0 9 f fd ["house", "call", "numbers"] (spAnsTo CH CD) := by
  obtain ⟨t1, g1⟩ := TC.begin_
  obtain ⟨t2, g2⟩ := TC.put
  obtain ⟨t3, g3⟩ := TC.move
  obtain ⟨t4, g4⟩ := TC.out
  obtain ⟨t5, g5⟩ := TC.tell
  obtain ⟨t6, g6⟩ := TC.meet
  obtain ⟨t7, g7⟩ := TC.row
  obtain ⟨t8, g8⟩ := TC.spots
  obtain ⟨t9, g9⟩ := TC.waits
  refine F.ok scAnsTo (fun vs H Q E h => ?_) (fun cdv A outer s H vs Q E hr h => ?_)
  · obtain ⟨Hx, p, q, h, c, as, x, rfl, _⟩ := h
    rfl
  · obtain ⟨Hx, p, q, h, c, as, x, rfl, A, hq, sy, kk⟩ := h
    have hr2 : Room 2 _ := hr.mono (by decide)
    have hr3 : Room 3 _ := hr.mono (by decide)
    have hr7 : Room 7 _ := hr.mono (by decide)
    refine ⟨_, (pss_cons (ps_if (pt_cmpR op_eq (pv 1) (pe_glob (v := .int 1) rfl g1 ⟨_, rfl⟩) (nomark _)) (pss_one (ps_ret (pe_meth (pv 0) TH.cl m1 G1 hr2 b1 .nil pass0 (pa_cons (pe_ix ix_list (pv 2) pe_int (fun _ _ => rfl)) pa_nil)))) pss_nil)
      (pss_cons (ps_if (pt_cmpR op_eq (pv 1) (pe_glob (v := .int 2) rfl g2 ⟨_, rfl⟩) (nomark _)) (pss_one (ps_ret (pe_meth (pv 0) TH.cl m2 G2 hr7 b2 .nil pass0 (pa_cons (pe_ix ix_list (pv 2) pe_int (fun _ _ => rfl)) (pa_cons (pe_ix ix_list (pv 2) pe_int (fun _ _ => rfl)) pa_nil))))) pss_nil)
      (pss_cons (ps_if (pt_cmpR op_eq (pv 1) (pe_glob (v := .int 3) rfl g3 ⟨_, rfl⟩) (nomark _)) (pss_one (ps_ret (pe_meth (pv 0) TH.cl m3 G3 hr7 b3 .nil pass0 (pa_cons (pe_ix ix_list (pv 2) pe_int (fun _ _ => rfl)) (pa_cons (pe_ix ix_list (pv 2) pe_int (fun _ _ => rfl)) (pa_cons (pe_ix ix_list (pv 2) pe_int (fun _ _ => rfl)) pa_nil)))))) pss_nil)
      (pss_cons (ps_if (pt_cmpR op_eq (pv 1) (pe_glob (v := .int 4) rfl g4 ⟨_, rfl⟩) (nomark _)) (pss_one (ps_ret (pe_meth (pv 0) TH.cl m4 G4 hr7 b4 .nil pass0 (pa_cons (pe_ix ix_list (pv 2) pe_int (fun _ _ => rfl)) (pa_cons (pe_ix ix_list (pv 2) pe_int (fun _ _ => rfl)) pa_nil))))) pss_nil)
      (pss_cons (ps_if (pt_cmpR op_eq (pv 1) (pe_glob (v := .int 5) rfl g5 ⟨_, rfl⟩) (nomark _)) (pss_one (ps_ret (pe_meth (pv 0) TH.cl m5 G5 hr7 b5 .nil pass0 (pa_cons (pe_ix ix_list (pv 2) pe_int (fun _ _ => rfl)) (pa_cons (pe_ix ix_list (pv 2) pe_int (fun _ _ => rfl)) pa_nil))))) pss_nil)
      (pss_cons (ps_if (pt_cmpR op_eq (pv 1) (pe_glob (v := .int 6) rfl g6 ⟨_, rfl⟩) (nomark _)) (pss_one (ps_ret (pe_meth (pv 0) TH.cl m6 G6 hr3 b6 .nil pass0 (pa_cons (pe_ix ix_list (pv 2) pe_int (fun _ _ => rfl)) (pa_cons (pe_ix ix_list (pv 2) pe_int (fun _ _ => rfl)) pa_nil))))) pss_nil)
      (pss_cons (ps_if (pt_cmpR op_eq (pv 1) (pe_glob (v := .int 7) rfl g7 ⟨_, rfl⟩) (nomark _)) (pss_one (ps_ret (pe_meth (pv 0) TH.cl m7 G7 hr7 b7 .nil pass0 (pa_cons (pe_ix ix_list (pv 2) pe_int (fun _ _ => rfl)) pa_nil)))) pss_nil)
      (pss_cons (ps_if (pt_cmpR op_eq (pv 1) (pe_glob (v := .int 8) rfl g8 ⟨_, rfl⟩) (nomark _)) (pss_one (ps_ret (pe_meth (pv 0) TH.cl m8 G8 hr7 b8 .nil pass0 (pa_cons (pe_ix ix_list (pv 2) pe_int (fun _ _ => rfl)) pa_nil)))) pss_nil)
      (pss_cons (ps_if (pt_cmpR op_eq (pv 1) (pe_glob (v := .int 9) rfl g9 ⟨_, rfl⟩) (nomark _)) (pss_one (ps_ret (pe_meth (pv 0) TH.cl m9 G9 hr7 b9 .nil pass0 (pa_cons (pe_ix ix_list (pv 2) pe_int (fun _ _ => rfl)) pa_nil)))) pss_nil)
      (pss_one (ps_ret (pe_meth (pv 0) TH.cl m10 G10 hr b10 .nil pass0 (pa_cons (pe_ix ix_list (pv 2) pe_int (fun _ _ => rfl)) (pa_cons (pe_ix ix_list (pv 2) pe_int (fun _ _ => rfl)) pa_nil)))))))))))))), ?_⟩
    have AH := A
    obtain ⟨dl, kl, nm, adr, ks, dss, A⟩ := A
    obtain ⟨dx, hp⟩ := A.hp
    cases sy with
    | begin_ a =>
      refine ⟨_, rfl, rfl, _, rfl, iteT ?_⟩
      exact ⟨_, rfl, p, dx, _, rfl, hp, hF_no _ _ _ (by decide +kernel) (by decide +kernel) (by decide +kernel), _, rfl, q, _, _, V.int (a : Int), rfl, rfl, SqL.of hq, at_of (j := 0) rfl rfl, Hx, p, h, a, rfl, AH, kk⟩
    | put a b =>
      refine ⟨_, rfl, rfl, _, rfl, iteF ?_⟩
      refine ⟨_, rfl, rfl, _, rfl, iteT ?_⟩
      exact ⟨_, rfl, p, dx, _, rfl, hp, hF_no _ _ _ (by decide +kernel) (by decide +kernel) (by decide +kernel), _, rfl, q, _, _, V.int (a : Int), rfl, rfl, SqL.of hq, at_of (j := 0) rfl rfl, _, rfl, q, _, _, V.int (b : Int), rfl, rfl, SqL.of hq, at_of (j := 1) rfl rfl, Hx, p, h, a, b, rfl, AH, kk⟩
    | move a b c =>
      refine ⟨_, rfl, rfl, _, rfl, iteF ?_⟩
      refine ⟨_, rfl, rfl, _, rfl, iteF ?_⟩
      refine ⟨_, rfl, rfl, _, rfl, iteT ?_⟩
      exact ⟨_, rfl, p, dx, _, rfl, hp, hF_no _ _ _ (by decide +kernel) (by decide +kernel) (by decide +kernel), _, rfl, q, _, _, V.int (a : Int), rfl, rfl, SqL.of hq, at_of (j := 0) rfl rfl, _, rfl, q, _, _, V.int (b : Int), rfl, rfl, SqL.of hq, at_of (j := 1) rfl rfl, _, rfl, q, _, _, V.int (c : Int), rfl, rfl, SqL.of hq, at_of (j := 2) rfl rfl, Hx, p, h, a, b, c, rfl, AH, kk⟩
    | out a b =>
      refine ⟨_, rfl, rfl, _, rfl, iteF ?_⟩
      refine ⟨_, rfl, rfl, _, rfl, iteF ?_⟩
      refine ⟨_, rfl, rfl, _, rfl, iteF ?_⟩
      refine ⟨_, rfl, rfl, _, rfl, iteT ?_⟩
      exact ⟨_, rfl, p, dx, _, rfl, hp, hF_no _ _ _ (by decide +kernel) (by decide +kernel) (by decide +kernel), _, rfl, q, _, _, V.int (a : Int), rfl, rfl, SqL.of hq, at_of (j := 0) rfl rfl, _, rfl, q, _, _, V.int (b : Int), rfl, rfl, SqL.of hq, at_of (j := 1) rfl rfl, Hx, p, h, a, b, rfl, AH, kk⟩
    | tell a b =>
      refine ⟨_, rfl, rfl, _, rfl, iteF ?_⟩
      refine ⟨_, rfl, rfl, _, rfl, iteF ?_⟩
      refine ⟨_, rfl, rfl, _, rfl, iteF ?_⟩
      refine ⟨_, rfl, rfl, _, rfl, iteF ?_⟩
      refine ⟨_, rfl, rfl, _, rfl, iteT ?_⟩
      exact ⟨_, rfl, p, dx, _, rfl, hp, hF_no _ _ _ (by decide +kernel) (by decide +kernel) (by decide +kernel), _, rfl, q, _, _, V.int (a : Int), rfl, rfl, SqL.of hq, at_of (j := 0) rfl rfl, _, rfl, q, _, _, V.int (b : Int), rfl, rfl, SqL.of hq, at_of (j := 1) rfl rfl, Hx, p, h, a, b, rfl, AH, kk⟩
    | meet a b =>
      refine ⟨_, rfl, rfl, _, rfl, iteF ?_⟩
      refine ⟨_, rfl, rfl, _, rfl, iteF ?_⟩
      refine ⟨_, rfl, rfl, _, rfl, iteF ?_⟩
      refine ⟨_, rfl, rfl, _, rfl, iteF ?_⟩
      refine ⟨_, rfl, rfl, _, rfl, iteF ?_⟩
      refine ⟨_, rfl, rfl, _, rfl, iteT ?_⟩
      exact ⟨_, rfl, p, dx, _, rfl, hp, hF_no _ _ _ (by decide +kernel) (by decide +kernel) (by decide +kernel), _, rfl, q, _, _, V.int (a : Int), rfl, rfl, SqL.of hq, at_of (j := 0) rfl rfl, _, rfl, q, _, _, V.int (b : Int), rfl, rfl, SqL.of hq, at_of (j := 1) rfl rfl, Hx, p, h, a, b, rfl, AH, kk⟩
    | row a =>
      refine ⟨_, rfl, rfl, _, rfl, iteF ?_⟩
      refine ⟨_, rfl, rfl, _, rfl, iteF ?_⟩
      refine ⟨_, rfl, rfl, _, rfl, iteF ?_⟩
      refine ⟨_, rfl, rfl, _, rfl, iteF ?_⟩
      refine ⟨_, rfl, rfl, _, rfl, iteF ?_⟩
      refine ⟨_, rfl, rfl, _, rfl, iteF ?_⟩
      refine ⟨_, rfl, rfl, _, rfl, iteT ?_⟩
      exact ⟨_, rfl, p, dx, _, rfl, hp, hF_no _ _ _ (by decide +kernel) (by decide +kernel) (by decide +kernel), _, rfl, q, _, _, V.int (a : Int), rfl, rfl, SqL.of hq, at_of (j := 0) rfl rfl, Hx, p, h, a, rfl, AH, kk.look (row_stays h a) AH⟩
    | spots a =>
      refine ⟨_, rfl, rfl, _, rfl, iteF ?_⟩
      refine ⟨_, rfl, rfl, _, rfl, iteF ?_⟩
      refine ⟨_, rfl, rfl, _, rfl, iteF ?_⟩
      refine ⟨_, rfl, rfl, _, rfl, iteF ?_⟩
      refine ⟨_, rfl, rfl, _, rfl, iteF ?_⟩
      refine ⟨_, rfl, rfl, _, rfl, iteF ?_⟩
      refine ⟨_, rfl, rfl, _, rfl, iteF ?_⟩
      refine ⟨_, rfl, rfl, _, rfl, iteT ?_⟩
      exact ⟨_, rfl, p, dx, _, rfl, hp, hF_no _ _ _ (by decide +kernel) (by decide +kernel) (by decide +kernel), _, rfl, q, _, _, V.int (a : Int), rfl, rfl, SqL.of hq, at_of (j := 0) rfl rfl, Hx, p, h, a, rfl, AH, kk.look (spots_stays h a) AH⟩
    | waits a =>
      refine ⟨_, rfl, rfl, _, rfl, iteF ?_⟩
      refine ⟨_, rfl, rfl, _, rfl, iteF ?_⟩
      refine ⟨_, rfl, rfl, _, rfl, iteF ?_⟩
      refine ⟨_, rfl, rfl, _, rfl, iteF ?_⟩
      refine ⟨_, rfl, rfl, _, rfl, iteF ?_⟩
      refine ⟨_, rfl, rfl, _, rfl, iteF ?_⟩
      refine ⟨_, rfl, rfl, _, rfl, iteF ?_⟩
      refine ⟨_, rfl, rfl, _, rfl, iteF ?_⟩
      refine ⟨_, rfl, rfl, _, rfl, iteT ?_⟩
      exact ⟨_, rfl, p, dx, _, rfl, hp, hF_no _ _ _ (by decide +kernel) (by decide +kernel) (by decide +kernel), _, rfl, q, _, _, V.int (a : Int), rfl, rfl, SqL.of hq, at_of (j := 0) rfl rfl, Hx, p, h, a, rfl, AH, kk.look (waits_stays h a) AH⟩
    | same a b =>
      refine ⟨_, rfl, rfl, _, rfl, iteF ?_⟩
      refine ⟨_, rfl, rfl, _, rfl, iteF ?_⟩
      refine ⟨_, rfl, rfl, _, rfl, iteF ?_⟩
      refine ⟨_, rfl, rfl, _, rfl, iteF ?_⟩
      refine ⟨_, rfl, rfl, _, rfl, iteF ?_⟩
      refine ⟨_, rfl, rfl, _, rfl, iteF ?_⟩
      refine ⟨_, rfl, rfl, _, rfl, iteF ?_⟩
      refine ⟨_, rfl, rfl, _, rfl, iteF ?_⟩
      refine ⟨_, rfl, rfl, _, rfl, iteF ?_⟩
      exact ⟨_, rfl, p, dx, _, rfl, hp, hF_no _ _ _ (by decide +kernel) (by decide +kernel) (by decide +kernel), _, rfl, q, _, _, V.int (a : Int), rfl, rfl, SqL.of hq, at_of (j := 0) rfl rfl, _, rfl, q, _, _, V.int (b : Int), rfl, rfl, SqL.of hq, at_of (j := 1) rfl rfl, Hx, p, h, a, b, rfl, AH, kk.look (same_stays h a b) AH⟩
end
end Mp

namespace Mp
open PySem L2 Mr Mh

theorem cut_mid (ns : List Int) (i n : Nat) (p : Int) (r : List Int) (hd : ns.drop i = p :: r) (hn : n ≤ r.length) : cutV (ns.map V.int) (some ((i : Int) + 1)) (some ((i : Int) + 1 + (n : Int))) = (r.take n).map V.int := by
  have hl : (ns.drop i).length = r.length + 1 := by rw [hd]; rfl
  rw [List.length_drop] at hl
  have e1 : ((i : Int) + 1) = ((i + 1 : Nat) : Int) := by omega
  have e2 : (((i + 1 : Nat) : Int) + (n : Int)) = ((i + 1 + n : Nat) : Int) := by omega
  unfold cutV
  rw [e1, e2, HT.sIx_nat, HT.sIx_nat, List.length_map, Nat.min_eq_left (by omega), Nat.min_eq_left (by omega)]
  have e3 : i + 1 + n - (i + 1) = n := by omega
  have e4 : ns.drop (i + 1) = r := by
    have : ns.drop (i + 1) = (ns.drop i).drop 1 := by rw [List.drop_drop]
    rw [this, hd]
    rfl
  rw [e3, ← List.map_drop, e4, ← List.map_take]

def spAns (K : PySem.W.Frag) : Sp := fun vs H Q _ => ∃ (a : Addr) (ns : List Int), vs = [.ref a] ∧ SqL K H a (ns.map V.int) ∧ ns.length ≤ 800 ∧ PySq29.answers_asked ns = true ∧
  ∀ (H' : Hp) (p : Addr), H' p = some (.lst ((PySq29.answers ns).map V.int)) → Q (.ref p) H'
/-- the table of sizes -/
def sizeTab (k : Int) : Option Int := if 1 ≤ k ∧ k ≤ 10 then some (size k : Int) else none
section
variable {P : Program} {w : World} {K : PySem.W.Frag} {mg : Str → Option Value} {base : Heap}
theorem scAnswers : FnScope ["calls", "house", "answered", "start", "end", "answer"] ["calls"] (defScope sAnswers) := ⟨rfl, rfl, rfl, by decide +kernel, rfl, by decide +kernel, by decide +kernel⟩
theorem ok_answers {f CH CD fI fA dS : Addr} {fd fdI fdA : FuncData} (F : Fun K "answers" "answers" sAnswers f fd) (T : TDeed K mg CD) (TH : THouse K mg CH)
    (M : Mk K CH fI) (GI : FnOk P w K mg base CX0 2 fI fdI ["self"] (spHInit CH CD)) (bI : Binds K fdI ["self"] [])
    (GA : FnOk P w K mg base CX0 9 fA fdA ["house", "call", "numbers"] (spAnsTo CH CD)) (kA : PySem.W.keepIn K (.ref fA) = true) (bA : Binds K fdA ["house", "call", "numbers"] []) (gA : mg "answer_to" = some (.ref fA))
    (gS : mg "SIZES" = some (.ref dS)) (TS : IntTable K dS sizeTab) :
    FnOk P w K mg base CX0 10 f fd ["calls"] (spAns K) := by
  refine F.ok scAnswers (fun vs H Q E h => ?_) (fun cdv A outer s H vs Q E hr h => ?_)
  · obtain ⟨a, ns, rfl, _⟩ := h
    rfl
  · obtain ⟨a, ns, rfl, hS, hlen, hask, kk⟩ := h
    have hr3 : Room 3 _ := hr.mono (by decide)
    refine ⟨_, (pss_cons (ps_set (i := 1) scAnswers.nd rfl (Or.inl rfl) (pe_make0 M GI hr3 rfl TH.gC bI .nil pass0))
      (pss_cons (ps_set (i := 2) scAnswers.nd rfl (Or.inl rfl) (pe_lst pa_nil))
      (pss_cons (ps_set (i := 3) scAnswers.nd rfl (Or.inl rfl) pe_int)
      (pss_cons (ps_while PassesOwn.never (pt_cmpR op_lt (pv 3) (pe_callB call_len_seq (by rfl) T.len PySem.boot_len (pa_cons (pv 0) pa_nil)) (nomark _))
        (pss_cons (ps_set (i := 4) scAnswers.nd rfl (Or.inl rfl) (pe_op op_add (pe_op op_add (pv 3) pe_int) (pe_table TS (pe_glob (v := .ref dS) rfl gS rfl) (pe_ix ix_list (pv 0) (pv 3) (fun _ _ => rfl)) (fun _ _ => rfl))))
      (pss_cons (ps_set (i := 5) scAnswers.nd rfl (Or.inl rfl) (pe_call GA hr rfl gA kA bA .nil pass0 (pa_cons (pv 1) (pa_cons (pe_ix ix_list (pv 0) (pv 3) (fun _ _ => rfl)) (pa_cons (pe_slice sl_list (pv 0) (po_some (pe_op op_add (pv 3) pe_int)) (po_some (pv 4))) pa_nil)))))
      (pss_cons (ps_expr (pe_bm PySem.F.plainAttrs_list PySem.F.slot_list_append PySem.F.type_list_append mt_append (pv 2) (pa_cons (pe_callB call_len_seq (by rfl) T.len PySem.boot_len (pa_cons (pv 5) pa_nil)) pa_nil)))
      (pss_cons (ps_expr (pe_bm PySem.F.plainAttrs_list PySem.F.slot_list_extend PySem.F.type_list_extend mt_extend (pv 2) (pa_cons (pv 5) pa_nil)))
      (pss_one (ps_set (i := 3) scAnswers.nd rfl (Or.inl rfl) (pv 4))))))))
      (pss_one (ps_ret (pv 2))))))), ?_⟩
    obtain ⟨raw, hraw, _, hall, htot⟩ := asked_all hask
    have etot := answers_eq hraw
    -- house
    intro p dx np ndx nex
    have s0 : Same H (upd (upd H dx (.own p)) p (.ins CH dx [])) := fun b o e => by
      rw [upd_ne (ne_of_none e np), upd_ne (ne_of_none e ndx)]
      exact e
    refine ⟨H, p, dx, rfl, s0, np, upd_same, fun H1 A1 => ⟨rfl, ?_⟩⟩
    -- answered
    refine ⟨Nat.zero_le _, fun r hr0 => ?_⟩
    have A2 := A1.beside (o := .lst []) hr0
    have nrH : H r = none := A1.same.free hr0
    refine ⟨fun m σ H' => ∃ (st f : Nat) (h : Sq29.House) (out : List Int) (cs : List (List (List Int))) (v4 v5 : Option V) (Hx : Hp), σ = [some (.ref a), some (.ref p), some (.ref r), some (.int (st : Int)), v4, v5] ∧ HouseAt CH CD Hx H' p h ∧ Hx r = some (.lst (out.map V.int)) ∧ Same H Hx ∧
      PyFlat.calls PySq29.shape f (ns.drop st) = some cs ∧ (∀ c ∈ cs, Sq29Neutral.asked1 c = true) ∧ PySq29.answers ns = out ++ PyFlat.told (PyFlat.played Sq29Neutral.step h cs) ∧ st ≤ ns.length ∧ m = ns.length - st,
      ⟨_, 0, ns.length, Sq29.fresh, [], raw, none, none, _, rfl, A2, upd_same, Same.new nrH, hraw, hall, etot, Nat.zero_le _, rfl⟩, ?_⟩
    rintro m σ H' ⟨st, f, h, out, cs, v4, v5, Hx, rfl, A, hrx, sx, hcs, hca, heq, hst, rfl⟩
    have hS' : SqL K H' a (ns.map V.int) := (sx.trans A.same).seq hS
    refine ⟨_, rfl, _, rfl, a, _, rfl, .inl hS', _, _, rfl, rfl, _, rfl, ?_⟩
    rw [List.length_map]
    refine ite2 (fun hc => ?_) (fun hc => ?_)
    · have hlt : (st : Int) < (ns.length : Int) := of_decide_eq_true hc
      have hlt' : st < ns.length := by omega
      have hdrop : ns.drop st = ns[st] :: ns.drop (st + 1) := List.drop_eq_getElem_cons hlt'
      generalize ns[st] = c at hdrop
      generalize ns.drop (st + 1) = rr at hdrop
      rw [hdrop] at hcs
      obtain ⟨f', cs', h1, h10, hsz, rfl, hcs'⟩ := calls_turn hcs
      obtain ⟨x, sy⟩ := says_of (hca _ List.mem_cons_self)
      have hget : ns[st]? = some c := by
        have : ns[st]? = (ns.drop st)[0]? := by rw [List.getElem?_drop]; simp
        rw [this, hdrop]
        rfl
      have hgetV : (ns.map V.int)[st]? = some (V.int c) := by rw [List.getElem?_map, hget]; rfl
      have hdlen : (ns.drop st).length = rr.length + 1 := by rw [hdrop]; rfl
      rw [List.length_drop] at hdlen
      refine ⟨fun σ' H2 => ∃ (f : Nat) (h : Sq29.House) (out : List Int) (cs : List (List (List Int))) (v4 v5 : Option V) (Hx : Hp), σ' = [some (.ref a), some (.ref p), some (.ref r), some (.int ((st + 1 + size c : Nat) : Int)), v4, v5] ∧ HouseAt CH CD Hx H2 p h ∧ Hx r = some (.lst (out.map V.int)) ∧ Same H Hx ∧
        PyFlat.calls PySq29.shape f (ns.drop (st + 1 + size c)) = some cs ∧ (∀ c ∈ cs, Sq29Neutral.asked1 c = true) ∧ PySq29.answers ns = out ++ PyFlat.told (PyFlat.played Sq29Neutral.step h cs),
        fun σ' H2 ⟨f2, h2, out2, cs2, w4, w5, Hx2, g1, g2, g3, g4, g5, g6, g7⟩ => ⟨ns.length - (st + 1 + size c), by omega, st + 1 + size c, f2, h2, out2, cs2, w4, w5, Hx2, g1, g2, g3, g4, g5, g6, g7, by omega, rfl⟩, ?_⟩
      -- end
      refine ⟨_, rfl, _, _, rfl, rfl, _, rfl, _, rfl, a, _, _, V.int c, rfl, rfl, hS', atI_nat hgetV, c, (size c : Int), rfl, rfl, if_pos ⟨h1, h10⟩, _, _, rfl, rfl, ?_⟩
      -- answer
      refine ⟨_, rfl, _, rfl, _, rfl, a, _, _, V.int c, rfl, rfl, hS', atI_nat hgetV, _, rfl, _, rfl, _, _, rfl, rfl, _, rfl, _, rfl, _, rfl, a, _, rfl, hS', fun z hz => ?_⟩
      rw [cut_mid ns st (size c) c rr hdrop hsz]
      have s2 := Same.new (o := .lst ((rr.take (size c)).map V.int)) hz
      have et := told_cons ((h.step x).2.value :: (h.step x).2.out) (PyFlat.played Sq29Neutral.step (h.step x).1 cs')
      rw [played_cons, sy.step h, et, ← List.append_assoc] at heq
      have lout : (out ++ ((((h.step x).2.value :: (h.step x).2.out).length : Int) :: ((h.step x).2.value :: (h.step x).2.out))).length ≤ 10000000 := by
        refine Nat.le_trans ?_ htot
        rw [heq]
        exact (List.sublist_append_left _ _).length_le
      rw [List.length_append, List.length_cons] at lout
      refine ⟨Hx, p, z, h, c, rr.take (size c), x, rfl, A.keep s2, upd_same, sy, fun H3 q A3 nq hq => ?_⟩
      have hr3 := A3.same _ _ hrx
      have nrq : r ≠ q := ne_of_none hrx nq
      have lq : ((ansV (h.step x).2).length : Nat) = ((h.step x).2.value :: (h.step x).2.out).length := List.length_map _
      -- answered.append(len(answer))
      refine ⟨_, rfl, .inl ⟨rfl, _, SqL.of hr3⟩, _, rfl, q, _, rfl, .inl (SqL.of hq), r, _, _, rfl, rfl, hr3, ?_, ?_⟩
      · rw [List.length_map]
        exact Nat.lt_of_le_of_lt (show out.length ≤ 10000000 by omega) (by decide)
      have A4 := A3.rewrite (o' := .lst (out.map V.int ++ [V.int ((ansV (h.step x).2).length : Nat)])) hrx notDeed_lst
      -- answered.extend(answer)
      refine ⟨_, rfl, .inl ⟨rfl, _, SqL.of upd_same⟩, _, rfl, r, q, _, _, rfl, rfl, upd_same, by rw [upd_ne nrq.symm]; exact hq, ?_, ?_⟩
      · rw [List.length_append, List.length_map, lq]
        simp only [List.length_cons, List.length_nil] at lout ⊢
        exact Nat.le_trans (show _ ≤ 10000000 by omega) (by decide)
      have A5 := A4.rewrite (o' := .lst ((out.map V.int ++ [V.int ((ansV (h.step x).2).length : Nat)]) ++ ansV (h.step x).2)) upd_same notDeed_lst
      -- start = end
      refine ⟨_, rfl, f', (h.step x).1, out ++ ((((h.step x).2.value :: (h.step x).2.out).length : Int) :: ((h.step x).2.value :: (h.step x).2.out)), cs', some (.int ((st : Int) + 1 + (size c : Int))), some (.ref q), _, ?_, A5, ?_, fun b u e => ?_, ?_, fun c hc => hca c (List.mem_cons_of_mem _ hc), heq⟩
      · have e9 : ((st : Int) + 1 + (size c : Int)) = ((st + 1 + size c : Nat) : Int) := by omega
        rw [← e9]
        rfl
      · rw [upd_same, lq, List.map_append, List.append_assoc]
        rfl
      · have nb : b ≠ r := ne_of_none e nrH
        rw [upd_ne nb, upd_ne nb]
        exact sx _ _ e
      · have e8 : ns.drop (st + 1 + size c) = rr.drop (size c) := by
          have : ns.drop (st + 1 + size c) = (ns.drop st).drop (1 + size c) := by rw [List.drop_drop, Nat.add_assoc]
          rw [this, hdrop, Nat.add_comm 1, List.drop_succ_cons]
        rw [e8]
        exact hcs'
    · have hge : ¬ (st : Int) < (ns.length : Int) := fun z => hc (decide_eq_true z)
      have e0 : st = ns.length := by omega
      subst e0
      rw [List.drop_length] at hcs
      have := calls_nil hcs
      subst this
      refine ⟨_, rfl, kk _ r ?_⟩
      rw [heq]
      show H' r = some (.lst ((out ++ []).map V.int))
      rw [List.append_nil]
      exact A.same _ _ hrx
end
end Mp

namespace Mp
open PySem L2 Mr Mh
/-- the sizes as they are written at the top -/
def sizesOk (es : List DictEntry) : Bool := (es.all fun e => match e.key with | .int k _ => e.hash == hashInt k | _ => false) && ([1, 2, 3, 4, 5, 6, 7, 8, 9, 10] : List Int).all fun k => match es.find? fun e => Value.isInt k e.key with | some ⟨_, _, .int v _⟩ => v == (size k : Int) | _ => false
theorem sizes_tab {K : PySem.W.Frag} {d : Addr} {es : Array DictEntry} {n : Nat} (hl : K.lookup d = some ⟨.type "dict", none, .dict es n, #[]⟩) (h : sizesOk es.toList = true) : Mr.IntTable K d sizeTab := by
  unfold sizesOk at h
  rw [Bool.and_eq_true] at h
  refine ⟨es, n, hl, fun e he => ?_, fun k v hk => ?_⟩
  · have q := List.all_eq_true.mp h.1 e he
    split at q
    · rename_i k t ek
      exact ⟨k, t, ek, eq_of_beq q⟩
    · cases q
  · unfold sizeTab at hk
    split at hk
    · rename_i hr
      have hm : k ∈ ([1, 2, 3, 4, 5, 6, 7, 8, 9, 10] : List Int) := by
        have : k = 1 ∨ k = 2 ∨ k = 3 ∨ k = 4 ∨ k = 5 ∨ k = 6 ∨ k = 7 ∨ k = 8 ∨ k = 9 ∨ k = 10 := by omega
        simpa using this
      have q := List.all_eq_true.mp h.2 k hm
      split at q
      · rename_i hs ky v' t' ef
        have e1 : v' = (size k : Int) := eq_of_beq q
        have e2 : (size k : Int) = v := Option.some.inj hk
        refine ⟨t', ?_⟩
        obtain ⟨l⟩ := es
        unfold findBy
        rw [List.find?_toArray, ef, ← e2, ← e1]
        rfl
      · cases q
    · cases hk
theorem all_mk {P : Program} {w : World} {K : PySem.W.Frag} {h : Heap} {mg : Str → Option Value} {fa : Addr} (X : K.In h) (G : h.Ns mainGlobals mg) (hfa : mg "answers" = some (.ref fa))
    {CD CH f_dI f_st f_la f_sp f_ls f_ro f_wg f_th f_nu f_ii f_wc f_ah f_be f_hI f_se f_ha f_fu f_kn f_do f_le f_bg f_pu f_mo f_ou f_te f_me f_rm f_sm f_wm f_sa f_at f_an dS : Addr} {es : Array DictEntry} {nS : Nat} {t_BEGINNING t_OUT_OF_RANGE t_NO_SUCH t_NOT_IN_ROW t_NO_MORE_DEEDS t_MOST_DESKS t_MOST_DEEDS t_BEGIN t_PUT t_MOVE t_OUT t_TELL t_MEET t_ROW t_SPOTS t_WAITS t_LEFT t_RIGHT : Tok}
    {od_dI an_dI od_st an_st od_la an_la od_sp an_sp od_ls an_ls od_ro an_ro od_wg an_wg od_th an_th od_nu an_nu od_ii an_ii od_wc an_wc od_ah an_ah od_be an_be od_hI an_hI od_se an_se od_ha an_ha od_fu an_fu od_kn an_kn od_do an_do od_le an_le od_bg an_bg od_pu an_pu od_mo an_mo od_ou an_ou od_te an_te od_me an_me od_rm an_rm od_sm an_sm od_wm an_wm od_sa an_sa od_at an_at od_an an_an : Option Addr}
    {sl_dI sl_st sl_la sl_sp sl_ls sl_ro sl_wg sl_th sl_nu sl_ii sl_wc sl_ah sl_be sl_hI sl_se sl_ha sl_fu sl_kn sl_do sl_le sl_bg sl_pu sl_mo sl_ou sl_te sl_me sl_rm sl_sm sl_wm sl_sa sl_at sl_an : Array (Option Value)}
    {oc_dI kV_dI dc_dI pm_dI cd_dI ct_dI oc_st kV_st dc_st pm_st cd_st ct_st oc_la kV_la dc_la pm_la cd_la ct_la oc_sp kV_sp dc_sp pm_sp cd_sp ct_sp oc_ls kV_ls dc_ls pm_ls cd_ls ct_ls oc_ro kV_ro dc_ro pm_ro cd_ro ct_ro oc_wg kV_wg dc_wg pm_wg cd_wg ct_wg oc_th kV_th dc_th pm_th cd_th ct_th oc_nu kV_nu dc_nu pm_nu cd_nu ct_nu oc_ii kV_ii dc_ii pm_ii cd_ii ct_ii oc_wc kV_wc dc_wc pm_wc cd_wc ct_wc oc_ah kV_ah dc_ah pm_ah cd_ah ct_ah oc_be kV_be dc_be pm_be cd_be ct_be oc_hI kV_hI dc_hI pm_hI cd_hI ct_hI oc_se kV_se dc_se pm_se cd_se ct_se oc_ha kV_ha dc_ha pm_ha cd_ha ct_ha oc_fu kV_fu dc_fu pm_fu cd_fu ct_fu oc_kn kV_kn dc_kn pm_kn cd_kn ct_kn oc_do kV_do dc_do pm_do cd_do ct_do oc_le kV_le dc_le pm_le cd_le ct_le oc_bg kV_bg dc_bg pm_bg cd_bg ct_bg oc_pu kV_pu dc_pu pm_pu cd_pu ct_pu oc_mo kV_mo dc_mo pm_mo cd_mo ct_mo oc_ou kV_ou dc_ou pm_ou cd_ou ct_ou oc_te kV_te dc_te pm_te cd_te ct_te oc_me kV_me dc_me pm_me cd_me ct_me oc_rm kV_rm dc_rm pm_rm cd_rm ct_rm oc_sm kV_sm dc_sm pm_sm cd_sm ct_sm oc_wm kV_wm dc_wm pm_wm cd_wm ct_wm oc_sa kV_sa dc_sa pm_sa cd_sa ct_sa oc_at kV_at dc_at pm_at cd_at ct_at oc_an kV_an dc_an pm_an cd_an ct_an : Value}
    (aCD : PySem.W.nsIn K mainGlobals "Deed" = some (some (.ref CD)))
    (pgD : PySem.W.plainGet K CD Str.empty = true)
    (hdD : PySem.W.hasDictIn K CD = true)
    (poD : PySem.W.plainOver K CD = true)
    (saD : PySem.W.findIn K (.ref CD) "__setattr__" = some (some (.builtin "object.__setattr__")))
    (mkD : PySem.W.makesIn K CD = true)
    (kcD : PySem.W.keepIn K (.ref CD) = true)
    (nD_number : PySem.W.findIn K (.ref CD) "number" = some none)
    (nD_count : PySem.W.findIn K (.ref CD) "count" = some none)
    (nD_desk : PySem.W.findIn K (.ref CD) "desk" = some none)
    (nD_thing : PySem.W.findIn K (.ref CD) "thing" = some none)
    (nD_place : PySem.W.findIn K (.ref CD) "place" = some none)
    (aCH : PySem.W.nsIn K mainGlobals "House" = some (some (.ref CH)))
    (pgH : PySem.W.plainGet K CH Str.empty = true)
    (hdH : PySem.W.hasDictIn K CH = true)
    (poH : PySem.W.plainOver K CH = true)
    (saH : PySem.W.findIn K (.ref CH) "__setattr__" = some (some (.builtin "object.__setattr__")))
    (mkH : PySem.W.makesIn K CH = true)
    (kcH : PySem.W.keepIn K (.ref CH) = true)
    (nH_deeds : PySem.W.findIn K (.ref CH) "deeds" = some none)
    (nH_things : PySem.W.findIn K (.ref CH) "things" = some none)
    (nH_known : PySem.W.findIn K (.ref CH) "known" = some none)
    (a_dI : PySem.W.findIn K (.ref CD) "__init__" = some (some (.ref f_dI)))
    (i_dI : PySem.W.isFn K (.ref f_dI) = true)
    (l_dI : K.lookup f_dI = some ⟨oc_dI, od_dI, .func (PySem.W.fnOf "__init__" "Deed.__init__" (defArgs sDInit) (defBody sDInit) (defScope sDInit) .none kV_dI dc_dI pm_dI an_dI cd_dI ct_dI), sl_dI⟩)
    (c_dI : PySem.W.codeIn K cd_dI "Deed.__init__" = true)
    (k_dI : PySem.W.keepIn K (.ref f_dI) = true)
    (a_st : PySem.W.nsIn K mainGlobals "stamp" = some (some (.ref f_st)))
    (l_st : K.lookup f_st = some ⟨oc_st, od_st, .func (PySem.W.fnOf "stamp" "stamp" (defArgs sStamp) (defBody sStamp) (defScope sStamp) .none kV_st dc_st pm_st an_st cd_st ct_st), sl_st⟩)
    (c_st : PySem.W.codeIn K cd_st "stamp" = true)
    (k_st : PySem.W.keepIn K (.ref f_st) = true)
    (a_la : PySem.W.nsIn K mainGlobals "latest_first_by_place" = some (some (.ref f_la)))
    (l_la : K.lookup f_la = some ⟨oc_la, od_la, .func (PySem.W.fnOf "latest_first_by_place" "latest_first_by_place" (defArgs sLatest) (defBody sLatest) (defScope sLatest) .none kV_la dc_la pm_la an_la cd_la ct_la), sl_la⟩)
    (c_la : PySem.W.codeIn K cd_la "latest_first_by_place" = true)
    (k_la : PySem.W.keepIn K (.ref f_la) = true)
    (a_sp : PySem.W.nsIn K mainGlobals "spots_of" = some (some (.ref f_sp)))
    (l_sp : K.lookup f_sp = some ⟨oc_sp, od_sp, .func (PySem.W.fnOf "spots_of" "spots_of" (defArgs sSpots) (defBody sSpots) (defScope sSpots) .none kV_sp dc_sp pm_sp an_sp cd_sp ct_sp), sl_sp⟩)
    (c_sp : PySem.W.codeIn K cd_sp "spots_of" = true)
    (k_sp : PySem.W.keepIn K (.ref f_sp) = true)
    (a_ls : PySem.W.nsIn K mainGlobals "last_deed_by_thing" = some (some (.ref f_ls)))
    (l_ls : K.lookup f_ls = some ⟨oc_ls, od_ls, .func (PySem.W.fnOf "last_deed_by_thing" "last_deed_by_thing" (defArgs sLast) (defBody sLast) (defScope sLast) .none kV_ls dc_ls pm_ls an_ls cd_ls ct_ls), sl_ls⟩)
    (c_ls : PySem.W.codeIn K cd_ls "last_deed_by_thing" = true)
    (k_ls : PySem.W.keepIn K (.ref f_ls) = true)
    (a_ro : PySem.W.nsIn K mainGlobals "row_of" = some (some (.ref f_ro)))
    (l_ro : K.lookup f_ro = some ⟨oc_ro, od_ro, .func (PySem.W.fnOf "row_of" "row_of" (defArgs sRow) (defBody sRow) (defScope sRow) .none kV_ro dc_ro pm_ro an_ro cd_ro ct_ro), sl_ro⟩)
    (c_ro : PySem.W.codeIn K cd_ro "row_of" = true)
    (k_ro : PySem.W.keepIn K (.ref f_ro) = true)
    (a_wg : PySem.W.nsIn K mainGlobals "waiting_of" = some (some (.ref f_wg)))
    (l_wg : K.lookup f_wg = some ⟨oc_wg, od_wg, .func (PySem.W.fnOf "waiting_of" "waiting_of" (defArgs sWaiting) (defBody sWaiting) (defScope sWaiting) .none kV_wg dc_wg pm_wg an_wg cd_wg ct_wg), sl_wg⟩)
    (c_wg : PySem.W.codeIn K cd_wg "waiting_of" = true)
    (k_wg : PySem.W.keepIn K (.ref f_wg) = true)
    (a_th : PySem.W.nsIn K mainGlobals "things_of" = some (some (.ref f_th)))
    (l_th : K.lookup f_th = some ⟨oc_th, od_th, .func (PySem.W.fnOf "things_of" "things_of" (defArgs sThings) (defBody sThings) (defScope sThings) .none kV_th dc_th pm_th an_th cd_th ct_th), sl_th⟩)
    (c_th : PySem.W.codeIn K cd_th "things_of" = true)
    (k_th : PySem.W.keepIn K (.ref f_th) = true)
    (a_nu : PySem.W.nsIn K mainGlobals "numbers_of" = some (some (.ref f_nu)))
    (l_nu : K.lookup f_nu = some ⟨oc_nu, od_nu, .func (PySem.W.fnOf "numbers_of" "numbers_of" (defArgs sNumbers) (defBody sNumbers) (defScope sNumbers) .none kV_nu dc_nu pm_nu an_nu cd_nu ct_nu), sl_nu⟩)
    (c_nu : PySem.W.codeIn K cd_nu "numbers_of" = true)
    (k_nu : PySem.W.keepIn K (.ref f_nu) = true)
    (a_ii : PySem.W.nsIn K mainGlobals "is_in" = some (some (.ref f_ii)))
    (l_ii : K.lookup f_ii = some ⟨oc_ii, od_ii, .func (PySem.W.fnOf "is_in" "is_in" (defArgs sIsIn) (defBody sIsIn) (defScope sIsIn) .none kV_ii dc_ii pm_ii an_ii cd_ii ct_ii), sl_ii⟩)
    (c_ii : PySem.W.codeIn K cd_ii "is_in" = true)
    (k_ii : PySem.W.keepIn K (.ref f_ii) = true)
    (a_wc : PySem.W.nsIn K mainGlobals "with_count" = some (some (.ref f_wc)))
    (l_wc : K.lookup f_wc = some ⟨oc_wc, od_wc, .func (PySem.W.fnOf "with_count" "with_count" (defArgs sWith) (defBody sWith) (defScope sWith) .none kV_wc dc_wc pm_wc an_wc cd_wc ct_wc), sl_wc⟩)
    (c_wc : PySem.W.codeIn K cd_wc "with_count" = true)
    (k_wc : PySem.W.keepIn K (.ref f_wc) = true)
    (a_ah : PySem.W.nsIn K mainGlobals "spot_ahead" = some (some (.ref f_ah)))
    (l_ah : K.lookup f_ah = some ⟨oc_ah, od_ah, .func (PySem.W.fnOf "spot_ahead" "spot_ahead" (defArgs sAhead) (defBody sAhead) (defScope sAhead) .none kV_ah dc_ah pm_ah an_ah cd_ah ct_ah), sl_ah⟩)
    (c_ah : PySem.W.codeIn K cd_ah "spot_ahead" = true)
    (k_ah : PySem.W.keepIn K (.ref f_ah) = true)
    (a_be : PySem.W.nsIn K mainGlobals "place_right_behind" = some (some (.ref f_be)))
    (l_be : K.lookup f_be = some ⟨oc_be, od_be, .func (PySem.W.fnOf "place_right_behind" "place_right_behind" (defArgs sBehind) (defBody sBehind) (defScope sBehind) .none kV_be dc_be pm_be an_be cd_be ct_be), sl_be⟩)
    (c_be : PySem.W.codeIn K cd_be "place_right_behind" = true)
    (k_be : PySem.W.keepIn K (.ref f_be) = true)
    (a_hI : PySem.W.findIn K (.ref CH) "__init__" = some (some (.ref f_hI)))
    (i_hI : PySem.W.isFn K (.ref f_hI) = true)
    (l_hI : K.lookup f_hI = some ⟨oc_hI, od_hI, .func (PySem.W.fnOf "__init__" "House.__init__" (defArgs sHInit) (defBody sHInit) (defScope sHInit) .none kV_hI dc_hI pm_hI an_hI cd_hI ct_hI), sl_hI⟩)
    (c_hI : PySem.W.codeIn K cd_hI "House.__init__" = true)
    (k_hI : PySem.W.keepIn K (.ref f_hI) = true)
    (a_se : PySem.W.findIn K (.ref CH) "settle" = some (some (.ref f_se)))
    (i_se : PySem.W.isFn K (.ref f_se) = true)
    (l_se : K.lookup f_se = some ⟨oc_se, od_se, .func (PySem.W.fnOf "settle" "House.settle" (defArgs sSettle) (defBody sSettle) (defScope sSettle) .none kV_se dc_se pm_se an_se cd_se ct_se), sl_se⟩)
    (c_se : PySem.W.codeIn K cd_se "House.settle" = true)
    (k_se : PySem.W.keepIn K (.ref f_se) = true)
    (a_ha : PySem.W.findIn K (.ref CH) "has_desk" = some (some (.ref f_ha)))
    (i_ha : PySem.W.isFn K (.ref f_ha) = true)
    (l_ha : K.lookup f_ha = some ⟨oc_ha, od_ha, .func (PySem.W.fnOf "has_desk" "House.has_desk" (defArgs sHas) (defBody sHas) (defScope sHas) .none kV_ha dc_ha pm_ha an_ha cd_ha ct_ha), sl_ha⟩)
    (c_ha : PySem.W.codeIn K cd_ha "House.has_desk" = true)
    (k_ha : PySem.W.keepIn K (.ref f_ha) = true)
    (a_fu : PySem.W.findIn K (.ref CH) "is_full" = some (some (.ref f_fu)))
    (i_fu : PySem.W.isFn K (.ref f_fu) = true)
    (l_fu : K.lookup f_fu = some ⟨oc_fu, od_fu, .func (PySem.W.fnOf "is_full" "House.is_full" (defArgs sFull) (defBody sFull) (defScope sFull) .none kV_fu dc_fu pm_fu an_fu cd_fu ct_fu), sl_fu⟩)
    (c_fu : PySem.W.codeIn K cd_fu "House.is_full" = true)
    (k_fu : PySem.W.keepIn K (.ref f_fu) = true)
    (a_kn : PySem.W.findIn K (.ref CH) "deeds_known" = some (some (.ref f_kn)))
    (i_kn : PySem.W.isFn K (.ref f_kn) = true)
    (l_kn : K.lookup f_kn = some ⟨oc_kn, od_kn, .func (PySem.W.fnOf "deeds_known" "House.deeds_known" (defArgs sKnown) (defBody sKnown) (defScope sKnown) .none kV_kn dc_kn pm_kn an_kn cd_kn ct_kn), sl_kn⟩)
    (c_kn : PySem.W.codeIn K cd_kn "House.deeds_known" = true)
    (k_kn : PySem.W.keepIn K (.ref f_kn) = true)
    (a_do : PySem.W.findIn K (.ref CH) "do_deed" = some (some (.ref f_do)))
    (i_do : PySem.W.isFn K (.ref f_do) = true)
    (l_do : K.lookup f_do = some ⟨oc_do, od_do, .func (PySem.W.fnOf "do_deed" "House.do_deed" (defArgs sDo) (defBody sDo) (defScope sDo) .none kV_do dc_do pm_do an_do cd_do ct_do), sl_do⟩)
    (c_do : PySem.W.codeIn K cd_do "House.do_deed" = true)
    (k_do : PySem.W.keepIn K (.ref f_do) = true)
    (a_le : PySem.W.findIn K (.ref CH) "learn_from" = some (some (.ref f_le)))
    (i_le : PySem.W.isFn K (.ref f_le) = true)
    (l_le : K.lookup f_le = some ⟨oc_le, od_le, .func (PySem.W.fnOf "learn_from" "House.learn_from" (defArgs sLearn) (defBody sLearn) (defScope sLearn) .none kV_le dc_le pm_le an_le cd_le ct_le), sl_le⟩)
    (c_le : PySem.W.codeIn K cd_le "House.learn_from" = true)
    (k_le : PySem.W.keepIn K (.ref f_le) = true)
    (a_bg : PySem.W.findIn K (.ref CH) "begin" = some (some (.ref f_bg)))
    (i_bg : PySem.W.isFn K (.ref f_bg) = true)
    (l_bg : K.lookup f_bg = some ⟨oc_bg, od_bg, .func (PySem.W.fnOf "begin" "House.begin" (defArgs sBegin) (defBody sBegin) (defScope sBegin) .none kV_bg dc_bg pm_bg an_bg cd_bg ct_bg), sl_bg⟩)
    (c_bg : PySem.W.codeIn K cd_bg "House.begin" = true)
    (k_bg : PySem.W.keepIn K (.ref f_bg) = true)
    (a_pu : PySem.W.findIn K (.ref CH) "put" = some (some (.ref f_pu)))
    (i_pu : PySem.W.isFn K (.ref f_pu) = true)
    (l_pu : K.lookup f_pu = some ⟨oc_pu, od_pu, .func (PySem.W.fnOf "put" "House.put" (defArgs sPut) (defBody sPut) (defScope sPut) .none kV_pu dc_pu pm_pu an_pu cd_pu ct_pu), sl_pu⟩)
    (c_pu : PySem.W.codeIn K cd_pu "House.put" = true)
    (k_pu : PySem.W.keepIn K (.ref f_pu) = true)
    (a_mo : PySem.W.findIn K (.ref CH) "move" = some (some (.ref f_mo)))
    (i_mo : PySem.W.isFn K (.ref f_mo) = true)
    (l_mo : K.lookup f_mo = some ⟨oc_mo, od_mo, .func (PySem.W.fnOf "move" "House.move" (defArgs sMove) (defBody sMove) (defScope sMove) .none kV_mo dc_mo pm_mo an_mo cd_mo ct_mo), sl_mo⟩)
    (c_mo : PySem.W.codeIn K cd_mo "House.move" = true)
    (k_mo : PySem.W.keepIn K (.ref f_mo) = true)
    (a_ou : PySem.W.findIn K (.ref CH) "out" = some (some (.ref f_ou)))
    (i_ou : PySem.W.isFn K (.ref f_ou) = true)
    (l_ou : K.lookup f_ou = some ⟨oc_ou, od_ou, .func (PySem.W.fnOf "out" "House.out" (defArgs sOut) (defBody sOut) (defScope sOut) .none kV_ou dc_ou pm_ou an_ou cd_ou ct_ou), sl_ou⟩)
    (c_ou : PySem.W.codeIn K cd_ou "House.out" = true)
    (k_ou : PySem.W.keepIn K (.ref f_ou) = true)
    (a_te : PySem.W.findIn K (.ref CH) "tell" = some (some (.ref f_te)))
    (i_te : PySem.W.isFn K (.ref f_te) = true)
    (l_te : K.lookup f_te = some ⟨oc_te, od_te, .func (PySem.W.fnOf "tell" "House.tell" (defArgs sTell) (defBody sTell) (defScope sTell) .none kV_te dc_te pm_te an_te cd_te ct_te), sl_te⟩)
    (c_te : PySem.W.codeIn K cd_te "House.tell" = true)
    (k_te : PySem.W.keepIn K (.ref f_te) = true)
    (a_me : PySem.W.findIn K (.ref CH) "meet" = some (some (.ref f_me)))
    (i_me : PySem.W.isFn K (.ref f_me) = true)
    (l_me : K.lookup f_me = some ⟨oc_me, od_me, .func (PySem.W.fnOf "meet" "House.meet" (defArgs sMeet) (defBody sMeet) (defScope sMeet) .none kV_me dc_me pm_me an_me cd_me ct_me), sl_me⟩)
    (c_me : PySem.W.codeIn K cd_me "House.meet" = true)
    (k_me : PySem.W.keepIn K (.ref f_me) = true)
    (a_rm : PySem.W.findIn K (.ref CH) "row" = some (some (.ref f_rm)))
    (i_rm : PySem.W.isFn K (.ref f_rm) = true)
    (l_rm : K.lookup f_rm = some ⟨oc_rm, od_rm, .func (PySem.W.fnOf "row" "House.row" (defArgs sRowM) (defBody sRowM) (defScope sRowM) .none kV_rm dc_rm pm_rm an_rm cd_rm ct_rm), sl_rm⟩)
    (c_rm : PySem.W.codeIn K cd_rm "House.row" = true)
    (k_rm : PySem.W.keepIn K (.ref f_rm) = true)
    (a_sm : PySem.W.findIn K (.ref CH) "spots" = some (some (.ref f_sm)))
    (i_sm : PySem.W.isFn K (.ref f_sm) = true)
    (l_sm : K.lookup f_sm = some ⟨oc_sm, od_sm, .func (PySem.W.fnOf "spots" "House.spots" (defArgs sSpotsM) (defBody sSpotsM) (defScope sSpotsM) .none kV_sm dc_sm pm_sm an_sm cd_sm ct_sm), sl_sm⟩)
    (c_sm : PySem.W.codeIn K cd_sm "House.spots" = true)
    (k_sm : PySem.W.keepIn K (.ref f_sm) = true)
    (a_wm : PySem.W.findIn K (.ref CH) "waits" = some (some (.ref f_wm)))
    (i_wm : PySem.W.isFn K (.ref f_wm) = true)
    (l_wm : K.lookup f_wm = some ⟨oc_wm, od_wm, .func (PySem.W.fnOf "waits" "House.waits" (defArgs sWaitsM) (defBody sWaitsM) (defScope sWaitsM) .none kV_wm dc_wm pm_wm an_wm cd_wm ct_wm), sl_wm⟩)
    (c_wm : PySem.W.codeIn K cd_wm "House.waits" = true)
    (k_wm : PySem.W.keepIn K (.ref f_wm) = true)
    (a_sa : PySem.W.findIn K (.ref CH) "same" = some (some (.ref f_sa)))
    (i_sa : PySem.W.isFn K (.ref f_sa) = true)
    (l_sa : K.lookup f_sa = some ⟨oc_sa, od_sa, .func (PySem.W.fnOf "same" "House.same" (defArgs sSame) (defBody sSame) (defScope sSame) .none kV_sa dc_sa pm_sa an_sa cd_sa ct_sa), sl_sa⟩)
    (c_sa : PySem.W.codeIn K cd_sa "House.same" = true)
    (k_sa : PySem.W.keepIn K (.ref f_sa) = true)
    (a_at : PySem.W.nsIn K mainGlobals "answer_to" = some (some (.ref f_at)))
    (l_at : K.lookup f_at = some ⟨oc_at, od_at, .func (PySem.W.fnOf "answer_to" "answer_to" (defArgs sAnsTo) (defBody sAnsTo) (defScope sAnsTo) .none kV_at dc_at pm_at an_at cd_at ct_at), sl_at⟩)
    (c_at : PySem.W.codeIn K cd_at "answer_to" = true)
    (k_at : PySem.W.keepIn K (.ref f_at) = true)
    (a_an : PySem.W.nsIn K mainGlobals "answers" = some (some (.ref f_an)))
    (l_an : K.lookup f_an = some ⟨oc_an, od_an, .func (PySem.W.fnOf "answers" "answers" (defArgs sAnswers) (defBody sAnswers) (defScope sAnswers) .none kV_an dc_an pm_an an_an cd_an ct_an), sl_an⟩)
    (c_an : PySem.W.codeIn K cd_an "answers" = true)
    (k_an : PySem.W.keepIn K (.ref f_an) = true)
    (g_BEGINNING : PySem.W.nsIn K mainGlobals "BEGINNING" = some (some (.int (-1) t_BEGINNING)))
    (g_OUT_OF_RANGE : PySem.W.nsIn K mainGlobals "OUT_OF_RANGE" = some (some (.int (-1) t_OUT_OF_RANGE)))
    (g_NO_SUCH : PySem.W.nsIn K mainGlobals "NO_SUCH" = some (some (.int (-2) t_NO_SUCH)))
    (g_NOT_IN_ROW : PySem.W.nsIn K mainGlobals "NOT_IN_ROW" = some (some (.int (-3) t_NOT_IN_ROW)))
    (g_NO_MORE_DEEDS : PySem.W.nsIn K mainGlobals "NO_MORE_DEEDS" = some (some (.int (-5) t_NO_MORE_DEEDS)))
    (g_MOST_DESKS : PySem.W.nsIn K mainGlobals "MOST_DESKS" = some (some (.int 8 t_MOST_DESKS)))
    (g_MOST_DEEDS : PySem.W.nsIn K mainGlobals "MOST_DEEDS" = some (some (.int 120 t_MOST_DEEDS)))
    (g_BEGIN : PySem.W.nsIn K mainGlobals "BEGIN" = some (some (.int 1 t_BEGIN)))
    (g_PUT : PySem.W.nsIn K mainGlobals "PUT" = some (some (.int 2 t_PUT)))
    (g_MOVE : PySem.W.nsIn K mainGlobals "MOVE" = some (some (.int 3 t_MOVE)))
    (g_OUT : PySem.W.nsIn K mainGlobals "OUT" = some (some (.int 4 t_OUT)))
    (g_TELL : PySem.W.nsIn K mainGlobals "TELL" = some (some (.int 5 t_TELL)))
    (g_MEET : PySem.W.nsIn K mainGlobals "MEET" = some (some (.int 6 t_MEET)))
    (g_ROW : PySem.W.nsIn K mainGlobals "ROW" = some (some (.int 7 t_ROW)))
    (g_SPOTS : PySem.W.nsIn K mainGlobals "SPOTS" = some (some (.int 8 t_SPOTS)))
    (g_WAITS : PySem.W.nsIn K mainGlobals "WAITS" = some (some (.int 9 t_WAITS)))
    (g_LEFT : PySem.W.nsIn K mainGlobals "LEFT" = some (some (.str "left" t_LEFT)))
    (g_RIGHT : PySem.W.nsIn K mainGlobals "RIGHT" = some (some (.str "right" t_RIGHT)))
    (z_sorted : PySem.W.nsIn K mainGlobals "sorted" = some none)
    (z_len : PySem.W.nsIn K mainGlobals "len" = some none)
    (z_list : PySem.W.nsIn K mainGlobals "list" = some none)
    (z_max : PySem.W.nsIn K mainGlobals "max" = some none)
    (z_range : PySem.W.nsIn K mainGlobals "range" = some none)
    (g_SIZES : PySem.W.nsIn K mainGlobals "SIZES" = some (some (.ref dS)))
    (l_SIZES : K.lookup dS = some ⟨.type "dict", none, .dict es nS, #[]⟩)
    (e_SIZES : sizesOk es.toList = true)
    : ∃ fd : FuncData, (∀ (s : Shared) (us : List Value), us.length = (["calls"] : List Str).length → BindsTo s fd ⟨us, []⟩ ((["calls"] : List Str).zip us)) ∧ ∀ base : Heap, K.In base → base.Ns mainGlobals mg → FnOk P w K mg base CX0 10 fa fd ["calls"] (spAns K) := by
  have e := hfa.symm.trans (PySem.W.mg_of X G a_an)
  cases e
  have T : TDeed K mg CD := ⟨⟨pgD, hdD, poD, saD⟩, nD_number, nD_count, nD_desk, nD_thing, nD_place, PySem.W.mg_of X G aCD, PySem.W.mg_none_of X G z_sorted, PySem.W.mg_none_of X G z_len, PySem.W.mg_none_of X G z_list, PySem.W.mg_none_of X G z_max, PySem.W.mg_none_of X G z_range⟩
  have TH : THouse K mg CH := ⟨⟨pgH, hdH, poH, saH⟩, nH_deeds, nH_things, nH_known, PySem.W.mg_of X G aCH, ⟨_, PySem.W.mg_of X G g_MOST_DEEDS⟩⟩
  have TC : TConst mg := ⟨⟨_, PySem.W.mg_of X G g_BEGINNING⟩, ⟨_, PySem.W.mg_of X G g_RIGHT⟩, ⟨_, PySem.W.mg_of X G g_LEFT⟩⟩
  have TR : TRef mg := ⟨⟨_, PySem.W.mg_of X G g_OUT_OF_RANGE⟩, ⟨_, PySem.W.mg_of X G g_NO_SUCH⟩, ⟨_, PySem.W.mg_of X G g_NOT_IN_ROW⟩, ⟨_, PySem.W.mg_of X G g_NO_MORE_DEEDS⟩, ⟨_, PySem.W.mg_of X G g_MOST_DESKS⟩⟩
  have TQ : TCalls mg := ⟨⟨_, PySem.W.mg_of X G g_BEGIN⟩, ⟨_, PySem.W.mg_of X G g_PUT⟩, ⟨_, PySem.W.mg_of X G g_MOVE⟩, ⟨_, PySem.W.mg_of X G g_OUT⟩, ⟨_, PySem.W.mg_of X G g_TELL⟩, ⟨_, PySem.W.mg_of X G g_MEET⟩, ⟨_, PySem.W.mg_of X G g_ROW⟩, ⟨_, PySem.W.mg_of X G g_SPOTS⟩, ⟨_, PySem.W.mg_of X G g_WAITS⟩⟩
  have TS : Mr.IntTable K dS sizeTab := sizes_tab l_SIZES e_SIZES
  have F_dI := fun_mk (st := sDInit) l_dI c_dI k_dI
  have b_dI := F_dI.binds (ps := ["self", "number", "count", "desk", "thing", "place"]) fun _ _ _ _ _ _ us hl => match us, hl with | [_, _, _, _, _, _], _ => rfl
  have m_dI : Meth K CD "__init__" f_dI := ⟨a_dI, i_dI, k_dI⟩
  have F_st := fun_mk (st := sStamp) l_st c_st k_st
  have b_st := F_st.binds (ps := ["deed"]) fun _ _ _ _ _ _ us hl => match us, hl with | [_], _ => rfl
  have q_st := PySem.W.mg_of X G a_st
  have F_la := fun_mk (st := sLatest) l_la c_la k_la
  have b_la := F_la.binds (ps := ["deeds"]) fun _ _ _ _ _ _ us hl => match us, hl with | [_], _ => rfl
  have q_la := PySem.W.mg_of X G a_la
  have F_sp := fun_mk (st := sSpots) l_sp c_sp k_sp
  have b_sp := F_sp.binds (ps := ["deeds"]) fun _ _ _ _ _ _ us hl => match us, hl with | [_], _ => rfl
  have q_sp := PySem.W.mg_of X G a_sp
  have F_ls := fun_mk (st := sLast) l_ls c_ls k_ls
  have b_ls := F_ls.binds (ps := ["deeds"]) fun _ _ _ _ _ _ us hl => match us, hl with | [_], _ => rfl
  have q_ls := PySem.W.mg_of X G a_ls
  have F_ro := fun_mk (st := sRow) l_ro c_ro k_ro
  have b_ro := F_ro.binds (ps := ["deeds"]) fun _ _ _ _ _ _ us hl => match us, hl with | [_], _ => rfl
  have q_ro := PySem.W.mg_of X G a_ro
  have F_wg := fun_mk (st := sWaiting) l_wg c_wg k_wg
  have b_wg := F_wg.binds (ps := ["deeds"]) fun _ _ _ _ _ _ us hl => match us, hl with | [_], _ => rfl
  have q_wg := PySem.W.mg_of X G a_wg
  have F_th := fun_mk (st := sThings) l_th c_th k_th
  have b_th := F_th.binds (ps := ["row"]) fun _ _ _ _ _ _ us hl => match us, hl with | [_], _ => rfl
  have q_th := PySem.W.mg_of X G a_th
  have F_nu := fun_mk (st := sNumbers) l_nu c_nu k_nu
  have b_nu := F_nu.binds (ps := ["deeds"]) fun _ _ _ _ _ _ us hl => match us, hl with | [_], _ => rfl
  have q_nu := PySem.W.mg_of X G a_nu
  have F_ii := fun_mk (st := sIsIn) l_ii c_ii k_ii
  have b_ii := F_ii.binds (ps := ["deed", "deeds"]) fun _ _ _ _ _ _ us hl => match us, hl with | [_, _], _ => rfl
  have q_ii := PySem.W.mg_of X G a_ii
  have F_wc := fun_mk (st := sWith) l_wc c_wc k_wc
  have b_wc := F_wc.binds (ps := ["numbers"]) fun _ _ _ _ _ _ us hl => match us, hl with | [_], _ => rfl
  have q_wc := PySem.W.mg_of X G a_wc
  have F_ah := fun_mk (st := sAhead) l_ah c_ah k_ah
  have b_ah := F_ah.binds (ps := ["row", "i"]) fun _ _ _ _ _ _ us hl => match us, hl with | [_, _], _ => rfl
  have q_ah := PySem.W.mg_of X G a_ah
  have F_be := fun_mk (st := sBehind) l_be c_be k_be
  have b_be := F_be.binds (ps := ["deeds", "number"]) fun _ _ _ _ _ _ us hl => match us, hl with | [_, _], _ => rfl
  have q_be := PySem.W.mg_of X G a_be
  have F_hI := fun_mk (st := sHInit) l_hI c_hI k_hI
  have b_hI := F_hI.binds (ps := ["self"]) fun _ _ _ _ _ _ us hl => match us, hl with | [_], _ => rfl
  have m_hI : Meth K CH "__init__" f_hI := ⟨a_hI, i_hI, k_hI⟩
  have F_se := fun_mk (st := sSettle) l_se c_se k_se
  have b_se := F_se.binds (ps := ["self", "desks"]) fun _ _ _ _ _ _ us hl => match us, hl with | [_, _], _ => rfl
  have m_se : Meth K CH "settle" f_se := ⟨a_se, i_se, k_se⟩
  have F_ha := fun_mk (st := sHas) l_ha c_ha k_ha
  have b_ha := F_ha.binds (ps := ["self", "desk"]) fun _ _ _ _ _ _ us hl => match us, hl with | [_, _], _ => rfl
  have m_ha : Meth K CH "has_desk" f_ha := ⟨a_ha, i_ha, k_ha⟩
  have F_fu := fun_mk (st := sFull) l_fu c_fu k_fu
  have b_fu := F_fu.binds (ps := ["self"]) fun _ _ _ _ _ _ us hl => match us, hl with | [_], _ => rfl
  have m_fu : Meth K CH "is_full" f_fu := ⟨a_fu, i_fu, k_fu⟩
  have F_kn := fun_mk (st := sKnown) l_kn c_kn k_kn
  have b_kn := F_kn.binds (ps := ["self", "desk"]) fun _ _ _ _ _ _ us hl => match us, hl with | [_, _], _ => rfl
  have m_kn : Meth K CH "deeds_known" f_kn := ⟨a_kn, i_kn, k_kn⟩
  have F_do := fun_mk (st := sDo) l_do c_do k_do
  have b_do := F_do.binds (ps := ["self", "desk", "thing", "place"]) fun _ _ _ _ _ _ us hl => match us, hl with | [_, _, _, _], _ => rfl
  have m_do : Meth K CH "do_deed" f_do := ⟨a_do, i_do, k_do⟩
  have F_le := fun_mk (st := sLearn) l_le c_le k_le
  have b_le := F_le.binds (ps := ["self", "desk", "other"]) fun _ _ _ _ _ _ us hl => match us, hl with | [_, _, _], _ => rfl
  have m_le : Meth K CH "learn_from" f_le := ⟨a_le, i_le, k_le⟩
  have F_bg := fun_mk (st := sBegin) l_bg c_bg k_bg
  have b_bg := F_bg.binds (ps := ["self", "desks"]) fun _ _ _ _ _ _ us hl => match us, hl with | [_, _], _ => rfl
  have m_bg : Meth K CH "begin" f_bg := ⟨a_bg, i_bg, k_bg⟩
  have F_pu := fun_mk (st := sPut) l_pu c_pu k_pu
  have b_pu := F_pu.binds (ps := ["self", "desk", "i"]) fun _ _ _ _ _ _ us hl => match us, hl with | [_, _, _], _ => rfl
  have m_pu : Meth K CH "put" f_pu := ⟨a_pu, i_pu, k_pu⟩
  have F_mo := fun_mk (st := sMove) l_mo c_mo k_mo
  have b_mo := F_mo.binds (ps := ["self", "desk", "thing", "i"]) fun _ _ _ _ _ _ us hl => match us, hl with | [_, _, _, _], _ => rfl
  have m_mo : Meth K CH "move" f_mo := ⟨a_mo, i_mo, k_mo⟩
  have F_ou := fun_mk (st := sOut) l_ou c_ou k_ou
  have b_ou := F_ou.binds (ps := ["self", "desk", "thing"]) fun _ _ _ _ _ _ us hl => match us, hl with | [_, _, _], _ => rfl
  have m_ou : Meth K CH "out" f_ou := ⟨a_ou, i_ou, k_ou⟩
  have F_te := fun_mk (st := sTell) l_te c_te k_te
  have b_te := F_te.binds (ps := ["self", "number", "desk"]) fun _ _ _ _ _ _ us hl => match us, hl with | [_, _, _], _ => rfl
  have m_te : Meth K CH "tell" f_te := ⟨a_te, i_te, k_te⟩
  have F_me := fun_mk (st := sMeet) l_me c_me k_me
  have b_me := F_me.binds (ps := ["self", "desk", "other"]) fun _ _ _ _ _ _ us hl => match us, hl with | [_, _, _], _ => rfl
  have m_me : Meth K CH "meet" f_me := ⟨a_me, i_me, k_me⟩
  have F_rm := fun_mk (st := sRowM) l_rm c_rm k_rm
  have b_rm := F_rm.binds (ps := ["self", "desk"]) fun _ _ _ _ _ _ us hl => match us, hl with | [_, _], _ => rfl
  have m_rm : Meth K CH "row" f_rm := ⟨a_rm, i_rm, k_rm⟩
  have F_sm := fun_mk (st := sSpotsM) l_sm c_sm k_sm
  have b_sm := F_sm.binds (ps := ["self", "desk"]) fun _ _ _ _ _ _ us hl => match us, hl with | [_, _], _ => rfl
  have m_sm : Meth K CH "spots" f_sm := ⟨a_sm, i_sm, k_sm⟩
  have F_wm := fun_mk (st := sWaitsM) l_wm c_wm k_wm
  have b_wm := F_wm.binds (ps := ["self", "desk"]) fun _ _ _ _ _ _ us hl => match us, hl with | [_, _], _ => rfl
  have m_wm : Meth K CH "waits" f_wm := ⟨a_wm, i_wm, k_wm⟩
  have F_sa := fun_mk (st := sSame) l_sa c_sa k_sa
  have b_sa := F_sa.binds (ps := ["self", "desk", "other"]) fun _ _ _ _ _ _ us hl => match us, hl with | [_, _, _], _ => rfl
  have m_sa : Meth K CH "same" f_sa := ⟨a_sa, i_sa, k_sa⟩
  have F_at := fun_mk (st := sAnsTo) l_at c_at k_at
  have b_at := F_at.binds (ps := ["house", "call", "numbers"]) fun _ _ _ _ _ _ us hl => match us, hl with | [_, _, _], _ => rfl
  have q_at := PySem.W.mg_of X G a_at
  have F_an := fun_mk (st := sAnswers) l_an c_an k_an
  have b_an := F_an.binds (ps := ["calls"]) fun _ _ _ _ _ _ us hl => match us, hl with | [_], _ => rfl
  have q_an := PySem.W.mg_of X G a_an
  refine ⟨PySem.W.fnOf "answers" "answers" (defArgs sAnswers) (defBody sAnswers) (defScope sAnswers) .none kV_an dc_an pm_an an_an cd_an ct_an, fun s us hu => match us, hu with | [_], _ => .of_eq rfl, fun base _ _ => ?_⟩
  have GdI : FnOk P w K mg base CX0 1 f_dI _ ["self", "number", "count", "desk", "thing", "place"] (spDInit CD) := ok_dinit F_dI T
  have Gla : FnOk P w K mg base CX0 4 f_la _ ["deeds"] (spLatest CD) := ok_latest F_la T F_st b_st q_st
  have Gsp : FnOk P w K mg base CX0 5 f_sp _ ["deeds"] (spSpots CD) := ok_spots F_sp T TC Gla k_la b_la q_la
  have Gls : FnOk P w K mg base CX0 4 f_ls _ ["deeds"] (spLast CD) := ok_last F_ls T F_st b_st q_st
  have Gro : FnOk P w K mg base CX0 6 f_ro _ ["deeds"] (spRow CD) := ok_row F_ro T Gsp k_sp b_sp q_sp Gls k_ls b_ls q_ls
  have Gth : FnOk P w K mg base CX0 1 f_th _ ["row"] (spThings CD) := ok_things F_th T
  have Gnu : FnOk P w K mg base CX0 1 f_nu _ ["deeds"] (spNumbers CD) := ok_numbers F_nu T
  have Gwc : FnOk P w K mg base CX0 1 f_wc _ ["numbers"] spWith := ok_with F_wc T
  have Gwg : FnOk P w K mg base CX0 6 f_wg _ ["deeds"] (spWaiting CD) := ok_waiting F_wg T F_st b_st q_st Gsp k_sp b_sp q_sp Gnu k_nu b_nu q_nu
  have Gii : FnOk P w K mg base CX0 6 f_ii _ ["deed", "deeds"] (spIsIn CD) := ok_isIn F_ii T Gsp k_sp b_sp q_sp Gnu k_nu b_nu q_nu
  have Gah : FnOk P w K mg base CX0 1 f_ah _ ["row", "i"] (spAhead CD) := ok_ahead F_ah T TC
  have Gbe : FnOk P w K mg base CX0 6 f_be _ ["deeds", "number"] (spBehind CD) := ok_behind F_be T TC Gsp k_sp b_sp q_sp Gnu k_nu b_nu q_nu
  have Gse : FnOk P w K mg base CX0 1 f_se _ ["self", "desks"] (spSettle CH CD) := ok_settle F_se T TH
  have GhI : FnOk P w K mg base CX0 2 f_hI _ ["self"] (spHInit CH CD) := ok_hinit F_hI TH Gse m_se b_se
  have Gha : FnOk P w K mg base CX0 1 f_ha _ ["self", "desk"] (spHas CH CD) := ok_has F_ha T TH
  have Gfu : FnOk P w K mg base CX0 1 f_fu _ ["self"] (spFull CH CD) := ok_full F_fu T TH
  have Gkn : FnOk P w K mg base CX0 1 f_kn _ ["self", "desk"] (spKnown CH CD) := ok_known F_kn T TH
  have Gdo : FnOk P w K mg base CX0 3 f_do _ ["self", "desk", "thing", "place"] (spDo CH CD) := ok_do F_do T TH Gkn m_kn b_kn ⟨mkD, a_dI, i_dI, kcD⟩ GdI b_dI
  have Gbg : FnOk P w K mg base CX0 2 f_bg _ ["self", "desks"] (spBegin CH CD) := ok_begin F_bg TH TR Gse m_se b_se
  have Gpu : FnOk P w K mg base CX0 7 f_pu _ ["self", "desk", "i"] (spPut CH CD) := ok_put F_pu T TH TR Gha m_ha b_ha Gfu m_fu b_fu Gkn m_kn b_kn Gdo m_do b_do Gro k_ro b_ro q_ro Gah k_ah b_ah q_ah Gbe k_be b_be q_be
  have Gmo : FnOk P w K mg base CX0 7 f_mo _ ["self", "desk", "thing", "i"] (spMove CH CD) := ok_move F_mo T TH TR Gha m_ha b_ha Gfu m_fu b_fu Gkn m_kn b_kn Gdo m_do b_do Gro k_ro b_ro q_ro Gth k_th b_th q_th Gah k_ah b_ah q_ah Gbe k_be b_be q_be
  have Gou : FnOk P w K mg base CX0 7 f_ou _ ["self", "desk", "thing"] (spOut CH CD) := ok_out F_ou T TH TR Gha m_ha b_ha Gfu m_fu b_fu Gkn m_kn b_kn Gdo m_do b_do Gro k_ro b_ro q_ro Gth k_th b_th q_th
  have Gte : FnOk P w K mg base CX0 7 f_te _ ["self", "number", "desk"] (spTell CH CD) := ok_tell F_te T TH TR Gha m_ha b_ha Gkn m_kn b_kn Gii k_ii b_ii q_ii
  have Gle : FnOk P w K mg base CX0 2 f_le _ ["self", "desk", "other"] (spLearn CH CD) := ok_learn F_le T TH Gkn m_kn b_kn
  have Gme : FnOk P w K mg base CX0 3 f_me _ ["self", "desk", "other"] (spMeet CH CD) := ok_meet F_me T TH TR Gha m_ha b_ha Gle m_le b_le
  have Grm : FnOk P w K mg base CX0 7 f_rm _ ["self", "desk"] (spRowM CH CD) := ok_rowM F_rm T TH TR Gha m_ha b_ha Gkn m_kn b_kn Gro k_ro b_ro q_ro Gth k_th b_th q_th Gwc k_wc b_wc q_wc
  have Gsm : FnOk P w K mg base CX0 7 f_sm _ ["self", "desk"] (spSpotsM CH CD) := ok_spotsM F_sm T TH TR Gha m_ha b_ha Gkn m_kn b_kn Gsp k_sp b_sp q_sp Gnu k_nu b_nu q_nu Gwc k_wc b_wc q_wc
  have Gwm : FnOk P w K mg base CX0 7 f_wm _ ["self", "desk"] (spWaitsM CH CD) := ok_waitsM F_wm T TH TR Gha m_ha b_ha Gkn m_kn b_kn Gwg k_wg b_wg q_wg Gnu k_nu b_nu q_nu Gwc k_wc b_wc q_wc
  have Gsa : FnOk P w K mg base CX0 8 f_sa _ ["self", "desk", "other"] (spSame CH CD) := ok_same F_sa T TH TR Gha m_ha b_ha Grm m_rm b_rm
  have Gat : FnOk P w K mg base CX0 9 f_at _ ["house", "call", "numbers"] (spAnsTo CH CD) := ok_ansTo F_at TH TQ Gbg m_bg b_bg Gpu m_pu b_pu Gmo m_mo b_mo Gou m_ou b_ou Gte m_te b_te Gme m_me b_me Grm m_rm b_rm Gsm m_sm b_sm Gwm m_wm b_wm Gsa m_sa b_sa
  exact ok_answers F_an T TH ⟨mkH, a_hI, i_hI, kcH⟩ GhI b_hI Gat k_at b_at q_at (PySem.W.mg_of X G g_SIZES) TS
end Mp
open PySem PySem.W PyProof.Rows
set_option maxRecDepth 100000 in
set_option maxHeartbeats 8000000 in
theorem PySem.Challenge.cw_manyhandssheet_s01_answers_holds : PySem.Challenge.rw_manyhandssheet_s01_answers.Holds := by
  w_on; k_headS; (case hw => exact ⟨[.list [.int 1, .int 1]], by decide +kernel, by decide +kernel⟩)
  k_fillS
  refine L2.walk_specK (r := PySem.Challenge.rw_manyhandssheet_s01_answers) (k := 10) (CX := L2.CX0) (ps := ["calls"]) (sp := Mp.spAns) (by decide +kernel) rfl rfl ⟨rfl, by decide, by decide⟩ (fun w h Y => PySem.W.kIn_of Y) ?F ?S (fun _ _ _ _ z => z)
  case F =>
    intro w mg fa h Y KX G hmg
    refine' Mp.all_mk KX G hmg ?aCD ?pgD ?hdD ?poD ?saD ?mkD ?kcD ?nD_number ?nD_count ?nD_desk ?nD_thing ?nD_place ?aCH ?pgH ?hdH ?poH ?saH ?mkH ?kcH ?nH_deeds ?nH_things ?nH_known ?a_dI ?i_dI ?l_dI ?c_dI ?k_dI ?a_st ?l_st ?c_st ?k_st ?a_la ?l_la ?c_la ?k_la ?a_sp ?l_sp ?c_sp ?k_sp ?a_ls ?l_ls ?c_ls ?k_ls ?a_ro ?l_ro ?c_ro ?k_ro ?a_wg ?l_wg ?c_wg ?k_wg ?a_th ?l_th ?c_th ?k_th ?a_nu ?l_nu ?c_nu ?k_nu ?a_ii ?l_ii ?c_ii ?k_ii ?a_wc ?l_wc ?c_wc ?k_wc ?a_ah ?l_ah ?c_ah ?k_ah ?a_be ?l_be ?c_be ?k_be ?a_hI ?i_hI ?l_hI ?c_hI ?k_hI ?a_se ?i_se ?l_se ?c_se ?k_se ?a_ha ?i_ha ?l_ha ?c_ha ?k_ha ?a_fu ?i_fu ?l_fu ?c_fu ?k_fu ?a_kn ?i_kn ?l_kn ?c_kn ?k_kn ?a_do ?i_do ?l_do ?c_do ?k_do ?a_le ?i_le ?l_le ?c_le ?k_le ?a_bg ?i_bg ?l_bg ?c_bg ?k_bg ?a_pu ?i_pu ?l_pu ?c_pu ?k_pu ?a_mo ?i_mo ?l_mo ?c_mo ?k_mo ?a_ou ?i_ou ?l_ou ?c_ou ?k_ou ?a_te ?i_te ?l_te ?c_te ?k_te ?a_me ?i_me ?l_me ?c_me ?k_me ?a_rm ?i_rm ?l_rm ?c_rm ?k_rm ?a_sm ?i_sm ?l_sm ?c_sm ?k_sm ?a_wm ?i_wm ?l_wm ?c_wm ?k_wm ?a_sa ?i_sa ?l_sa ?c_sa ?k_sa ?a_at ?l_at ?c_at ?k_at ?a_an ?l_an ?c_an ?k_an ?g_BEGINNING ?g_OUT_OF_RANGE ?g_NO_SUCH ?g_NOT_IN_ROW ?g_NO_MORE_DEEDS ?g_MOST_DESKS ?g_MOST_DEEDS ?g_BEGIN ?g_PUT ?g_MOVE ?g_OUT ?g_TELL ?g_MEET ?g_ROW ?g_SPOTS ?g_WAITS ?g_LEFT ?g_RIGHT ?z_sorted ?z_len ?z_list ?z_max ?z_range ?g_SIZES ?l_SIZES ?e_SIZES
    (case aCD => k_is)
    (case pgD => k_is)
    (case hdD => k_is)
    (case poD => k_is)
    (case saD => k_is)
    (case mkD => k_is)
    (case kcD => k_is)
    (case nD_number => k_is)
    (case nD_count => k_is)
    (case nD_desk => k_is)
    (case nD_thing => k_is)
    (case nD_place => k_is)
    (case aCH => k_is)
    (case pgH => k_is)
    (case hdH => k_is)
    (case poH => k_is)
    (case saH => k_is)
    (case mkH => k_is)
    (case kcH => k_is)
    (case nH_deeds => k_is)
    (case nH_things => k_is)
    (case nH_known => k_is)
    (case a_dI => k_is)
    (case i_dI => k_is)
    (case l_dI => k_is)
    (case c_dI => k_is)
    (case k_dI => k_is)
    (case a_st => k_is)
    (case l_st => k_is)
    (case c_st => k_is)
    (case k_st => k_is)
    (case a_la => k_is)
    (case l_la => k_is)
    (case c_la => k_is)
    (case k_la => k_is)
    (case a_sp => k_is)
    (case l_sp => k_is)
    (case c_sp => k_is)
    (case k_sp => k_is)
    (case a_ls => k_is)
    (case l_ls => k_is)
    (case c_ls => k_is)
    (case k_ls => k_is)
    (case a_ro => k_is)
    (case l_ro => k_is)
    (case c_ro => k_is)
    (case k_ro => k_is)
    (case a_wg => k_is)
    (case l_wg => k_is)
    (case c_wg => k_is)
    (case k_wg => k_is)
    (case a_th => k_is)
    (case l_th => k_is)
    (case c_th => k_is)
    (case k_th => k_is)
    (case a_nu => k_is)
    (case l_nu => k_is)
    (case c_nu => k_is)
    (case k_nu => k_is)
    (case a_ii => k_is)
    (case l_ii => k_is)
    (case c_ii => k_is)
    (case k_ii => k_is)
    (case a_wc => k_is)
    (case l_wc => k_is)
    (case c_wc => k_is)
    (case k_wc => k_is)
    (case a_ah => k_is)
    (case l_ah => k_is)
    (case c_ah => k_is)
    (case k_ah => k_is)
    (case a_be => k_is)
    (case l_be => k_is)
    (case c_be => k_is)
    (case k_be => k_is)
    (case a_hI => k_is)
    (case i_hI => k_is)
    (case l_hI => k_is)
    (case c_hI => k_is)
    (case k_hI => k_is)
    (case a_se => k_is)
    (case i_se => k_is)
    (case l_se => k_is)
    (case c_se => k_is)
    (case k_se => k_is)
    (case a_ha => k_is)
    (case i_ha => k_is)
    (case l_ha => k_is)
    (case c_ha => k_is)
    (case k_ha => k_is)
    (case a_fu => k_is)
    (case i_fu => k_is)
    (case l_fu => k_is)
    (case c_fu => k_is)
    (case k_fu => k_is)
    (case a_kn => k_is)
    (case i_kn => k_is)
    (case l_kn => k_is)
    (case c_kn => k_is)
    (case k_kn => k_is)
    (case a_do => k_is)
    (case i_do => k_is)
    (case l_do => k_is)
    (case c_do => k_is)
    (case k_do => k_is)
    (case a_le => k_is)
    (case i_le => k_is)
    (case l_le => k_is)
    (case c_le => k_is)
    (case k_le => k_is)
    (case a_bg => k_is)
    (case i_bg => k_is)
    (case l_bg => k_is)
    (case c_bg => k_is)
    (case k_bg => k_is)
    (case a_pu => k_is)
    (case i_pu => k_is)
    (case l_pu => k_is)
    (case c_pu => k_is)
    (case k_pu => k_is)
    (case a_mo => k_is)
    (case i_mo => k_is)
    (case l_mo => k_is)
    (case c_mo => k_is)
    (case k_mo => k_is)
    (case a_ou => k_is)
    (case i_ou => k_is)
    (case l_ou => k_is)
    (case c_ou => k_is)
    (case k_ou => k_is)
    (case a_te => k_is)
    (case i_te => k_is)
    (case l_te => k_is)
    (case c_te => k_is)
    (case k_te => k_is)
    (case a_me => k_is)
    (case i_me => k_is)
    (case l_me => k_is)
    (case c_me => k_is)
    (case k_me => k_is)
    (case a_rm => k_is)
    (case i_rm => k_is)
    (case l_rm => k_is)
    (case c_rm => k_is)
    (case k_rm => k_is)
    (case a_sm => k_is)
    (case i_sm => k_is)
    (case l_sm => k_is)
    (case c_sm => k_is)
    (case k_sm => k_is)
    (case a_wm => k_is)
    (case i_wm => k_is)
    (case l_wm => k_is)
    (case c_wm => k_is)
    (case k_wm => k_is)
    (case a_sa => k_is)
    (case i_sa => k_is)
    (case l_sa => k_is)
    (case c_sa => k_is)
    (case k_sa => k_is)
    (case a_at => k_is)
    (case l_at => k_is)
    (case c_at => k_is)
    (case k_at => k_is)
    (case a_an => k_is)
    (case l_an => k_is)
    (case c_an => k_is)
    (case k_an => k_is)
    (case g_BEGINNING => k_is)
    (case g_OUT_OF_RANGE => k_is)
    (case g_NO_SUCH => k_is)
    (case g_NOT_IN_ROW => k_is)
    (case g_NO_MORE_DEEDS => k_is)
    (case g_MOST_DESKS => k_is)
    (case g_MOST_DEEDS => k_is)
    (case g_BEGIN => k_is)
    (case g_PUT => k_is)
    (case g_MOVE => k_is)
    (case g_OUT => k_is)
    (case g_TELL => k_is)
    (case g_MEET => k_is)
    (case g_ROW => k_is)
    (case g_SPOTS => k_is)
    (case g_WAITS => k_is)
    (case g_LEFT => k_is)
    (case g_RIGHT => k_is)
    (case z_sorted => k_is)
    (case z_len => k_is)
    (case z_list => k_is)
    (case z_max => k_is)
    (case z_range => k_is)
    (case g_SIZES => k_is)
    (case l_SIZES => k_is)
    (case e_SIZES => decide +kernel)
  case S =>
    intro K H xs a hO hwi hask hx
    cases hx with
    | cons h1 h2 =>
      cases h2
      cases h1 with
      | lst hs ha =>
        have e := L2.ints_dw a.1 _ ha
        subst e
        have q : ((Codec.inLen 0 800 a.1 && a.1.all (Codec.inInt 0 18446744073709551615)) && true) = true := hwi
        rw [Bool.and_eq_true, Bool.and_eq_true] at q
        exact ⟨_, a.1, rfl, hs, (Codec.inNat_iff.mp q.1.1).2, hask, fun H' p hp => .lst (L2.SqL.of hp) (L2.dw_ints _)⟩

