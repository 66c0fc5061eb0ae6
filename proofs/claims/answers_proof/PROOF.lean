import PyProof.Rows.All
import Wide.All
import OpenK.AllK
import Wide.FinOn
import PyProof.EqAt
import PyProof.EqKinds
import PyProof.TupleCall
import KE.BitLaws
import Open.SpecLaws
import KE.OsHead
import KE.OsGo
import PyFlatLaws
import PyWqakan
import PySem.Challenge.RW_editslots_s01_answers
set_option Elab.async false
set_option linter.all false

/-! What the specification says, in forms that a program can be held against. Plain Lean. -/
namespace Ed
open Dl

/-! ### 1. The line of calls -/
theorem whole_id (c : List (List Int)) : PyWqakan.whole c = c := by
  unfold PyWqakan.whole
  split <;> rfl

theorem map_whole (cs : List (List (List Int))) : cs.map PyWqakan.whole = cs := by
  induction cs with
  | nil => rfl
  | cons c cs ih => rw [List.map_cons, whole_id, ih]

theorem line_of {l : List Int} (h : PyWqakan.answers_asked l = true) :
    ∃ cs, l = PyFlat.put cs ∧ cs ≠ [] ∧ cs.length ≤ 400 ∧ (∀ c ∈ cs, DlNeutral.asked1 c = true) ∧ (∀ c ∈ cs, PyFlat.okCall PyWqakan.shape c) ∧
      PyWqakan.answers l = PyFlat.told (PyFlat.played DlNeutral.step DlNeutral.start cs) := by
  unfold PyWqakan.answers_asked at h
  unfold PyWqakan.answers
  unfold PyWqakan.calls at h ⊢
  cases e : PyFlat.calls PyWqakan.shape l.length l with
  | none => rw [e] at h; cases h
  | some cs =>
    rw [e] at h
    simp only [map_whole] at h ⊢
    obtain ⟨h1, h2⟩ := PyFlat.put_calls _ _ _ e
    simp only [Bool.and_eq_true, DlNeutral.asked, decide_eq_true_eq, List.all_eq_true, Bool.not_eq_true', List.isEmpty_eq_false_iff] at h
    exact ⟨cs, h1, h.2.1, h.2.2.1, h.2.2.2, h2, rfl⟩

/-! ### 2. Edits that fit: old bytes in their order, in the old text; not too long -/
def enc : Src → Int
  | .old p => (p : Int)
  | .fresh c => -1 - (c.toNat : Int)

theorem enc_neg {x : Src} : enc x < 0 ↔ isNew x = true := by
  cases x with
  | old p => simp only [enc, isNew]; constructor <;> intro h <;> first | omega | cases h
  | fresh c => simp only [enc, isNew]; constructor <;> intro h <;> first | omega | trivial

theorem enc_inj {x y : Src} (h : enc x = enc y) : x = y := by
  cases x with
  | old p =>
    cases y with
    | old q => simp only [enc] at h; exact congrArg _ (by omega)
    | fresh c => simp only [enc] at h; omega
  | fresh c =>
    cases y with
    | old q => simp only [enc] at h; omega
    | fresh d =>
      simp only [enc] at h
      exact congrArg _ (UInt8.toNat_inj.mp (by omega))

/-- from the old text's lo-th byte on -/
def Up (base : Nat) : Nat → List Src → Prop
  | lo, [] => lo ≤ base
  | lo, .fresh _ :: r => Up base lo r
  | lo, .old q :: r => lo ≤ q ∧ q < base ∧ Up base (q + 1) r

structure Fits (d : Delta) : Prop where
  up : Up d.base 0 d.out
  old : d.base ≤ 1024
  new : d.out.length ≤ 1024

theorem Up.le {base : Nat} : ∀ {l : List Src} {lo : Nat}, Up base lo l → lo ≤ base
  | [], _, h => h
  | .fresh _ :: r, _, h => Up.le (l := r) h
  | .old _ :: _, _, h => Nat.le_trans h.1 (Nat.le_of_lt h.2.1)

theorem Up.mem {base : Nat} : ∀ {l : List Src} {lo q : Nat}, Up base lo l → Src.old q ∈ l → lo ≤ q ∧ q < base
  | .fresh _ :: r, lo, q, h, m => by
    rcases List.mem_cons.mp m with e | m
    · cases e
    · exact Up.mem (l := r) h m
  | .old p :: r, lo, q, h, m => by
    rcases List.mem_cons.mp m with e | m
    · cases e
      exact ⟨h.1, h.2.1⟩
    · have := Up.mem (l := r) h.2.2 m
      have := h.1
      omega

theorem Up.weak {base : Nat} : ∀ {l : List Src} {lo lo' : Nat}, Up base lo l → lo' ≤ lo → Up base lo' l
  | [], _, _, h, g => Nat.le_trans g h
  | .fresh _ :: r, _, _, h, g => Up.weak (l := r) h g
  | .old _ :: _, _, _, h, g => ⟨Nat.le_trans g h.1, h.2.1, h.2.2⟩

theorem Up.append {base : Nat} : ∀ {l r : List Src} {lo mid : Nat}, lo ≤ mid → Up mid lo l → Up base mid r → Up base lo (l ++ r)
  | [], r, lo, mid, g, _, h => Up.weak h g
  | .fresh _ :: l, r, lo, mid, g, h, h' => Up.append (l := l) g h h'
  | .old q :: l, r, lo, mid, _, h, h' => ⟨h.1, Nat.lt_of_lt_of_le h.2.1 h'.le, Up.append (l := l) (by have := h.2.1; omega) h.2.2 h'⟩

/-- by places -/
theorem Up.lt {base : Nat} : ∀ {l : List Src} {lo i j p q : Nat}, Up base lo l → l[i]? = some (.old p) → l[j]? = some (.old q) → i < j → p < q
  | [], _, i, _, _, _, _, h, _, _ => by simp at h
  | .fresh _ :: r, lo, 0, _, p, q, _, hi, _, _ => by simp at hi
  | .fresh _ :: r, lo, i + 1, 0, p, q, _, _, _, g => by omega
  | .fresh _ :: r, lo, i + 1, j + 1, p, q, h, hi, hj, g => Up.lt (l := r) (lo := lo) h (by simpa using hi) (by simpa using hj) (by omega)
  | .old a :: r, lo, 0, 0, p, q, _, _, _, g => by omega
  | .old a :: r, lo, 0, j + 1, p, q, h, hi, hj, _ => by
    have e : a = p := by simpa using hi
    have m : Src.old q ∈ r := List.mem_of_getElem? (by simpa using hj)
    have := (Up.mem h.2.2 m).1
    omega
  | .old a :: r, lo, i + 1, 0, p, q, _, _, _, g => by omega
  | .old a :: r, lo, i + 1, j + 1, p, q, h, hi, hj, g => Up.lt (l := r) (lo := a + 1) h.2.2 (by simpa using hi) (by simpa using hj) (by omega)

/-- and from places -/
theorem Up.of {base : Nat} : ∀ {l : List Src} {lo : Nat}, lo ≤ base → (∀ i p : Nat, l[i]? = some (Src.old p) → lo ≤ p ∧ p < base) → (∀ i j p q : Nat, l[i]? = some (Src.old p) → l[j]? = some (Src.old q) → i < j → p < q) → Up base lo l
  | [], _, g, _, _ => g
  | .fresh _ :: r, lo, g, h, h' => Up.of (l := r) g (fun i p e => h (i + 1) p (by simpa using e)) (fun i j p q a b c => h' (i + 1) (j + 1) p q (by simpa using a) (by simpa using b) (by omega))
  | .old a :: r, lo, g, h, h' => by
    have h0 := h 0 a (by simp)
    refine ⟨h0.1, h0.2, Up.of (l := r) (by omega) (fun i p e => ?_) (fun i j p q a b c => h' (i + 1) (j + 1) p q (by simpa using a) (by simpa using b) (by omega))⟩
    have h1 := h (i + 1) p (by simpa using e)
    have h2 := h' 0 (i + 1) a p (by simp) (by simpa using e) (by omega)
    omega

/-! ### 3. Where an old byte stands -/
theorem image_some {d : Delta} {p q : Nat} (h : image d p = some q) : d.out[q]? = some (.old p) := by
  unfold image at h
  rw [List.findIdx?_eq_some_iff_getElem] at h
  obtain ⟨hq, h1, _⟩ := h
  rw [List.getElem?_eq_getElem hq]
  exact congrArg some (by simpa using h1)

theorem image_lt {d : Delta} {p q : Nat} (h : image d p = some q) : q < d.out.length := (List.getElem?_eq_some_iff.mp (image_some h)).1

theorem image_of {d : Delta} (f : Up d.base 0 d.out) {p q : Nat} (h : d.out[q]? = some (.old p)) : image d p = some q := by
  unfold image
  rw [List.findIdx?_eq_some_iff_getElem]
  obtain ⟨hq, e⟩ := List.getElem?_eq_some_iff.mp h
  refine ⟨hq, by rw [e]; simp, fun j hjq e' => ?_⟩
  have := f.lt (i := j) (j := q) (p := p) (q := p) (by rw [List.getElem?_eq_getElem (Nat.lt_trans hjq hq), eq_of_beq e']) h hjq
  omega

theorem image_none {d : Delta} (f : Up d.base 0 d.out) {p : Nat} (h : image d p = none) (q : Nat) : d.out[q]? ≠ some (.old p) := fun e => by
  rw [image_of f e] at h
  cases h

theorem image_base {d : Delta} (f : Up d.base 0 d.out) {p q : Nat} (h : image d p = some q) : p < d.base := (f.mem (List.mem_of_getElem? (image_some h))).2

theorem image_mono {d : Delta} (f : Up d.base 0 d.out) {p q p' q' : Nat} (h : image d p = some q) (h' : image d p' = some q') (g : p < p') : q < q' := by
  rcases Nat.lt_trichotomy q q' with k | k | k
  · exact k
  · subst k
    have := (image_some h).symm.trans (image_some h')
    cases this
    omega
  · have := f.lt (image_some h') (image_some h) k
    omega

/-! ### 4. The edits that the calls make fit -/
theorem up_range (p : Nat) : ∀ n, Up (p + n) p ((List.range n).map fun k => Src.old (p + k)) := fun n => by
  refine Up.of (Nat.le_add_right _ _) (fun i q e => ?_) (fun i j a b e e' g => ?_)
  · rw [List.getElem?_map] at e
    by_cases hi : i < n
    · rw [List.getElem?_range hi] at e
      cases e
      omega
    · rw [List.getElem?_eq_none (by simp; omega)] at e
      cases e
  · rw [List.getElem?_map] at e e'
    by_cases hj : j < n
    · rw [List.getElem?_range hj] at e'
      rw [List.getElem?_range (by omega)] at e
      cases e
      cases e'
      omega
    · rw [List.getElem?_eq_none (by simp; omega)] at e'
      cases e'

theorem up_fresh {base p : Nat} (b : Bytes) {r : List Src} (h : Up base p r) : Up base p (b.map Src.fresh ++ r) := by
  induction b with
  | nil => exact h
  | cons c b ih => exact ih

theorem up_said : ∀ (its : List Item) (p : Nat), Up (p + (its.map Item.takes).sum) p (said p its)
  | [], p => by simp [said, Up]
  | .keep n :: r, p => by
    have h := up_said r (p + n)
    simp only [said, List.map_cons, List.sum_cons, Item.takes]
    refine Up.append (mid := p + n) (by omega) (up_range p n) ?_
    rw [← Nat.add_assoc]
    exact h
  | .drop n :: r, p => by
    have h := up_said r (p + n)
    simp only [said, List.map_cons, List.sum_cons, Item.takes]
    rw [← Nat.add_assoc]
    exact h.weak (by omega)
  | .put b :: r, p => by
    have h := up_said r p
    simp only [said, List.map_cons, List.sum_cons, Item.takes, Nat.zero_add]
    exact up_fresh b h

theorem len_said : ∀ (its : List Item) (p : Nat), (said p its).length = (its.map Item.gives).sum
  | [], p => by simp [said]
  | .keep n :: r, p => by simp [said, Item.gives, len_said r (p + n)]
  | .drop n :: r, p => by simp [said, Item.gives, len_said r (p + n)]
  | .put b :: r, p => by simp [said, Item.gives, len_said r p]

theorem fits_deltaOf {its : List Item} (h1 : (its.map Item.takes).sum ≤ 1024) (h2 : (its.map Item.gives).sum ≤ 1024) : Fits (deltaOf its) := by
  refine ⟨?_, h1, ?_⟩
  · have h := up_said its 0
    rw [Nat.zero_add] at h
    exact h
  · show (said 0 its).length ≤ 1024
    rw [len_said]
    exact h2

theorem fits_after {d e : Delta} (hd : Fits d) (he : Fits e) (_h : d.out.length = e.base) : Fits (after d e) := by
  have key : ∀ {i p : Nat}, (after d e).out[i]? = some (Src.old p) → ∃ q : Nat, e.out[i]? = some (Src.old q) ∧ d.out[q]? = some (Src.old p) := by
    intro i p h
    unfold after at h
    simp only [List.getElem?_map] at h
    cases e1 : e.out[i]? with
    | none => rw [e1] at h; cases h
    | some x =>
      rw [e1] at h
      cases x with
      | fresh c => cases h
      | old q =>
        refine ⟨q, rfl, ?_⟩
        have h := Option.some.inj h
        simp only at h
        rw [List.getD_eq_getElem?_getD] at h
        cases e2 : d.out[q]? with
        | none => rw [e2] at h; cases h
        | some y => rw [e2] at h; exact congrArg some h
  refine ⟨Up.of (Nat.zero_le _) (fun i p h => ?_) (fun i j p p' h h' g => ?_), hd.old, by show (List.map _ e.out).length ≤ 1024; rw [List.length_map]; exact he.new⟩
  · obtain ⟨q, _, h2⟩ := key h
    exact hd.up.mem (List.mem_of_getElem? h2)
  · obtain ⟨q, h1, h2⟩ := key h
    obtain ⟨q', h3, h4⟩ := key h'
    exact hd.up.lt h2 h4 (he.up.lt h1 h3 g)

theorem fits_back {d : Delta} (hd : Fits d) (s : Bytes) : Fits (back d s) := by
  have key : ∀ {i p : Nat}, (back d s).out[i]? = some (Src.old p) → image d i = some p := by
    intro i p h
    unfold back at h
    simp only [List.getElem?_map] at h
    by_cases hi : i < d.base
    · rw [List.getElem?_range hi] at h
      have h := Option.some.inj h
      dsimp only at h
      cases e : image d i with
      | none => rw [e] at h; cases h
      | some q => rw [e] at h; cases h; rfl
    · rw [List.getElem?_eq_none (by simp; omega)] at h
      cases h
  refine ⟨Up.of (Nat.zero_le _) (fun i p h => ⟨Nat.zero_le _, image_lt (key h)⟩) (fun i j p q h h' g => image_mono hd.up (key h) (key h') g), hd.new, ?_⟩
  show (List.map _ (List.range d.base)).length ≤ 1024
  rw [List.length_map, List.length_range]
  exact hd.old

/-! ### 5. An edit led over another fits -/
def Rel (x y : Src) : Prop := ∀ p q : Nat, x = .old p → y = .old q → p < q

theorem Up.pair {base : Nat} : ∀ {l : List Src} {lo : Nat}, lo ≤ base → (∀ p : Nat, Src.old p ∈ l → lo ≤ p ∧ p < base) → l.Pairwise Rel → Up base lo l
  | [], _, g, _, _ => g
  | .fresh _ :: r, lo, g, h, h' => Up.pair (l := r) g (fun p e => h p (List.mem_cons_of_mem _ e)) (List.pairwise_cons.mp h').2
  | .old a :: r, lo, g, h, h' => by
    have h0 := h a (List.mem_cons_self ..)
    obtain ⟨h1, h2⟩ := List.pairwise_cons.mp h'
    refine ⟨h0.1, h0.2, Up.pair (l := r) (by omega) (fun p e => ?_) h2⟩
    have h3 := h1 _ e a p rfl rfl
    have h4 := h p (List.mem_cons_of_mem _ e)
    omega

/-- the places in e's new text of its new bytes behind the old byte g - 1 -/
def Theirs (e : Delta) (g t : Nat) : Prop := ∃ k, k < (newAt e g).2.length ∧ t = (newAt e g).1 + k

theorem takeWhile_new {x : Src} : ∀ {l : List Src}, x ∈ l.takeWhile isNew → isNew x = true
  | [], h => by simp at h
  | y :: r, h => by
    rw [List.takeWhile_cons] at h
    by_cases hy : isNew y = true
    · rw [if_pos hy] at h
      rcases List.mem_cons.mp h with rfl | h
      · exact hy
      · exact takeWhile_new h
    · rw [if_neg hy] at h
      cases h

theorem run_fresh {l : List Src} {k : Nat} (h : k < (l.takeWhile isNew).length) : ∃ c, l[k]? = some (.fresh c) := by
  have h1 : (l.takeWhile isNew)[k]? = some ((l.takeWhile isNew)[k]) := List.getElem?_eq_getElem h
  have hp : (l.takeWhile isNew) <+: l := List.takeWhile_prefix _
  obtain ⟨t, ht⟩ := hp
  have h2 : l[k]? = some ((l.takeWhile isNew)[k]) := by
    rw [← h1]
    conv => lhs; rw [← ht]
    exact List.getElem?_append_left h
  have h3 : isNew ((l.takeWhile isNew)[k]) = true := takeWhile_new (List.getElem_mem h)
  cases e : (l.takeWhile isNew)[k] with
  | old p => rw [e] at h3; cases h3
  | fresh c => exact ⟨c, by rw [h2, e]⟩

theorem Theirs.start {e : Delta} {g t : Nat} (h : Theirs e g t) : (g = 0 ∧ (newAt e g).1 = 0) ∨ (0 < g ∧ ∃ q, image e (g - 1) = some q ∧ (newAt e g).1 = q + 1) := by
  obtain ⟨k, hk, _⟩ := h
  unfold newAt at hk ⊢
  by_cases hg : g = 0
  · rw [if_pos hg]
    exact .inl ⟨hg, rfl⟩
  · rw [if_neg hg] at hk ⊢
    cases hi : image e (g - 1) with
    | none => rw [hi] at hk; simp at hk
    | some q => exact .inr ⟨by omega, q, rfl, rfl⟩

theorem Theirs.run {e : Delta} {g t j : Nat} (h : Theirs e g t) (h1 : (newAt e g).1 ≤ j) (h2 : j ≤ t) : ∃ c, e.out[j]? = some (.fresh c) := by
  obtain ⟨k, hk, rfl⟩ := h
  unfold newAt at hk h1 h2
  by_cases hg : g = 0
  · rw [if_pos hg] at hk h1 h2
    exact run_fresh (k := j) (by simp only at h2 hk; omega)
  · rw [if_neg hg] at hk h1 h2
    cases hi : image e (g - 1) with
    | none => rw [hi] at hk; simp at hk
    | some q =>
      rw [hi] at hk h1 h2
      simp only at hk h1 h2
      obtain ⟨c, hc⟩ := run_fresh (l := e.out.drop (q + 1)) (k := j - (q + 1)) (by omega)
      rw [List.getElem?_drop] at hc
      exact ⟨c, by rw [← hc]; congr 1; omega⟩

/-- what of e's new text stands in the block of g -/
def InBlk (e : Delta) (g t : Nat) : Prop := Theirs e g t ∨ image e g = some t

theorem InBlk.lt {e : Delta} (he : Up e.base 0 e.out) {g g' t t' : Nat} (h : InBlk e g t) (h' : InBlk e g' t') (hg : g < g') : t < t' := by
  refine Nat.lt_of_not_le fun hle => ?_
  -- an old byte of g or after, at or before t
  obtain ⟨y, p, hy, hp, hyt⟩ : ∃ y p, e.out[y]? = some (.old p) ∧ g ≤ p ∧ ((y < t' ∧ p + 1 = g') ∨ (y = t' ∧ p = g')) := by
    rcases h' with h' | h'
    · rcases h'.start with ⟨k, _⟩ | ⟨_, q, hq, hs⟩
      · omega
      · obtain ⟨k, _, hk⟩ := h'
        exact ⟨q, g' - 1, image_some hq, by omega, .inl ⟨by omega, by omega⟩⟩
    · exact ⟨t', g', image_some h', by omega, .inr ⟨rfl, rfl⟩⟩
  rcases h with h | h
  · have hst : (newAt e g).1 ≤ y := by
      rcases h.start with ⟨_, z⟩ | ⟨hg0, q, hq, hs⟩
      · omega
      · rw [hs]
        refine Nat.lt_of_not_le fun k => ?_
        rcases Nat.lt_or_eq_of_le k with k | k
        · have := he.lt hy (image_some hq) k
          omega
        · subst k
          have := hy.symm.trans (image_some hq)
          cases this
          omega
    obtain ⟨c, hc⟩ := h.run hst (by omega)
    rw [hy] at hc
    cases hc
  · rcases Nat.lt_or_eq_of_le (show y ≤ t by omega) with k | k
    · have := he.lt hy (image_some h) k
      omega
    · subst k
      have := hy.symm.trans (image_some h)
      cases this
      omega

theorem InBlk.bound {e : Delta} {g t : Nat} (h : InBlk e g t) : t < e.out.length := by
  rcases h with h | h
  · have hs : (newAt e g).1 ≤ t := by
      obtain ⟨k, _, hk⟩ := h
      omega
    obtain ⟨c, hc⟩ := h.run hs (Nat.le_refl _)
    exact (List.getElem?_eq_some_iff.mp hc).1
  · exact image_lt h

theorem theirs_image {e : Delta} (he : Up e.base 0 e.out) {g t q : Nat} (h : Theirs e g t) (hq : image e g = some q) : t < q := by
  refine Nat.lt_of_not_le fun hle => ?_
  have hst : (newAt e g).1 ≤ q := by
    rcases h.start with ⟨_, z⟩ | ⟨hg0, r, hr, hs⟩
    · omega
    · have := image_mono he hr hq (by omega)
      omega
  obtain ⟨c, hc⟩ := h.run hst hle
  rw [image_some hq] at hc
  cases hc

/-- the block of g in the edit led over -/
def blk (d e : Delta) (first : Bool) (g : Nat) : List Src :=
  (if first = true then (newAt d g).2 ++ (List.range (newAt e g).2.length).map fun k => Src.old ((newAt e g).1 + k)
    else ((List.range (newAt e g).2.length).map fun k => Src.old ((newAt e g).1 + k)) ++ (newAt d g).2) ++
  (match image d g, image e g with
    | some _, some q => if g < d.base then [Src.old q] else []
    | _, _ => [])

theorem over_blk (d e : Delta) (first : Bool) : over d e first = ⟨e.out.length, (List.range (d.base + 1)).flatMap (blk d e first)⟩ := rfl

theorem mine_fresh {d : Delta} {g : Nat} {x : Src} (h : x ∈ (newAt d g).2) : ∃ c, x = .fresh c := by
  have key : ∀ {l : List Src}, x ∈ l.takeWhile isNew → ∃ c, x = .fresh c := fun {l} m => by
    have := takeWhile_new m
    cases x with
    | old p => cases this
    | fresh c => exact ⟨c, rfl⟩
  unfold newAt at h
  by_cases hg : g = 0
  · rw [if_pos hg] at h
    exact key h
  · rw [if_neg hg] at h
    cases hi : image d (g - 1) with
    | none => rw [hi] at h; simp at h
    | some q => rw [hi] at h; exact key h

theorem mem_theirs {e : Delta} {g : Nat} {x : Src} (h : x ∈ (List.range (newAt e g).2.length).map fun k => Src.old ((newAt e g).1 + k)) : ∃ t, x = .old t ∧ Theirs e g t := by
  obtain ⟨k, hk, rfl⟩ := List.mem_map.mp h
  exact ⟨_, rfl, k, List.mem_range.mp hk, rfl⟩

theorem mem_both {d e : Delta} {g : Nat} {x : Src} (h : x ∈ (match image d g, image e g with
    | some _, some q => if g < d.base then [Src.old q] else []
    | _, _ => [])) : ∃ q, x = .old q ∧ image e g = some q := by
  split at h
  · rename_i q _ h2
    split at h
    · exact ⟨q, List.mem_singleton.mp h, h2⟩
    · cases h
  · cases h

theorem blk_mem {d e : Delta} {first : Bool} {g t : Nat} (h : Src.old t ∈ blk d e first g) : InBlk e g t := by
  unfold blk at h
  rcases List.mem_append.mp h with h | h
  · have h : Src.old t ∈ (newAt d g).2 ∨ Src.old t ∈ (List.range (newAt e g).2.length).map fun k => Src.old ((newAt e g).1 + k) := by
      cases first with
      | true => exact List.mem_append.mp h
      | false => exact (List.mem_append.mp h).symm
    rcases h with h | h
    · obtain ⟨c, hc⟩ := mine_fresh h
      cases hc
    · obtain ⟨t', e1, h1⟩ := mem_theirs h
      cases e1
      exact .inl h1
  · obtain ⟨q, e1, h1⟩ := mem_both h
    cases e1
    exact .inr h1

theorem theirs_pair (e : Delta) (g : Nat) : ((List.range (newAt e g).2.length).map fun k => Src.old ((newAt e g).1 + k)).Pairwise Rel := by
  rw [List.pairwise_map]
  refine List.Pairwise.imp ?_ List.pairwise_lt_range
  intro a b h p q e1 e2
  cases e1
  cases e2
  omega

theorem mine_pair (d : Delta) (g : Nat) : ((newAt d g).2).Pairwise Rel := by
  rw [List.pairwise_iff_forall_sublist]
  intro a b s p q e1 _
  obtain ⟨c, hc⟩ := mine_fresh (s.subset (show a ∈ [a, b] by simp))
  rw [hc] at e1
  cases e1

theorem blk_pair {d e : Delta} (he : Up e.base 0 e.out) (first : Bool) (g : Nat) : (blk d e first g).Pairwise Rel := by
  have m1 : ∀ x ∈ (newAt d g).2, ∀ y, Rel x y ∧ Rel y x := fun x hx y => by
    obtain ⟨c, rfl⟩ := mine_fresh hx
    refine ⟨?_, ?_⟩
    · intro p q e1 _
      cases e1
    · intro p q _ e1
      cases e1
  unfold blk
  rw [List.pairwise_append]
  refine ⟨?_, ?_, fun x hx y hy => ?_⟩
  · cases first with
    | true =>
      rw [if_pos rfl, List.pairwise_append]
      exact ⟨mine_pair d g, theirs_pair e g, fun x hx y _ => (m1 x hx y).1⟩
    | false =>
      rw [if_neg (by decide), List.pairwise_append]
      exact ⟨theirs_pair e g, mine_pair d g, fun x _ y hy => (m1 y hy x).2⟩
  · split
    · split
      · exact List.pairwise_singleton _ _
      · exact List.Pairwise.nil
    · exact List.Pairwise.nil
  · obtain ⟨q, rfl, hq⟩ := mem_both hy
    have hx : x ∈ (newAt d g).2 ∨ x ∈ (List.range (newAt e g).2.length).map fun k => Src.old ((newAt e g).1 + k) := by
      cases first with
      | true => exact List.mem_append.mp hx
      | false => exact (List.mem_append.mp hx).symm
    rcases hx with hx | hx
    · exact (m1 x hx _).1
    · obtain ⟨t, rfl, ht⟩ := mem_theirs hx
      intro p r e1 e2
      cases e1
      cases e2
      exact theirs_image he ht hq

theorem up_over {d e : Delta} (he : Up e.base 0 e.out) (first : Bool) : Up (over d e first).base 0 (over d e first).out := by
  rw [over_blk]
  refine Up.pair (Nat.zero_le _) (fun t h => ⟨Nat.zero_le _, ?_⟩) ?_
  · obtain ⟨g, _, h⟩ := List.mem_flatMap.mp h
    exact (blk_mem h).bound
  · rw [List.pairwise_flatMap]
    refine ⟨fun g _ => blk_pair he first g, List.Pairwise.imp ?_ List.pairwise_lt_range⟩
    intro g g' hg x hx y hy p q e1 e2
    subst e1
    subst e2
    exact (blk_mem hx).lt he (blk_mem hy) hg

end Ed

/-! The one form and the setting of an edit, told as loops. Plain Lean. -/
namespace Ed
open Dl

/-! ### 6. The one form, item by item from the left; the items so far stand backwards -/
def addN (rs : List (Int × Int)) (k n : Int) : List (Int × Int) := match rs with
  | [] => [(k, n)]
  | (k', m) :: r => if k' = k then (k, m + n) :: r else (k, n) :: (k', m) :: r
def addR (rs : List (Int × Int)) (k n : Int) : List (Int × Int) := if n = 0 then rs else addN rs k n

theorem addR_zero (rs : List (Int × Int)) (k : Int) : addR rs k 0 = rs := if_pos rfl
theorem addR_pos (rs : List (Int × Int)) (k : Int) {n : Int} (h : n ≠ 0) : addR rs k n = addN rs k n := if_neg h

theorem addR_two (rs : List (Int × Int)) (k : Int) {m n : Int} (hm : 0 ≤ m) (hn : 0 ≤ n) : addR (addR rs k m) k n = addR rs k (m + n) := by
  by_cases h1 : m = 0
  · subst h1
    rw [addR_zero, Int.zero_add]
  · by_cases h2 : n = 0
    · subst h2
      rw [addR_zero, Int.add_zero]
    · rw [addR_pos rs k h1, addR_pos _ k h2, addR_pos rs k (show m + n ≠ 0 by omega)]
      cases rs with
      | nil => simp [addN]
      | cons a r =>
        obtain ⟨k', x⟩ := a
        by_cases hk : k' = k
        · simp [addN, hk, Int.add_assoc]
        · simp [addN, hk]

def pairOf (i : Item) : Int × Int := (((rawOf i).kind : Int), ((rawOf i).n : Int))
def catR (rs : List (Int × Int)) (its : List Item) : List (Int × Int) := its.foldl (fun a i => addR a (pairOf i).1 (pairOf i).2) rs

theorem catR_append (rs : List (Int × Int)) (a b : List Item) : catR rs (a ++ b) = catR (catR rs a) b := List.foldl_append
theorem catR_cons (rs : List (Int × Int)) (i : Item) (b : List Item) : catR rs (i :: b) = catR (addR rs (pairOf i).1 (pairOf i).2) b := rfl

theorem catR_put (rs : List (Int × Int)) (b : Bytes) : catR rs (if b = [] then [] else [.put b]) = addR rs 2 (b.length : Int) := by
  by_cases h : b = []
  · subst h
    rw [if_pos rfl]
    exact (addR_zero rs 2).symm
  · rw [if_neg h]
    rfl

theorem catR_drop (rs : List (Int × Int)) {p q : Nat} (h : p ≤ q) : catR rs (if p < q then [.drop (q - p)] else []) = addR rs 1 ((q : Int) - (p : Int)) := by
  by_cases g : p < q
  · rw [if_pos g]
    show addR rs 1 ((q - p : Nat) : Int) = _
    rw [Int.natCast_sub h]
  · rw [if_neg g]
    have : (q : Int) - (p : Int) = 0 := by omega
    rw [this]
    exact (addR_zero rs 1).symm

theorem catR_keep (rs : List (Int × Int)) (l : List Item) : catR rs (match l with
    | .keep n :: r => .keep (n + 1) :: r
    | r => .keep 1 :: r) = catR (addR rs 0 1) l := by
  split
  · rename_i n r
    rw [catR_cons, catR_cons]
    show catR (addR rs 0 ((n + 1 : Nat) : Int)) r = catR (addR (addR rs 0 1) 0 (n : Int)) r
    rw [addR_two rs 0 (by omega) (by omega)]
    congr 2
    omega
  · rfl

def formStep (st : List (Int × Int) × Int) (o : Int) : List (Int × Int) × Int :=
  if o < 0 then (addR st.1 2 1, st.2) else (addR (addR st.1 1 (o - st.2)) 0 1, o + 1)

theorem form_loop (base : Nat) : ∀ (out : List Src) (p : Nat) (b : Bytes) (rs : List (Int × Int)), Up base p out →
    (fun st : List (Int × Int) × Int => addR st.1 1 ((base : Int) - st.2)) ((out.map enc).foldl formStep (addR rs 2 (b.length : Int), (p : Int))) = catR rs (itemsFrom base p b out)
  | [], p, b, rs, h => by
    show addR (addR rs 2 (b.length : Int)) 1 ((base : Int) - (p : Int)) = catR rs ((if b = [] then [] else [.put b]) ++ if p < base then [.drop (base - p)] else [])
    rw [catR_append, catR_put, catR_drop _ h]
  | .fresh c :: l, p, b, rs, h => by
    have ih := form_loop base l p (b ++ [c]) rs h
    show (fun st : List (Int × Int) × Int => addR st.1 1 ((base : Int) - st.2)) ((l.map enc).foldl formStep (formStep (addR rs 2 (b.length : Int), (p : Int)) (enc (.fresh c)))) = catR rs (itemsFrom base p (b ++ [c]) l)
    rw [← ih]
    have e : formStep (addR rs 2 (b.length : Int), (p : Int)) (enc (.fresh c)) = (addR rs 2 ((b ++ [c]).length : Int), (p : Int)) := by
      unfold formStep
      rw [if_pos (by simp only [enc]; omega)]
      simp only
      rw [addR_two rs 2 (by omega) (by omega), List.length_append]
      rfl
    rw [e]
  | .old q :: l, p, b, rs, h => by
    have ih := form_loop base l (q + 1) [] (addR (addR (addR rs 2 (b.length : Int)) 1 ((q : Int) - (p : Int))) 0 1) h.2.2
    show (fun st : List (Int × Int) × Int => addR st.1 1 ((base : Int) - st.2)) ((l.map enc).foldl formStep (formStep (addR rs 2 (b.length : Int), (p : Int)) (enc (.old q)))) =
      catR rs ((if b = [] then [] else [.put b]) ++ ((if p < q then [.drop (q - p)] else []) ++ match itemsFrom base (q + 1) [] l with
        | .keep n :: r => .keep (n + 1) :: r
        | r => .keep 1 :: r))
    rw [catR_append, catR_put, catR_append, catR_drop _ h.1, catR_keep, ← ih]
    have e : formStep (addR rs 2 (b.length : Int), (p : Int)) (enc (.old q)) =
        (addR (addR (addR (addR rs 2 (b.length : Int)) 1 ((q : Int) - (p : Int))) 0 1) 2 (([] : Bytes).length : Int), ((q + 1 : Nat) : Int)) := by
      unfold formStep
      rw [if_neg (by simp only [enc]; omega)]
      show _ = (addR _ 2 0, _)
      rw [addR_zero]
      simp only [enc]
      rfl
    rw [e]

/-- no item of 0, no two of a kind side by side -/
def headNe (k : Int) : List Item → Prop
  | [] => True
  | j :: _ => k ≠ (pairOf j).1
def Alt : List Item → Prop
  | [] => True
  | i :: r => (pairOf i).2 ≠ 0 ∧ headNe (pairOf i).1 r ∧ Alt r

theorem alt_put {b : Bytes} {l : List Item} (h : Alt l) (h2 : headNe 2 l) : Alt ((if b = [] then [] else [.put b]) ++ l) := by
  by_cases hb : b = []
  · rw [if_pos hb]
    exact h
  · rw [if_neg hb]
    refine ⟨?_, h2, h⟩
    show ((b.length : Nat) : Int) ≠ 0
    have := List.length_pos_iff.mpr hb
    omega

def keptOne (l : List Item) : List Item := match l with
  | .keep n :: r => .keep (n + 1) :: r
  | r => .keep 1 :: r

theorem alt_keep {l : List Item} (h : Alt l) : Alt (keptOne l) ∧ ∃ n r, keptOne l = .keep n :: r := by
  cases l with
  | nil => exact ⟨⟨by decide, trivial, trivial⟩, 1, [], rfl⟩
  | cons i r =>
    cases i with
    | keep n =>
      refine ⟨⟨?_, h.2.1, h.2.2⟩, n + 1, r, rfl⟩
      show ((n + 1 : Nat) : Int) ≠ 0
      omega
    | drop n => exact ⟨⟨by decide, by show (0 : Int) ≠ 1; decide, h⟩, 1, _, rfl⟩
    | put b => exact ⟨⟨by decide, by show (0 : Int) ≠ 2; decide, h⟩, 1, _, rfl⟩

theorem alt_from (base : Nat) : ∀ (out : List Src) (p : Nat) (b : Bytes), Alt (itemsFrom base p b out)
  | [], p, b => by
    show Alt ((if b = [] then [] else [.put b]) ++ if p < base then [.drop (base - p)] else [])
    by_cases h : p < base
    · rw [if_pos h]
      refine alt_put ⟨?_, trivial, trivial⟩ (by show (2 : Int) ≠ 1; decide)
      show ((base - p : Nat) : Int) ≠ 0
      omega
    · rw [if_neg h]
      exact alt_put trivial trivial
  | .fresh c :: l, p, b => alt_from base l p (b ++ [c])
  | .old q :: l, p, b => by
    show Alt ((if b = [] then [] else [.put b]) ++ ((if p < q then [.drop (q - p)] else []) ++ keptOne (itemsFrom base (q + 1) [] l)))
    obtain ⟨h1, n, r, e⟩ := alt_keep (alt_from base l (q + 1) [])
    rw [e] at h1 ⊢
    by_cases h : p < q
    · rw [if_pos h]
      refine alt_put ⟨?_, by show (1 : Int) ≠ 0; decide, h1⟩ (by show (2 : Int) ≠ 1; decide)
      show ((q - p : Nat) : Int) ≠ 0
      omega
    · rw [if_neg h]
      exact alt_put h1 (by show (2 : Int) ≠ 0; decide)

theorem catR_alt : ∀ (its : List Item) (rs : List (Int × Int)), Alt its → (match rs with | [] => True | a :: _ => headNe a.1 its) → catR rs its = (its.map pairOf).reverse ++ rs
  | [], rs, _, _ => rfl
  | i :: r, rs, h, hh => by
    have e : addR rs (pairOf i).1 (pairOf i).2 = pairOf i :: rs := by
      rw [addR_pos _ _ h.1]
      cases rs with
      | nil => rfl
      | cons a rs =>
        obtain ⟨k', m⟩ := a
        have hh : k' ≠ (pairOf i).1 := hh
        show (if k' = (pairOf i).1 then _ else _) = _
        rw [if_neg hh]
    rw [catR_cons, e, catR_alt r (pairOf i :: rs) h.2.2 h.2.1, List.map_cons, List.reverse_cons, List.append_assoc]
    rfl

/-- the numbers of pairs that stand backwards -/
def flatR (rs : List (Int × Int)) : List Int := rs.reverse.flatMap fun a => [a.1, a.2]
theorem flatR_cons (a : Int × Int) (rs : List (Int × Int)) : flatR (a :: rs) = flatR rs ++ [a.1, a.2] := by
  unfold flatR
  rw [List.reverse_cons, List.flatMap_append]
  rfl
theorem flatR_len (rs : List (Int × Int)) : (flatR rs).length = 2 * rs.length := by
  induction rs with
  | nil => rfl
  | cons a r ih => rw [flatR_cons, List.length_append, ih, List.length_cons]; simp; omega

/-- THE ONE FORM as a loop -/
def formR (d : Delta) : List (Int × Int) := (fun st : List (Int × Int) × Int => addR st.1 1 ((d.base : Int) - st.2)) ((d.out.map enc).foldl formStep ([], 0))
theorem formR_eq {d : Delta} (h : Up d.base 0 d.out) : formR d = ((itemsIn d).map pairOf).reverse := by
  have h1 := form_loop d.base d.out 0 [] [] h
  have h2 := catR_alt (itemsIn d) [] (alt_from d.base d.out 0 []) trivial
  rw [List.append_nil] at h2
  rw [← h2]
  exact h1
theorem flat_form {d : Delta} (h : Up d.base 0 d.out) : flatR (formR d) = DlNeutral.ints ((itemsIn d).flatMap fun y => [(rawOf y).kind, (rawOf y).n]) ∧ (formR d).length = (itemsIn d).length := by
  rw [formR_eq h]
  refine ⟨?_, by rw [List.length_reverse, List.length_map]⟩
  unfold flatR DlNeutral.ints
  rw [List.reverse_reverse, List.flatMap_map, List.map_flatMap]
  rfl

/-! ### 7. An edit from its items -/
def tot (raws : List Raw) (k : Nat) : Nat := ((raws.filter fun x => decide (x.kind = k)).map Raw.n).sum

theorem tot_cons (x : Raw) (r : List Raw) (k : Nat) : tot (x :: r) k = (if x.kind = k then x.n else 0) + tot r k := by
  unfold tot
  rw [List.filter_cons]
  by_cases h : x.kind = k
  · rw [if_pos (by simp [h]), if_pos h, List.map_cons, List.sum_cons]
  · rw [if_neg (by simp [h]), if_neg h, Nat.zero_add]

theorem itemsOf_some : ∀ {raws : List Raw} {b : Bytes} {its : List Item}, itemsOf raws b = some its →
    (∀ x ∈ raws, x.kind ≤ 2) ∧ tot raws 2 = b.length ∧ (its.map Item.takes).sum = tot raws 0 + tot raws 1 ∧ (its.map Item.gives).sum = tot raws 0 + tot raws 2
  | [], b, its, h => by
    unfold itemsOf at h
    by_cases hb : b = []
    · rw [if_pos hb] at h
      cases h
      subst hb
      exact ⟨fun x hx => (by cases hx), rfl, rfl, rfl⟩
    · rw [if_neg hb] at h
      cases h
  | x :: r, b, its, h => by
    unfold itemsOf at h
    by_cases h0 : x.kind = 0
    · rw [if_pos h0] at h
      obtain ⟨t, ht, rfl⟩ := Option.map_eq_some_iff.mp h
      obtain ⟨a1, a2, a3, a4⟩ := itemsOf_some ht
      simp only [tot_cons, h0, List.map_cons, List.sum_cons, Item.takes, Item.gives, List.forall_mem_cons]
      exact ⟨⟨by omega, a1⟩, by simp; omega, by simp; omega, by simp; omega⟩
    · rw [if_neg h0] at h
      by_cases h1 : x.kind = 1
      · rw [if_pos h1] at h
        obtain ⟨t, ht, rfl⟩ := Option.map_eq_some_iff.mp h
        obtain ⟨a1, a2, a3, a4⟩ := itemsOf_some ht
        simp only [tot_cons, h1, List.map_cons, List.sum_cons, Item.takes, Item.gives, List.forall_mem_cons]
        exact ⟨⟨by omega, a1⟩, by simp; omega, by simp; omega, by simp; omega⟩
      · rw [if_neg h1] at h
        by_cases h2 : x.kind = 2 ∧ x.n ≤ b.length
        · rw [if_pos h2] at h
          obtain ⟨t, ht, rfl⟩ := Option.map_eq_some_iff.mp h
          obtain ⟨a1, a2, a3, a4⟩ := itemsOf_some ht
          rw [List.length_drop] at a2
          simp only [tot_cons, h2.1, List.map_cons, List.sum_cons, Item.takes, Item.gives, List.forall_mem_cons, List.length_take]
          exact ⟨⟨by omega, a1⟩, by simp; omega, by simp; omega, by simp; omega⟩
        · rw [if_neg h2] at h
          cases h

theorem itemsOf_ok : ∀ {raws : List Raw} {b : Bytes}, (∀ x ∈ raws, x.kind ≤ 2) → tot raws 2 = b.length → ∃ its, itemsOf raws b = some its
  | [], b, _, h => by
    have : b = [] := List.length_eq_zero_iff.mp h.symm
    subst this
    exact ⟨[], rfl⟩
  | x :: r, b, hk, h => by
    have hx := hk x (List.mem_cons_self ..)
    have hr : ∀ y ∈ r, y.kind ≤ 2 := fun y hy => hk y (List.mem_cons_of_mem _ hy)
    rw [tot_cons] at h
    unfold itemsOf
    by_cases h0 : x.kind = 0
    · rw [if_pos h0]
      obtain ⟨t, ht⟩ := itemsOf_ok (b := b) hr (by rw [if_neg (by omega)] at h; omega)
      exact ⟨_, by rw [ht]; rfl⟩
    · rw [if_neg h0]
      by_cases h1 : x.kind = 1
      · rw [if_pos h1]
        obtain ⟨t, ht⟩ := itemsOf_ok (b := b) hr (by rw [if_neg (by omega)] at h; omega)
        exact ⟨_, by rw [ht]; rfl⟩
      · have h2 : x.kind = 2 := by omega
        rw [if_pos h2] at h
        rw [if_neg h1, if_pos ⟨h2, by omega⟩]
        obtain ⟨t, ht⟩ := itemsOf_ok (b := b.drop x.n) hr (by rw [List.length_drop]; omega)
        exact ⟨_, by rw [ht]; rfl⟩

/-- one item: the origins so far, the old bytes gone through, the new bytes taken -/
def editStep (b : List Int) (st : List Int × Nat × Nat) (x : Raw) : List Int × Nat × Nat :=
  if x.kind = 2 then (st.1 ++ ((b.drop st.2.2).take x.n).map (fun z => -1 - z), st.2.1, st.2.2 + x.n)
  else if x.kind = 0 then (st.1 ++ (List.range x.n).map (fun (k : Nat) => (st.2.1 : Int) + (k : Int)), st.2.1 + x.n, st.2.2)
  else (st.1, st.2.1 + x.n, st.2.2)

def nums (b : Bytes) : List Int := b.map fun c => (c.toNat : Int)

theorem edit_loop (b : Bytes) : ∀ (raws : List Raw) (its : List Item) (o : List Int) (p q : Nat), itemsOf raws (b.drop q) = some its →
    raws.foldl (editStep (nums b)) (o, p, q) = (o ++ (said p its).map enc, p + (its.map Item.takes).sum, q + (tot raws 2))
  | [], its, o, p, q, h => by
    unfold itemsOf at h
    split at h
    · cases h
      simp [said, tot]
    · cases h
  | x :: r, its, o, p, q, h => by
    unfold itemsOf at h
    by_cases h0 : x.kind = 0
    · rw [if_pos h0] at h
      obtain ⟨t, ht, rfl⟩ := Option.map_eq_some_iff.mp h
      have e : editStep (nums b) (o, p, q) x = (o ++ (List.range x.n).map (fun (k : Nat) => (p : Int) + (k : Int)), p + x.n, q) := by
        unfold editStep
        rw [if_neg (by omega), if_pos h0]
      rw [List.foldl_cons, e, edit_loop b r t _ _ _ ht, tot_cons, if_neg (by omega)]
      simp only [said, List.map_append, List.map_map, List.map_cons, List.sum_cons, Item.takes, List.append_assoc, Nat.add_assoc, Nat.zero_add]
      congr 4
    · rw [if_neg h0] at h
      by_cases h1 : x.kind = 1
      · rw [if_pos h1] at h
        obtain ⟨t, ht, rfl⟩ := Option.map_eq_some_iff.mp h
        have e : editStep (nums b) (o, p, q) x = (o, p + x.n, q) := by
          unfold editStep
          rw [if_neg (by omega), if_neg (by omega)]
        rw [List.foldl_cons, e, edit_loop b r t _ _ _ ht, tot_cons, if_neg (by omega)]
        simp only [said, List.map_cons, List.sum_cons, Item.takes, Nat.add_assoc, Nat.zero_add]
      · rw [if_neg h1] at h
        by_cases h2 : x.kind = 2 ∧ x.n ≤ (b.drop q).length
        · rw [if_pos h2, List.drop_drop] at h
          obtain ⟨t, ht, rfl⟩ := Option.map_eq_some_iff.mp h
          have e : editStep (nums b) (o, p, q) x = (o ++ (((nums b).drop q).take x.n).map (fun z => -1 - z), p, q + x.n) := by
            unfold editStep
            rw [if_pos h2.1]
          rw [List.foldl_cons, e, edit_loop b r t _ _ _ ht, tot_cons, if_pos h2.1]
          simp only [said, List.map_append, List.map_map, List.map_cons, List.sum_cons, Item.takes, List.append_assoc, Nat.add_assoc, Nat.zero_add, nums, ← List.map_drop, ← List.map_take]
          congr 3
        · rw [if_neg h2] at h
          cases h

end Ed

/-! The state between two calls; each call's answer in whole numbers. Plain Lean. -/
namespace Ed
open Dl

/-! ### 8. The slots -/
structure Good (x : Dl.State) : Prop where
  len : x.length = 8
  fit : ∀ (i : Nat) (d : Delta), x[i]? = some (some d) → Fits d

theorem slot_iff {x : Dl.State} {i : Nat} {d : Delta} : slot x i = some d ↔ x[i]? = some (some d) := by
  unfold slot
  cases h : x[i]? with
  | none => simp
  | some o => simp
theorem slot_none {x : Dl.State} {i : Nat} : slot x i = none ↔ x[i]? = none ∨ x[i]? = some none := by
  unfold slot
  cases h : x[i]? with
  | none => simp
  | some o => simp

theorem Good.slot {x : Dl.State} (g : Good x) {i : Nat} {d : Delta} (h : Dl.slot x i = some d) : Fits d := g.fit i d (slot_iff.mp h)
theorem Good.big {x : Dl.State} (g : Good x) {i : Nat} (h : 8 ≤ i) : Dl.slot x i = none := slot_none.mpr (.inl (List.getElem?_eq_none (by rw [g.len]; exact h)))

theorem good_start : Good Dl.start := ⟨rfl, fun i d h => by
  unfold Dl.start at h
  rw [List.getElem?_replicate] at h
  split at h
  · cases h
  · cases h⟩

theorem Good.set {x : Dl.State} (g : Good x) {d : Delta} (f : Fits d) (k : Nat) : Good (x.set k (some d)) := by
  refine ⟨by rw [List.length_set]; exact g.len, fun i e h => ?_⟩
  rw [List.getElem?_set] at h
  split at h
  · split at h
    · cases h
      exact f
    · cases h
  · exact g.fit i e h

theorem into_ok {x : Dl.State} {k : Nat} {d : Delta} (f : Fits d) : into x k d = (x.set k (some d), says 0) := by
  unfold into
  have h1 := f.old
  have h2 := f.new
  rw [if_neg (by show ¬ (1024 < d.base ∨ 1024 < d.out.length); omega)]

/-! ### 9. Bytes as whole numbers -/
theorem nums_bytesOf {b : List Int} (h : DlNeutral.byteRow b = true) : nums (DlNeutral.bytesOf b) = b := by
  induction b with
  | nil => rfl
  | cons z r ih =>
    simp only [DlNeutral.byteRow, List.all_cons, Bool.and_eq_true, decide_eq_true_eq] at h
    have e := ih (by simp only [DlNeutral.byteRow]; exact h.2)
    show ((UInt8.ofNat z.toNat).toNat : Int) :: nums (DlNeutral.bytesOf r) = z :: r
    rw [e]
    congr 1
    have h1 := h.1
    rw [UInt8.toNat_ofNat']
    omega
theorem bytesOf_len (b : List Int) : (DlNeutral.bytesOf b).length = b.length := List.length_map _
theorem byteNums_nums (b : Bytes) : DlNeutral.byteNums b = nums b := rfl

/-- a new byte's number -/
def oct (o : Int) : Int := -1 - o
theorem oct_enc (c : UInt8) : oct (enc (.fresh c)) = (c.toNat : Int) := by
  simp only [oct, enc]
  omega

def newOf : Src → Option UInt8
  | .fresh c => some c
  | .old _ => none
theorem newBytes_eq (d : Delta) : newBytes d = d.out.filterMap newOf := by
  unfold newBytes
  congr 1

theorem new_nums : ∀ (l : List Src), nums (l.filterMap newOf) = ((l.map enc).filter fun o => decide (o < 0)).map oct
  | [] => rfl
  | .fresh c :: r => by
    have ih := new_nums r
    have h : enc (.fresh c) < 0 := by simp only [enc]; omega
    rw [List.filterMap_cons_some (f := newOf) (b := c) rfl, List.map_cons, List.filter_cons_of_pos (by simpa using h), List.map_cons, ← ih, oct_enc]
    rfl
  | .old p :: r => by
    have ih := new_nums r
    have h : ¬ enc (.old p) < 0 := by simp only [enc]; omega
    rw [List.filterMap_cons_none (f := newOf) rfl, List.map_cons, List.filter_cons_of_neg (by simpa using h), ← ih]

theorem newBytes_nums (d : Delta) : nums (newBytes d) = ((d.out.map enc).filter fun o => decide (o < 0)).map oct := by
  rw [newBytes_eq]
  exact new_nums d.out

theorem kept_len (d : Delta) : (kept d).length + (newBytes d).length = d.out.length := by
  rw [newBytes_eq]
  unfold kept
  induction d.out with
  | nil => rfl
  | cons x r ih =>
    cases x with
    | old p =>
      rw [List.filterMap_cons_some (f := Src.place) (b := p) rfl, List.filterMap_cons_none (f := newOf) rfl, List.length_cons, List.length_cons]
      omega
    | fresh c =>
      rw [List.filterMap_cons_none (f := Src.place) rfl, List.filterMap_cons_some (f := newOf) (b := c) rfl, List.length_cons, List.length_cons]
      omega

/-- one byte of the new text -/
def pick (s : List Int) (o : Int) : Int := if o < 0 then oct o else s.getD o.toNat 0

theorem getD_nums (s : Bytes) (p : Nat) : ((s.getD p 0).toNat : Int) = (nums s).getD p 0 := by
  unfold nums
  rw [List.getD_eq_getElem?_getD, List.getD_eq_getElem?_getD, List.getElem?_map]
  cases s[p]? <;> rfl

theorem done_nums (d : Delta) (s : Bytes) : nums (done d s) = (d.out.map enc).map (pick (nums s)) := by
  unfold done nums
  rw [List.map_map, List.map_map]
  refine List.map_congr_left fun x _ => ?_
  cases x with
  | old p =>
    show ((s.getD p 0).toNat : Int) = pick (nums s) (p : Int)
    unfold pick
    rw [if_neg (by omega), getD_nums]
    rfl
  | fresh c =>
    show (c.toNat : Int) = pick (nums s) (enc (.fresh c))
    unfold pick
    rw [if_pos (by simp only [enc]; omega), oct_enc]

/-! ### 10. What the calls set, look, items, bytes, apply answer -/
theorem step_look (x : Dl.State) (i : Int) : DlNeutral.step x [[2, i]] = (x, match slot x i.toNat with
    | some d => [0, (d.base : Int), (d.out.length : Int), ((kept d).length : Int)]
    | none => [-1]) := by
  show (x, DlNeutral.numbers (match slot x i.toNat with | some d => ⟨0, [d.base, d.out.length, (kept d).length], none⟩ | none => says (-1))) = _
  cases slot x i.toNat <;> rfl
theorem step_items (x : Dl.State) (i : Int) : DlNeutral.step x [[3, i]] = (x, match slot x i.toNat with
    | some d => ((itemsIn d).length : Int) :: DlNeutral.ints ((itemsIn d).flatMap fun y => [(rawOf y).kind, (rawOf y).n])
    | none => [-1]) := by
  show (x, DlNeutral.numbers (match slot x i.toNat with | some d => ⟨((itemsIn d).length : Int), (itemsIn d).flatMap fun (y : Item) => [(rawOf y).kind, (rawOf y).n], none⟩ | none => says (-1))) = _
  cases slot x i.toNat <;> rfl
theorem step_bytes (x : Dl.State) (i : Int) : DlNeutral.step x [[4, i]] = (x, match slot x i.toNat with
    | some d => 0 :: ((newBytes d).length : Int) :: nums (newBytes d)
    | none => [-1]) := by
  show (x, DlNeutral.numbers (match slot x i.toNat with | some d => gives (newBytes d) | none => says (-1))) = _
  cases slot x i.toNat <;> rfl
theorem step_apply (x : Dl.State) (i : Int) (b : List Int) : DlNeutral.step x [[5, i], b] = (x, match slot x i.toNat with
    | some d => if b.length ≠ d.base then [-2] else 0 :: ((done d (DlNeutral.bytesOf b)).length : Int) :: nums (done d (DlNeutral.bytesOf b))
    | none => [-1]) := by
  show (x, DlNeutral.numbers (match slot x i.toNat with | some d => if (DlNeutral.bytesOf b).length ≠ d.base then says (-2) else gives (done d (DlNeutral.bytesOf b)) | none => says (-1))) = _
  rw [bytesOf_len]
  cases slot x i.toNat with
  | none => rfl
  | some d =>
    dsimp only
    split
    · rfl
    · rfl

/-- the number of set's first refusal that holds, or 0 -/
def refuse (k : Int) (l b : List Int) : Int :=
  if 8 ≤ k ∨ l.length % 2 ≠ 0 then -1
  else if 4098 < l.length ∨ 1024 < b.length then -3
  else if (∃ x ∈ rawsOf (DlNeutral.natsOf l), 2 < x.kind) ∨ tot (rawsOf (DlNeutral.natsOf l)) 2 ≠ b.length then -2
  else if 1024 < tot (rawsOf (DlNeutral.natsOf l)) 0 + tot (rawsOf (DlNeutral.natsOf l)) 1 ∨ 1024 < tot (rawsOf (DlNeutral.natsOf l)) 0 + tot (rawsOf (DlNeutral.natsOf l)) 2 then -3
  else 0

theorem natsOf_len (l : List Int) : (DlNeutral.natsOf l).length = l.length := List.length_map _

theorem set_do (x : Dl.State) (k : Nat) (l : List Nat) (b : Bytes) : Dl.step x (.set k l b) = if SLOTS ≤ k ∨ l.length % 2 = 1 then (x, says (-1)) else if 2 * ITEMS < l.length ∨ MOST < b.length then (x, says (-3)) else (match itemsOf (rawsOf l) b with
    | none => (x, says (-2))
    | some its => if MOST < (its.map Item.takes).sum ∨ MOST < (its.map Item.gives).sum then (x, says (-3)) else into x k (deltaOf its)) := rfl
theorem set_eq (x : Dl.State) (k : Int) (l b : List Int) : DlNeutral.step x [[1, k], l, b] =
    ((Dl.step x (.set k.toNat (DlNeutral.natsOf l) (DlNeutral.bytesOf b))).1, DlNeutral.numbers (Dl.step x (.set k.toNat (DlNeutral.natsOf l) (DlNeutral.bytesOf b))).2) := rfl

theorem step_set {x : Dl.State} {k : Int} {l b : List Int} (hk : 0 ≤ k) : 
    (refuse k l b ≠ 0 ∧ DlNeutral.step x [[1, k], l, b] = (x, [refuse k l b])) ∨
    (refuse k l b = 0 ∧ k < 8 ∧ ∃ its, itemsOf (rawsOf (DlNeutral.natsOf l)) (DlNeutral.bytesOf b) = some its ∧ Fits (deltaOf its) ∧ DlNeutral.step x [[1, k], l, b] = (x.set k.toNat (some (deltaOf its)), [0])) := by
  rw [set_eq, set_do, natsOf_len, bytesOf_len]
  unfold refuse
  by_cases h1 : 8 ≤ k ∨ l.length % 2 ≠ 0
  · left
    rw [if_pos h1, if_pos (show SLOTS ≤ k.toNat ∨ l.length % 2 = 1 from h1.elim (fun h => .inl (by show 8 ≤ k.toNat; omega)) fun h => .inr (by omega))]
    exact ⟨by decide, rfl⟩
  · rw [if_neg h1, if_neg (show ¬ (SLOTS ≤ k.toNat ∨ l.length % 2 = 1) by show ¬ (8 ≤ k.toNat ∨ l.length % 2 = 1); omega)]
    by_cases h2 : 4098 < l.length ∨ 1024 < b.length
    · left
      rw [if_pos h2, if_pos (show 2 * ITEMS < l.length ∨ MOST < b.length from h2)]
      exact ⟨by decide, rfl⟩
    · rw [if_neg h2, if_neg (show ¬ (2 * ITEMS < l.length ∨ MOST < b.length) from h2)]
      cases e : itemsOf (rawsOf (DlNeutral.natsOf l)) (DlNeutral.bytesOf b) with
      | none =>
        left
        have h3 : (∃ x ∈ rawsOf (DlNeutral.natsOf l), 2 < x.kind) ∨ tot (rawsOf (DlNeutral.natsOf l)) 2 ≠ b.length := by
          refine Classical.byContradiction fun q => ?_
          rw [not_or] at q
          obtain ⟨its, h⟩ := itemsOf_ok (raws := rawsOf (DlNeutral.natsOf l)) (b := DlNeutral.bytesOf b) (fun y hy => Nat.le_of_not_lt fun z => q.1 ⟨y, hy, z⟩) (by rw [bytesOf_len]; exact Decidable.not_not.mp q.2)
          rw [e] at h
          cases h
        rw [if_pos h3]
        exact ⟨by decide, rfl⟩
      | some its =>
        obtain ⟨a1, a2, a3, a4⟩ := itemsOf_some e
        rw [bytesOf_len] at a2
        have h3 : ¬ ((∃ x ∈ rawsOf (DlNeutral.natsOf l), 2 < x.kind) ∨ tot (rawsOf (DlNeutral.natsOf l)) 2 ≠ b.length) := by
          rintro (⟨y, hy, z⟩ | z)
          · have := a1 y hy
            omega
          · exact z a2
        rw [if_neg h3]
        dsimp only
        rw [a3, a4]
        by_cases h4 : 1024 < tot (rawsOf (DlNeutral.natsOf l)) 0 + tot (rawsOf (DlNeutral.natsOf l)) 1 ∨ 1024 < tot (rawsOf (DlNeutral.natsOf l)) 0 + tot (rawsOf (DlNeutral.natsOf l)) 2
        · left
          rw [if_pos h4, if_pos (show MOST < _ ∨ MOST < _ from h4)]
          exact ⟨by decide, rfl⟩
        · right
          have f : Fits (deltaOf its) := fits_deltaOf (by omega) (by omega)
          rw [if_neg h4, if_neg (show ¬ (MOST < _ ∨ MOST < _) from h4), into_ok f]
          exact ⟨rfl, by omega, its, rfl, f, rfl⟩

end Ed

/-! Loops stopped on their way: what holds behind i turns. Plain Lean. -/
namespace Ed
open Dl

theorem addR_len (rs : List (Int × Int)) (k n : Int) : (addR rs k n).length ≤ rs.length + 1 := by
  unfold addR
  split
  · omega
  · unfold addN
    split
    · simp
    · split <;> simp

/-! ### the one form -/
def formAt (d : Delta) (i : Nat) : List (Int × Int) × Int := ((d.out.map enc).take i).foldl formStep ([], 0)
theorem formAt_zero (d : Delta) : formAt d 0 = ([], 0) := rfl
theorem formAt_succ {d : Delta} {i : Nat} {o : Int} (h : (d.out.map enc)[i]? = some o) : formAt d (i + 1) = formStep (formAt d i) o := by
  unfold formAt
  rw [List.take_add_one, h, List.foldl_append]
  rfl
theorem formAt_end (d : Delta) : formR d = addR (formAt d d.out.length).1 1 ((d.base : Int) - (formAt d d.out.length).2) := by
  unfold formAt formR
  rw [List.take_of_length_le (by rw [List.length_map]; exact Nat.le_refl _)]
theorem formStep_len (st : List (Int × Int) × Int) (o : Int) : (formStep st o).1.length ≤ st.1.length + 2 := by
  unfold formStep
  split
  · have := addR_len st.1 2 1
    show (addR st.1 2 1).length ≤ _
    omega
  · have h1 := addR_len (addR st.1 1 (o - st.2)) 0 1
    have h2 := addR_len st.1 1 (o - st.2)
    show (addR (addR st.1 1 (o - st.2)) 0 1).length ≤ _
    omega
theorem formFold_len : ∀ (l : List Int) (st : List (Int × Int) × Int), (l.foldl formStep st).1.length ≤ st.1.length + 2 * l.length
  | [], st => Nat.le_refl _
  | o :: l, st => by
    have h1 := formFold_len l (formStep st o)
    have h2 := formStep_len st o
    rw [List.foldl_cons, List.length_cons]
    omega
theorem formAt_len (d : Delta) (i : Nat) : (formAt d i).1.length ≤ 2 * d.out.length := by
  have h := formFold_len ((d.out.map enc).take i) ([], 0)
  have h2 : ((d.out.map enc).take i).length ≤ d.out.length := by
    rw [List.length_take, List.length_map]
    omega
  unfold formAt
  have h3 : (([] : List (Int × Int)), (0 : Int)).1.length = 0 := rfl
  omega

/-! ### the setting of an edit -/
def editAt (b : List Int) (raws : List Raw) (i : Nat) : List Int × Nat × Nat := (raws.take i).foldl (editStep b) ([], 0, 0)
theorem editAt_zero (b : List Int) (raws : List Raw) : editAt b raws 0 = ([], 0, 0) := rfl
theorem editAt_succ {b : List Int} {raws : List Raw} {i : Nat} {x : Raw} (h : raws[i]? = some x) : editAt b raws (i + 1) = editStep b (editAt b raws i) x := by
  unfold editAt
  rw [List.take_add_one, h, List.foldl_append]
  rfl
theorem editAt_end (b : List Int) (raws : List Raw) : editAt b raws raws.length = raws.foldl (editStep b) ([], 0, 0) := by
  unfold editAt
  rw [List.take_length]
theorem editStep_up (b : List Int) (st : List Int × Nat × Nat) (x : Raw) : st.1.length ≤ (editStep b st x).1.length ∧ st.2.1 ≤ (editStep b st x).2.1 ∧ st.2.2 ≤ (editStep b st x).2.2 := by
  unfold editStep
  split
  · simp only [List.length_append]
    omega
  · split
    · simp only [List.length_append]
      omega
    · simp only
      omega
theorem editFold_up (b : List Int) : ∀ (l : List Raw) (st : List Int × Nat × Nat), st.1.length ≤ (l.foldl (editStep b) st).1.length ∧ st.2.1 ≤ (l.foldl (editStep b) st).2.1 ∧ st.2.2 ≤ (l.foldl (editStep b) st).2.2
  | [], st => ⟨Nat.le_refl _, Nat.le_refl _, Nat.le_refl _⟩
  | x :: l, st => by
    have h1 := editFold_up b l (editStep b st x)
    have h2 := editStep_up b st x
    rw [List.foldl_cons]
    omega
theorem editAt_up (b : List Int) (raws : List Raw) (i : Nat) : (editAt b raws i).1.length ≤ (editAt b raws raws.length).1.length ∧ (editAt b raws i).2.1 ≤ (editAt b raws raws.length).2.1 ∧ (editAt b raws i).2.2 ≤ (editAt b raws raws.length).2.2 := by
  have h := editFold_up b (raws.drop i) (editAt b raws i)
  have e : (raws.drop i).foldl (editStep b) (editAt b raws i) = editAt b raws raws.length := by
    unfold editAt
    rw [← List.foldl_append, List.take_append_drop, List.take_length]
  rw [e] at h
  exact h
/-- behind all items: the edit -/
theorem editAt_all {b : List Int} {raws : List Raw} {its : List Item} {bs : Bytes} (hb : nums bs = b) (h : itemsOf raws bs = some its) :
    editAt b raws raws.length = ((deltaOf its).out.map enc, (deltaOf its).base, bs.length) := by
  rw [editAt_end, ← hb]
  have e := edit_loop bs raws its [] 0 0 (by rw [List.drop_zero]; exact h)
  rw [e, (itemsOf_some h).2.1]
  simp [deltaOf]

end Ed

/-! Every call: the state stays good, the answer stays short; a line as it is read. Plain Lean. -/
namespace Ed
open Dl

theorem good_into {x : Dl.State} (g : Good x) (k : Nat) {d : Delta} (h : Up d.base 0 d.out) : Good (into x k d).1 := by
  unfold into
  by_cases c : MOST < d.base ∨ MOST < d.out.length
  · rw [if_pos c]
    exact g
  · rw [if_neg c]
    have c : ¬ (1024 < d.base ∨ 1024 < d.out.length) := c
    exact g.set ⟨h, by omega, by omega⟩ k
theorem good_two {x : Dl.State} (g : Good x) (i j k : Nat) (f : Delta → Delta → Dl.State × Answer) (h : ∀ d e, slot x i = some d → slot x j = some e → Good (f d e).1) : Good (two x i j k f).1 := by
  unfold two
  cases hi : slot x i with
  | none => exact g
  | some d =>
    cases hj : slot x j with
    | none => exact g
    | some e =>
      dsimp only
      split
      · exact g
      · exact h d e hi hj
theorem good_do {x : Dl.State} (g : Good x) (c : Dl.Call) : Good (Dl.step x c).1 := by
  cases c with
  | set k l b =>
    rw [set_do]
    split
    · exact g
    · split
      · exact g
      · split
        · exact g
        · split
          · exact g
          · rename_i its _ _
            exact good_into g k (by have h := up_said its 0; rw [Nat.zero_add] at h; exact h)
  | look i => exact g
  | items i => exact g
  | bytes i => exact g
  | apply i s => exact g
  | then_ i j k =>
    refine good_two g i j k _ fun d e hd he => ?_
    split
    · exact g
    · rename_i c
      exact good_into g k (fits_after (g.slot hd) (g.slot he) (Decidable.not_not.mp c)).up
  | back i k s =>
    show Good (match slot x i with
      | some d => if SLOTS ≤ k then (x, says (-1)) else if s.length ≠ d.base then (x, says (-2)) else into x k (back d s)
      | none => (x, says (-1))).1
    cases hi : slot x i with
    | none => exact g
    | some d =>
      dsimp only
      split
      · exact g
      · split
        · exact g
        · exact good_into g k (fits_back (g.slot hi) s).up
  | over i j first k =>
    refine good_two g i j k _ fun d e hd he => ?_
    split
    · exact g
    · exact good_into g k (up_over (g.slot he).up _)
  | place i g r => assumption
  | same i j => exact g
theorem good_step {x : Dl.State} (g : Good x) (c : List (List Int)) : Good (DlNeutral.step x c).1 := by
  unfold DlNeutral.step
  split
  · exact good_do g _
  · exact g

theorem items_len {d : Delta} (f : Fits d) : (itemsIn d).length ≤ 2049 := by
  obtain ⟨_, h⟩ := flat_form f.up
  rw [← h, formAt_end]
  have h1 := addR_len (formAt d d.out.length).1 1 ((d.base : Int) - (formAt d d.out.length).2)
  have h2 := formAt_len d d.out.length
  have h3 := f.new
  omega
theorem says_len (z : Int) : (DlNeutral.numbers (says z)).length = 1 := rfl
theorem gives_len (b : Bytes) : (DlNeutral.numbers (gives b)).length = b.length + 2 := by
  show (0 :: (([] : List Int) ++ ((b.length : Int) :: DlNeutral.byteNums b))).length = _
  simp [DlNeutral.byteNums]
theorem into_len (x : Dl.State) (k : Nat) (d : Delta) : (DlNeutral.numbers (into x k d).2).length = 1 := by
  unfold into
  split <;> rfl
theorem two_len (x : Dl.State) (i j k : Nat) (f : Delta → Delta → Dl.State × Answer) (h : ∀ d e, (DlNeutral.numbers (f d e).2).length = 1) : (DlNeutral.numbers (two x i j k f).2).length = 1 := by
  unfold two
  cases slot x i with
  | none => rfl
  | some d =>
    cases slot x j with
    | none => rfl
    | some e =>
      dsimp only
      split
      · rfl
      · exact h d e
theorem ans_do {x : Dl.State} (g : Good x) (c : Dl.Call) : (DlNeutral.numbers (Dl.step x c).2).length ≤ 5000 := by
  cases c with
  | set k l b =>
    rw [set_do]
    split
    · exact (show (1 : Nat) ≤ 5000 by decide)
    · split
      · exact (show (1 : Nat) ≤ 5000 by decide)
      · split
        · exact (show (1 : Nat) ≤ 5000 by decide)
        · split
          · exact (show (1 : Nat) ≤ 5000 by decide)
          · rw [into_len]; decide
  | look i =>
    show (DlNeutral.numbers (match slot x i with | some d => ⟨0, [d.base, d.out.length, (kept d).length], none⟩ | none => says (-1))).length ≤ 5000
    cases slot x i with
    | none => exact (show (1 : Nat) ≤ 5000 by decide)
    | some d => exact (show (4 : Nat) ≤ 5000 by decide)
  | items i =>
    show (DlNeutral.numbers (match slot x i with | some d => ⟨((itemsIn d).length : Int), (itemsIn d).flatMap fun (y : Item) => [(rawOf y).kind, (rawOf y).n], none⟩ | none => says (-1))).length ≤ 5000
    cases h : slot x i with
    | none => exact (show (1 : Nat) ≤ 5000 by decide)
    | some d =>
      show (((itemsIn d).length : Int) :: DlNeutral.ints ((itemsIn d).flatMap fun (y : Item) => [(rawOf y).kind, (rawOf y).n])).length ≤ 5000
      have h1 := items_len (g.slot h)
      have h2 : ((itemsIn d).flatMap fun (y : Item) => [(rawOf y).kind, (rawOf y).n]).length = 2 * (itemsIn d).length := by
        induction itemsIn d with
        | nil => rfl
        | cons a r ih => rw [List.flatMap_cons, List.length_append, ih, List.length_cons]; simp; omega
      rw [List.length_cons, DlNeutral.ints, List.length_map, h2]
      omega
  | bytes i =>
    show (DlNeutral.numbers (match slot x i with | some d => gives (newBytes d) | none => says (-1))).length ≤ 5000
    cases h : slot x i with
    | none => exact (show (1 : Nat) ≤ 5000 by decide)
    | some d =>
      show (DlNeutral.numbers (gives (newBytes d))).length ≤ 5000
      rw [gives_len]
      have h1 := kept_len d
      have h2 := (g.slot h).new
      omega
  | apply i s =>
    show (DlNeutral.numbers (match slot x i with | some d => if s.length ≠ d.base then says (-2) else gives (done d s) | none => says (-1))).length ≤ 5000
    cases h : slot x i with
    | none => exact (show (1 : Nat) ≤ 5000 by decide)
    | some d =>
      dsimp only
      split
      · exact (show (1 : Nat) ≤ 5000 by decide)
      · rw [gives_len]
        have h1 : (done d s).length = d.out.length := List.length_map _
        have h2 := (g.slot h).new
        omega
  | then_ i j k =>
    have : (DlNeutral.numbers (Dl.step x (.then_ i j k)).2).length = 1 := two_len x i j k _ fun d e => by
      split
      · rfl
      · exact into_len _ _ _
    omega
  | back i k s =>
    show (DlNeutral.numbers (match slot x i with
      | some d => if SLOTS ≤ k then (x, says (-1)) else if s.length ≠ d.base then (x, says (-2)) else into x k (back d s)
      | none => (x, says (-1))).2).length ≤ 5000
    cases slot x i with
    | none => exact (show (1 : Nat) ≤ 5000 by decide)
    | some d =>
      dsimp only
      split
      · exact (show (1 : Nat) ≤ 5000 by decide)
      · split
        · exact (show (1 : Nat) ≤ 5000 by decide)
        · rw [into_len]; decide
  | over i j first k =>
    have : (DlNeutral.numbers (Dl.step x (.over i j first k)).2).length = 1 := two_len x i j k _ fun d e => by
      split
      · rfl
      · exact into_len _ _ _
    omega
  | place i g' r =>
    show (DlNeutral.numbers (match slot x i with | some d => if d.base < g' then says (-2) else ⟨0, [moved d g' (r != 0)], none⟩ | none => says (-1))).length ≤ 5000
    cases slot x i with
    | none => exact (show (1 : Nat) ≤ 5000 by decide)
    | some d =>
      dsimp only
      split
      · exact (show (1 : Nat) ≤ 5000 by decide)
      · exact (show (2 : Nat) ≤ 5000 by decide)
  | same i j =>
    show (DlNeutral.numbers (match slot x i, slot x j with | some d, some e => says (if d = e then 1 else 0) | _, _ => says (-1))).length ≤ 5000
    cases slot x i with
    | none => exact (show (1 : Nat) ≤ 5000 by decide)
    | some d =>
      cases slot x j with
      | none => exact (show (1 : Nat) ≤ 5000 by decide)
      | some e => exact (show (1 : Nat) ≤ 5000 by decide)
theorem ans_len {x : Dl.State} (g : Good x) (c : List (List Int)) : (DlNeutral.step x c).2.length ≤ 5000 := by
  unfold DlNeutral.step
  split
  · exact ans_do g _
  · exact Nat.zero_le _

/-! ### a line as it is read -/
theorem told_cons (a : List Int) (l : List (List Int)) : PyFlat.told (a :: l) = (a.length : Int) :: (a ++ PyFlat.told l) := rfl
theorem played_cons (x : Dl.State) (c : List (List Int)) (cs : List (List (List Int))) : PyFlat.played DlNeutral.step x (c :: cs) = (DlNeutral.step x c).2 :: PyFlat.played DlNeutral.step (DlNeutral.step x c).1 cs := rfl
theorem call_head {c : List (List Int)} (h : PyFlat.okCall PyWqakan.shape c) : ∃ n t rs, c = (n :: t) :: rs ∧ 1 ≤ n ∧ n ≤ 10 := by
  obtain ⟨n, t, rs, e, hs⟩ := h
  refine ⟨n, t, rs, e, ?_⟩
  unfold PyWqakan.shape at hs
  repeat' (first | (split at hs; omega) | skip)
  all_goals first | omega | (split at hs <;> first | omega | cases hs) | cases hs
theorem put_head (n : Int) (t : List Int) (rs : List (List Int)) (cs : List (List (List Int))) : PyFlat.put (((n :: t) :: rs) :: cs) = n :: (t ++ (PyFlat.putRows rs ++ PyFlat.put cs)) := by
  show ((n :: t) ++ PyFlat.putRows rs) ++ PyFlat.put cs = _
  rw [List.append_assoc]
  rfl
end Ed

/-! The calls then, back, over, place, same, in forms that loops can be held against. Plain Lean. -/
namespace Ed
open Dl

/-! ### where old bytes stand -/
def keptAt (d : Delta) (i : Nat) : List (Option Nat) := (List.range d.base).map fun p => (image d p).filter fun q => decide (q < i)
def keptL (d : Delta) : List (Option Nat) := (List.range d.base).map (image d)
theorem keptAt_len (d : Delta) (i : Nat) : (keptAt d i).length = d.base := by
  unfold keptAt
  rw [List.length_map, List.length_range]
theorem keptL_len (d : Delta) : (keptL d).length = d.base := by
  unfold keptL
  rw [List.length_map, List.length_range]
theorem keptAt_get {d : Delta} {i p : Nat} (h : p < d.base) : (keptAt d i)[p]? = some ((image d p).filter fun q => decide (q < i)) := by
  unfold keptAt
  rw [List.getElem?_map, List.getElem?_range h]
  rfl
theorem keptL_get {d : Delta} {p : Nat} (h : p < d.base) : (keptL d)[p]? = some (image d p) := by
  unfold keptL
  rw [List.getElem?_map, List.getElem?_range h]
  rfl
theorem keptAt_zero (d : Delta) : keptAt d 0 = List.replicate d.base none := by
  refine List.ext_getElem? fun p => ?_
  by_cases h : p < d.base
  · rw [keptAt_get h, List.getElem?_replicate, if_pos h]
    cases image d p with
    | none => rfl
    | some q => simp [Option.filter]
  · rw [List.getElem?_eq_none (by rw [keptAt_len]; omega), List.getElem?_eq_none (by rw [List.length_replicate]; omega)]
theorem filt_eq {q i : Nat} (h : q ≠ i) : (some q).filter (fun q => decide (q < i + 1)) = (some q).filter (fun q => decide (q < i)) := by
  by_cases c : q < i
  · simp [Option.filter, c, Nat.lt_succ_of_lt c]
  · simp [Option.filter, c, show ¬ q < i + 1 by omega]
theorem keptAt_old {d : Delta} (f : Up d.base 0 d.out) {i p : Nat} (h : d.out[i]? = some (.old p)) : keptAt d (i + 1) = (keptAt d i).set p (some i) := by
  have hp : p < d.base := (f.mem (List.mem_of_getElem? h)).2
  refine List.ext_getElem? fun n => ?_
  by_cases hn : n < d.base
  · rw [keptAt_get hn, List.getElem?_set, keptAt_len]
    by_cases e : p = n
    · subst e
      rw [if_pos rfl, if_pos hp, image_of f h]
      simp [Option.filter]
    · rw [if_neg e, keptAt_get hn]
      cases hi : image d n with
      | none => rfl
      | some q =>
        have hq : q ≠ i := by
          rintro rfl
          have := (image_some hi).symm.trans h
          cases this
          exact e rfl
        exact congrArg some (filt_eq hq)
  · rw [List.getElem?_eq_none (by rw [keptAt_len]; omega), List.getElem?_eq_none (by rw [List.length_set, keptAt_len]; omega)]
theorem keptAt_new {d : Delta} {i : Nat} {c : UInt8} (h : d.out[i]? = some (.fresh c)) : keptAt d (i + 1) = keptAt d i := by
  refine List.ext_getElem? fun n => ?_
  by_cases hn : n < d.base
  · rw [keptAt_get hn, keptAt_get hn]
    cases hi : image d n with
    | none => rfl
    | some q =>
      have hq : q ≠ i := by
        rintro rfl
        have := (image_some hi).symm.trans h
        cases this
      exact congrArg some (filt_eq hq)
  · rw [List.getElem?_eq_none (by rw [keptAt_len]; omega), List.getElem?_eq_none (by rw [keptAt_len]; omega)]
theorem keptAt_end (d : Delta) : keptAt d d.out.length = keptL d := by
  refine List.ext_getElem? fun n => ?_
  by_cases hn : n < d.base
  · rw [keptAt_get hn, keptL_get hn]
    cases hi : image d n with
    | none => rfl
    | some q =>
      have := image_lt hi
      simp [Option.filter, this]
  · rw [List.getElem?_eq_none (by rw [keptAt_len]; omega), List.getElem?_eq_none (by rw [keptL_len]; omega)]

/-! ### where new bytes stand -/
def gapEnd : Nat → List Src → Nat
  | g, [] => g
  | g, .fresh _ :: r => gapEnd g r
  | _, .old p :: r => gapEnd (p + 1) r
def nblk : Nat → Nat → List Src → Nat → List Nat
  | _, _, [], _ => []
  | pos, gap, .fresh _ :: r, g => if gap = g then pos :: nblk (pos + 1) gap r g else nblk (pos + 1) gap r g
  | pos, _, .old p :: r, g => nblk (pos + 1) (p + 1) r g
theorem gapEnd_new (c : UInt8) : ∀ (l : List Src) (g : Nat), gapEnd g (l ++ [.fresh c]) = gapEnd g l
  | [], _ => rfl
  | .fresh _ :: r, g => gapEnd_new c r g
  | .old p :: r, _ => gapEnd_new c r (p + 1)
theorem gapEnd_old (q : Nat) : ∀ (l : List Src) (g : Nat), gapEnd g (l ++ [.old q]) = q + 1
  | [], _ => rfl
  | .fresh _ :: r, g => gapEnd_old q r g
  | .old p :: r, _ => gapEnd_old q r (p + 1)
theorem nblk_new (c : UInt8) (g : Nat) : ∀ (l : List Src) (pos gap : Nat), nblk pos gap (l ++ [.fresh c]) g = if gapEnd gap l = g then nblk pos gap l g ++ [pos + l.length] else nblk pos gap l g
  | [], pos, gap => by
    show (if gap = g then pos :: [] else []) = if gap = g then [] ++ [pos + 0] else []
    rfl
  | .fresh _ :: r, pos, gap => by
    show (if gap = g then pos :: nblk (pos + 1) gap (r ++ [.fresh c]) g else nblk (pos + 1) gap (r ++ [.fresh c]) g) =
      if gapEnd gap r = g then (if gap = g then pos :: nblk (pos + 1) gap r g else nblk (pos + 1) gap r g) ++ [pos + (r.length + 1)] else (if gap = g then pos :: nblk (pos + 1) gap r g else nblk (pos + 1) gap r g)
    rw [nblk_new c g r (pos + 1) gap, show pos + 1 + r.length = pos + (r.length + 1) by omega]
    by_cases h1 : gap = g
    · by_cases h2 : gapEnd gap r = g
      · simp only [if_pos h1, if_pos h2, List.cons_append]
      · simp only [if_pos h1, if_neg h2]
    · by_cases h2 : gapEnd gap r = g
      · simp only [if_neg h1, if_pos h2]
      · simp only [if_neg h1, if_neg h2]
  | .old p :: r, pos, gap => by
    show nblk (pos + 1) (p + 1) (r ++ [.fresh c]) g = if gapEnd (p + 1) r = g then nblk (pos + 1) (p + 1) r g ++ [pos + (r.length + 1)] else nblk (pos + 1) (p + 1) r g
    rw [nblk_new c g r (pos + 1) (p + 1), show pos + 1 + r.length = pos + (r.length + 1) by omega]
theorem nblk_old (q g : Nat) : ∀ (l : List Src) (pos gap : Nat), nblk pos gap (l ++ [.old q]) g = nblk pos gap l g
  | [], pos, gap => rfl
  | .fresh _ :: r, pos, gap => by
    show (if gap = g then pos :: nblk (pos + 1) gap (r ++ [.old q]) g else nblk (pos + 1) gap (r ++ [.old q]) g) = (if gap = g then pos :: nblk (pos + 1) gap r g else nblk (pos + 1) gap r g)
    rw [nblk_old q g r (pos + 1) gap]
  | .old p :: r, pos, gap => nblk_old q g r (pos + 1) (p + 1)

theorem nblk_lt {base g : Nat} : ∀ {l : List Src} {pos gap lo : Nat}, Up base lo l → gap ≤ lo → g < gap → nblk pos gap l g = []
  | [], _, _, _, _, _, _ => rfl
  | .fresh _ :: r, pos, gap, lo, h, h1, h2 => by
    show (if gap = g then pos :: nblk (pos + 1) gap r g else nblk (pos + 1) gap r g) = []
    rw [if_neg (by omega)]
    exact nblk_lt (l := r) (lo := lo) h h1 h2
  | .old p :: r, pos, gap, lo, h, h1, h2 => nblk_lt (l := r) (lo := p + 1) h.2.2 (Nat.le_refl _) (by have := h.1; omega)
theorem range_off (pos n : Nat) : (List.range (n + 1)).map (fun k => pos + k) = pos :: (List.range n).map (fun k => pos + 1 + k) := by
  rw [List.range_succ_eq_map, List.map_cons, List.map_map]
  congr 1
  refine List.map_congr_left fun k _ => ?_
  show pos + (k + 1) = pos + 1 + k
  omega
theorem nblk_same {base : Nat} : ∀ {l : List Src} {pos gap lo : Nat}, Up base lo l → gap ≤ lo → nblk pos gap l gap = (List.range (l.takeWhile isNew).length).map fun k => pos + k
  | [], _, _, _, _, _ => rfl
  | .fresh c :: r, pos, gap, lo, h, h1 => by
    have ih := nblk_same (l := r) (pos := pos + 1) (lo := lo) h h1
    show (if gap = gap then pos :: nblk (pos + 1) gap r gap else nblk (pos + 1) gap r gap) = _
    rw [if_pos rfl, ih, List.takeWhile_cons_of_pos (by rfl), List.length_cons, range_off]
  | .old p :: r, pos, gap, lo, h, h1 => by
    rw [List.takeWhile_cons_of_neg (by simp [isNew])]
    exact nblk_lt (l := r) (lo := p + 1) h.2.2 (Nat.le_refl _) (by have := h.1; omega)
theorem nblk_at {base g : Nat} : ∀ {l : List Src} {pos gap lo : Nat}, Up base lo l → gap ≤ lo → gap < g → nblk pos gap l g = match l.findIdx? (fun x => x == .old (g - 1)) with
    | some q => (List.range ((l.drop (q + 1)).takeWhile isNew).length).map fun k => pos + (q + 1) + k
    | none => []
  | [], _, _, _, _, _, _ => rfl
  | .fresh c :: r, pos, gap, lo, h, h1, h2 => by
    have ih := nblk_at (g := g) (l := r) (pos := pos + 1) (lo := lo) h h1 h2
    show (if gap = g then pos :: nblk (pos + 1) gap r g else nblk (pos + 1) gap r g) = _
    rw [if_neg (by omega), ih, List.findIdx?_cons, if_neg (by simp)]
    cases r.findIdx? (fun x => x == .old (g - 1)) with
    | none => rfl
    | some q =>
      show (List.range ((r.drop (q + 1)).takeWhile isNew).length).map _ = (List.range ((r.drop (q + 1)).takeWhile isNew).length).map _
      refine List.map_congr_left fun k _ => ?_
      show pos + 1 + (q + 1) + k = pos + (q + 1 + 1) + k
      omega
  | .old p :: r, pos, gap, lo, h, h1, h2 => by
    show nblk (pos + 1) (p + 1) r g = _
    rw [List.findIdx?_cons]
    have hlo := h.1
    by_cases e : p = g - 1
    · have e2 : p + 1 = g := by omega
      rw [if_pos (by simp [e])]
      show _ = (List.range (((Src.old p :: r).drop 1).takeWhile isNew).length).map fun k => pos + 1 + k
      rw [e2]
      exact nblk_same (l := r) (lo := g) (by have := h.2.2; rw [e2] at this; exact this) (Nat.le_refl _)
    · rw [if_neg (by simp [e])]
      by_cases e2 : p + 1 < g
      · have ih := nblk_at (g := g) (l := r) (pos := pos + 1) (lo := p + 1) h.2.2 (Nat.le_refl _) e2
        rw [ih]
        cases r.findIdx? (fun x => x == .old (g - 1)) with
        | none => rfl
        | some q =>
          show (List.range ((r.drop (q + 1)).takeWhile isNew).length).map _ = (List.range ((r.drop (q + 1)).takeWhile isNew).length).map _
          refine List.map_congr_left fun k _ => ?_
          show pos + 1 + (q + 1) + k = pos + (q + 1 + 1) + k
          omega
      · rw [nblk_lt (l := r) (lo := p + 1) h.2.2 (Nat.le_refl _) (by omega)]
        cases hf : r.findIdx? (fun x => x == .old (g - 1)) with
        | none => rfl
        | some q =>
          rw [List.findIdx?_eq_some_iff_getElem] at hf
          obtain ⟨hq, e3, _⟩ := hf
          have m : Src.old (g - 1) ∈ r := by
            have := List.getElem_mem hq
            rw [eq_of_beq e3] at this
            exact this
          have := (Up.mem h.2.2 m).1
          omega

def theirs (d : Delta) (g : Nat) : List Nat := (List.range (newAt d g).2.length).map fun k => (newAt d g).1 + k
theorem theirs_len (d : Delta) (g : Nat) : (theirs d g).length = (newAt d g).2.length := by
  unfold theirs
  rw [List.length_map, List.length_range]
theorem newAt_len (d : Delta) (g : Nat) : (newAt d g).2.length ≤ d.out.length := by
  unfold newAt
  split
  · exact (List.takeWhile_prefix _).length_le
  · split
    · rename_i q _
      have h1 : ((d.out.drop (q + 1)).takeWhile isNew).length ≤ (d.out.drop (q + 1)).length := (List.takeWhile_prefix isNew).length_le
      rw [List.length_drop] at h1
      exact Nat.le_trans h1 (Nat.sub_le _ _)
    · exact Nat.zero_le _
theorem nblk_all {d : Delta} (f : Up d.base 0 d.out) (g : Nat) : nblk 0 0 d.out g = theirs d g := by
  unfold theirs newAt
  by_cases h : g = 0
  · subst h
    rw [if_pos rfl]
    exact nblk_same f (Nat.le_refl _)
  · rw [if_neg h, nblk_at f (Nat.le_refl _) (by omega)]
    unfold image
    cases d.out.findIdx? (fun x => x == .old (g - 1)) with
    | none => rfl
    | some q =>
      show List.map _ (List.range ((d.out.drop (q + 1)).takeWhile isNew).length) = List.map _ (List.range ((d.out.drop (q + 1)).takeWhile isNew).length)
      refine List.map_congr_left fun k _ => ?_
      show 0 + (q + 1) + k = q + 1 + k
      omega

/-- behind i turns: for each place the new bytes that belong there; the place at hand -/
def behindAt (d : Delta) (i : Nat) (g : Nat) : List Nat := nblk 0 0 (d.out.take i) g
def gapAt (d : Delta) (i : Nat) : Nat := gapEnd 0 (d.out.take i)
theorem behindAt_zero (d : Delta) (g : Nat) : behindAt d 0 g = [] := rfl
theorem gapAt_zero (d : Delta) : gapAt d 0 = 0 := rfl
theorem take_snoc {α : Type} {l : List α} {i : Nat} {x : α} (h : l[i]? = some x) : l.take (i + 1) = l.take i ++ [x] := by
  rw [List.take_add_one, h]
  rfl
theorem take_len {α : Type} {l : List α} {i : Nat} {x : α} (h : l[i]? = some x) : (l.take i).length = i := by
  have := (List.getElem?_eq_some_iff.mp h).1
  rw [List.length_take]
  omega
theorem behindAt_new {d : Delta} {i : Nat} {c : UInt8} (h : d.out[i]? = some (.fresh c)) (g : Nat) : behindAt d (i + 1) g = if gapAt d i = g then behindAt d i g ++ [i] else behindAt d i g := by
  unfold behindAt gapAt
  rw [take_snoc h, nblk_new, take_len h, Nat.zero_add]
theorem behindAt_old {d : Delta} {i p : Nat} (h : d.out[i]? = some (.old p)) (g : Nat) : behindAt d (i + 1) g = behindAt d i g := by
  unfold behindAt
  rw [take_snoc h, nblk_old]
theorem gapAt_new {d : Delta} {i : Nat} {c : UInt8} (h : d.out[i]? = some (.fresh c)) : gapAt d (i + 1) = gapAt d i := by
  unfold gapAt
  rw [take_snoc h, gapEnd_new]
theorem gapAt_old {d : Delta} {i p : Nat} (h : d.out[i]? = some (.old p)) : gapAt d (i + 1) = p + 1 := by
  unfold gapAt
  rw [take_snoc h, gapEnd_old]
theorem behindAt_end {d : Delta} (f : Up d.base 0 d.out) (g : Nat) : behindAt d d.out.length g = theirs d g := by
  unfold behindAt
  rw [List.take_length]
  exact nblk_all f g
theorem gapEnd_le {base : Nat} : ∀ {l : List Src} {g lo : Nat}, Up base lo l → g ≤ base → gapEnd g l ≤ base
  | [], _, _, _, h => h
  | .fresh _ :: r, g, lo, h, h1 => gapEnd_le (l := r) (lo := lo) h h1
  | .old p :: r, g, lo, h, _ => gapEnd_le (l := r) (lo := p + 1) h.2.2 h.2.1
theorem up_take {base : Nat} : ∀ {l : List Src} {lo : Nat} (i : Nat), Up base lo l → Up base lo (l.take i)
  | [], _, i, h => by rw [List.take_nil]; exact h
  | _ :: _, _, 0, h => h.le
  | .fresh _ :: r, lo, i + 1, h => up_take (l := r) (lo := lo) i h
  | .old _ :: r, _, i + 1, h => ⟨h.1, h.2.1, up_take (l := r) i h.2.2⟩
theorem gapAt_le {d : Delta} (f : Up d.base 0 d.out) (i : Nat) : gapAt d i ≤ d.base := gapEnd_le (up_take i f) (Nat.zero_le _)
theorem nblk_len (g : Nat) : ∀ (l : List Src) (pos gap : Nat), (nblk pos gap l g).length ≤ l.length
  | [], _, _ => Nat.le_refl _
  | .fresh _ :: r, pos, gap => by
    have ih := nblk_len g r (pos + 1) gap
    show (if gap = g then pos :: nblk (pos + 1) gap r g else nblk (pos + 1) gap r g).length ≤ r.length + 1
    split
    · rw [List.length_cons]
      omega
    · omega
  | .old p :: r, pos, gap => Nat.le_succ_of_le (nblk_len g r (pos + 1) (p + 1))
theorem behindAt_len (d : Delta) (i g : Nat) : (behindAt d i g).length ≤ d.out.length := by
  have h := nblk_len g (d.out.take i) 0 0
  rw [List.length_take] at h
  unfold behindAt
  omega

/-- the new bytes themselves -/
theorem takeWhile_get {l : List Src} {k : Nat} (h : k < (l.takeWhile isNew).length) : (l.takeWhile isNew)[k]? = l[k]? := by
  obtain ⟨t, ht⟩ := List.takeWhile_prefix (l := l) isNew
  conv => rhs; rw [← ht]
  exact (List.getElem?_append_left h).symm
theorem theirs_get {d : Delta} {g k t : Nat} (h : (theirs d g)[k]? = some t) : ∃ x, d.out[t]? = some x ∧ (newAt d g).2[k]? = some x := by
  have hk : k < (newAt d g).2.length := by
    have := (List.getElem?_eq_some_iff.mp h).1
    rw [theirs_len] at this
    exact this
  have ht : t = (newAt d g).1 + k := by
    unfold theirs at h
    rw [List.getElem?_map, List.getElem?_range hk] at h
    exact (Option.some.inj h).symm
  refine ⟨(newAt d g).2[k], ?_, List.getElem?_eq_getElem hk⟩
  rw [← List.getElem?_eq_getElem hk, ht]
  unfold newAt at hk ⊢
  by_cases hg : g = 0
  · rw [if_pos hg] at hk
    simp only [if_pos hg]
    rw [takeWhile_get hk, Nat.zero_add]
  · rw [if_neg hg] at hk
    simp only [if_neg hg]
    cases hi : image d (g - 1) with
    | none => rw [hi] at hk; simp at hk
    | some q =>
      rw [hi] at hk
      simp only at hk ⊢
      rw [takeWhile_get hk, List.getElem?_drop]
theorem theirs_map (d : Delta) (g : Nat) : (theirs d g).map (fun t => (d.out.map enc).getD t 0) = (newAt d g).2.map enc := by
  refine List.ext_getElem? fun k => ?_
  by_cases hk : k < (newAt d g).2.length
  · have h1 : (theirs d g)[k]? = some ((theirs d g)[k]'(by rw [theirs_len]; exact hk)) := List.getElem?_eq_getElem _
    obtain ⟨x, h2, h3⟩ := theirs_get h1
    rw [List.getElem?_map, List.getElem?_map, h1, h3, Option.map_some, Option.map_some, List.getD_eq_getElem?_getD, List.getElem?_map, h2]
    rfl
  · rw [List.getElem?_eq_none (by rw [List.length_map, theirs_len]; omega), List.getElem?_eq_none (by rw [List.length_map]; omega)]
theorem theirs_lt {d : Delta} {g t : Nat} (h : t ∈ theirs d g) : t < d.out.length := by
  obtain ⟨k, hk⟩ := List.getElem?_of_mem h
  obtain ⟨x, h2, _⟩ := theirs_get hk
  exact (List.getElem?_eq_some_iff.mp h2).1

/-! ### led over -/
def news (d e : Delta) (first : Bool) (g : Nat) : List Src := if first = true then (newAt d g).2 ++ (theirs e g).map Src.old else (theirs e g).map Src.old ++ (newAt d g).2
def both (d e : Delta) (g : Nat) : List Src := match image d g, image e g with
  | some _, some q => if g < d.base then [Src.old q] else []
  | _, _ => []
def pre (d e : Delta) : Nat → List Src
  | 0 => []
  | g + 1 => both d e g
theorem over_eq (d e : Delta) (first : Bool) : (over d e first).out = (List.range (d.base + 1)).flatMap fun g => news d e first g ++ both d e g := by
  unfold over news both theirs
  simp only [List.map_map]
  rfl
theorem over_shift (d e : Delta) (first : Bool) : ∀ n, ((List.range (n + 1)).flatMap fun g => pre d e g ++ news d e first g) ++ both d e n = (List.range (n + 1)).flatMap fun g => news d e first g ++ both d e g
  | 0 => by
    show (([] ++ news d e first 0) ++ []) ++ both d e 0 = (news d e first 0 ++ both d e 0) ++ []
    rw [List.nil_append, List.append_nil, List.append_nil]
  | n + 1 => by
    have ih := over_shift d e first n
    rw [List.range_succ, List.flatMap_append, List.flatMap_append, ← ih, List.flatMap_singleton, List.flatMap_singleton]
    show (_ ++ (both d e n ++ news d e first (n + 1))) ++ both d e (n + 1) = (_ ++ both d e n) ++ (news d e first (n + 1) ++ both d e (n + 1))
    simp only [List.append_assoc]
theorem both_end (d e : Delta) : both d e d.base = [] := by
  unfold both
  split
  · rw [if_neg (Nat.lt_irrefl _)]
  · rfl
def overAt (d e : Delta) (first : Bool) (i : Nat) : List Src := (List.range i).flatMap fun g => pre d e g ++ news d e first g
theorem overAt_zero (d e : Delta) (first : Bool) : overAt d e first 0 = [] := rfl
theorem overAt_succ (d e : Delta) (first : Bool) (i : Nat) : overAt d e first (i + 1) = overAt d e first i ++ (pre d e i ++ news d e first i) := by
  unfold overAt
  rw [List.range_succ, List.flatMap_append, List.flatMap_singleton]
theorem overAt_end (d e : Delta) (first : Bool) : overAt d e first (d.base + 1) = (over d e first).out := by
  have h := over_shift d e first d.base
  rw [both_end, List.append_nil] at h
  rw [over_eq]
  exact h
theorem pre_len (d e : Delta) (g : Nat) : (pre d e g).length ≤ 1 := by
  unfold pre
  split
  · exact Nat.zero_le _
  · unfold both
    split
    · split <;> simp
    · simp
theorem news_len {d e : Delta} (hd : Fits d) (he : Fits e) (first : Bool) (g : Nat) : (news d e first g).length ≤ 2048 := by
  have h1 := newAt_len d g
  have h2 := newAt_len e g
  have h3 := theirs_len e g
  have h4 := hd.new
  have h5 := he.new
  unfold news
  split <;> (rw [List.length_append, List.length_map]; omega)
theorem overAt_len {d e : Delta} (hd : Fits d) (he : Fits e) (first : Bool) : ∀ i, (overAt d e first i).length ≤ 2049 * i
  | 0 => Nat.le_refl _
  | i + 1 => by
    have ih := overAt_len hd he first i
    have h1 := pre_len d e i
    have h2 := news_len hd he first i
    rw [overAt_succ, List.length_append, List.length_append]
    omega

/-! ### where a place has gone -/
def leftStep (g : Int) (st : Nat × Int) (o : Int) : Nat × Int := (st.1 + 1, if 0 ≤ o ∧ o < g then (st.1 : Int) + 1 else st.2)
def leftAt (d : Delta) (g : Int) (i : Nat) : Int := (((d.out.take i).map enc).foldl (leftStep g) (0, 0)).2
theorem leftFold_pos (g : Int) : ∀ (l : List Int) (st : Nat × Int), (l.foldl (leftStep g) st).1 = st.1 + l.length
  | [], _ => rfl
  | o :: l, st => by
    rw [List.foldl_cons, leftFold_pos g l]
    show st.1 + 1 + l.length = st.1 + (l.length + 1)
    omega
theorem leftAt_zero (d : Delta) (g : Int) : leftAt d g 0 = 0 := rfl
theorem leftAt_succ {d : Delta} {g : Int} {i : Nat} {x : Src} (h : d.out[i]? = some x) : leftAt d g (i + 1) = if 0 ≤ enc x ∧ enc x < g then (i : Int) + 1 else leftAt d g i := by
  unfold leftAt
  rw [take_snoc h, List.map_append, List.foldl_append]
  show (leftStep g (((d.out.take i).map enc).foldl (leftStep g) (0, 0)) (enc x)).2 = _
  unfold leftStep
  simp only
  rw [show (fun (st : Nat × Int) (o : Int) => (st.1 + 1, if 0 ≤ o ∧ o < g then (st.1 : Int) + 1 else st.2)) = leftStep g from rfl, leftFold_pos, List.length_map, take_len h]
  simp
theorem leftFold_keep (g : Int) : ∀ (l : List Src) (st : Nat × Int), (∀ x ∈ l, ¬ (0 ≤ enc x ∧ enc x < g)) → ((l.map enc).foldl (leftStep g) st).2 = st.2
  | [], _, _ => rfl
  | x :: l, st, h => by
    rw [List.map_cons, List.foldl_cons, leftFold_keep g l _ fun y hy => h y (List.mem_cons_of_mem _ hy)]
    show (if 0 ≤ enc x ∧ enc x < g then _ else _) = _
    rw [if_neg (h x (List.mem_cons_self ..))]
theorem leftFold_congr {g g' : Int} : ∀ (l : List Src) (st : Nat × Int), (∀ x ∈ l, (0 ≤ enc x ∧ enc x < g) ↔ (0 ≤ enc x ∧ enc x < g')) → (l.map enc).foldl (leftStep g) st = (l.map enc).foldl (leftStep g') st
  | [], _, _ => rfl
  | x :: l, st, h => by
    have e : leftStep g st (enc x) = leftStep g' st (enc x) := by
      have hx := h x (List.mem_cons_self ..)
      unfold leftStep
      by_cases c : 0 ≤ enc x ∧ enc x < g
      · rw [if_pos c, if_pos (hx.mp c)]
      · rw [if_neg c, if_neg fun c' => c (hx.mpr c')]
    rw [List.map_cons, List.foldl_cons, List.foldl_cons, e]
    exact leftFold_congr l _ fun y hy => h y (List.mem_cons_of_mem _ hy)
theorem left_step {d : Delta} (f : Up d.base 0 d.out) (g : Nat) : leftAt d ((g + 1 : Nat) : Int) d.out.length = match image d g with
    | some q => (q : Int) + 1
    | none => leftAt d (g : Int) d.out.length := by
  cases hi : image d g with
  | some q =>
    have hq := image_some hi
    have hlt := image_lt hi
    have e : d.out = d.out.take q ++ (Src.old g :: d.out.drop (q + 1)) := by
      have e1 := List.take_append_drop q d.out
      have e2 : d.out.drop q = Src.old g :: d.out.drop (q + 1) := by
        rw [List.drop_eq_getElem_cons hlt]
        congr 1
        exact Option.some.inj ((List.getElem?_eq_getElem hlt).symm.trans hq)
      rw [← e2]
      exact e1.symm
    have key : ∀ x ∈ d.out.drop (q + 1), ¬ (0 ≤ enc x ∧ enc x < ((g + 1 : Nat) : Int)) := by
      intro x hx c
      obtain ⟨k, hk⟩ := List.getElem?_of_mem hx
      rw [List.getElem?_drop] at hk
      cases x with
      | fresh c' => simp only [enc] at c; omega
      | old p =>
        have := f.lt hq hk (by omega)
        simp only [enc] at c
        omega
    unfold leftAt
    rw [List.take_length]
    show ((d.out.map enc).foldl (leftStep _) (0, 0)).2 = (q : Int) + 1
    rw [e, List.map_append, List.foldl_append, List.map_cons, List.foldl_cons, leftFold_keep _ _ _ key]
    show (if 0 ≤ enc (.old g) ∧ enc (.old g) < ((g + 1 : Nat) : Int) then ((((d.out.take q).map enc).foldl (leftStep _) (0, 0)).1 : Int) + 1 else _) = _
    rw [if_pos (by simp only [enc]; omega), leftFold_pos, List.length_map, List.length_take]
    show ((0 + min q d.out.length : Nat) : Int) + 1 = _
    omega
  | none =>
    unfold leftAt
    rw [List.take_length]
    refine congrArg Prod.snd (leftFold_congr d.out (0, 0) fun x hx => ?_)
    cases x with
    | fresh c => simp only [enc]; omega
    | old p =>
      have : p ≠ g := by
        rintro rfl
        obtain ⟨k, hk⟩ := List.getElem?_of_mem hx
        exact image_none f hi k hk
      simp only [enc]
      omega
theorem left_zero (d : Delta) : leftAt d 0 d.out.length = 0 := by
  unfold leftAt
  exact leftFold_keep 0 _ _ fun x _ c => by omega
theorem left_moved {d : Delta} (f : Up d.base 0 d.out) : ∀ g : Nat, leftAt d (g : Int) d.out.length = (moved d g false : Int)
  | 0 => by
    rw [show ((0 : Nat) : Int) = 0 from rfl, left_zero]
    rfl
  | g + 1 => by
    have ih := left_moved f g
    rw [left_step f g]
    have e : moved d (g + 1) false = match image d g with
        | some q => q + 1
        | none => moved d g false := by
      unfold moved
      rw [if_neg (by decide), if_neg (by decide), List.range_succ, List.reverse_append, List.reverse_singleton, List.singleton_append, List.findSome?_cons]
      cases image d g <;> rfl
    rw [e]
    cases image d g with
    | none => exact ih
    | some q => show (q : Int) + 1 = ((q + 1 : Nat) : Int); omega

theorem right_range {d : Delta} (g : Nat) : ∀ (n q : Nat), ((List.range n).filter fun p => decide (g ≤ p)).findSome? (image d) = some q ↔ ∃ p, g ≤ p ∧ p < n ∧ image d p = some q ∧ ∀ p', g ≤ p' → p' < p → image d p' = none
  | 0, q => by
    constructor
    · intro h
      cases h
    · rintro ⟨p, _, h, _⟩
      omega
  | n + 1, q => by
    have ih := right_range (d := d) g n
    rw [List.range_succ, List.filter_append, List.findSome?_append]
    cases e : ((List.range n).filter fun p => decide (g ≤ p)).findSome? (image d) with
    | some r =>
      obtain ⟨p0, a1, a2, a3, a4⟩ := (ih r).mp e
      constructor
      · intro h
        have h : some r = some q := h
        cases h
        exact ⟨p0, a1, by omega, a3, a4⟩
      · rintro ⟨p, b1, b2, b3, b4⟩
        show some r = some q
        rcases Nat.lt_trichotomy p p0 with k | k | k
        · have := a4 p b1 k
          rw [b3] at this
          cases this
        · subst k
          exact a3.symm.trans b3
        · have := b4 p0 a1 k
          rw [a3] at this
          cases this
    | none =>
      have no : ∀ p, g ≤ p → p < n → image d p = none := by
        rw [List.findSome?_eq_none_iff] at e
        intro p h1 h2
        exact e p (List.mem_filter.mpr ⟨List.mem_range.mpr h2, by simpa using h1⟩)
      show List.findSome? (image d) (List.filter (fun p => decide (g ≤ p)) [n]) = some q ↔ _
      by_cases hg : g ≤ n
      · rw [List.filter_cons_of_pos (by simpa using hg)]
        show List.findSome? (image d) [n] = some q ↔ _
        have : List.findSome? (image d) [n] = image d n := by
          rw [List.findSome?_cons]
          cases image d n <;> rfl
        rw [this]
        constructor
        · intro h
          exact ⟨n, hg, by omega, h, fun p' h1 h2 => no p' h1 h2⟩
        · rintro ⟨p, b1, b2, b3, b4⟩
          by_cases hp : p < n
          · rw [no p b1 hp] at b3
            cases b3
          · have : p = n := by omega
            subst this
            exact b3
      · rw [List.filter_cons_of_neg (by simpa using hg)]
        constructor
        · intro h
          cases h
        · rintro ⟨p, b1, b2, b3, b4⟩
          omega
theorem right_at {d : Delta} (f : Up d.base 0 d.out) {g i p : Nat} (h : d.out[i]? = some (.old p)) (hp : g ≤ p) (hno : ∀ j p' : Nat, j < i → d.out[j]? = some (Src.old p') → p' < g) : moved d g true = i := by
  have e : ((List.range d.base).filter fun p => decide (g ≤ p)).findSome? (image d) = some i := (right_range g d.base i).mpr ⟨p, hp, (f.mem (List.mem_of_getElem? h)).2, image_of f h, fun p' h1 h2 => by
    cases hi : image d p' with
    | none => rfl
    | some q =>
      have h3 := image_mono f hi (image_of f h) h2
      have := hno q p' h3 (image_some hi)
      omega⟩
  unfold moved
  rw [if_pos rfl, e]
theorem right_none {d : Delta} {g : Nat} (hno : ∀ j p' : Nat, d.out[j]? = some (Src.old p') → p' < g) : moved d g true = d.out.length := by
  have e : ((List.range d.base).filter fun p => decide (g ≤ p)).findSome? (image d) = none := by
    rw [List.findSome?_eq_none_iff]
    intro p hp
    have hp := (List.mem_filter.mp hp).2
    cases hi : image d p with
    | none => rfl
    | some q =>
      have := hno q p (image_some hi)
      simp at hp
      omega
  unfold moved
  rw [if_pos rfl, e]

/-! ### the same edit -/
theorem enc_map_inj : ∀ {l m : List Src}, l.map enc = m.map enc → l = m
  | [], [], _ => rfl
  | [], _ :: _, h => by cases h
  | _ :: _, [], h => by cases h
  | x :: l, y :: m, h => by
    rw [List.map_cons, List.map_cons] at h
    obtain ⟨h1, h2⟩ := List.cons.inj h
    rw [enc_inj h1, enc_map_inj h2]
theorem same_iff (d e : Delta) : d = e ↔ ((d.base : Int) = (e.base : Int) ∧ d.out.map enc = e.out.map enc) := by
  constructor
  · rintro rfl
    exact ⟨rfl, rfl⟩
  · rintro ⟨h1, h2⟩
    obtain ⟨b, o⟩ := d
    obtain ⟨b', o'⟩ := e
    have h3 : b = b' := Int.ofNat.inj h1
    have h4 : o = o' := enc_map_inj h2
    rw [h3, h4]

/-! ### then, back: byte by byte -/
def thenOf (o : List Int) (x : Int) : Int := if x < 0 then x else o.getD x.toNat 0
theorem after_enc {d e : Delta} (he : Up e.base 0 e.out) (h : d.out.length = e.base) : (after d e).out.map enc = (e.out.map enc).map (thenOf (d.out.map enc)) := by
  unfold after
  rw [List.map_map, List.map_map]
  refine List.map_congr_left fun x hx => ?_
  cases x with
  | fresh c =>
    show enc (.fresh c) = thenOf _ (enc (.fresh c))
    unfold thenOf
    rw [if_pos (by simp only [enc]; omega)]
  | old q =>
    have hq := (he.mem hx).2
    show enc (d.out.getD q (.fresh 0)) = thenOf _ (q : Int)
    unfold thenOf
    rw [if_neg (by omega), List.getD_eq_getElem?_getD, List.getD_eq_getElem?_getD, List.getElem?_map, Int.toNat_natCast, List.getElem?_eq_getElem (by omega)]
    rfl
def backOf (c : Int) : Option Nat → Int
  | some q => (q : Int)
  | none => -1 - c
theorem back_enc {d : Delta} {b : List Int} (hb : DlNeutral.byteRow b = true) (h : b.length = d.base) : (back d (DlNeutral.bytesOf b)).out.map enc = (b.zip (keptL d)).map fun z => backOf z.1 z.2 := by
  refine List.ext_getElem? fun p => ?_
  unfold back
  by_cases hp : p < d.base
  · rw [List.getElem?_map, List.getElem?_map, List.getElem?_range hp, List.getElem?_map, List.getElem?_zip_eq_some (z := (b[p]'(by omega), image d p)) |>.mpr (⟨List.getElem?_eq_getElem (by omega), keptL_get hp⟩ : b[p]? = some (b[p]'(by omega)) ∧ (keptL d)[p]? = some (image d p))]
    simp only [Option.map_some]
    congr 1
    cases image d p with
    | some q => rfl
    | none =>
      show -1 - (((DlNeutral.bytesOf b).getD p 0).toNat : Int) = -1 - b[p]'(by omega)
      rw [getD_nums, nums_bytesOf hb, List.getD_eq_getElem?_getD, List.getElem?_eq_getElem (by omega)]
      rfl
  · rw [List.getElem?_eq_none (by simp; omega), List.getElem?_eq_none (by rw [List.length_map, List.length_zip, keptL_len]; omega)]

/-! ### what the calls then, back, over, place, same answer -/
theorem step_then (x : Dl.State) (i j k : Int) : DlNeutral.step x [[6, i, j, k]] = match slot x i.toNat, slot x j.toNat with
    | some d, some e => if 8 ≤ k.toNat then (x, [-1]) else if d.out.length ≠ e.base then (x, [-2]) else ((into x k.toNat (after d e)).1, DlNeutral.numbers (into x k.toNat (after d e)).2)
    | _, _ => (x, [-1]) := by
  show ((two x i.toNat j.toNat k.toNat fun (d e : Delta) => if d.out.length ≠ e.base then (x, says (-2)) else into x k.toNat (after d e)).1, DlNeutral.numbers (two x i.toNat j.toNat k.toNat fun (d e : Delta) => if d.out.length ≠ e.base then (x, says (-2)) else into x k.toNat (after d e)).2) = _
  unfold two
  cases slot x i.toNat with
  | none => rfl
  | some d =>
    cases slot x j.toNat with
    | none => rfl
    | some e =>
      dsimp only
      by_cases h1 : 8 ≤ k.toNat
      · rw [if_pos h1, if_pos (show SLOTS ≤ k.toNat from h1)]
        rfl
      · rw [if_neg h1, if_neg (show ¬ SLOTS ≤ k.toNat from h1)]
        by_cases h2 : d.out.length ≠ e.base
        · rw [if_pos h2, if_pos h2]
          rfl
        · rw [if_neg h2, if_neg h2]
theorem step_over (x : Dl.State) (i j f k : Int) : DlNeutral.step x [[8, i, j, f, k]] = match slot x i.toNat, slot x j.toNat with
    | some d, some e => if 8 ≤ k.toNat then (x, [-1]) else if d.base ≠ e.base then (x, [-2]) else ((into x k.toNat (over d e (f.toNat != 0))).1, DlNeutral.numbers (into x k.toNat (over d e (f.toNat != 0))).2)
    | _, _ => (x, [-1]) := by
  show ((two x i.toNat j.toNat k.toNat fun (d e : Delta) => if d.base ≠ e.base then (x, says (-2)) else into x k.toNat (over d e (f.toNat != 0))).1, DlNeutral.numbers (two x i.toNat j.toNat k.toNat fun (d e : Delta) => if d.base ≠ e.base then (x, says (-2)) else into x k.toNat (over d e (f.toNat != 0))).2) = _
  unfold two
  cases slot x i.toNat with
  | none => rfl
  | some d =>
    cases slot x j.toNat with
    | none => rfl
    | some e =>
      dsimp only
      by_cases h1 : 8 ≤ k.toNat
      · rw [if_pos h1, if_pos (show SLOTS ≤ k.toNat from h1)]
        rfl
      · rw [if_neg h1, if_neg (show ¬ SLOTS ≤ k.toNat from h1)]
        by_cases h2 : d.base ≠ e.base
        · rw [if_pos h2, if_pos h2]
          rfl
        · rw [if_neg h2, if_neg h2]
theorem step_back (x : Dl.State) (i k : Int) (b : List Int) : DlNeutral.step x [[7, i, k], b] = match slot x i.toNat with
    | some d => if 8 ≤ k.toNat then (x, [-1]) else if b.length ≠ d.base then (x, [-2]) else ((into x k.toNat (back d (DlNeutral.bytesOf b))).1, DlNeutral.numbers (into x k.toNat (back d (DlNeutral.bytesOf b))).2)
    | none => (x, [-1]) := by
  show ((match slot x i.toNat with
      | some d => if SLOTS ≤ k.toNat then (x, says (-1)) else if (DlNeutral.bytesOf b).length ≠ d.base then (x, says (-2)) else into x k.toNat (back d (DlNeutral.bytesOf b))
      | none => (x, says (-1))).1, DlNeutral.numbers (match slot x i.toNat with
      | some d => if SLOTS ≤ k.toNat then (x, says (-1)) else if (DlNeutral.bytesOf b).length ≠ d.base then (x, says (-2)) else into x k.toNat (back d (DlNeutral.bytesOf b))
      | none => (x, says (-1))).2) = _
  rw [bytesOf_len]
  cases slot x i.toNat with
  | none => rfl
  | some d =>
    dsimp only
    by_cases h1 : 8 ≤ k.toNat
    · rw [if_pos h1, if_pos (show SLOTS ≤ k.toNat from h1)]
      rfl
    · rw [if_neg h1, if_neg (show ¬ SLOTS ≤ k.toNat from h1)]
      by_cases h2 : b.length ≠ d.base
      · rw [if_pos h2, if_pos h2]
        rfl
      · rw [if_neg h2, if_neg h2]
theorem step_place (x : Dl.State) (i g r : Int) : DlNeutral.step x [[9, i, g, r]] = (x, match slot x i.toNat with
    | some d => if d.base < g.toNat then [-2] else [0, (moved d g.toNat (r.toNat != 0) : Int)]
    | none => [-1]) := by
  show (x, DlNeutral.numbers (match slot x i.toNat with | some d => if d.base < g.toNat then says (-2) else ⟨0, [moved d g.toNat (r.toNat != 0)], none⟩ | none => says (-1))) = _
  cases slot x i.toNat with
  | none => rfl
  | some d =>
    dsimp only
    split <;> rfl
theorem step_same (x : Dl.State) (i j : Int) : DlNeutral.step x [[10, i, j]] = (x, match slot x i.toNat, slot x j.toNat with
    | some d, some e => [if d = e then 1 else 0]
    | _, _ => [-1]) := by
  show (x, DlNeutral.numbers (match slot x i.toNat, slot x j.toNat with | some d, some e => says (if d = e then 1 else 0) | _, _ => says (-1))) = _
  cases slot x i.toNat with
  | none => rfl
  | some d =>
    cases slot x j.toNat with
    | none => rfl
    | some e => rfl
theorem into_bad {x : Dl.State} {k : Nat} {d : Delta} (h : 1024 < d.out.length) : into x k d = (x, says (-3)) := by
  unfold into
  rw [if_pos (.inr h)]
end Ed

/-! Items by twos; more of lists. Plain Lean. -/
namespace Ed
open Dl
theorem raws_len : ∀ {m : Nat} {l : List Int}, l.length = 2 * m → (rawsOf (DlNeutral.natsOf l)).length = m
  | 0, l, h => by
    have : l = [] := List.length_eq_zero_iff.mp (by omega)
    subst this
    rfl
  | m + 1, l, h => by
    match l, h with
    | x :: y :: r, h =>
      have ih := raws_len (m := m) (l := r) (by simp at h; omega)
      show (rawsOf (DlNeutral.natsOf r)).length + 1 = m + 1
      rw [ih]
theorem raws_at : ∀ {j m : Nat} {l : List Int}, l.length = 2 * m → (∀ z ∈ l, 0 ≤ z) → j < m → ∃ a b : Int, l[2 * j]? = some a ∧ l[2 * j + 1]? = some b ∧ (rawsOf (DlNeutral.natsOf l))[j]? = some ⟨a.toNat, b.toNat⟩ ∧ 0 ≤ a ∧ 0 ≤ b
  | j, 0, l, _, _, hj => by omega
  | j, m + 1, l, h, hp, hj => by
    match l, h, hp with
    | x :: y :: r, h, hp =>
      match j, hj with
      | 0, _ => exact ⟨x, y, rfl, rfl, rfl, hp x (by simp), hp y (by simp)⟩
      | j + 1, hj =>
        obtain ⟨a, b, h1, h2, h3, h4, h5⟩ := raws_at (j := j) (m := m) (l := r) (by simp at h; omega) (fun z hz => hp z (by simp [hz])) (by omega)
        refine ⟨a, b, ?_, ?_, h3, h4, h5⟩
        · rw [show 2 * (j + 1) = 2 * j + 1 + 1 by omega]
          exact h1
        · rw [show 2 * (j + 1) + 1 = 2 * j + 1 + 1 + 1 by omega]
          exact h2
def totAt (raws : List Raw) (k i : Nat) : List Int := ((raws.take i).filter fun x => decide (x.kind = k)).map fun x => (x.n : Int)
theorem totAt_zero (raws : List Raw) (k : Nat) : totAt raws k 0 = [] := rfl
theorem totAt_succ {raws : List Raw} {k i : Nat} {x : Raw} (h : raws[i]? = some x) : totAt raws k (i + 1) = if x.kind = k then totAt raws k i ++ [(x.n : Int)] else totAt raws k i := by
  unfold totAt
  rw [take_snoc h, List.filter_append]
  by_cases c : x.kind = k
  · rw [if_pos c, List.filter_cons_of_pos (by simpa using c), List.filter_nil, List.map_append]
    rfl
  · rw [if_neg c, List.filter_cons_of_neg (by simpa using c), List.filter_nil, List.append_nil]
theorem sum_nats : ∀ l : List Raw, (l.map fun x => (x.n : Int)).sum = (((l.map Raw.n).sum : Nat) : Int)
  | [] => rfl
  | x :: l => by
    rw [List.map_cons, List.map_cons, List.sum_cons, List.sum_cons, sum_nats l]
    omega
theorem totAt_sum (raws : List Raw) (k : Nat) : (totAt raws k raws.length).sum = (tot raws k : Int) := by
  unfold totAt tot
  rw [List.take_length, sum_nats]
theorem totAt_len (raws : List Raw) (k i : Nat) : (totAt raws k i).length ≤ raws.length := by
  unfold totAt
  rw [List.length_map]
  refine Nat.le_trans (List.length_filter_le _ _) ?_
  rw [List.length_take]
  omega
theorem any_kind (raws : List Raw) : ((raws.map fun x => decide ((2 : Int) < (x.kind : Int))).any id = true) ↔ ∃ x ∈ raws, 2 < x.kind := by
  rw [List.any_map, List.any_eq_true]
  constructor
  · rintro ⟨x, hx, h⟩
    refine ⟨x, hx, ?_⟩
    have h : decide ((2 : Int) < (x.kind : Int)) = true := h
    have := of_decide_eq_true h
    omega
  · rintro ⟨x, hx, h⟩
    refine ⟨x, hx, ?_⟩
    show decide ((2 : Int) < (x.kind : Int)) = true
    exact decide_eq_true (by omega)
theorem nat_kind {a : Int} (h : 0 ≤ a) (k : Nat) : (a = (k : Int)) ↔ a.toNat = k := by omega
theorem map_get {α β : Type} {f : α → β} {l : List α} {i : Nat} {y : β} (h : (l.map f)[i]? = some y) : ∃ x, l[i]? = some x ∧ y = f x := by
  rw [List.getElem?_map] at h
  cases e : l[i]? with
  | none => rw [e] at h; cases h
  | some x => rw [e] at h; exact ⟨x, rfl, (Option.some.inj h).symm⟩
theorem map2_get {β : Type} {f : Int → β} {l : List Src} {i : Nat} {y : β} (h : ((l.map enc).map f)[i]? = some y) : ∃ x, l[i]? = some x ∧ y = f (enc x) := by
  obtain ⟨z, h1, rfl⟩ := map_get h
  obtain ⟨x, h2, rfl⟩ := map_get h1
  exact ⟨x, h2, rfl⟩
/-- a list as it is made, item by item -/
def mapAt {α β : Type} (f : α → β) (l : List α) (i : Nat) : List β := (l.take i).map f
theorem mapAt_succ {α β : Type} {f : α → β} {l : List α} {i : Nat} {x : α} (h : l[i]? = some x) : mapAt f l (i + 1) = mapAt f l i ++ [f x] := by
  unfold mapAt
  rw [take_snoc h, List.map_append]
  rfl
theorem mapAt_end {α β : Type} (f : α → β) (l : List α) {n : Nat} (h : n = l.length) : mapAt f l n = l.map f := by
  subst h
  unfold mapAt
  rw [List.take_length]
theorem mapAt_len {α β : Type} (f : α → β) (l : List α) (i : Nat) : (mapAt f l i).length ≤ l.length := by
  unfold mapAt
  rw [List.length_map, List.length_take]
  omega
def filtAt (l : List Int) (i : Nat) : List Int := ((l.take i).filter fun o => decide (o < 0)).map oct
theorem filtAt_succ {l : List Int} {i : Nat} {x : Int} (h : l[i]? = some x) : filtAt l (i + 1) = if x < 0 then filtAt l i ++ [oct x] else filtAt l i := by
  unfold filtAt
  rw [take_snoc h, List.filter_append]
  by_cases c : x < 0
  · rw [if_pos c, List.filter_cons_of_pos (by simpa using c), List.filter_nil, List.map_append]
    rfl
  · rw [if_neg c, List.filter_cons_of_neg (by simpa using c), List.filter_nil, List.append_nil]
theorem filtAt_end (l : List Int) {n : Nat} (h : n = l.length) : filtAt l n = (l.filter fun o => decide (o < 0)).map oct := by
  subst h
  unfold filtAt
  rw [List.take_length]
theorem filtAt_len (l : List Int) (i : Nat) : (filtAt l i).length ≤ l.length := by
  unfold filtAt
  rw [List.length_map]
  refine Nat.le_trans (List.length_filter_le _ _) ?_
  rw [List.length_take]
  omega
end Ed

-- CHANGE: your row's module here, as the last of these rows
set_option Elab.async false
set_option linter.all false
set_option maxRecDepth 100000
/-! THE HAND LAYER, for ints, bools, texts, own classes, lists, tuples, dicts, comprehensions, walks over dicts, enumerate, zip, reversed, texts, calls, loops. Paste it whole ahead of your own text; what your proof does not reach may be deleted. -/
namespace L2
open PySem PySem.Spec PyProof.Rows

/-- a key: an int or a str -/
abbrev Key := Sum Int Str
def keyIs : Key → Value → Bool
  | .inl k, v => Value.isInt k v
  | .inr x, v => Value.isStrOf x v
def keyH (w : World) : Key → Int
  | .inl k => hashInt k
  | .inr x => hashStr w x
theorem keyIs_shape : ∀ {k : Key} {v : Value}, keyIs k v = true → (∃ i t, k = Sum.inl i ∧ v = Value.int i t) ∨ (∃ x t, k = Sum.inr x ∧ v = Value.str x t)
  | .inl i, v, h => by
    obtain ⟨t, e⟩ := Value.isInt_shape (k := i) (v := v) h
    exact .inl ⟨i, t, rfl, e⟩
  | .inr x, v, h => by
    obtain ⟨t, e⟩ := Value.isStrOf_shape (x := x) (v := v) h
    exact .inr ⟨x, t, rfl, e⟩
theorem key_ll (a b : Int) : decide ((Sum.inl a : Key) = Sum.inl b) = (a == b) := by
  by_cases e : a = b
  · subst e; simp
  · have h : ¬ (Sum.inl a : Key) = Sum.inl b := fun q => e (Sum.inl.inj q)
    rw [decide_eq_false h]
    exact (beq_eq_false_iff_ne.mpr e).symm
theorem key_rr (a b : Str) : decide ((Sum.inr a : Key) = Sum.inr b) = decide (a = b) := by
  by_cases e : a = b
  · subst e; simp
  · have h : ¬ (Sum.inr a : Key) = Sum.inr b := fun q => e (Sum.inr.inj q)
    rw [decide_eq_false h, decide_eq_false e]
theorem key_lr (a : Int) (b : Str) : decide ((Sum.inl a : Key) = Sum.inr b) = false := decide_eq_false (fun q => nomatch q)
theorem key_rl (a : Str) (b : Int) : decide ((Sum.inr a : Key) = Sum.inl b) = false := decide_eq_false (fun q => nomatch q)

def mixKind (prog : Program) (w : World) : PySem.KeyKind prog w Key where
  is := keyIs
  hash := keyH w
  inj := fun v a b ha hb => by
    rcases keyIs_shape ha with ⟨i, t, rfl, rfl⟩ | ⟨x, t, rfl, rfl⟩
    · rcases keyIs_shape hb with ⟨j, u, rfl, e⟩ | ⟨y, u, rfl, e⟩
      · injection e with e1 _; rw [e1]
      · exact nomatch e
    · rcases keyIs_shape hb with ⟨j, u, rfl, e⟩ | ⟨y, u, rfl, e⟩
      · exact nomatch e
      · injection e with e1 _; rw [e1]
  byValue := fun k v h => by
    rcases keyIs_shape h with ⟨i, t, rfl, rfl⟩ | ⟨x, t, rfl, rfl⟩ <;> rfl
  pyHash := fun hv h => by
    rcases keyIs_shape hv with ⟨i, t, rfl, rfl⟩ | ⟨x, t, rfl, rfl⟩
    · exact wpAny_pyHash_int h
    · exact wpAny_pyHash_str h
  eqBool := fun hu hv h => by
    rcases keyIs_shape hu with ⟨i, t, rfl, rfl⟩ | ⟨x, t, rfl, rfl⟩
    · rcases keyIs_shape hv with ⟨j, u, rfl, rfl⟩ | ⟨y, u, rfl, rfl⟩
      · rw [key_ll] at h; exact wpAny_eqBool_int h
      · rw [key_lr] at h; exact SeqAt.EqAt.int_str i t y u _ _ _ _ h
    · rcases keyIs_shape hv with ⟨j, u, rfl, rfl⟩ | ⟨y, u, rfl, rfl⟩
      · rw [key_rl] at h; exact SeqAt.EqAt.str_int x t j u _ _ _ _ h
      · rw [key_rr] at h; exact wpAny_eqBool_str h
  «strs» := fun k x t v h => by
    rcases keyIs_shape h with ⟨i, u, rfl, e⟩ | ⟨y, u, rfl, e⟩
    · exact nomatch e
    · injection e with e1 _
      subst e1
      cases v <;> rfl

end L2

namespace L2
open PySem PySem.Spec PyProof.Rows

/-- a value, without the heap -/
inductive V where
  | non | bl (b : Bool) | int (i : Int) | str (x : Str) | byt (b : Array UInt8) | flt (b : UInt64) | ref (a : Addr) | ty (n : String)
  deriving DecidableEq

def RelV : V → Value → Prop
  | .non, u => u = Value.none
  | .bl b, u => u = Value.bool b
  | .int i, u => ∃ t, u = Value.int i t
  | .str x, u => ∃ t, u = Value.str x t
  | .byt b, u => ∃ t, u = Value.bytes b t
  | .flt b, u => ∃ t, u = Value.float b t
  | .ref a, u => u = Value.ref a
  | .ty n, u => u = Value.type n

abbrev Vals : List V → List Value → Prop := Paired RelV
theorem Vals.length {xs : List V} {us : List Value} (r : Vals xs us) : xs.length = us.length := Paired.length r
theorem Vals.get : ∀ {xs : List V} {us : List Value} {i : Nat} {x : V}, Vals xs us → xs[i]? = some x → ∃ u, us[i]? = some u ∧ RelV x u
  | _, _, _, _, .nil, e => by simp at e
  | _, _, 0, _, .cons r _, e => by simp at e; subst e; exact ⟨_, rfl, r⟩
  | _, _, i + 1, x, .cons _ t, e => by
    obtain ⟨u, h1, h2⟩ := Vals.get (i := i) (x := x) t (by simpa using e)
    exact ⟨u, by simpa using h1, h2⟩
theorem Vals.set {x : V} {u : Value} (r : RelV x u) : ∀ {xs : List V} {us : List Value} (i : Nat), Vals xs us → Vals (xs.set i x) (us.set i u)
  | _, _, _, .nil => .nil
  | _, _, 0, .cons _ t => .cons r t
  | _, _, i + 1, .cons q t => .cons q (Vals.set r i t)
theorem Vals.append : ∀ {xs ys : List V} {us ws : List Value}, Vals xs us → Vals ys ws → Vals (xs ++ ys) (us ++ ws)
  | _, _, _, _, .nil, s => s
  | _, _, _, _, .cons r t, s => .cons r (Vals.append t s)
theorem Vals.take : ∀ {xs : List V} {us : List Value} (n : Nat), Vals xs us → Vals (xs.take n) (us.take n)
  | _, _, 0, _ => .nil
  | _, _, _ + 1, .nil => .nil
  | _, _, n + 1, .cons r t => .cons r (Vals.take n t)
theorem Vals.drop : ∀ {xs : List V} {us : List Value} (n : Nat), Vals xs us → Vals (xs.drop n) (us.drop n)
  | _, _, 0, r => r
  | _, _, _ + 1, .nil => .nil
  | _, _, n + 1, .cons _ t => Vals.drop n t
theorem Vals.none_of : ∀ {xs : List V} {us : List Value} {i : Nat}, Vals xs us → xs[i]? = none → us[i]? = none := fun {xs us i} r e => by
  have h1 := r.length
  have h2 : xs.length ≤ i := List.getElem?_eq_none_iff.mp e
  exact List.getElem?_eq_none_iff.mpr (by omega)

def RelO : Option V → Option Value → Prop
  | some v, some u => RelV v u
  | none, none => True
  | _, _ => False
def KV {κ : Type} : List (κ × V) → List (κ × Value) → Prop := Paired fun (p : κ × V) (q : κ × Value) => p.1 = q.1 ∧ RelV p.2 q.2

/-- a key of a dict (00_mix): an int or a text -/
def kV : Key → V
  | .inl i => .int i
  | .inr x => .str x

/-- what stands at a tracked address -/
inductive HO where
  /-- a list -/
  | lst (xs : List V)
  /-- a tuple (never changes) -/
  | tup (xs : List V)
  /-- a dict whose keys are ints and texts; one whose keys are tuples of ints and texts (the empty one is both) -/
  | dK (kvs : List (Key × V)) | dT (kvs : List (List Key × V))
  /-- a set of ints: its members, its size -/
  | set (S : Int → Bool) (n : Nat)
  /-- an instance of the class at C, its dict at dx, its attributes -/
  | ins (C dx : Addr) (fs : List (Str × V))
  /-- the dict of the instance at x -/
  | own (x : Addr)
  /-- the dict of an exception -/
  | xd (fs : List (Str × V))
  /-- a bound method, f of x -/
  | met (f x : Addr)
  /-- a range object lo, lo + 1, .. below hi -/
  | rng (lo hi : Int)
  /-- a thing that is known to the object (the script; a dict while a loop walks it): read, never written while it is so -/
  | frz (o : Obj) (u : HO)
  /-- a code object's table -/
  | tbl (ps : Array Value)
  /-- any other thing, by what is true of its one object (a def of one's own: SetO a S n := HO.ext fun h => ..) -/
  | ext (φ : Heap → Prop)

abbrev Hp := Addr → Option HO
def upd (H : Hp) (a : Addr) (o : HO) : Hp := fun b => if b = a then some o else H b
theorem upd_same {H : Hp} {a : Addr} {o : HO} : upd H a o a = some o := by unfold upd; rw [if_pos rfl]
theorem upd_ne {H : Hp} {a b : Addr} {o : HO} (h : b ≠ a) : upd H a o b = H b := by unfold upd; rw [if_neg h]
/-- two objects of different content stand apart -/
theorem ne_of {H : Hp} {a b : Addr} {o u : HO} (h : H a = some o) (h' : H b = some u) (d : o ≠ u) : a ≠ b := by
  intro e; subst e; rw [h] at h'; exact d (Option.some.inj h')
theorem ne_of_none {H : Hp} {a b : Addr} {o : HO} (h : H a = some o) (h' : H b = none) : a ≠ b := by
  intro e; subst e; rw [h] at h'; cases h'

section
variable (P : Program) (w : World)
def ObjOk (H : Hp) (h : Heap) (a : Addr) : HO → Prop
  | .lst xs => xs.length ≤ sizeLine ∧ ∃ (its : List Value) (n : Nat), Vals xs its ∧ h.get? a = some { cls := .type "list", data := .seq its.toArray n }
  | .tup xs => xs.length ≤ sizeLine ∧ ∃ its : List Value, Vals xs its ∧ IsTup h a its.toArray
  | .dK kvs => kvs.length ≤ sizeLine ∧ (a == sysModules) = false ∧ ∃ vs, KV kvs vs ∧ h.DictOf (mixKind P w) a vs
  | .dT kvs => kvs.length ≤ sizeLine ∧ (a == sysModules) = false ∧ ∃ xs : List (List Key × Addr × Value),
      Paired (fun (p : List Key × V) (q : List Key × Addr × Value) => p.1 = q.1 ∧ H q.2.1 = some (.tup (p.1.map kV)) ∧ RelV p.2 q.2.2) kvs xs ∧
      ∃ o es ep, h.get? a = some o ∧ o.ExactDict ∧ o.data = .dict es ep ∧ es.toList = xs.map (entryOfKey (tupleKind (mixKind P w))) ∧ (xs.map (·.1)).Nodup
  | .set S n => h.SetOf (intKind P w) a S n
  | .ins C dx fs => H dx = some (.own a) ∧ fs.length ≤ 1000 ∧ dx ≠ a ∧ h.get? a = some (PySem.W.instObj C dx) ∧
      ∃ mA, h.Ns1 dx mA ∧ (∀ f, RelO (fs.lookup f) (mA f)) ∧ PySem.Within mA (fs.map (·.1))
  | .own _ => ∃ o, h.get? a = some o
  | .xd fs => ∃ mA, h.Ns1 a mA ∧ ∀ f, RelO (fs.lookup f) (mA f)
  | .rng lo hi => ∃ t u v, h.get? a = some { cls := .type "range", data := .fields #[.int lo t, .int hi u, .int 1 v] }
  | .frz o u => h.get? a = some o ∧ ObjOk H h a u
  | .tbl ps => h.get? a = some { cls := .none, data := .fields ps }
  | .met f x => h.get? a = some (PySem.W.methodObj (.ref f) (.ref x))
  | .ext φ => φ h ∧ (∃ o, h.get? a = some o) ∧ ∀ h1 h2 : Heap, φ h1 → (∀ o, h1.get? a = some o → h2.get? a = some o) → φ h2
/-- the abstract heap is held -/
def HOk (H : Hp) (h : Heap) : Prop := ∀ a o, H a = some o → ObjOk P w H h a o
end

section
variable {P : Program} {w : World} {H H' : Hp} {h h' : Heap} {a : Addr} {o : HO}
theorem ObjOk.lt (x : ObjOk P w H h a o) : a < h.objs.size := by
  cases o with
  | lst xs => obtain ⟨_, _, _, _, e⟩ := x; exact Heap.lt_size e
  | tup xs => obtain ⟨_, _, _, p⟩ := x; exact p.lt
  | dK kvs => obtain ⟨_, _, _, _, o, _, _, e, _⟩ := x; exact Heap.lt_size e
  | dT kvs => obtain ⟨_, _, _, _, o, _, _, e, _⟩ := x; exact Heap.lt_size e
  | set S n => obtain ⟨o, _, _, _, e, _⟩ := x; exact Heap.lt_size e
  | ins C dx fs => obtain ⟨_, _, _, e, _⟩ := x; exact Heap.lt_size e
  | own y => obtain ⟨_, e⟩ := x; exact Heap.lt_size e
  | xd fs => obtain ⟨_, ⟨_, _, _, e, _⟩, _⟩ := x; exact Heap.lt_size e
  | rng lo hi => obtain ⟨_, _, _, e⟩ := x; exact Heap.lt_size e
  | frz ob u => obtain ⟨e, _⟩ := x; exact Heap.lt_size e
  | tbl ps => exact Heap.lt_size (show h.get? a = some _ from x)
  | met f y => exact Heap.lt_size (show h.get? a = some _ from x)
  | ext φ => obtain ⟨_, ⟨_, e⟩, _⟩ := x; exact Heap.lt_size e
theorem Paired.mapP {α β : Type} {F G : α → β → Prop} : ∀ {l₁ : List α} {l₂ : List β}, Paired F l₁ l₂ → (∀ a b, F a b → G a b) → Paired G l₁ l₂
  | _, _, .nil, _ => .nil
  | _, _, .cons r t, f => .cons (f _ _ r) (Paired.mapP t f)
/-- what an object's description leans on: its own object, its own dict, the tuples -/
theorem ObjOk.stay (x : ObjOk P w H h a o) (k : ∀ b u, (b = a ∨ H b = some (.own a)) → h.get? b = some u → h'.get? b = some u)
    (ho : ∀ b, H b = some (.own a) → H' b = some (.own a)) (ht : ∀ b xs, H b = some (.tup xs) → H' b = some (.tup xs)) : ObjOk P w H' h' a o := by
  induction o with
  | lst xs => obtain ⟨z, its, n, r, e⟩ := x; exact ⟨z, its, n, r, k _ _ (.inl rfl) e⟩
  | tup xs => obtain ⟨z, its, r, ob, e, c⟩ := x; exact ⟨z, its, r, ob, k _ _ (.inl rfl) e, c⟩
  | dK kvs => obtain ⟨z, y, vs, r, ob, es, ep, e, c⟩ := x; exact ⟨z, y, vs, r, ob, es, ep, k _ _ (.inl rfl) e, c⟩
  | dT kvs =>
    obtain ⟨z, y, xs, r, ob, es, ep, e, c⟩ := x
    exact ⟨z, y, xs, Paired.mapP r fun p q z => ⟨z.1, ht _ _ z.2.1, z.2.2⟩, ob, es, ep, k _ _ (.inl rfl) e, c⟩
  | set S n => obtain ⟨ob, es, ep, t, e, c⟩ := x; exact ⟨ob, es, ep, t, k _ _ (.inl rfl) e, c⟩
  | ins C dx fs =>
    obtain ⟨d, z, ne, e, mA, ⟨od, es, ep, e2, c⟩, r⟩ := x
    exact ⟨ho _ d, z, ne, k _ _ (.inl rfl) e, mA, ⟨od, es, ep, k _ _ (.inr d) e2, c⟩, r⟩
  | own y => obtain ⟨ob, e⟩ := x; exact ⟨ob, k _ _ (.inl rfl) e⟩
  | xd fs => obtain ⟨mA, ⟨od, es, ep, e, c⟩, r⟩ := x; exact ⟨mA, ⟨od, es, ep, k _ _ (.inl rfl) e, c⟩, r⟩
  | rng lo hi => obtain ⟨t, u, v, e⟩ := x; exact ⟨t, u, v, k _ _ (.inl rfl) e⟩
  | frz ob u ih => obtain ⟨e, q⟩ := x; exact ⟨k _ _ (.inl rfl) e, ih q⟩
  | tbl ps =>
    have e : h.get? a = some { cls := .none, data := .fields ps } := x
    show h'.get? a = some { cls := .none, data := .fields ps }
    exact k a _ (.inl rfl) e
  | met f y =>
    have e : h.get? a = some (PySem.W.methodObj (.ref f) (.ref y)) := x
    show h'.get? a = some (PySem.W.methodObj (.ref f) (.ref y))
    exact k a _ (.inl rfl) e
  | ext φ => obtain ⟨p, ⟨o, e⟩, st⟩ := x; exact ⟨st _ _ p fun o q => k _ _ (.inl rfl) q, ⟨o, k _ _ (.inl rfl) e⟩, st⟩
theorem HOk.lt (x : HOk P w H h) (e : H a = some o) : a < h.objs.size := (x a o e).lt
theorem HOk.fresh (x : HOk P w H h) (e : h.objs.size ≤ a) : H a = none := by
  cases q : H a with
  | none => rfl
  | some u => exact absurd (Nat.lt_of_lt_of_le (x.lt q) e) (Nat.lt_irrefl _)
/-- every object of the heap is kept -/
theorem HOk.kept (x : HOk P w H h) (k : ∀ b u, h.get? b = some u → h'.get? b = some u) : HOk P w H h' := fun a o e =>
  (x a o e).stay (fun b u _ q => k b u q) (fun _ q => q) fun _ _ q => q
/-- a new object is laid and tracked -/
theorem HOk.laid (x : HOk P w H h) (k : ∀ b u, h.get? b = some u → h'.get? b = some u) (hp : h.objs.size ≤ a) (new : ObjOk P w (upd H a o) h' a o) : HOk P w (upd H a o) h' := fun b u e => by
  have hn := x.fresh hp
  by_cases hb : b = a
  · subst hb; rw [upd_same] at e; cases e; exact new
  · rw [upd_ne hb] at e
    exact (x b u e).stay (fun c v _ q => k c v q) (fun c q => by rw [upd_ne (ne_of_none q hn)]; exact q) fun c xs q => by rw [upd_ne (ne_of_none q hn)]; exact q
end

/-- what may be read as u: it is u, or a known u -/
def Rd (H : Hp) (a : Addr) (u : HO) : Prop := H a = some u ∨ ∃ o, H a = some (.frz o u)
theorem Rd.ok {P : Program} {w : World} {H : Hp} {h : Heap} {a : Addr} {u : HO} (r : Rd H a u) (x : HOk P w H h) : ObjOk P w H h a u := by
  rcases r with r | ⟨o, r⟩
  · exact x a u r
  · obtain ⟨_, q⟩ := x a _ r
    exact q
/-- what may be written -/
def Mut : Option HO → Prop
  | some (.lst _) => True
  | some (.dK _) => True
  | some (.dT _) => True
  | some (.set _ _) => True
  | some (.ins _ _ _) => True
  | some (.ext _) => True
  | _ => False
section
variable {P : Program} {w : World} {H : Hp} {h h' : Heap} {x e : Addr} {o' : HO}
/-- the object at e is changed: x itself, or the dict of the instance x -/
theorem HOk.write (ok : HOk P w H h) (mu : Mut (H x)) (he : e = x ∨ H e = some (.own x)) (k : ∀ b u, b ≠ e → h.get? b = some u → h'.get? b = some u) (heo : ∃ u, h'.get? e = some u)
    (new : ObjOk P w (upd H x o') h' x o') : HOk P w (upd H x o') h' := fun b u q => by
  have nown : ∀ c y, H c = some (.own y) → c ≠ x := fun c y r z => by subst z; rw [r] at mu; exact mu
  have ntup : ∀ c xs, H c = some (.tup xs) → c ≠ x := fun c xs r z => by subst z; rw [r] at mu; exact mu
  by_cases hb : b = x
  · subst hb; rw [upd_same] at q; cases q; exact new
  · rw [upd_ne hb] at q
    by_cases hbe : b = e
    · have q' : H b = some (.own x) := by
        rcases he with z | z
        · exact absurd (hbe.trans z) hb
        · rw [hbe]; exact z
      rw [q] at q'; cases q'
      obtain ⟨v, hv⟩ := heo
      exact ⟨v, by rw [hbe]; exact hv⟩
    · refine (ok b u q).stay (fun c v hc r => k c v ?_ r) (fun c r => by rw [upd_ne (nown c b r)]; exact r) fun c xs r => by rw [upd_ne (ntup c xs r)]; exact r
      rcases hc with rfl | hc
      · exact hbe
      · rintro rfl
        rcases he with z | z
        · exact nown c b hc z
        · rw [hc] at z; cases z; exact hb rfl
end

/-! ### kept unless tracked; of the frames at fs (the callers') the slots may change (an exception that passes writes there); of the records at ex (iterators) nothing is said -/
structure Un (fs ex : List Addr) (H H' : Hp) (h h' : Heap) : Prop where
  keep : ∀ b o, h.get? b = some o → H b = none → b ∉ fs → b ∉ ex → h'.get? b = some o
  slot : ∀ b o, h.get? b = some o → H b = none → b ∈ fs → b ∉ ex → ∃ sl, h'.get? b = some { o with slots := sl }
  free : ∀ b o, h.get? b = some o → H b = none → b ∉ ex → H' b = none
  there : ∀ b o, h.get? b = some o → b ∉ ex → ∃ o', h'.get? b = some o'
  tups : ∀ b xs, H b = some (.tup xs) → H' b = some (.tup xs)
  frzs : ∀ b o u, H b = some (.frz o u) → H' b = some (.frz o u)
  tbls : ∀ b ps, H b = some (.tbl ps) → ∃ more, H' b = some (.tbl (ps ++ more))
section
variable {fs fs' ex ex' : List Addr} {H H1 H2 : Hp} {h h1 h2 h' : Heap} {a x e : Addr} {o : HO}
theorem Un.any (u : Un fs ex H H1 h h1) {b : Addr} {ob : Obj} (q : h.get? b = some ob) (n : H b = none) (hx : b ∉ ex) : ∃ sl, h1.get? b = some { ob with slots := sl } := by
  by_cases hb : b ∈ fs
  · exact u.slot b ob q n hb hx
  · exact ⟨ob.slots, u.keep b ob q n hb hx⟩
theorem Un.kept (k : ∀ b u, h.get? b = some u → h'.get? b = some u) : Un fs ex H H h h' :=
  ⟨fun b ob q _ _ _ => k b ob q, fun b ob q _ _ _ => ⟨ob.slots, k b ob q⟩, fun _ _ _ n _ => n, fun b ob q _ => ⟨ob, k b ob q⟩, fun _ _ q => q, fun _ _ _ q => q, fun _ ps q => ⟨#[], by rw [q]; simp⟩⟩
theorem Un.refl : Un fs ex H H h h := Un.kept fun _ _ q => q
theorem Un.laid (k : ∀ b u, h.get? b = some u → h'.get? b = some u) (hp : h.objs.size ≤ a) (hn : H a = none) : Un fs ex H (upd H a o) h h' where
  keep := fun b u q _ _ _ => k b u q
  slot := fun b u q _ _ _ => ⟨u.slots, k b u q⟩
  free := fun b u q n _ => by rw [upd_ne (Nat.ne_of_lt (Nat.lt_of_lt_of_le (Heap.lt_size q) hp))]; exact n
  there := fun b u q _ => ⟨u, k b u q⟩
  tups := fun b xs q => by rw [upd_ne (ne_of_none q hn)]; exact q
  frzs := fun b u xs q => by rw [upd_ne (ne_of_none q hn)]; exact q
  tbls := fun b ps q => ⟨#[], by rw [upd_ne (ne_of_none q hn), q]; simp⟩
theorem Un.write (mu : Mut (H x)) (he : e = x ∨ H e = some (.own x)) (k : ∀ b u, b ≠ e → h.get? b = some u → h'.get? b = some u) (heo : ∃ u, h'.get? e = some u) : Un fs ex H (upd H x o) h h' := by
  have hx : ∀ b, H b = none → b ≠ x := fun b n z => by subst z; rw [n] at mu; exact mu
  have hb : ∀ b, H b = none → b ≠ e := fun b n z => by
    subst z
    rcases he with r | r
    · exact hx b n r
    · rw [n] at r; cases r
  have hm : ∀ b u, H b = some u → ¬ Mut (some u) → b ≠ x := fun b u q nm z => by subst z; rw [q] at mu; exact nm mu
  refine ⟨fun b u q n _ _ => k b u (hb b n) q, fun b u q n _ _ => ⟨u.slots, k b u (hb b n) q⟩, fun b u q n _ => by rw [upd_ne (hx b n)]; exact n, fun b u q _ => ?_,
    fun b xs q => by rw [upd_ne (hm b _ q fun z => z)]; exact q, fun b u xs q => by rw [upd_ne (hm b _ q fun z => z)]; exact q, fun b ps q => ⟨#[], by rw [upd_ne (hm b _ q fun z => z), q]; simp⟩⟩
  by_cases hbe : b = e
  · subst hbe; exact heo
  · exact ⟨u, k b u hbe q⟩
end

/-! ### the heap without what is tracked -/
def trk (h : Heap) (H : Hp) : List Addr := (List.range h.objs.size).filter fun a => (H a).isSome
def hidT (h : Heap) (H : Hp) : Heap := PySem.W.hideAll h (trk h H)
theorem hidT_size (h : Heap) (H : Hp) : (hidT h H).objs.size = h.objs.size := PySem.W.hideAll_size _ _
theorem hidT_get {h : Heap} {H : Hp} {b : Addr} {o : Obj} (e : h.get? b = some o) (n : H b = none) : (hidT h H).get? b = some o :=
  PySem.W.hideAll_get _ e fun hm => by
    have q : (H b).isSome = true := (List.mem_filter.mp hm).2
    rw [n] at q; simp at q
theorem of_hidT {h : Heap} {H : Hp} {b : Addr} {o : Obj} (e : (hidT h H).get? b = some o) : h.get? b = some o ∧ H b = none := by
  have e' : h.get? b = some o := PySem.W.of_hideAll (trk h H) e
  refine ⟨e', ?_⟩
  cases q : H b with
  | none => rfl
  | some x =>
    have hm : b ∈ trk h H := List.mem_filter.mpr ⟨List.mem_range.mpr (Heap.lt_size e'), by simp [q]⟩
    have z : (hidT h H).get? b = none := PySem.W.hideAll_none (trk h H) hm
    rw [z] at e; cases e

/-! ### OpenK's ledger, filled with every new object but one -/
end L2

namespace L2
open PySem PySem.Spec PyProof.Rows

/-- the module's facts, over the base: the heap at the law's entry without what is tracked there -/
structure Mod (K : PySem.W.Frag) (mg : Str → Option Value) (base : Heap) : Prop where
  kin : K.In base
  glob : base.Ns mainGlobals mg
  blt : ∃ mb, base.Ns builtinsNs mb ∧ ∀ x : Str, x ≠ "__name__" → mb x = bootBuiltins x
  nolimit : base.NoLimit

/-- the context: a def's body (or a comprehension's block) running. base: fixed through the whole law; s₀, H₀: the entry; outer: the frames whose slots others may change (a def's callers); stack: all frames that run;
   ex: iterators that were made ahead of the entry and are walked here (a comprehension's); fn: the names whose cells were made at the entry (a def: all; a comprehension's block: its own); calm: not within an except suite; pn: pins that every state bears; xe: what is wanted of an exception that leaves the code -/
structure Cx where
  prog : Program
  w : World
  K : PySem.W.Frag
  mg : Str → Option Value
  base : Heap
  A : Around
  N : List Str
  s_0 : Shared
  H_0 : Hp
  env : Env
  outer : List Env
  stack : List Env
  ex : List Addr
  fn : Str → Bool
  calm : Bool
  pn : List (Addr × Obj)
  xe : Value → Shared → Prop
/-- the callers' frames -/
def frs (l : List Env) : List Addr := l.filterMap (·.frame)
abbrev Cx.fs (X : Cx) : List Addr := frs X.outer

def Vis (sc : Scope) (x : Str) : Prop := sc.names.lookup x = some .local ∨ sc.names.lookup x = some .cell ∨ sc.names.lookup x = some .free
def Loc (sc : Scope) (x : Str) : Prop := sc.names.lookup x = some .local ∨ sc.names.lookup x = some .cell
def Look (env : Env) (h : Heap) (m : Str → Option Value) (x : Str) (u : Value) : Prop :=
  (env.kindOf x = some .local ∧ m x = some u) ∨ ((env.kindOf x = some .cell ∨ env.kindOf x = some .free) ∧ ∃ c, env.cells.lookup x = some c ∧ h.IsCell c (some u))

structure Cx.Ok (X : Cx) : Prop where
  mod : Mod X.K X.mg X.base
  kind : X.env.scope.kind = .function
  glob : X.env.globals = mainGlobals
  blt : X.env.builtins = builtinsNs
  above : X.s_0.heap.objs.size ≤ X.env.locals
  inj : ∀ x y c, X.env.cells.lookup x = some c → X.env.cells.lookup y = some c → x = y
  has : ∀ x, (X.env.kindOf x = some .cell ∨ X.env.kindOf x = some .free) → ∃ c, X.env.cells.lookup x = some c
  cab : ∀ x c, X.fn x = true → X.env.cells.lookup x = some c → X.s_0.heap.objs.size ≤ c
  hd : X.calm = true → X.A.handled = none
  frames : X.A.frames = some X.stack
  stk : X.stack = X.outer ∨ (X.stack = X.env :: X.outer ∧ X.env.frame = some X.env.locals)
  exf : ∀ b ∈ X.ex, b ≠ X.env.locals ∧ ∀ x c, X.env.cells.lookup x = some c → c ≠ b
  bs : ∀ b o, X.base.get? b = some o → X.s_0.heap.get? b = some o ∧ X.H_0 b = none
  bsz : X.base.objs.size ≤ X.s_0.heap.objs.size
  noex : ∀ b o, X.base.get? b = some o → b ∉ X.ex
  exfs : ∀ b ∈ X.ex, b ∉ X.fs
  funs : X.s_0.heap.FunFrames X.base X.outer
  frf : ∀ b ∈ X.fs, X.H_0 b = none

structure Inv (X : Cx) (pins : List (Addr × Obj)) (σ : List (Option V)) (H : Hp) (s : Shared) : Prop where
  ok : X.Ok
  os : s.os = X.s_0.os
  bare : AllBare s.gens
  base : Un X.fs X.ex X.H_0 H X.s_0.heap s.heap
  loc : ∃ m, s.heap.Ns X.env.locals m ∧ ∀ (i : Nat) (x : Str) (v : V), X.N[i]? = some x → σ[i]? = some (some v) → Vis X.env.scope x → ∃ u, RelV v u ∧ Look X.env s.heap m x u
  cell : ∀ x c, X.env.cells.lookup x = some c → ∃ v, s.heap.IsCell c v
  free : H X.env.locals = none
  freeC : ∀ x c, X.env.cells.lookup x = some c → H c = none
  pin : ∀ p ∈ X.pn ++ pins, s.heap.get? p.1 = some p.2 ∧ H p.1 = none ∧ p.1 ≠ X.env.locals ∧ p.1 ∉ X.fs ∧ ∀ v, p.2.data ≠ .cell v
  hok : HOk X.prog X.w H s.heap
  len : σ.length = X.N.length

section
variable {X : Cx} {pins : List (Addr × Obj)} {σ : List (Option V)} {H H' : Hp} {s : Shared} {h' : Heap}

theorem Cx.Ok.nofr (ok : X.Ok) {b : Addr} {o : Obj} (e : X.base.get? b = some o) : b ∉ X.fs := fun hb => by
  have := (ok.funs.mem hb).1
  rw [e] at this; cases this
theorem Inv.bs (I : Inv X pins σ H s) : ∀ b o, X.base.get? b = some o → s.heap.get? b = some o ∧ H b = none := fun b o e =>
  ⟨I.base.keep b o (I.ok.bs b o e).1 (I.ok.bs b o e).2 (I.ok.nofr e) (I.ok.noex b o e), I.base.free b o (I.ok.bs b o e).1 (I.ok.bs b o e).2 (I.ok.noex b o e)⟩
theorem Inv.bk (I : Inv X pins σ H s) : ∀ b o, X.base.get? b = some o → s.heap.get? b = some o := fun b o e => (I.bs b o e).1
theorem Inv.mod (I : Inv X pins σ H s) : Mod X.K X.mg X.base := I.ok.mod
theorem Inv.kIn (I : Inv X pins σ H s) : X.K.In s.heap := I.ok.mod.kin.keeps I.bk
theorem Inv.lt (I : Inv X pins σ H s) : X.env.locals < s.heap.objs.size := let ⟨_, hn, _⟩ := I.loc; hn.lt
theorem Inv.sz (I : Inv X pins σ H s) : X.s_0.heap.objs.size ≤ s.heap.objs.size := Nat.le_trans I.ok.above (Nat.le_of_lt I.lt)
theorem Inv.nofs (I : Inv X pins σ H s) {a : Addr} (h : s.heap.objs.size ≤ a) : a ∉ X.fs := fun hb => by
  obtain ⟨_, o, ho, _⟩ := I.ok.funs.mem hb
  exact absurd (Nat.lt_of_lt_of_le (Heap.lt_size ho) (Nat.le_trans I.sz h)) (Nat.lt_irrefl _)
theorem Inv.cne (I : Inv X pins σ H s) : ∀ x c, X.env.cells.lookup x = some c → c ≠ X.env.locals := fun x c e z => by
  obtain ⟨v, o, ho, hd⟩ := I.cell x c e
  obtain ⟨m, ⟨o', es, ep, ho', hd', _⟩, _⟩ := I.loc
  rw [z, ho'] at ho; cases ho; rw [hd'] at hd; cases hd
theorem Inv.funs (I : Inv X pins σ H s) : s.heap.FunFrames X.base X.outer := by
  have all : ∀ (l : List Env), (∀ b ∈ frs l, b ∈ X.fs) → X.s_0.heap.FunFrames X.base l → s.heap.FunFrames X.base l := by
    intro l
    induction l with
    | nil => intro _ _; trivial
    | cons env r ih =>
      intro hs hl
      obtain ⟨hk, ⟨L, o, hf, hn, ho, hd⟩, hr⟩ := hl
      have hL : L ∈ X.fs := hs L (by unfold frs; rw [List.filterMap_cons, hf]; exact List.mem_cons_self)
      obtain ⟨sl, e⟩ := I.base.slot L o ho (I.ok.frf L hL) hL fun z => I.ok.exfs L z hL
      exact ⟨hk, ⟨L, _, hf, hn, e, hd⟩, ih (fun b hb => hs b (by unfold frs; rw [List.filterMap_cons, hf]; exact List.mem_cons_of_mem _ hb)) hr⟩
  exact all X.outer (fun _ hb => hb) I.ok.funs

/-- the frames that run, for a call -/
theorem Inv.stack (I : Inv X pins σ H s) : s.heap.FunFrames X.base X.stack := by
  rcases I.ok.stk with e | ⟨e, hf⟩
  · rw [e]; exact I.funs
  · rw [e]
    obtain ⟨m, hn, _⟩ := I.loc
    refine .cons (by rw [I.ok.kind]; decide) hf hn ?_ I.funs
    exact Heap.get?_none_of_le (Nat.le_trans I.ok.bsz I.ok.above)
theorem Inv.stkSub (I : Inv X pins σ H s) : ∀ b ∈ frs X.stack, b ∈ X.env.locals :: X.fs := fun b hb => by
  rcases I.ok.stk with e | ⟨e, hf⟩
  · rw [e] at hb; exact List.mem_cons_of_mem _ hb
  · rw [e] at hb
    unfold frs at hb
    rw [List.filterMap_cons, hf] at hb
    exact hb
theorem Inv.stkFree (I : Inv X pins σ H s) : ∀ b ∈ frs X.stack, H b = none := fun b hb => by
  rcases List.mem_cons.mp (I.stkSub b hb) with e | hb
  · rw [e]; exact I.free
  · obtain ⟨_, o, ho, _⟩ := I.ok.funs.mem hb
    exact I.base.free b o ho (I.ok.frf b hb) fun z => I.ok.exfs b z hb

/-- THE STEP: the untracked objects but the frame and the records at ch are kept (the callers' frames up to slots), the frame's map is kept, the new abstract heap is held -/
theorem Inv.step {g' : Array GenState} {t' : Nat} {d' : Drawn} {ch : List Addr} (I : Inv X pins σ H s)
    (hch : ∀ b ∈ ch, (b ∈ X.ex ∨ X.s_0.heap.objs.size ≤ b) ∧ b ≠ X.env.locals ∧ (∀ x c, X.env.cells.lookup x = some c → c ≠ b) ∧ ∀ p ∈ X.pn ++ pins, p.1 ≠ b)
    (keep : ∀ b o, b ≠ X.env.locals → b ∉ X.fs → b ∉ ch → s.heap.get? b = some o → H b = none → h'.get? b = some o)
    (slot : ∀ b o, b ≠ X.env.locals → b ∈ X.fs → b ∉ ch → s.heap.get? b = some o → H b = none → ∃ sl, h'.get? b = some { o with slots := sl }) (free : ∀ b o, b ∉ ch → s.heap.get? b = some o → H b = none → H' b = none)
    (there : ∀ b o, b ∉ ch → s.heap.get? b = some o → ∃ o', h'.get? b = some o')
    (tups : ∀ b xs, H b = some (.tup xs) → H' b = some (.tup xs)) (frzs : ∀ b o u, H b = some (.frz o u) → H' b = some (.frz o u)) (tbls : ∀ b ps, H b = some (.tbl ps) → ∃ more, H' b = some (.tbl (ps ++ more)))
    (ns : ∀ m, s.heap.Ns X.env.locals m → h'.Ns X.env.locals m) (hok : HOk X.prog X.w H' h') (hg : AllBare g') :
    Inv X pins σ H' { s with heap := h', gens := g', drawn := d', toks := t' } := by
  have neL : ∀ b o, X.s_0.heap.get? b = some o → b ≠ X.env.locals := fun b o e => Nat.ne_of_lt (Nat.lt_of_lt_of_le (Heap.lt_size e) I.ok.above)
  have neC : ∀ b o, X.s_0.heap.get? b = some o → b ∉ X.ex → b ∉ ch := fun b o e hx hb => by
    rcases (hch b hb).1 with z | z
    · exact hx z
    · exact absurd (Nat.lt_of_lt_of_le (Heap.lt_size e) z) (Nat.lt_irrefl _)
  have cellK : ∀ x c, X.env.cells.lookup x = some c → ∀ v, s.heap.IsCell c v → h'.IsCell c v := fun x c e v ⟨o, ho, hd⟩ => by
    have nch : c ∉ ch := fun z => (hch c z).2.2.1 x c e rfl
    by_cases hc : c ∈ X.fs
    · obtain ⟨sl, q⟩ := slot c o (I.cne x c e) hc nch ho (I.freeC x c e)
      exact ⟨_, q, hd⟩
    · exact ⟨o, keep c o (I.cne x c e) hc nch ho (I.freeC x c e), hd⟩
  refine ⟨I.ok, I.os, hg, ⟨fun b o e n hb hx => ?_, fun b o e n hb hx => ?_, fun b o e n hx => ?_, fun b o e hx => ?_, fun b xs e => tups b xs (I.base.tups b xs e), fun b o xs e => frzs b o xs (I.base.frzs b o xs e), fun b ps e => ?_⟩, ?_, fun x c e => ?_, ?_, fun x c e => ?_, fun p hp => ?_, hok, I.len⟩
  · exact keep b o (neL b o e) hb (neC b o e hx) (I.base.keep b o e n hb hx) (I.base.free b o e n hx)
  · obtain ⟨sl, e1⟩ := I.base.slot b o e n hb hx
    obtain ⟨sl', e2⟩ := slot b _ (neL b o e) hb (neC b o e hx) e1 (I.base.free b o e n hx)
    exact ⟨sl', e2⟩
  · obtain ⟨o', e1⟩ := I.base.there b o e hx
    exact free b o' (neC b o e hx) e1 (I.base.free b o e n hx)
  · obtain ⟨o', e1⟩ := I.base.there b o e hx
    exact there b o' (neC b o e hx) e1
  · obtain ⟨m1, e1⟩ := I.base.tbls b ps e
    obtain ⟨m2, e2⟩ := tbls b _ e1
    exact ⟨m1 ++ m2, by rw [e2, Array.append_assoc]⟩
  · obtain ⟨m, hn, hl⟩ := I.loc
    refine ⟨m, ns m hn, fun i x v e1 e2 e3 => ?_⟩
    obtain ⟨u, r, l⟩ := hl i x v e1 e2 e3
    refine ⟨u, r, ?_⟩
    rcases l with l | ⟨k, c, e, z⟩
    · exact .inl l
    · exact .inr ⟨k, c, e, cellK x c e _ z⟩
  · obtain ⟨v, z⟩ := I.cell x c e
    exact ⟨v, cellK x c e v z⟩
  · obtain ⟨m, ⟨o, _, _, ho, _⟩, _⟩ := I.loc
    exact free _ o (fun z => (hch _ z).2.1 rfl) ho I.free
  · obtain ⟨v, o, ho, hd⟩ := I.cell x c e
    exact free c o (fun z => (hch c z).2.2.1 x c e rfl) ho (I.freeC x c e)
  · obtain ⟨e, n, ne, nf, d⟩ := I.pin p hp
    have nch : p.1 ∉ ch := fun z => (hch p.1 z).2.2.2 p hp rfl
    exact ⟨keep p.1 p.2 ne nf nch e n, free p.1 p.2 nch e n, ne, nf, d⟩
/-- .. where the frame's own object is kept too -/
theorem Inv.un {t' : Nat} (I : Inv X pins σ H s) (u : Un X.fs [] H H' s.heap h') (hok : HOk X.prog X.w H' h') : Inv X pins σ H' { s with heap := h', toks := t' } := by
  obtain ⟨m, ⟨o, es, ep, ho, r⟩, _⟩ := id I.loc
  obtain ⟨sl, hL⟩ := u.any ho I.free (by simp)
  exact I.step (g' := s.gens) (d' := s.drawn) (ch := []) (fun _ z => nomatch z) (fun b o _ hb _ e n => u.keep b o e n hb (by simp)) (fun b o _ hb _ e n => u.slot b o e n hb (by simp)) (fun b o _ e n => u.free b o e n (by simp)) (fun b o _ e => u.there b o e (by simp)) u.tups u.frzs u.tbls (fun m' hm => by
    obtain ⟨o', es', ep', ho', r'⟩ := hm
    rw [ho] at ho'; cases ho'
    exact ⟨_, es', ep', hL, r'⟩) hok I.bare
/-- behind a call (or a comprehension's block): the slots of this frame may have changed too, the records at ch may have turned -/
theorem Inv.call {g' : Array GenState} {t' : Nat} {d' : Drawn} {ch : List Addr} (I : Inv X pins σ H s) (u : Un (frs X.stack) ch H H' s.heap h') (hok : HOk X.prog X.w H' h') (hg : AllBare g')
    (hch : ∀ b ∈ ch, (b ∈ X.ex ∨ X.s_0.heap.objs.size ≤ b) ∧ b ≠ X.env.locals ∧ (∀ x c, X.env.cells.lookup x = some c → c ≠ b) ∧ ∀ p ∈ X.pn ++ pins, p.1 ≠ b) :
    Inv X pins σ H' { s with heap := h', gens := g', drawn := d', toks := t' } := by
  obtain ⟨m, ⟨o, es, ep, ho, r⟩, _⟩ := id I.loc
  obtain ⟨sl, hL⟩ := u.any ho I.free fun z => (hch _ z).2.1 rfl
  exact I.step (ch := ch) hch (fun b o hL hb hc e n => u.keep b o e n (fun z => (List.mem_cons.mp (I.stkSub b z)).elim hL hb) hc) (fun b o _ _ hc e n => u.any e n hc) (fun b o hc e n => u.free b o e n hc) (fun b o hc e => u.there b o e hc) u.tups u.frzs u.tbls (fun m' hm => by
    obtain ⟨o', es', ep', ho', r'⟩ := hm
    rw [ho] at ho'; cases ho'
    exact ⟨_, es', ep', hL, r'⟩) hok hg
/-- an untracked record of ours (an iterator) has turned -/
theorem Inv.turned {t' : Nat} {it : Addr} (I : Inv X pins σ H s) (k : ∀ b o, b ≠ it → s.heap.get? b = some o → h'.get? b = some o) (hn : H it = none) (hL : it ≠ X.env.locals)
    (h1 : it ∈ X.ex ∨ X.s_0.heap.objs.size ≤ it) (h2 : ∀ x c, X.env.cells.lookup x = some c → c ≠ it) (h3 : ∀ p ∈ X.pn ++ pins, p.1 ≠ it) : Inv X pins σ H { s with heap := h', toks := t' } := by
  have nit : ∀ b u, H b = some u → b ≠ it := fun b u e z => by rw [z, hn] at e; cases e
  refine I.step (g' := s.gens) (d' := s.drawn) (ch := [it]) (fun b hb => ?_) (fun b o _ _ hc e _ => k b o (fun z => hc (by simp [z])) e) (fun b o _ _ hc e _ => ⟨o.slots, k b o (fun z => hc (by simp [z])) e⟩) (fun _ _ _ _ n => n)
    (fun b o hc e => ⟨o, k b o (fun z => hc (by simp [z])) e⟩) (fun _ _ e => e) (fun _ _ _ e => e) (fun b ps e => ⟨#[], by rw [e]; simp⟩) (fun m hm => ?_) (fun b u e => ?_) I.bare
  · have e : b = it := by simpa using hb
    subst e
    exact ⟨h1, hL, h2, h3⟩
  · obtain ⟨o, es, ep, ho, r⟩ := hm
    exact ⟨o, es, ep, k _ o (Ne.symm hL) ho, r⟩
  · refine (I.hok b u e).stay (fun c v hc q => k c v ?_ q) (fun _ q => q) fun _ _ q => q
    rcases hc with z | z
    · rw [z]; exact nit b u e
    · exact nit c _ z
theorem Inv.tok (I : Inv X pins σ H s) (t : Nat) : Inv X pins σ H { s with toks := t } := I.un (h' := s.heap) (t' := t) Un.refl I.hok
/-- all objects kept -/
theorem Inv.kept {t' : Nat} (I : Inv X pins σ H s) (k : ∀ b u, s.heap.get? b = some u → h'.get? b = some u) : Inv X pins σ H { s with heap := h', toks := t' } := I.un (Un.kept k) (I.hok.kept k)
/-- a new object laid and tracked -/
theorem Inv.laid {a : Addr} {o : HO} {t' : Nat} (I : Inv X pins σ H s) (k : ∀ b u, s.heap.get? b = some u → h'.get? b = some u) (hp : s.heap.objs.size ≤ a) (new : ObjOk X.prog X.w (upd H a o) h' a o) :
    Inv X pins σ (upd H a o) { s with heap := h', toks := t' } := I.un (Un.laid k hp (I.hok.fresh hp)) (I.hok.laid k hp new)
/-- an object written -/
theorem Inv.write {x e : Addr} {o : HO} {t' : Nat} (I : Inv X pins σ H s) (mu : Mut (H x)) (he : e = x ∨ H e = some (.own x)) (k : ∀ b u, b ≠ e → s.heap.get? b = some u → h'.get? b = some u) (heo : ∃ u, h'.get? e = some u)
    (new : ObjOk X.prog X.w (upd H x o) h' x o) : Inv X pins σ (upd H x o) { s with heap := h', toks := t' } := I.un (Un.write mu he k heo) (I.hok.write mu he k heo new)
/-- forgetting slots, pins -/
theorem Inv.weak {σ' : List (Option V)} (I : Inv X pins σ H s) (hl : σ'.length = σ.length) (w : ∀ (i : Nat) v, σ'[i]? = some (some v) → σ[i]? = some (some v)) : Inv X pins σ' H s :=
  ⟨I.ok, I.os, I.bare, I.base, let ⟨m, hn, hl'⟩ := I.loc; ⟨m, hn, fun i x v e1 e2 e3 => hl' i x v e1 (w i v e2) e3⟩, I.cell, I.free, I.freeC, I.pin, I.hok, hl.trans I.len⟩
theorem Inv.pins_of {pins' : List (Addr × Obj)} (I : Inv X pins σ H s) (h : ∀ p ∈ pins', s.heap.get? p.1 = some p.2 ∧ H p.1 = none ∧ p.1 ≠ X.env.locals ∧ p.1 ∉ X.fs ∧ ∀ v, p.2.data ≠ .cell v) : Inv X pins' σ H s :=
  ⟨I.ok, I.os, I.bare, I.base, I.loc, I.cell, I.free, I.freeC, fun p hp => (List.mem_append.mp hp).elim (fun z => I.pin p (List.mem_append_left _ z)) (h p), I.hok, I.len⟩

theorem nodup_ix {N : List Str} (hN : N.Nodup) {i j : Nat} {x : Str} (a : N[i]? = some x) (b : N[j]? = some x) : i = j := by
  obtain ⟨h1, e1⟩ := List.getElem?_eq_some_iff.mp a
  obtain ⟨h2, e2⟩ := List.getElem?_eq_some_iff.mp b
  exact (List.getElem_inj hN).mp (e1.trans e2.symm)

/-- a name is stored; what changed -/
theorem store_ok2 {M : Model} {A : Around} {E : Value → Shared → Prop} {i : Nat} {x : Str} {v : V} {u : Value} {Q : Unit → Shared → Prop} (I : Inv X pins σ H s) (hN : X.N.Nodup) (hi : X.N[i]? = some x) (hx : Loc X.env.scope x) (r : RelV v u)
    (h : ∀ s', Inv X pins (σ.set i (some v)) H s' → (∃ a, Heap.SameBut a s.heap s'.heap ∧ (a = X.env.locals ∨ X.env.cells.lookup x = some a)) → Q () s') (hf : X.fn x = true ∨ X.env.scope.names.lookup x = some .local := by first | exact .inl rfl | exact .inr rfl | assumption) : wpAny M A (storeName X.env x u) Q E s := by
  obtain ⟨m, hn, hl⟩ := id I.loc
  have hcls : (X.env.scope.kind == .class || (X.env.scope.kind == .module && X.env.locals != X.env.globals)) = false := by rw [I.ok.kind]; rfl
  have hiσ : i < σ.length := by rw [I.len]; exact (List.getElem?_eq_some_iff.mp hi).1
  have cne := I.cne
  have tracked : ∀ {a : Addr} {h' : Heap}, (∃ o, s.heap.get? a = some o ∧ H a = none) → Heap.SameBut a s.heap h' → HOk X.prog X.w H h' := fun {a h'} ha hs b ob e => by
    obtain ⟨_, _, hfree⟩ := ha
    refine (I.hok b ob e).stay (fun c w' hc q => (hs.2 c ?_).trans q) (fun _ q => q) fun _ _ q => q
    rintro rfl
    rcases hc with rfl | hc
    · rw [hfree] at e; cases e
    · rw [hfree] at hc; cases hc
  rcases hx with hk | hk
  · refine wpAny_storeName_local hk hn (fun h' hn' hs => ?_) hcls
    obtain ⟨oL, _, _, hoL, _⟩ := id hn
    refine h _ ⟨I.ok, I.os, I.bare, ⟨fun b o e n hb hx => ?_, fun b o e n hb hx => ?_, I.base.free, fun b o e hx => ?_, I.base.tups, I.base.frzs, I.base.tbls⟩, ⟨_, hn', fun j y v' e1 e2 e3 => ?_⟩, fun y c e => ?_, I.free, I.freeC, fun p hp => ?_, tracked ⟨oL, hoL, I.free⟩ hs, by simpa using I.len⟩ ⟨_, hs, .inl rfl⟩
    · exact (hs.2 b (Nat.ne_of_lt (Nat.lt_of_lt_of_le (Heap.lt_size e) I.ok.above))).trans (I.base.keep b o e n hb hx)
    · obtain ⟨sl, e1⟩ := I.base.slot b o e n hb hx
      exact ⟨sl, (hs.2 b (Nat.ne_of_lt (Nat.lt_of_lt_of_le (Heap.lt_size e) I.ok.above))).trans e1⟩
    · obtain ⟨o', e1⟩ := I.base.there b o e hx
      exact ⟨o', (hs.2 b (Nat.ne_of_lt (Nat.lt_of_lt_of_le (Heap.lt_size e) I.ok.above))).trans e1⟩
    · by_cases hj : j = i
      · subst hj
        rw [hi] at e1; cases e1
        rw [List.getElem?_set_self hiσ] at e2
        cases e2
        exact ⟨u, r, .inl ⟨hk, by simp⟩⟩
      · rw [List.getElem?_set_ne (Ne.symm hj)] at e2
        obtain ⟨u', r', q⟩ := hl j y v' e1 e2 e3
        refine ⟨u', r', ?_⟩
        rcases q with ⟨k, e⟩ | ⟨k, c, e, z⟩
        · refine .inl ⟨k, ?_⟩
          have : y ≠ x := fun e => hj (nodup_ix hN e1 (e ▸ hi))
          simp [this, e]
        · exact .inr ⟨k, c, e, z.sameBut hs (cne y c e)⟩
    · obtain ⟨w', z⟩ := I.cell y c e
      exact ⟨w', z.sameBut hs (cne y c e)⟩
    · obtain ⟨e, n, ne, nf, d⟩ := I.pin p hp
      exact ⟨(hs.2 p.1 ne).trans e, n, ne, nf, d⟩
  · have hfn : X.fn x = true := by
      rcases hf with z | z
      · exact z
      · rw [z] at hk; cases hk
    obtain ⟨c, hc⟩ := I.ok.has x (.inl hk)
    obtain ⟨w', z⟩ := I.cell x c hc
    refine wpAny_storeName_cell I.ok.kind hk hc z (fun h' hc' hs => ?_)
    obtain ⟨oc, hoc, hocd⟩ := id z
    refine h { s with heap := h' } ⟨I.ok, I.os, I.bare, ⟨fun b o e n hb hx => ?_, fun b o e n hb hx => ?_, I.base.free, fun b o e hx => ?_, I.base.tups, I.base.frzs, I.base.tbls⟩, ⟨m, hn.sameBut hs (Ne.symm (cne x c hc)), fun j y v' e1 e2 e3 => ?_⟩, fun y c' e => ?_, I.free, I.freeC, fun p hp => ?_, tracked ⟨oc, hoc, I.freeC x c hc⟩ hs, by simpa using I.len⟩ ⟨c, hs, .inr hc⟩
    · exact (hs.2 b (Nat.ne_of_lt (Nat.lt_of_lt_of_le (Heap.lt_size e) (I.ok.cab x c hfn hc)))).trans (I.base.keep b o e n hb hx)
    · obtain ⟨sl, e1⟩ := I.base.slot b o e n hb hx
      exact ⟨sl, (hs.2 b (Nat.ne_of_lt (Nat.lt_of_lt_of_le (Heap.lt_size e) (I.ok.cab x c hfn hc)))).trans e1⟩
    · obtain ⟨o', e1⟩ := I.base.there b o e hx
      exact ⟨o', (hs.2 b (Nat.ne_of_lt (Nat.lt_of_lt_of_le (Heap.lt_size e) (I.ok.cab x c hfn hc)))).trans e1⟩
    · by_cases hj : j = i
      · subst hj
        rw [hi] at e1; cases e1
        rw [List.getElem?_set_self hiσ] at e2
        cases e2
        exact ⟨u, r, .inr ⟨.inl hk, c, hc, hc'⟩⟩
      · rw [List.getElem?_set_ne (Ne.symm hj)] at e2
        obtain ⟨u', r', q⟩ := hl j y v' e1 e2 e3
        refine ⟨u', r', ?_⟩
        rcases q with q | ⟨k, c', e, z'⟩
        · exact .inl q
        · refine .inr ⟨k, c', e, z'.sameBut hs ?_⟩
          rintro rfl
          exact hj (nodup_ix hN e1 (I.ok.inj _ _ _ e hc ▸ hi))
    · by_cases hcc : c' = c
      · subst hcc; exact ⟨_, hc'⟩
      · obtain ⟨w2, z2⟩ := I.cell y c' e
        exact ⟨w2, z2.sameBut hs hcc⟩
    · obtain ⟨e, n, ne, nf, d⟩ := I.pin p hp
      refine ⟨(hs.2 p.1 ?_).trans e, n, ne, nf, d⟩
      intro q
      rw [q, hoc] at e
      have q' : oc = p.2 := Option.some.inj e
      exact d w' (by rw [← q']; exact hocd)
theorem store_ok {M : Model} {A : Around} {E : Value → Shared → Prop} {i : Nat} {x : Str} {v : V} {u : Value} {Q : Unit → Shared → Prop} (I : Inv X pins σ H s) (hN : X.N.Nodup) (hi : X.N[i]? = some x) (hx : Loc X.env.scope x) (r : RelV v u)
    (h : ∀ s', Inv X pins (σ.set i (some v)) H s' → Q () s') (hf : X.fn x = true ∨ X.env.scope.names.lookup x = some .local := by first | exact .inl rfl | exact .inr rfl | assumption) : wpAny M A (storeName X.env x u) Q E s :=
  store_ok2 I hN hi hx r (fun s' I' _ => h s' I') hf
/-- behind a call or a block, the state as it is -/
theorem Inv.call' {s' : Shared} {ch : List Addr} (I : Inv X pins σ H s) (ho : s'.os = s.os) (u : Un (frs X.stack) ch H H' s.heap s'.heap) (hok : HOk X.prog X.w H' s'.heap) (hg : AllBare s'.gens)
    (hch : ∀ b ∈ ch, (b ∈ X.ex ∨ X.s_0.heap.objs.size ≤ b) ∧ b ≠ X.env.locals ∧ (∀ x c, X.env.cells.lookup x = some c → c ≠ b) ∧ ∀ p ∈ X.pn ++ pins, p.1 ≠ b) : Inv X pins σ H' s' := by
  obtain ⟨h', g', d', t', o'⟩ := s'
  have e : o' = s.os := ho
  subst e
  exact I.call (g' := g') (t' := t') (d' := d') u hok hg hch
end

/-! ### the judgements -/
/-- an exception: its class, its own dict's address (where it has one), the abstract heap behind it -/
abbrev XK := Value → Option Addr → Hp → Prop
abbrev St := List (Option V)
abbrev VK := V → Hp → Prop
/-- an expression's reading; a test's; an argument list's -/
abbrev TE := St → Hp → VK → Prop
abbrev TT := St → Hp → (Bool → Hp → Prop) → Prop
abbrev TA := St → Hp → (List V → Hp → Prop) → Prop
/-- what is wanted behind a statement -/
structure Ends where
  nx : St → Hp → Prop
  rt : VK
  bk : St → Hp → Prop := fun _ _ => False
  ct : St → Hp → Prop := fun _ _ => False
abbrev TS := Ends → St → Hp → Prop

def EP (X : Cx) (pins : List (Addr × Obj)) (σ : St) (Q : VK) (u : Value) (s' : Shared) : Prop := ∃ v H', Inv X pins σ H' s' ∧ RelV v u ∧ Q v H'
def TP (X : Cx) (pins : List (Addr × Obj)) (σ : St) (Q : Bool → Hp → Prop) (b : Bool) (s' : Shared) : Prop := ∃ H', Inv X pins σ H' s' ∧ Q b H'
def AP (X : Cx) (pins : List (Addr × Obj)) (σ : St) (Q : List V → Hp → Prop) (us : List Value) (s' : Shared) : Prop := ∃ vs H', Inv X pins σ H' s' ∧ Vals vs us ∧ Q vs H'
def SP (X : Cx) (pins : List (Addr × Obj)) (D : Ends) (f : Flow) (s' : Shared) : Prop :=
  match f with
  | .next => ∃ σ' H', Inv X pins σ' H' s' ∧ D.nx σ' H'
  | .brk => ∃ σ' H', Inv X pins σ' H' s' ∧ D.bk σ' H'
  | .cont => ∃ σ' H', Inv X pins σ' H' s' ∧ D.ct σ' H'
  | .ret u => ∃ v σ' H', Inv X pins σ' H' s' ∧ RelV v u ∧ D.rt v H'

def PE (X : Cx) (e : Expr) (t : TE) : Prop :=
  ∀ (pins : List (Addr × Obj)) (s : Shared) (σ : St) (H : Hp) (Q : VK), Inv X pins σ H s → t σ H Q → wpAny (model X.prog X.w) X.A (eval e X.env) (EP X pins σ Q) X.xe s
def PT (X : Cx) (e : Expr) (t : TT) : Prop :=
  ∀ (pins : List (Addr × Obj)) (s : Shared) (σ : St) (H : Hp) (Q : Bool → Hp → Prop), Inv X pins σ H s → t σ H Q → wpAny (model X.prog X.w) X.A (isTrue e X.env (eval e X.env)) (TP X pins σ Q) X.xe s
/-- a test whatever its 'whole' is (and, or) -/
def PW (X : Cx) (e : Expr) (t : TT) : Prop :=
  ∀ (whole : Sem Value) (pins : List (Addr × Obj)) (s : Shared) (σ : St) (H : Hp) (Q : Bool → Hp → Prop), Inv X pins σ H s → t σ H Q → wpAny (model X.prog X.w) X.A (isTrue e X.env whole) (TP X pins σ Q) X.xe s
theorem PW.pt {X : Cx} {e : Expr} {t : TT} (h : PW X e t) : PT X e t := h _
/-- an argument list (no star), from the left -/
def PA (X : Cx) (es : List Expr) (t : TA) : Prop :=
  ∀ (pos : Pos) (pins : List (Addr × Obj)) (s : Shared) (σ : St) (H : Hp) (Q : List V → Hp → Prop), Inv X pins σ H s → t σ H Q → wpAny (model X.prog X.w) X.A (spliced (backTo pos (starEach es X.env))) (AP X pins σ Q) X.xe s
def PS (X : Cx) (st : Stmt) (t : TS) : Prop :=
  ∀ (pins : List (Addr × Obj)) (s : Shared) (σ : St) (H : Hp) (D : Ends), Inv X pins σ H s → t D σ H → wpAny (model X.prog X.w) X.A (exec st X.env) (SP X pins D) X.xe s
def PSs (X : Cx) (st : List Stmt) (t : TS) : Prop :=
  ∀ (pins : List (Addr × Obj)) (s : Shared) (σ : St) (H : Hp) (D : Ends), Inv X pins σ H s → t D σ H → wpAny (model X.prog X.w) X.A (execs st X.env) (SP X pins D) X.xe s
/-- weaken the end -/
theorem thn {α : Type} {t : Sem α} {Q Q' : α → Shared → Prop} {M : Model} {A : Around} {E : Value → Shared → Prop} {s : Shared} (h : wpAny M A t Q E s) (hQ : ∀ a s, Q a s → Q' a s) : wpAny M A t Q' E s := wpAny_mono h hQ fun _ _ x => x
end L2

namespace L2
open PySem PySem.Spec PyProof.Rows
section
variable {X : Cx}


/-! ### names and constants -/
def tVar (i : Nat) : TE := fun σ H Q => ∃ v, σ[i]? = some (some v) ∧ Q v H
def tC (v : V) : TE := fun _ H Q => Q v H
theorem pe_var {i : Nat} {x : Str} {pos : Pos} (hN : X.N[i]? = some x) (hv : Vis X.env.scope x) (hd : (x == ("__debug__" : Str)) = false := by decide) (hcd : (x == ("__classdict__" : Str)) = false := by decide) : PE X (.Name x pos) (tVar i) := by
  intro pins s σ H Q I h
  obtain ⟨v, e, h⟩ := h
  obtain ⟨m, hn, hl⟩ := I.loc
  obtain ⟨u, r, l⟩ := hl i x v hN e hv
  have fin : EP X pins σ Q u s := ⟨v, H, I, r, h⟩
  rcases l with ⟨hk, hm⟩ | ⟨hk, c, hc, hcell⟩
  · exact wpAny_Name (wpAny_loadName_local I.ok.kind hk hn hm fin) hd
  · rcases hk with hk | hk
    · exact wpAny_Name (wpAny_loadName_cell I.ok.kind hk hc hcell fin) hd
    · exact wpAny_Name (wpAny_loadName_free I.ok.kind hk hc hcell fin hcd) hd
theorem pe_int {i j pos} : PE X (.Constant (.int i) j pos) (tC (.int i)) := fun _ _ _ H _ I h => wpAny_Constant_int ⟨.int i, H, I.tok _, ⟨_, rfl⟩, h⟩
theorem pe_non {j pos} : PE X (.Constant .none j pos) (tC .non) := fun _ _ _ H _ I h => Constant_none ⟨.non, H, I, rfl, h⟩

/-- a global name of the def -/
def Gl (X : Cx) (x : Str) : Prop := X.env.kindOf x = some .globalImplicit
theorem ld_glob {E : Value → Shared → Prop} {pins : List (Addr × Obj)} {s : Shared} {σ : St} {H : Hp} {x : Str} {u : Value} {pos : Pos} {Q : Value → Shared → Prop} (I : Inv X pins σ H s) (hg : Gl X x) (hm : X.mg x = some u) (h : Q u s)
    (hd : (x == ("__debug__" : Str)) = false := by decide) : wpAny (model X.prog X.w) X.A (eval (.Name x pos) X.env) Q E s :=
  Calls.Name_function_global I.ok.kind hg (Calls.loadGlobal_global (by rw [I.ok.glob]; exact I.mod.glob.keeps I.bk) hm h) hd
theorem ld_blt {E : Value → Shared → Prop} {pins : List (Addr × Obj)} {s : Shared} {σ : St} {H : Hp} {x : Str} {u : Value} {pos : Pos} {Q : Value → Shared → Prop} (I : Inv X pins σ H s) (hg : Gl X x) (hm : X.mg x = none) (hv : bootBuiltins x = some u) (h : Q u s)
    (hn : x ≠ "__name__" := by decide) (hd : (x == ("__debug__" : Str)) = false := by decide) : wpAny (model X.prog X.w) X.A (eval (.Name x pos) X.env) Q E s := by
  obtain ⟨mb, h1, h2⟩ := I.mod.blt
  exact Calls.Name_function_global I.ok.kind hg (Calls.loadGlobal_builtin (by rw [I.ok.glob]; exact I.mod.glob.keeps I.bk) hm (by rw [I.ok.blt]; exact h1.keeps I.bk) ((h2 x hn).trans hv) h) hd
/-- a module's constant, a class, a function, as a value -/
theorem pe_glob {x : Str} {v : V} {u : Value} {pos : Pos} (hg : Gl X x) (hm : X.mg x = some u) (r : RelV v u) (hd : (x == ("__debug__" : Str)) = false := by decide) : PE X (.Name x pos) (tC v) :=
  fun _ _ _ H _ I h => ld_glob I hg hm ⟨v, H, I, r, h⟩ hd

/-! ### arithmetic -/
variable {a b : Expr} {ta tb : TE} {pos : Pos}

/-! ### comparisons -/
def PC (X : Cx) (op : CmpOp) (a b : Expr) (t : TE) : Prop :=
  ∀ (pins : List (Addr × Obj)) (s : Shared) (σ : St) (H : Hp) (Q : VK), Inv X pins σ H s → t σ H Q →
    wpAny (model X.prog X.w) X.A (eval a X.env) (fun v s₁ => wpAny (model X.prog X.w) X.A (eval b X.env) (fun u s₂ => wpAny (model X.prog X.w) X.A (compareOp op v u) (EP X pins σ Q) X.xe s₂) X.xe s₁) X.xe s
theorem nobehind (b : Expr) {op : CmpOp} (h : op ≠ .In) (h2 : op ≠ .NotIn) : behindInMarks op b = false := by
  have e1 : (op == CmpOp.In) = false := by cases op <;> first | rfl | exact absurd rfl h
  have e2 : (op == CmpOp.NotIn) = false := by cases op <;> first | rfl | exact absurd rfl h2
  cases b <;> simp [behindInMarks, e1, e2]
/-- is None -/
def tIsN (ta : TE) : TE := fun σ H Q => ta σ H fun x H1 => Q (.bl (decide (x = .non))) H1
def tNotN (ta : TE) : TE := fun σ H Q => ta σ H fun x H1 => Q (.bl (!decide (x = .non))) H1
theorem RelV.none_iff {x : V} {v : Value} (r : RelV x v) : (v == Value.none) = decide (x = .non) := by
  cases x with
  | non => cases r; rfl
  | bl _ => cases r; rfl
  | int _ => obtain ⟨t, rfl⟩ := r; rfl
  | str _ => obtain ⟨t, rfl⟩ := r; rfl
  | byt _ => obtain ⟨t, rfl⟩ := r; rfl
  | flt _ => obtain ⟨t, rfl⟩ := r; rfl
  | ref _ => cases r; rfl
  | ty _ => cases r; rfl
theorem pc_isN {j pos'} (ha : PE X a ta) : PC X .Is a (.Constant .none j pos') (tIsN ta) := by
  intro pins s σ H Q I h
  refine thn (ha pins s σ H _ I h) fun v s1 ⟨x, H1, I1, r1, q1⟩ => ?_
  exact Constant_none (is_none_gen ⟨.bl _, H1, I1, by rw [r1.none_iff]; rfl, q1⟩)
theorem pc_notN {j pos'} (ha : PE X a ta) : PC X .IsNot a (.Constant .none j pos') (tNotN ta) := by
  intro pins s σ H Q I h
  refine thn (ha pins s σ H _ I h) fun v s1 ⟨x, H1, I1, r1, q1⟩ => ?_
  exact Constant_none (isnot_none_gen ⟨.bl _, H1, I1, by rw [r1.none_iff]; rfl, q1⟩)
/-- a comparison as a value, as a test -/
def tB (t : TE) : TT := fun σ H Q => t σ H fun x H1 => ∃ c, x = .bl c ∧ Q c H1
theorem pt_cmp {op : CmpOp} {t : TE} (h : PC X op a b t) (h1 : behindInMarks op b = false := by first | exact nobehind _ (by decide) (by decide) | rfl) : PT X (.Compare a [op] [b] pos) (tB t) := by
  intro pins s σ H Q I hw
  refine wpAny_isTrue_Compare1 (thn (h pins s σ H _ I hw) fun v s1 h1 => thn h1 fun u s2 h2 => thn h2 fun c s3 ⟨x, H1, I1, r1, q1⟩ => ?_) h1
  obtain ⟨d, rfl, q⟩ := q1
  cases r1
  exact wpAny_truthy_bool ⟨H1, I1, q⟩
/-- an expression whose value is a bool, as a test -/
theorem pt_val {e : Expr} {t : TE} (h : PE X e t) (he : ∀ whole, isTrue e X.env whole = (do let v ← whole; standAt e.pos; holding [v] (truthy v)) := by intro _; rfl) : PT X e (tB t) := by
  intro pins s σ H Q I hw
  refine isTrue_plain (thn (h pins s σ H _ I hw) fun v s1 ⟨x, H1, I1, r1, q1⟩ => ?_) (he _)
  obtain ⟨d, rfl, q⟩ := q1
  cases r1
  exact wpAny_truthy_bool ⟨H1, I1, q⟩

/-! ### and, or, not -/
variable {tA tB' : TT} {rest : List Expr}
def tAnd (t u : TT) : TT := fun σ H Q => t σ H fun c H1 => if c = true then u σ H1 Q else Q false H1
def tOr (t u : TT) : TT := fun σ H Q => t σ H fun c H1 => if c = true then Q true H1 else u σ H1 Q
def tNot (t : TT) : TT := fun σ H Q => t σ H fun c H1 => Q (!c) H1
theorem pw_and1 (ha : PT X a tA) : PW X (.BoolOp .And [a] pos) tA := by
  intro wh pins s σ H Q I h
  refine isTrue_and (thn (ha pins s σ H Q I h) fun c s1 e => ?_)
  cases c with
  | true => exact isTrue_and_nil e
  | false => exact e
theorem pw_or1 (ha : PT X a tA) : PW X (.BoolOp .Or [a] pos) tA := by
  intro wh pins s σ H Q I h
  refine isTrue_or (thn (ha pins s σ H Q I h) fun c s1 e => ?_)
  cases c with
  | false => exact isTrue_or_nil e
  | true => exact e
theorem pw_and (ha : PT X a tA) (hb : PW X (.BoolOp .And (b :: rest) pos) tB') : PW X (.BoolOp .And (a :: b :: rest) pos) (tAnd tA tB') := by
  intro wh pins s σ H Q I h
  refine isTrue_and (thn (ha pins s σ H _ I h) fun c s1 ⟨H1, I1, q1⟩ => ?_)
  cases c with
  | true => exact hb wh pins s1 σ H1 Q I1 q1
  | false => exact ⟨H1, I1, q1⟩
theorem pw_or (ha : PT X a tA) (hb : PW X (.BoolOp .Or (b :: rest) pos) tB') : PW X (.BoolOp .Or (a :: b :: rest) pos) (tOr tA tB') := by
  intro wh pins s σ H Q I h
  refine isTrue_or (thn (ha pins s σ H _ I h) fun c s1 ⟨H1, I1, q1⟩ => ?_)
  cases c with
  | true => exact ⟨H1, I1, q1⟩
  | false => exact hb wh pins s1 σ H1 Q I1 q1
theorem pt_not (ha : PT X a tA) : PT X (.UnaryOp .Not a pos) (tNot tA) := by
  intro pins s σ H Q I h
  exact isTrue_not (ha pins s σ H (fun c H1 => Q (!c) H1) I h)
/-- .. as values (bools) -/
def tAndV (ta tb : TE) : TE := fun σ H Q => ta σ H fun x H1 => ∃ c, x = .bl c ∧ if c = true then tb σ H1 Q else Q (.bl false) H1
theorem pe_one {op} {t : TE} (h : PE X a t) : PE X (.BoolOp op [a] pos) t := fun pins s σ H Q I hw => BoolOp_one (h pins s σ H Q I hw)
theorem pe_and (ha : PE X a ta) (hb : PE X (.BoolOp .And (b :: rest) pos) tb) : PE X (.BoolOp .And (a :: b :: rest) pos) (tAndV ta tb) := by
  intro pins s σ H Q I h
  refine BoolOp_and (thn (ha pins s σ H _ I h) fun v s1 ⟨x, H1, I1, r1, q1⟩ => ?_)
  obtain ⟨c, rfl, q1⟩ := q1
  cases r1
  refine wpAny_truthy_bool ?_
  cases c with
  | true => exact hb pins s1 σ H1 Q I1 q1
  | false => exact ⟨.bl false, H1, I1, rfl, q1⟩
/-- a if t else b -/
def tIf (t : TT) (ta tb : TE) : TE := fun σ H Q => t σ H fun c H1 => if c = true then ta σ H1 Q else tb σ H1 Q
theorem pe_ifExp {c : Expr} (hc : PT X c tA) (ha : PE X a ta) (hb : PE X b tb) : PE X (.IfExp c a b pos) (tIf tA ta tb) := by
  intro pins s σ H Q I h
  refine wpAny_IfExp (thn (hc pins s σ H _ I h) fun d s1 ⟨H1, I1, q1⟩ => ?_)
  cases d with
  | true => exact ha pins s1 σ H1 Q I1 q1
  | false => exact hb pins s1 σ H1 Q I1 q1
end
end L2

namespace L2
open PySem PySem.Spec PyProof.Rows

/-! ### a list, a tuple that is read: tracked, frozen, or an object of the module -/
def SqL (K : PySem.W.Frag) (H : Hp) (a : Addr) (xs : List V) : Prop :=
  Rd H a (.lst xs) ∨
    ∃ (o : Obj) (its : Array Value) (n : Nat), K.lookup a = some o ∧ o.cls = .type "list" ∧ o.dict = none ∧ o.data = .seq its n ∧ its.size ≤ sizeLine ∧ Vals xs its.toList
def SqT (K : PySem.W.Frag) (H : Hp) (a : Addr) (xs : List V) : Prop :=
  Rd H a (.tup xs) ∨
    ∃ (o : Obj) (its : Array Value) (n : Nat), K.lookup a = some o ∧ o.cls = .type "tuple" ∧ o.data = .seq its n ∧ its.size ≤ sizeLine ∧ Vals xs its.toList
def absV : Value → Option V
  | .none => some .non
  | .bool b => some (.bl b)
  | .int i _ => some (.int i)
  | .str x _ => some (.str x)
  | .bytes b _ => some (.byt b)
  | .float b _ => some (.flt b)
  | .ref a => some (.ref a)
  | .type n => some (.ty n)
  | _ => none
theorem RelV.abs {x : V} {u : Value} (r : RelV x u) : absV u = some x := by
  cases x with
  | non => cases r; rfl
  | bl _ => cases r; rfl
  | int _ => obtain ⟨t, rfl⟩ := r; rfl
  | str _ => obtain ⟨t, rfl⟩ := r; rfl
  | byt _ => obtain ⟨t, rfl⟩ := r; rfl
  | flt _ => obtain ⟨t, rfl⟩ := r; rfl
  | ref _ => cases r; rfl
  | ty _ => cases r; rfl
theorem RelV.inj {x y : V} {u : Value} (r : RelV x u) (q : RelV y u) : x = y := Option.some.inj (r.abs.symm.trans q.abs)
theorem Vals.inj : ∀ {xs ys : List V} {us : List Value}, Vals xs us → Vals ys us → xs = ys
  | _, _, _, .nil, .nil => rfl
  | _, _, _, .cons r t, .cons r' t' => by rw [r.inj r', Vals.inj t t']
section
variable {X : Cx} {pins : List (Addr × Obj)} {σ : St} {H : Hp} {s : Shared} {a : Addr} {xs ys : List V}
theorem SqL.of {K : PySem.W.Frag} (h : H a = some (.lst xs)) : SqL K H a xs := .inl (.inl h)
theorem SqT.of {K : PySem.W.Frag} (h : H a = some (.tup xs)) : SqT K H a xs := .inl (.inl h)
theorem Inv.list (I : Inv X pins σ H s) (h : SqL X.K H a xs) : ∃ its : List Value, Vals xs its ∧ PlainL s.heap a its.toArray ∧ xs.length ≤ sizeLine := by
  rcases h with h | ⟨o, its, n, hk, hc, hd, hs, hz, r⟩
  · obtain ⟨z, its, n, r, e⟩ := h.ok I.hok
    exact ⟨its, r, ⟨_, n, e, rfl, rfl, rfl⟩, z⟩
  · refine ⟨its.toList, r, ⟨o, n, I.kIn a o hk, hc, hd, by simpa using hs⟩, ?_⟩
    have e := r.length
    simp only [Array.length_toList] at e
    omega
theorem Inv.tuple (I : Inv X pins σ H s) (h : SqT X.K H a xs) : ∃ its : List Value, Vals xs its ∧ IsTup s.heap a its.toArray ∧ xs.length ≤ sizeLine := by
  rcases h with h | ⟨o, its, n, hk, hc, hs, hz, r⟩
  · obtain ⟨z, its, r, p⟩ := h.ok I.hok
    exact ⟨its, r, p, z⟩
  · refine ⟨its.toList, r, ⟨o, I.kIn a o hk, hc, n, by simpa using hs⟩, ?_⟩
    have e := r.length
    simp only [Array.length_toList] at e
    omega
theorem Inv.list_inj (I : Inv X pins σ H s) (h : SqL X.K H a xs) (h' : SqL X.K H a ys) : xs = ys := by
  obtain ⟨its, r, ⟨o, n, e, _, _, d⟩, _⟩ := I.list h
  obtain ⟨its', r', ⟨o', n', e', _, _, d'⟩, _⟩ := I.list h'
  rw [e] at e'; cases e'
  rw [d] at d'
  injection d' with d1 _
  have : its = its' := by simpa using congrArg Array.toList d1
  subst this
  exact r.inj r'
end

/-! ### another wish about exceptions -/
abbrev Cx.wish (X : Cx) (E : Value → Shared → Prop) : Cx := { X with xe := E }
/-- no exception leaves -/
abbrev Cx.nox (X : Cx) : Cx := X.wish fun _ _ => False
theorem Cx.Ok.wish {X : Cx} (ok : X.Ok) (E : Value → Shared → Prop) : (X.wish E).Ok :=
  ⟨ok.mod, ok.kind, ok.glob, ok.blt, ok.above, ok.inj, ok.has, ok.cab, ok.hd, ok.frames, ok.stk, ok.exf, ok.bs, ok.bsz, ok.noex, ok.exfs, ok.funs, ok.frf⟩
theorem Cx.Ok.unwish {X : Cx} {E : Value → Shared → Prop} (ok : (X.wish E).Ok) : X.Ok :=
  ⟨ok.mod, ok.kind, ok.glob, ok.blt, ok.above, ok.inj, ok.has, ok.cab, ok.hd, ok.frames, ok.stk, ok.exf, ok.bs, ok.bsz, ok.noex, ok.exfs, ok.funs, ok.frf⟩
section
variable {X : Cx} {pins : List (Addr × Obj)} {σ : St} {H : Hp} {s : Shared} {E : Value → Shared → Prop}
theorem Inv.wish (I : Inv X pins σ H s) (E : Value → Shared → Prop) : Inv (X.wish E) pins σ H s := ⟨I.ok.wish E, I.os, I.bare, I.base, I.loc, I.cell, I.free, I.freeC, I.pin, I.hok, I.len⟩
theorem Inv.unwish (I : Inv (X.wish E) pins σ H s) : Inv X pins σ H s := ⟨I.ok.unwish, I.os, I.bare, I.base, I.loc, I.cell, I.free, I.freeC, I.pin, I.hok, I.len⟩
theorem SP.unwish {D : Ends} {f : Flow} {s' : Shared} (h : SP (X.wish E) pins D f s') : SP X pins D f s' := by
  cases f with
  | next => obtain ⟨σ', H', I, q⟩ := h; exact ⟨σ', H', I.unwish, q⟩
  | brk => obtain ⟨σ', H', I, q⟩ := h; exact ⟨σ', H', I.unwish, q⟩
  | cont => obtain ⟨σ', H', I, q⟩ := h; exact ⟨σ', H', I.unwish, q⟩
  | ret u => obtain ⟨v, σ', H', I, r, q⟩ := h; exact ⟨v, σ', H', I.unwish, r, q⟩
theorem PSs.nox {st : List Stmt} {t : TS} (h : PSs X.nox st t) : PSs X st t := fun pins s σ H D I hw =>
  wpAny_mono (h pins s σ H D (I.wish _) hw) (fun _ _ q => q.unwish) fun _ _ z => False.elim z
end

/-! ### blocks and small statements -/
section
variable {X : Cx} {st : Stmt} {rest : List Stmt} {t u : TS} {e : Expr} {te : TE} {pos : Pos}
def tNext : TS := fun D σ H => D.nx σ H
def tSeq (t u : TS) : TS := fun D σ H => t { D with nx := u D } σ H
theorem pss_nil : PSs X [] tNext := fun _ _ σ H _ I h => wpAny_execs_nil ⟨σ, H, I, h⟩
theorem pss_cons (h1 : PS X st t) (h2 : PSs X rest u) : PSs X (st :: rest) (tSeq t u) := by
  intro pins s σ H D I h
  refine wpAny_execs_cons (thn (h1 pins s σ H { D with nx := u D } I h) fun f s1 q => ?_)
  cases f with
  | next =>
    obtain ⟨σ', H', I', q⟩ := q
    exact h2 pins s1 σ' H' D I' q
  | ret v => exact q
  | brk => exact q
  | cont => exact q
theorem pss_one (h1 : PS X st t) : PSs X [st] t := by
  intro pins s σ H D I h
  refine wpAny_execs_cons (thn (h1 pins s σ H D I h) fun f s1 q => ?_)
  cases f with
  | next => exact wpAny_execs_nil q
  | ret v => exact q
  | brk => exact q
  | cont => exact q
/-- in a def's body nothing is shown -/
theorem Inv.quiet {pins : List (Addr × Obj)} {σ : St} {H : Hp} {s : Shared} (I : Inv X pins σ H s) : interactive X.env = false := by simp [interactive, I.ok.kind]
/-- an expression whose value is dropped -/
def tDrop (te : TE) : TS := fun D σ H => te σ H fun _ H1 => D.nx σ H1
theorem ps_expr (he : PE X e te) (hs : swapsWith e none pos.line X.env = pure false := by rfl) : PS X (.Expr e pos) (tDrop te) := by
  intro pins s σ H D I h
  exact wpAny_Expr_any (thn (he pins s σ H _ I h) fun v s1 ⟨x, H1, I1, r1, q1⟩ => ⟨σ, H1, I1, q1⟩) I.quiet hs
def tRet (te : TE) : TS := fun D σ H => te σ H D.rt
theorem ps_ret (he : PE X e te) : PS X (.Return (some e) pos) (tRet te) := by
  intro pins s σ H D I h
  exact wpAny_Return_some (thn (he pins s σ H _ I h) fun v s1 ⟨x, H1, I1, r1, q1⟩ => ⟨x, σ, H1, I1, r1, q1⟩)
def tRetN : TS := fun D _ H => D.rt .non H
theorem ps_retN : PS X (.Return none pos) tRetN := fun _ _ σ H _ I h => wpAny_Return_none ⟨.non, σ, H, I, rfl, h⟩
def tIfS (c : TT) (t u : TS) : TS := fun D σ H => c σ H fun b H1 => if b = true then t D σ H1 else u D σ H1
theorem ps_if {c : Expr} {a b : List Stmt} {tc : TT} (hc : PT X c tc) (ha : PSs X a t) (hb : PSs X b u) : PS X (.If c a b pos) (tIfS tc t u) := by
  intro pins s σ H D I h
  refine wpAny_If (thn (hc pins s σ H _ I h) fun d s1 ⟨H1, I1, q1⟩ => ?_)
  cases d with
  | true => exact ha pins s1 σ H1 D I1 q1
  | false => exact hb pins s1 σ H1 D I1 q1
end

/-! ### targets -/
abbrev TG := V → St → Hp → (St → Hp → Prop) → Prop
abbrev TGs := List V → St → Hp → (St → Hp → Prop) → Prop
def PG (X : Cx) (target : Expr) (t : TG) : Prop :=
  ∀ (pins : List (Addr × Obj)) (s : Shared) (σ : St) (H : Hp) (v : V) (u : Value) (Q : St → Hp → Prop), Inv X pins σ H s → RelV v u → t v σ H Q →
    wpAny (model X.prog X.w) X.A (assign target X.env u) (fun _ s' => ∃ σ' H', Inv X pins σ' H' s' ∧ Q σ' H') X.xe s
/-- several targets, one after another -/
def PGs (X : Cx) (ts : List Expr) (t : TGs) : Prop :=
  ∀ (pins : List (Addr × Obj)) (s : Shared) (σ : St) (H : Hp) (vs : List V) (us : List Value) (Q : St → Hp → Prop), Inv X pins σ H s → Vals vs us → t vs σ H Q →
    wpAny (model X.prog X.w) X.A (assignInOrder ((assignEach ts X.env).map (·.2)) us) (fun _ s' => ∃ σ' H', Inv X pins σ' H' s' ∧ Q σ' H') X.xe s
/-- o[i] = v, by values -/
abbrev TSet := V → V → V → Hp → (Hp → Prop) → Prop
def PSet (X : Cx) (t : TSet) : Prop :=
  ∀ (pins : List (Addr × Obj)) (s : Shared) (σ : St) (H : Hp) (o i v : V) (ov iv u : Value) (Q : Hp → Prop), Inv X pins σ H s → RelV o ov → RelV i iv → RelV v u → t o i v H Q →
    wpAny (model X.prog X.w) X.A (setItem ov iv u) (fun _ s' => ∃ H', Inv X pins σ H' s' ∧ Q H') X.xe s
/-- a op= b, by values -/
abbrev TIp := V → V → Hp → VK → Prop
def PIp (X : Cx) (op : Operator) (t : TIp) : Prop :=
  ∀ (pins : List (Addr × Obj)) (s : Shared) (σ : St) (H : Hp) (x y : V) (v u : Value) (Q : VK), Inv X pins σ H s → RelV x v → RelV y u → t x y H Q →
    wpAny (model X.prog X.w) X.A (inplaceOp op v u) (EP X pins σ Q) X.xe s
section
variable {X : Cx} {pos : Pos}
def gName (i : Nat) : TG := fun v σ H Q => Q (σ.set i (some v)) H
theorem pg_name {i : Nat} {x : Str} (hN : X.N.Nodup) (hi : X.N[i]? = some x) (hx : Loc X.env.scope x) (hf : X.fn x = true ∨ X.env.scope.names.lookup x = some .local := by first | exact .inl rfl | exact .inr rfl | assumption) : PG X (.Name x pos) (gName i) := by
  intro pins s σ H v u Q I r h
  exact wpAny_assign_Name (store_ok I hN hi hx r (fun s' I' => ⟨_, H, I', h⟩) hf)
def gNil : TGs := fun vs σ H Q => vs = [] ∧ Q σ H
def gCons (t : TG) (u : TGs) : TGs := fun vs σ H Q => ∃ v r, vs = v :: r ∧ t v σ H fun σ' H' => u r σ' H' Q
theorem pgs_nil : PGs X [] gNil := by
  intro pins s σ H vs us Q I r h
  obtain ⟨e, h⟩ := h
  subst e
  cases r
  exact assignInOrder_nil ⟨σ, H, I, h⟩
theorem pgs_cons {e : Expr} {es : List Expr} {t : TG} {u : TGs} (h1 : PG X e t) (h2 : PGs X es u)
    (hs : (assignEach (e :: es) X.env).map (·.2) = assign e X.env :: (assignEach es X.env).map (·.2) := by rfl) : PGs X (e :: es) (gCons t u) := by
  intro pins s σ H vs us Q I r h
  obtain ⟨v, vr, e1, h⟩ := h
  subst e1
  cases r with
  | cons r rr =>
    rw [hs]
    refine assignInOrder_cons (thn (h1 pins s σ H _ _ _ I r h) fun _ s1 ⟨σ1, H1, I1, q1⟩ => ?_)
    exact h2 pins s1 σ1 H1 _ _ Q I1 rr q1
/-- (a, b, ..) = a tuple of that length -/
def gTup (K : PySem.W.Frag) (n : Nat) (t : TGs) : TG := fun v σ H Q => ∃ a xs, v = .ref a ∧ SqT K H a xs ∧ xs.length = n ∧ t xs σ H Q
theorem pg_tup {es : List Expr} {k : Nat} {t : TGs} {n : Nat} (hc : X.calm = true) (h : PGs X es t)
    (hn : (assignEach es X.env).length = n := by rfl) (hst : (assignEach es X.env).findIdx? (·.1) = none := by rfl) : PG X (.Tuple es k pos) (gTup X.K n t) := by
  intro pins s σ H v u Q I r hw
  obtain ⟨a, xs, e1, hq, hl, hw⟩ := hw
  subst e1
  cases r
  obtain ⟨its, rv, ht, hz⟩ := I.tuple hq
  refine assign_Tuple_tuple (I.ok.hd hc) ht (by simp [hn, ← hl, rv.length]) hst fun h' hx => ?_
  have I1 : Inv X pins σ H { s with heap := h' } := I.kept (t' := s.toks) fun b o e => hx b o (Nat.ne_of_lt (Heap.lt_size e)) e
  exact h pins _ σ H xs _ Q I1 (by simpa using rv) hw
/-- o[i] = .. -/
def gSub (to ti : TE) (t : TSet) : TG := fun v σ H Q => to σ H fun o H1 => ti σ H1 fun i H2 => t o i v H2 fun H3 => Q σ H3
theorem pg_sub {o i : Expr} {to ti : TE} {t : TSet} (ho : PE X o to) (hi : PE X i ti) (hs : PSet X t)
    (ha : ∀ v, assign (.Subscript o i pos) X.env v = (do
      let ov ← holding [v] (eval o X.env)
      let iv ← holding [v, ov] (eval i X.env)
      standAt pos
      holding [v, ov, iv] (setItem ov iv v)
      release [v, ov, iv] []) := by intro _; rfl) : PG X (.Subscript o i pos) (gSub to ti t) := by
  intro pins s σ H v u Q I r h
  rw [ha]
  refine wpAny_bind (wpAny_holding (thn (ho pins s σ H _ I h) fun ov s1 ⟨x, H1, I1, r1, q1⟩ => ?_))
  refine wpAny_bind (wpAny_holding (thn (hi pins s1 σ H1 _ I1 q1) fun iv s2 ⟨y, H2, I2, r2, q2⟩ => ?_))
  refine wpAny_bind (wpAny_standAt (wpAny_bind (wpAny_holding (thn (hs pins s2 σ H2 x y v ov iv u _ I2 r1 r2 r q2) fun _ s3 ⟨H3, I3, q3⟩ => ?_))))
  exact wpAny_release ⟨σ, H3, I3, q3⟩
/-- target = value -/
def tAsg (te : TE) (g : TG) : TS := fun D σ H => te σ H fun x H1 => g x σ H1 D.nx
theorem ps_asg {tg e : Expr} {te : TE} {g : TG} (he : PE X e te) (hg : PG X tg g) (hs : swapsWithSole [tg] e pos.line X.env = pure false := by rfl) (hw : swappedStores [tg] e X.env = pure none := by rfl)
    (h1 : (assignEach [tg] X.env).map (·.2) = [assign tg X.env] := by rfl) : PS X (.Assign [tg] e pos) (tAsg te g) := by
  intro pins s σ H D I h
  refine wpAny_Assign_stores (thn (he pins s σ H _ I h) fun v s1 ⟨x, H1, I1, r1, q1⟩ => ?_) hs hw
  rw [h1]
  exact thn (hg pins s1 σ H1 x v _ I1 r1 q1) fun _ s2 q => q
/-- name = value -/
theorem ps_set {i : Nat} {x : Str} {e : Expr} {te : TE} {pos' : Pos} (hN : X.N.Nodup) (hi : X.N[i]? = some x) (hx : Loc X.env.scope x) (he : PE X e te) (hs : swapsWith e (some (.Name x pos')) pos.line X.env = pure false := by rfl) (hf : X.fn x = true ∨ X.env.scope.names.lookup x = some .local := by first | exact .inl rfl | exact .inr rfl | assumption) :
    PS X (.Assign [.Name x pos'] e pos) (tAsg te (gName i)) := by
  intro pins s σ H D I h
  refine wpAny_Assign_Name (thn (he pins s σ H _ I h) fun v s1 ⟨y, H1, I1, r1, q1⟩ => ?_) hs
  exact store_ok I1 hN hi hx r1 (fun s2 I2 => ⟨_, H1, I2, q1⟩) hf
/-- name op= e -/
def tAug (i : Nat) (te : TE) (ti : TIp) : TS := fun D σ H => ∃ x, σ[i]? = some (some x) ∧ te σ H fun y H1 => ti x y H1 fun z H2 => D.nx (σ.set i (some z)) H2
theorem ps_aug {i : Nat} {x : Str} {e : Expr} {te : TE} {op : Operator} {ti : TIp} {pos' : Pos} (hN : X.N.Nodup) (hi : X.N[i]? = some x) (hx : Loc X.env.scope x) (he : PE X e te) (ho : PIp X op ti) (hf : X.fn x = true ∨ X.env.scope.names.lookup x = some .local := by first | exact .inl rfl | exact .inr rfl | assumption) :
    PS X (.AugAssign (.Name x pos') op e pos) (tAug i te ti) := by
  intro pins s σ H D I h
  obtain ⟨v, e1, h⟩ := h
  obtain ⟨m, hn, hl⟩ := I.loc
  have vis : Vis X.env.scope x := by rcases hx with k | k; exact .inl k; exact .inr (.inl k)
  obtain ⟨u, r, l⟩ := hl i x v hi e1 vis
  refine wpAny_AugAssign_Name ?_
  have go : wpAny (model X.prog X.w) X.A (eval e X.env) (fun w s₂ => wpAny (model X.prog X.w) X.A (inplaceOp op u w) (fun r s₃ => wpAny (model X.prog X.w) X.A (storeName X.env x r) (fun _ => SP X pins D .next) X.xe s₃) X.xe s₂) X.xe s := by
    refine thn (he pins s σ H _ I h) fun w s1 ⟨y, H1, I1, r1, q1⟩ => ?_
    refine thn (ho pins s1 σ H1 v y u w _ I1 r r1 q1) fun z s2 ⟨zv, H2, I2, r2, q2⟩ => ?_
    exact store_ok I2 hN hi hx r2 (fun s3 I3 => ⟨_, H2, I3, q2⟩) hf
  rcases l with ⟨hk, hm⟩ | ⟨hk, c, hc, hcell⟩
  · exact wpAny_loadName_local I.ok.kind hk hn hm go
  · rcases hk with hk | hk
    · exact wpAny_loadName_cell I.ok.kind hk hc hcell go
    · rcases hx with k | k
      · have : X.env.scope.names.lookup x = some .free := hk
        rw [k] at this; cases this
      · have : X.env.scope.names.lookup x = some .free := hk
        rw [k] at this; cases this
/-- o[i] op= e -/
def tAugS (to ti te : TE) (tget : V → V → Hp → VK → Prop) (tip : TIp) (tset : TSet) : TS := fun D σ H => to σ H fun o H1 => ti σ H1 fun i H2 => tget o i H2 fun x H3 => te σ H3 fun y H4 => tip x y H4 fun z H5 => tset o i z H5 fun H6 => D.nx σ H6
/-- o[i], by values -/
def PGet (X : Cx) (t : V → V → Hp → VK → Prop) : Prop :=
  ∀ (pins : List (Addr × Obj)) (s : Shared) (σ : St) (H : Hp) (o i : V) (ov iv : Value) (Q : VK), Inv X pins σ H s → RelV o ov → RelV i iv → t o i H Q →
    wpAny (model X.prog X.w) X.A (getItem ov iv) (EP X pins σ Q) X.xe s
theorem ps_augS {o i e : Expr} {to ti te : TE} {tget : V → V → Hp → VK → Prop} {tip : TIp} {tset : TSet} {op : Operator} {tpos : Pos} (ho : PE X o to) (hi : PE X i ti) (hg : PGet X tget) (he : PE X e te) (hp : PIp X op tip) (hs : PSet X tset)
    (ha : ∀ ov iv new, augStore i ov iv new = (do holding [new, ov, iv] (setItem ov iv new); release [new, ov, iv] []; pure .next) := by intros; rfl) : PS X (.AugAssign (.Subscript o i tpos) op e pos) (tAugS to ti te tget tip tset) := by
  intro pins s σ H D I h
  refine wpAny_AugAssign_SubscriptAny (thn (ho pins s σ H _ I h) fun ov s1 ⟨x1, H1, I1, r1, q1⟩ => ?_) ha
  refine thn (hi pins s1 σ H1 _ I1 q1) fun iv s2 ⟨x2, H2, I2, r2, q2⟩ => ?_
  refine thn (hg pins s2 σ H2 x1 x2 ov iv _ I2 r1 r2 q2) fun old s3 ⟨x3, H3, I3, r3, q3⟩ => ?_
  refine thn (he pins s3 σ H3 _ I3 q3) fun v s4 ⟨x4, H4, I4, r4, q4⟩ => ?_
  refine thn (hp pins s4 σ H4 x3 x4 old v _ I4 r3 r4 q4) fun new s5 ⟨x5, H5, I5, r5, q5⟩ => ?_
  exact thn (hs pins s5 σ H5 x1 x2 x5 ov iv new _ I5 r1 r2 r5 q5) fun _ s6 ⟨H6, I6, q6⟩ => ⟨σ, H6, I6, q6⟩
/-- ints -/
def ipI (f : Int → Int → Int) : TIp := fun x y H Q => ∃ i j, x = .int i ∧ y = .int j ∧ Q (.int (f i j)) H
theorem ip_add : PIp X .Add (ipI fun i j => i + j) := by
  intro pins s σ H x y v u Q I r1 r2 h
  obtain ⟨i, j, e1, e2, q⟩ := h
  subst e1; subst e2
  obtain ⟨t, rfl⟩ := r1
  obtain ⟨t', rfl⟩ := r2
  exact iadd_int ⟨.int _, H, I.tok _, ⟨_, rfl⟩, q⟩
end

/-! ### while -/
section
variable {X : Cx} {pos : Pos}
/-- the invariant W with its measure -/
def tWhile (c : TT) (tb : TS) : TS := fun D σ H => ∃ W : Nat → St → Hp → Prop, (∃ m, W m σ H) ∧ ∀ m σ H, W m σ H →
  c σ H fun b H1 => if b = true then ∃ N : St → Hp → Prop, (∀ σ' H', N σ' H' → ∃ m', m' < m ∧ W m' σ' H') ∧ tb { D with nx := N, ct := N, bk := D.nx } σ H1 else D.nx σ H1
theorem ps_while {c : Expr} {body : List Stmt} {tc : TT} {tb : TS} (hp : PassesOwn (model X.prog X.w) X.A X.env X.xe) (hc : PT X c tc) (hb : PSs X body tb) : PS X (.While c body [] pos) (tWhile tc tb) := by
  intro pins s σ H D I h
  obtain ⟨W, ⟨m0, w0⟩, turn⟩ := h
  refine wpAny_While (codeAny_whileLoop (fun n s' => ∃ σ' H', Inv X pins σ' H' s' ∧ W n σ' H') ?_ m0 ⟨σ, H, I, w0⟩)
  rintro n s1 ⟨σ1, H1, I1, w1⟩
  refine wpAny_passesOwn hp (thn (hc pins s1 σ1 H1 _ I1 (turn n σ1 H1 w1)) fun b s2 ⟨H2, I2, q2⟩ => ?_)
  cases b with
  | true =>
    obtain ⟨N, hN, q2⟩ := q2
    rw [if_pos rfl]
    refine wpAny_passesOwn hp (thn (hb pins s2 σ1 H2 _ I2 q2) fun f s3 q3 => ?_)
    cases f with
    | next =>
      obtain ⟨σ3, H3, I3, n3⟩ := q3
      obtain ⟨m', hm, w3⟩ := hN σ3 H3 n3
      exact ⟨m', hm, σ3, H3, I3, w3⟩
    | cont =>
      obtain ⟨σ3, H3, I3, n3⟩ := q3
      obtain ⟨m', hm, w3⟩ := hN σ3 H3 n3
      exact ⟨m', hm, σ3, H3, I3, w3⟩
    | brk => exact q3
    | ret v => exact q3
  | false =>
    rw [if_neg Bool.false_ne_true]
    exact wpAny_execs_nil ⟨σ1, H2, I2, q2⟩
end

/-! ### what a loop or a comprehension walks -/
/-- at turn i: it yields x (the heap may grow), or it stops -/
structure It where
  go : Nat → Hp → Prop
  yld : Nat → Hp → V → Hp → Prop
  stop : Nat → Hp → Prop
/-- the iterator's own objects may turn: they are not the frame's, not pinned, younger than the entry (or a comprehension's own) -/
def FpOk (X : Cx) (pins : List (Addr × Obj)) (H : Hp) (b : Addr) : Prop :=
  H b = none ∧ b ≠ X.env.locals ∧ b ∉ X.fs ∧ (b ∈ X.ex ∨ X.s_0.heap.objs.size ≤ b) ∧ (∀ x c, X.env.cells.lookup x = some c → c ≠ b) ∧ ∀ p ∈ X.pn ++ pins, p.1 ≠ b
theorem Inv.fpOk {X : Cx} {pins : List (Addr × Obj)} {σ : St} {H H' : Hp} {s : Shared} {b : Addr} (I : Inv X pins σ H s) (hb : s.heap.objs.size ≤ b) (hn : H' b = none) : FpOk X pins H' b := by
  refine ⟨hn, Nat.ne_of_gt (Nat.lt_of_lt_of_le I.lt hb), I.nofs hb, .inr (Nat.le_trans I.sz hb), fun x c e z => ?_, fun p hp z => ?_⟩
  · obtain ⟨v, q⟩ := I.cell x c e
    exact absurd (Nat.lt_of_lt_of_le q.lt (by rw [z]; exact hb)) (Nat.lt_irrefl _)
  · exact absurd (Nat.lt_of_lt_of_le (Heap.lt_size (I.pin p hp).1) (by rw [z]; exact hb)) (Nat.lt_irrefl _)
structure Turn (P : Program) (w : World) (K : PySem.W.Frag) (tg : Expr) (J : It) (fp : List Addr) (it : Addr) (tn : Nat → Heap → Prop) : Prop where
  mem : it ∈ fp
  obj : ∀ i h, tn i h → ∀ b ∈ fp, ∃ o, h.get? b = some o ∧ ∀ v, o.data ≠ .cell v
  keep : ∀ i h h', tn i h → (∀ b ∈ fp, ∀ o, h.get? b = some o → h'.get? b = some o) → tn i h'
  item : ∀ (X : Cx), X.prog = P → X.w = w → X.K = K → X.calm = true → ∀ (i : Nat) (pins : List (Addr × Obj)) (s : Shared) (σ : St) (H : Hp) (E : Value → Shared → Prop), Inv X pins σ H s → (∀ b ∈ fp, FpOk X pins H b) → tn i s.heap → J.go i H →
    wpAny (model P w) X.A (pyNext (.ref it)) (fun r s1 => ∃ u, r = some u ∧
      wpAny (model P w) X.A (letOwnedTupleGo tg (.ref it) u) (fun _ s2 => ∃ x H', Inv X pins σ H' s2 ∧ RelV x u ∧ J.yld i H x H' ∧ tn (i + 1) s2.heap ∧ ∀ b ∈ fp, H' b = none) E s1) E s
  done : ∀ (X : Cx), X.prog = P → X.w = w → X.K = K → X.calm = true → ∀ (i : Nat) (pins : List (Addr × Obj)) (s : Shared) (σ : St) (H : Hp) (E : Value → Shared → Prop), Inv X pins σ H s → (∀ b ∈ fp, FpOk X pins H b) → tn i s.heap → J.stop i H →
    wpAny (model P w) X.A (pyNext (.ref it)) (fun r s1 => r = none ∧ Inv X pins σ H s1) E s
  self : ∀ (A : Around) (i : Nat) (s : Shared) (Q : Value → Shared → Prop) (E : Value → Shared → Prop), tn i s.heap → Q (.ref it) s → wpAny (model P w) A (pyIter (.ref it)) Q E s
abbrev TI := St → Hp → (It → Hp → Prop) → Prop
/-- an iterator has come -/
def PIE (X : Cx) (pins : List (Addr × Obj)) (σ : St) (tg : Expr) (R : It → Hp → Prop) (itv : Value) (s2 : Shared) : Prop :=
  ∃ (it : Addr) (fp : List Addr) (tn : Nat → Heap → Prop) (J : It) (H' : Hp), itv = .ref it ∧ Inv X pins σ H' s2 ∧ Turn X.prog X.w X.K tg J fp it tn ∧ tn 0 s2.heap ∧ (∀ b ∈ fp, FpOk X pins H' b) ∧ R J H'
def PI (X : Cx) (tg iter : Expr) (wi : TI) : Prop :=
  ∀ (pins : List (Addr × Obj)) (s : Shared) (σ : St) (H : Hp) (R : It → Hp → Prop), Inv X pins σ H s → wi σ H R →
    wpAny (model X.prog X.w) X.A (eval iter X.env) (fun v s1 => wpAny (model X.prog X.w) X.A (pyIter v) (PIE X pins σ tg R) X.xe s1) X.xe s

/-- the step ahead of the store is nothing for an iterator that keeps no tuple -/
theorem go_of {M : Model} {A : Around} {E : Value → Shared → Prop} {s : Shared} {tg : Expr} {it : Addr} {u : Value} {o : Obj} {n : String} {vs : Array Value} {Q : Unit → Shared → Prop} (ho : s.heap.get? it = some o) (hc : o.cls = .type n) (hd : o.data = .fields vs)
    (hn : ["enumerate", "zip", "dict_itemiterator", "dict_reverseitemiterator", "odict_iterator", "itertools.zip_longest", "itertools.pairwise"].contains n = false) (hQ : Q () s) : wpAny M A (letOwnedTupleGo tg (.ref it) u) Q E s := by
  unfold letOwnedTupleGo
  cases tg <;> first
    | exact wpAny_pure hQ
    | (cases u <;> first
        | exact wpAny_pure hQ
        | (refine wpAny_bind (wpAny_load ho ?_)
           rw [hc, hd]
           show wpAny M A (if (["enumerate", "zip", "dict_itemiterator", "dict_reverseitemiterator", "odict_iterator", "itertools.zip_longest", "itertools.pairwise"].contains n && vs[0]? == some (rawInt _)) = true then _ else _) Q E s
           rw [if_neg (by intro h; rw [hn, Bool.false_and] at h; cases h)]
           exact wpAny_pure hQ))

/-- the list at a, as it stands at each turn (a loop may append to it) -/
def Itl (K : PySem.W.Frag) (a : Addr) : It :=
  ⟨fun i H => ∃ xs x, SqL K H a xs ∧ xs[i]? = some x, fun i H x H' => H' = H ∧ ∀ xs, SqL K H a xs → xs[i]? = some x, fun i H => ∃ xs, SqL K H a xs ∧ xs.length ≤ i⟩
/-- lo, lo + 1, .. (n of them) -/
def Itr (lo : Int) (n : Nat) : It := ⟨fun i _ => i < n, fun i H x H' => H' = H ∧ x = .int (lo + i), fun i _ => n ≤ i⟩
theorem turn_list {P : Program} {w : World} {K : PySem.W.Frag} {tg : Expr} (a it : Addr) : Turn P w K tg (Itl K a) [it] it (fun i h => h.IsListIter it a i) where
  mem := by simp
  obj := fun i h st b hb => by
    have e : b = it := by simpa using hb
    subst e
    obtain ⟨o, e, c, d⟩ := st
    exact ⟨o, e, fun v z => by rw [d] at z; cases z⟩
  keep := fun i h h' st k => st.at fun o e => k it (by simp) o e
  item := by
    intro X hP hw hK hc i pins s σ H E I hf st hg
    subst hP hw hK
    obtain ⟨xs, x, hq, hx⟩ := hg
    obtain ⟨its, rv, p, hz⟩ := I.list hq
    obtain ⟨u, hu, ru⟩ := rv.get hx
    obtain ⟨f0, f1, f2, f3, f4, f5⟩ := hf it (by simp)
    refine wpAny_pyNext_list_item st p.isList (x := u) (by simpa using hu) fun h' st' sb => ?_
    have I1 : Inv X pins σ H { s with heap := h' } := I.turned (t' := s.toks) (fun b o hb e => (sb.2 b hb).trans e) f0 f1 f3 f4 f5
    obtain ⟨o, e, c, d⟩ := id st'
    exact ⟨u, rfl, go_of (s := { s with heap := h' }) e c d (by decide) ⟨x, H, I1, ru, ⟨rfl, fun ys hy => by rw [I.list_inj hy hq]; exact hx⟩, st', fun b hb => (hf b hb).1⟩⟩
  done := by
    intro X hP hw hK hc i pins s σ H E I hf st hg
    subst hP hw hK
    obtain ⟨xs, hq, hx⟩ := hg
    obtain ⟨its, rv, p, hz⟩ := I.list hq
    obtain ⟨f0, f1, f2, f3, f4, f5⟩ := hf it (by simp)
    have hl := rv.length
    exact wpAny_pyNext_list_end (I.ok.hd hc) st p.isList (by simp; omega) fun h' eb => ⟨rfl, I.turned (t' := s.toks) (fun b o hb e => eb b o hb e) f0 f1 f3 f4 f5⟩
  self := fun _ _ _ _ _ st h => wpAny_pyIter_listiter st h
theorem turn_range {P : Program} {w : World} {K : PySem.W.Frag} {tg : Expr} (it : Addr) (lo : Int) (n : Nat) : Turn P w K tg (Itr lo n) [it] it (fun i h => IsRangeIter h it (lo + (i : Nat) * 1) ((n : Int) - (i : Nat)) 1) where
  mem := by simp
  obj := fun i h st b hb => by
    have e : b = it := by simpa using hb
    subst e
    exact ⟨_, st, fun v z => by
      have z' : Data.fields _ = Data.cell v := z
      cases z'⟩
  keep := fun i h h' st k => k it (by simp) _ st
  item := by
    intro X hP hw hK hc i pins s σ H E I hf st hg
    subst hP hw hK
    obtain ⟨f0, f1, f2, f3, f4, f5⟩ := hf it (by simp)
    have W := Walks.range (prog := X.prog) (w := X.w) (I.ok.hd hc) it lo 1 n
    refine W.item i s _ _ hg st fun v h' tk hv st' kk => ?_
    obtain ⟨t, rfl⟩ := hv
    have I1 : Inv X pins σ H { s with heap := h', toks := tk } := I.turned (fun b o hb e => kk b o (by simpa using hb) e) f0 f1 f3 f4 f5
    refine ⟨_, rfl, go_of (s := { s with heap := h', toks := tk }) (n := "range_iterator") st' rfl rfl (by decide) ⟨.int (lo + i), H, I1, ⟨t, ?_⟩, ⟨rfl, rfl⟩, st', fun b hb => (hf b hb).1⟩⟩
    rw [Int.mul_one]
  done := by
    intro X hP hw hK hc i pins s σ H E I hf st hg
    subst hP hw hK
    obtain ⟨f0, f1, f2, f3, f4, f5⟩ := hf it (by simp)
    exact wpAny_pyNext_range_end (I.ok.hd hc) st (by have : n ≤ i := hg; omega) fun h' eb => ⟨rfl, I.turned (t' := s.toks) (fun b o hb e => eb b o hb e) f0 f1 f3 f4 f5⟩
  self := fun _ _ _ _ _ st h => wpAny_pyIter_rangeiter st h
end L2

namespace L2
open PySem PySem.Spec PyProof.Rows
section
variable {X : Cx} {tg : Expr}
def iList (K : PySem.W.Frag) (tl : TE) : TI := fun σ H R => tl σ H fun x H1 => ∃ a, x = .ref a ∧ (∃ xs, SqL K H1 a xs) ∧ R (Itl K a) H1
theorem pi_list {l : Expr} {tl : TE} (hl : PE X l tl) : PI X tg l (iList X.K tl) := by
  intro pins s σ H R I h
  refine thn (hl pins s σ H _ I h) fun v s1 ⟨x, H1, I1, r1, q1⟩ => ?_
  obtain ⟨a, e, ⟨xs, hq⟩, q⟩ := q1
  subst e
  cases r1
  obtain ⟨its, rv, p, hz⟩ := I1.list hq
  refine wpAny_pyIter_list p.isList ?_
  refine ⟨s1.heap.objs.size, [s1.heap.objs.size], _, _, H1, rfl, I1.kept (t' := s1.toks) fun b o e => Heap.get?_push_of_some _ e, turn_list a _, ⟨_, Heap.get?_push_size _ rfl, rfl, rfl⟩, fun b hb => ?_, q⟩
  have e : b = s1.heap.objs.size := by simpa using hb
  subst e
  exact I1.fpOk (Nat.le_refl _) (I1.hok.fresh (Nat.le_refl _))
/-- a range object just made, walked -/
theorem range_it {pins : List (Addr × Obj)} {σ : St} {H : Hp} {s : Shared} {R : It → Hp → Prop} {E : Value → Shared → Prop} {lo hi : Int} {t u v : Tok} {tk : Nat} (I : Inv X pins σ H s) (h1 : -(2 ^ 62) ≤ lo) (h2 : lo < 2 ^ 62) (h3 : -(2 ^ 62) ≤ hi) (h4 : hi < 2 ^ 62)
    (q : R (Itr lo (hi - lo).toNat) H) : wpAny (model X.prog X.w) X.A (pyIter (.ref s.heap.objs.size)) (PIE X pins σ tg R) E { s with heap := s.heap.push { cls := .type "range", data := .fields #[.int lo t, .int hi u, .int 1 v] }, toks := tk } := by
  refine wpAny_pyIter_range (IsRange.new ..) (small_one h1 h2 h3 h4) ?_
  have I1 : Inv X pins σ H { s with heap := s.heap.push { cls := .type "range", data := .fields #[.int lo t, .int hi u, .int 1 v] }, toks := tk } := I.kept fun b o e => Heap.get?_push_of_some _ e
  refine ⟨(s.heap.push { cls := .type "range", data := .fields #[.int lo t, .int hi u, .int 1 v] }).objs.size, [(s.heap.push { cls := .type "range", data := .fields #[.int lo t, .int hi u, .int 1 v] }).objs.size], _, _, H, rfl,
    I1.kept (t' := tk) fun b o e => Heap.get?_push_of_some _ e, turn_range _ lo (hi - lo).toNat, ?_, fun b hb => ?_, q⟩
  · have e1 : lo + ((0 : Nat) : Int) * 1 = lo := by simp
    have e2 : (((hi - lo).toNat : Nat) : Int) - ((0 : Nat) : Int) = Builtin.Range.rangeSize lo hi 1 := by rw [rangeSize_one]; split <;> omega
    show IsRangeIter _ _ (lo + ((0 : Nat) : Int) * 1) ((((hi - lo).toNat : Nat) : Int) - ((0 : Nat) : Int)) 1
    rw [e1, e2]
    exact Heap.get?_push_size _ rfl
  · have e : b = (s.heap.push { cls := .type "range", data := .fields #[.int lo t, .int hi u, .int 1 v] }).objs.size := by simpa using hb
    subst e
    exact I1.fpOk (Nat.le_refl _) (I1.hok.fresh (Nat.le_refl _))
def iRng1 (ta : TA) : TI := fun σ H R => ta σ H fun vs H1 => ∃ j : Int, vs = [.int j] ∧ -(2 ^ 62) ≤ j ∧ j < 2 ^ 62 ∧ R (Itr 0 j.toNat) H1
theorem pi_range1 {a : Expr} {ta : TA} {p pos : Pos} (hg : Gl X "range") (hm : X.mg "range" = none) (ha : PA X [a] ta) (hs : starEach [a] X.env = [(false, eval a X.env)] := by rfl) : PI X tg (.Call (.Name "range" p) [a] [] pos) (iRng1 ta) := by
  intro pins s σ H R I h
  refine Call_ (ld_blt I hg hm boot_range (PyProof.Rows.callWith_type1 (thn (ha pos pins s σ H _ I h) fun us s1 ⟨vs, H1, I1, r1, q1⟩ => ?_) hs rfl))
  obtain ⟨j, e, q1, q2, q⟩ := q1
  subst e
  cases r1 with
  | cons r rr =>
    cases rr
    obtain ⟨t, rfl⟩ := r
    exact call_range_1 (range_it I1 (by omega) (by omega) q1 q2 (by simpa using q))

/-! ### for -/
/-- W: the invariant by the turn and a measure; N: what the body is to reach -/
def tFor (wi : TI) (g : TG) (tb : TS) : TS := fun D σ H => wi σ H fun J H1 => ∃ W : Nat → Nat → St → Hp → Prop, (∃ m, W 0 m σ H1) ∧ ∀ i m σ H, W i m σ H →
  (J.stop i H ∧ D.nx σ H) ∨ (J.go i H ∧ ∃ N : St → Hp → Prop, (∀ σ' H', N σ' H' → ∃ m', m' < m ∧ W (i + 1) m' σ' H') ∧ ∀ x H', J.yld i H x H' → g x σ H' fun σ2 H2 => tb { D with nx := N, ct := N, bk := D.nx } σ2 H2)
/-- the records at fp as they stand -/
def pinsAt (fp : List Addr) (h : Heap) : List (Addr × Obj) := fp.filterMap fun b => (h.get? b).map fun o => (b, o)
theorem mem_pinsAt {fp : List Addr} {h : Heap} {b : Addr} {o : Obj} (hb : b ∈ fp) (e : h.get? b = some o) : (b, o) ∈ pinsAt fp h := List.mem_filterMap.mpr ⟨b, hb, by rw [e]; rfl⟩
theorem of_pinsAt {fp : List Addr} {h : Heap} {p : Addr × Obj} (hp : p ∈ pinsAt fp h) : p.1 ∈ fp ∧ h.get? p.1 = some p.2 := by
  obtain ⟨b, hb, e⟩ := List.mem_filterMap.mp hp
  cases q : h.get? b with
  | none => rw [q] at e; cases e
  | some o =>
    rw [q] at e
    have e' : (b, o) = p := Option.some.inj e
    subst e'
    exact ⟨hb, q⟩
theorem Inv.pinned {pins : List (Addr × Obj)} {σ : St} {H : Hp} {s : Shared} {fp : List Addr} (I : Inv X pins σ H s) (hf : ∀ b ∈ fp, FpOk X pins H b) (ho : ∀ b ∈ fp, ∃ o, s.heap.get? b = some o ∧ ∀ v, o.data ≠ .cell v) : Inv X (pins ++ pinsAt fp s.heap) σ H s :=
  I.pins_of fun p hp => (List.mem_append.mp hp).elim (fun z => I.pin p (List.mem_append_right _ z)) fun z => by
    obtain ⟨hb, e⟩ := of_pinsAt z
    obtain ⟨f0, f1, f2, _⟩ := hf p.1 hb
    obtain ⟨o, e', d⟩ := ho p.1 hb
    rw [e] at e'; cases e'
    exact ⟨e, f0, f1, f2, d⟩
theorem Inv.unpinned {pins pl : List (Addr × Obj)} {σ : St} {H : Hp} {s : Shared} (I : Inv X (pins ++ pl) σ H s) : Inv X pins σ H s := I.pins_of fun p hp => I.pin p (List.mem_append_right _ (List.mem_append_left _ hp))
theorem ps_for {iter : Expr} {body : List Stmt} {wi : TI} {g : TG} {tb : TS} {pos : Pos} (hp : PassesOwn (model X.prog X.w) X.A X.env X.xe) (hc : X.calm = true) (hi : PI X tg iter wi) (hg : PG X tg g) (hb : PSs X body tb)
    (hs : ∀ x, foldedSetIterable iter X.env x = pure x := by intro _; rfl) : PS X (.For tg iter body [] pos) (tFor wi g tb) := by
  intro pins s σ H D I h
  refine wpAny_For (thn (hi pins s σ H _ I h) fun v s1 h1 => thn h1 fun itv s2 h2 => ?_) hs
  obtain ⟨it, fp, tn, J, H2, e, I2, T, st2, f2, W, ⟨m0, w0⟩, turn⟩ := h2
  subst e
  -- what stays true of the iterator's objects through the loop
  have stat : ∀ {H' : Hp}, (∀ b ∈ fp, H' b = none) → ∀ b ∈ fp, FpOk X pins H' b := fun hn b hb => ⟨hn b hb, (f2 b hb).2⟩
  refine codeAny_forLoop_any (fun n s' => ∃ i σ' H', Inv X pins σ' H' s' ∧ tn i s'.heap ∧ (∀ b ∈ fp, H' b = none) ∧ W i n σ' H') ?_ m0 ⟨0, σ, H2, I2, st2, fun b hb => (f2 b hb).1, w0⟩
  rintro n s3 ⟨i, σ3, H3, I3, st3, fr3, w3⟩
  rcases turn i n σ3 H3 w3 with ⟨stop, qn⟩ | ⟨go, N, hN, step⟩
  · refine wpAny_passesOwn hp (thn (T.done X rfl rfl rfl hc i pins s3 σ3 H3 X.xe I3 (stat fr3) st3 stop) fun r s4 ⟨hr, I4⟩ => ?_)
    subst hr
    exact wpAny_execs_nil ⟨σ3, H3, I4, qn⟩
  · refine wpAny_passesOwn hp (thn (T.item X rfl rfl rfl hc i pins s3 σ3 H3 X.xe I3 (stat fr3) st3 go) fun r s4 ⟨u, hr, h4⟩ => ?_)
    subst hr
    refine wpAny_passesOwn hp (thn h4 fun _ s5 ⟨x, H5, I5, r5, y5, st5, fr5⟩ => ?_)
    have I5' := I5.pinned (stat fr5) (T.obj _ _ st5)
    refine wpAny_passesOwn hp (thn (hg _ s5 σ3 H5 x u _ I5' r5 (step x H5 y5)) fun _ s6 ⟨σ6, H6, I6, q6⟩ => ?_)
    refine wpAny_passesOwn hp (thn (hb _ s6 σ6 H6 _ I6 q6) fun f s7 q7 => ?_)
    have again : ∀ {σ7 : St} {H7 : Hp}, Inv X (pins ++ pinsAt fp s5.heap) σ7 H7 s7 → N σ7 H7 → ∃ m, m < n ∧ ∃ i σ' H', Inv X pins σ' H' s7 ∧ tn i s7.heap ∧ (∀ b ∈ fp, H' b = none) ∧ W i m σ' H' := fun {σ7 H7} I7 n7 => by
      obtain ⟨m', hm, w7⟩ := hN σ7 H7 n7
      refine ⟨m', hm, i + 1, σ7, H7, I7.unpinned, T.keep _ _ _ st5 fun b hb o e => (I7.pin (b, o) (List.mem_append_right _ (List.mem_append_right _ (mem_pinsAt hb e)))).1, fun b hb => ?_, w7⟩
      obtain ⟨o, e, d⟩ := T.obj _ _ st5 b hb
      exact (I7.pin (b, o) (List.mem_append_right _ (List.mem_append_right _ (mem_pinsAt hb e)))).2.1
    cases f with
    | next => obtain ⟨σ7, H7, I7, n7⟩ := q7; exact again I7 n7
    | cont => obtain ⟨σ7, H7, I7, n7⟩ := q7; exact again I7 n7
    | brk => obtain ⟨σ7, H7, I7, q7⟩ := q7; exact ⟨σ7, H7, I7.unpinned, q7⟩
    | ret v => obtain ⟨x7, σ7, H7, I7, r7, q7⟩ := q7; exact ⟨x7, σ7, H7, I7.unpinned, r7, q7⟩
end

/-! ### the forms one uses -/
/-- over a list that the body leaves as it is -/
theorem for_list {K : PySem.W.Frag} {a : Addr} {xs : List V} {g : TG} {tb : TS} {D : Ends} {σ : St} {H : Hp} (Pv : Nat → St → Hp → Prop) (h0 : Pv 0 σ H) (hl : ∀ i σ H, i ≤ xs.length → Pv i σ H → SqL K H a xs)
    (hs : ∀ i x σ H, xs[i]? = some x → Pv i σ H → g x σ H fun σ2 H2 => tb { D with nx := Pv (i + 1), ct := Pv (i + 1), bk := D.nx } σ2 H2) (hd : ∀ σ H, Pv xs.length σ H → D.nx σ H) :
    ∃ W : Nat → Nat → St → Hp → Prop, (∃ m, W 0 m σ H) ∧ ∀ i m σ H, W i m σ H →
      ((Itl K a).stop i H ∧ D.nx σ H) ∨ ((Itl K a).go i H ∧ ∃ N : St → Hp → Prop, (∀ σ' H', N σ' H' → ∃ m', m' < m ∧ W (i + 1) m' σ' H') ∧ ∀ x H', (Itl K a).yld i H x H' → g x σ H' fun σ2 H2 => tb { D with nx := N, ct := N, bk := D.nx } σ2 H2) := by
  refine ⟨fun i m σ H => m = xs.length - i ∧ i ≤ xs.length ∧ Pv i σ H, ⟨xs.length, by simp, Nat.zero_le _, h0⟩, ?_⟩
  rintro i m σ H ⟨rfl, hi, p⟩
  have q := hl i σ H hi p
  by_cases hlt : i < xs.length
  · refine .inr ⟨⟨xs, xs[i], q, by simp [hlt]⟩, Pv (i + 1), fun σ' H' p' => ⟨xs.length - (i + 1), by omega, rfl, hlt, p'⟩, fun x H' y => ?_⟩
    obtain ⟨e, y⟩ := y
    subst e
    exact hs i x σ _ (y xs q) p
  · have e : i = xs.length := by omega
    subst e
    exact .inl ⟨⟨xs, q, Nat.le_refl _⟩, hd σ H p⟩
theorem for_range {lo : Int} {n : Nat} {g : TG} {tb : TS} {D : Ends} {σ : St} {H : Hp} (Pv : Nat → St → Hp → Prop) (h0 : Pv 0 σ H)
    (hs : ∀ i σ H, i < n → Pv i σ H → g (.int (lo + i)) σ H fun σ2 H2 => tb { D with nx := Pv (i + 1), ct := Pv (i + 1), bk := D.nx } σ2 H2) (hd : ∀ σ H, Pv n σ H → D.nx σ H) :
    ∃ W : Nat → Nat → St → Hp → Prop, (∃ m, W 0 m σ H) ∧ ∀ i m σ H, W i m σ H →
      ((Itr lo n).stop i H ∧ D.nx σ H) ∨ ((Itr lo n).go i H ∧ ∃ N : St → Hp → Prop, (∀ σ' H', N σ' H' → ∃ m', m' < m ∧ W (i + 1) m' σ' H') ∧ ∀ x H', (Itr lo n).yld i H x H' → g x σ H' fun σ2 H2 => tb { D with nx := N, ct := N, bk := D.nx } σ2 H2) := by
  refine ⟨fun i m σ H => m = n - i ∧ i ≤ n ∧ Pv i σ H, ⟨n, by simp, Nat.zero_le _, h0⟩, ?_⟩
  rintro i m σ H ⟨rfl, hi, p⟩
  by_cases hlt : i < n
  · refine .inr ⟨hlt, Pv (i + 1), fun σ' H' p' => ⟨n - (i + 1), by omega, rfl, hlt, p'⟩, fun x H' y => ?_⟩
    obtain ⟨e, y⟩ := y
    subst e y
    exact hs i σ _ hlt p
  · have e : i = n := by omega
    subst e
    exact .inl ⟨Nat.le_refl _, hd σ H p⟩
end L2

namespace L2
open PySem PySem.Spec PyProof.Rows

abbrev R2 := V → V → Hp → VK → Prop
/-- a two-place operation on values: f is binaryOp op, inplaceOp op or compareOp op -/
def OpR (X : Cx) (f : Value → Value → Sem Value) (r : R2) : Prop :=
  ∀ (pins : List (Addr × Obj)) (s : Shared) (σ : St) (H : Hp) (x y : V) (v u : Value) (Q : VK), Inv X pins σ H s → RelV x v → RelV y u → r x y H Q →
    wpAny (model X.prog X.w) X.A (f v u) (EP X pins σ Q) X.xe s
/-- a one-place operation -/
def UnR (X : Cx) (f : Value → Sem Value) (r : V → Hp → VK → Prop) : Prop :=
  ∀ (pins : List (Addr × Obj)) (s : Shared) (σ : St) (H : Hp) (x : V) (v : Value) (Q : VK), Inv X pins σ H s → RelV x v → r x H Q →
    wpAny (model X.prog X.w) X.A (f v) (EP X pins σ Q) X.xe s
/-- a call of a value that is known (a builtin, a type) with values -/
def CallR (X : Cx) (f : Value) (r : List V → Hp → VK → Prop) : Prop :=
  ∀ (pins : List (Addr × Obj)) (s : Shared) (σ : St) (H : Hp) (xs : List V) (us : List Value) (Q : VK), Inv X pins σ H s → Vals xs us → r xs H Q →
    wpAny (model X.prog X.w) X.A (call f us) (EP X pins σ Q) X.xe s

def tOp (r : R2) (ta tb : TE) : TE := fun σ H Q => ta σ H fun x H1 => tb σ H1 fun y H2 => r x y H2 Q
def tUn (r : V → Hp → VK → Prop) (ta : TE) : TE := fun σ H Q => ta σ H fun x H1 => r x H1 Q
/-- ints in, under C, and a value out -/
def rI (C : Int → Int → Prop) (g : Int → Int → V) : R2 := fun x y H Q => ∃ i j, x = .int i ∧ y = .int j ∧ C i j ∧ Q (g i j) H
def rI0 (g : Int → Int → V) : R2 := fun x y H Q => ∃ i j, x = .int i ∧ y = .int j ∧ Q (g i j) H
def rU (g : Int → V) : V → Hp → VK → Prop := fun x H Q => ∃ i, x = .int i ∧ Q (g i) H

section
variable {X : Cx} {a b c : Expr} {ta tb tc : TE} {pos : Pos}

theorem binT (ha : PE X a ta) (hb : PE X b tb) {pins : List (Addr × Obj)} {s : Shared} {σ : St} {H : Hp} {R : V → V → Hp → Prop} (I : Inv X pins σ H s)
    (h : ta σ H fun x H1 => tb σ H1 fun y H2 => R x y H2) {Q : Value → Shared → Prop} {f : Value → Value → Sem Value}
    (hf : ∀ v u s2 x y H2, Inv X pins σ H2 s2 → RelV x v → RelV y u → R x y H2 → wpAny (model X.prog X.w) X.A (f v u) Q X.xe s2) :
    wpAny (model X.prog X.w) X.A (eval a X.env) (fun v s₁ => wpAny (model X.prog X.w) X.A (eval b X.env) (fun u s₂ => wpAny (model X.prog X.w) X.A (f v u) Q X.xe s₂) X.xe s₁) X.xe s := by
  refine thn (ha pins s σ H _ I h) fun v s1 ⟨x, H1, I1, r1, q1⟩ => ?_
  refine thn (hb pins s1 σ H1 _ I1 q1) fun u s2 ⟨y, H2, I2, r2, q2⟩ => ?_
  exact hf v u s2 x y H2 I2 r1 r2 q2

theorem pe_op {op : Operator} {r : R2} (ho : OpR X (binaryOp op) r) (ha : PE X a ta) (hb : PE X b tb) : PE X (.BinOp a op b pos) (tOp r ta tb) := by
  intro pins s σ H Q I h
  exact wpAny_BinOp (binT ha hb I h fun v u s2 x y H2 I2 rx ry q => ho pins s2 σ H2 x y v u Q I2 rx ry q)
theorem pe_un {op : UnaryOp} {r : V → Hp → VK → Prop} (ho : UnR X (unaryOp op) r) (ha : PE X a ta) : PE X (.UnaryOp op a pos) (tUn r ta) := by
  intro pins s σ H Q I h
  exact UnaryOp_ (thn (ha pins s σ H _ I h) fun v s1 ⟨x, H1, I1, r1, q1⟩ => ho pins s1 σ H1 x v Q I1 r1 q1)

/-! ### ints -/
theorem opI {f : Value → Value → Sem Value} {C : Int → Int → Prop} {g : Int → Int → Int}
    (rule : ∀ (i j : Int) (t u : Tok) (s : Shared) (Q : Value → Shared → Prop) (E : Value → Shared → Prop), C i j → Q (.int (g i j) s.toks) { s with toks := s.toks + 1 } → wpAny (model X.prog X.w) X.A (f (.int i t) (.int j u)) Q E s) :
    OpR X f (rI C fun i j => .int (g i j)) := by
  intro pins s σ H x y v u Q I rx ry h
  obtain ⟨i, j, rfl, rfl, hc, q⟩ := h
  obtain ⟨t, rfl⟩ := rx
  obtain ⟨t', rfl⟩ := ry
  exact rule i j t t' s _ _ hc ⟨.int (g i j), H, I.tok _, ⟨_, rfl⟩, q⟩
theorem opI0 {f : Value → Value → Sem Value} {g : Int → Int → Int}
    (rule : ∀ (i j : Int) (t u : Tok) (s : Shared) (Q : Value → Shared → Prop) (E : Value → Shared → Prop), Q (.int (g i j) s.toks) { s with toks := s.toks + 1 } → wpAny (model X.prog X.w) X.A (f (.int i t) (.int j u)) Q E s) :
    OpR X f (rI0 fun i j => .int (g i j)) := by
  intro pins s σ H x y v u Q I rx ry h
  obtain ⟨i, j, rfl, rfl, q⟩ := h
  obtain ⟨t, rfl⟩ := rx
  obtain ⟨t', rfl⟩ := ry
  exact rule i j t t' s _ _ ⟨.int (g i j), H, I.tok _, ⟨_, rfl⟩, q⟩
theorem opB0 {f : Value → Value → Sem Value} {g : Int → Int → Bool}
    (rule : ∀ (i j : Int) (t u : Tok) (s : Shared) (Q : Value → Shared → Prop) (E : Value → Shared → Prop), Q (.bool (g i j)) s → wpAny (model X.prog X.w) X.A (f (.int i t) (.int j u)) Q E s) :
    OpR X f (rI0 fun i j => .bl (g i j)) := by
  intro pins s σ H x y v u Q I rx ry h
  obtain ⟨i, j, rfl, rfl, q⟩ := h
  obtain ⟨t, rfl⟩ := rx
  obtain ⟨t', rfl⟩ := ry
  exact rule i j t t' s _ _ ⟨.bl (g i j), H, I, rfl, q⟩

def CDiv (i j : Int) : Prop := 0 < j ∧ j < 1073741824
def CMul (i j : Int) : Prop := (-(2 ^ 64) < i ∧ i < 2 ^ 64) ∨ (-(2 ^ 64) < j ∧ j < 2 ^ 64)
theorem CMul.ok {i j : Int} (h : CMul i j) : IntMulOk i j := by
  rcases h with ⟨h1, h2⟩ | ⟨h1, h2⟩
  · exact .of_left (intBits_le_64 h1 h2)
  · exact .of_right (intBits_le_64 h1 h2)

theorem op_add : OpR X (binaryOp .Add) (rI0 fun i j => .int (i + j)) := opI0 fun _ _ _ _ _ _ _ q => add_int q
theorem op_sub : OpR X (binaryOp .Sub) (rI0 fun i j => .int (i - j)) := opI0 fun _ _ _ _ _ _ _ q => sub_int q
theorem op_mul : OpR X (binaryOp .Mult) (rI CMul fun i j => .int (i * j)) := opI fun _ _ _ _ _ _ _ hc q => mul_int q hc.ok
/-- // by a positive divisor -/
theorem op_fdiv : OpR X (binaryOp .FloorDiv) (rI CDiv fun i j => .int (i / j)) := opI fun i j _ _ _ _ _ hc q => by
  have h1 : (0 : Int) < j := hc.1
  have h2 : j < 1073741824 := hc.2
  exact floordiv_int (by omega) (by rw [Int.fdiv_eq_ediv_of_nonneg i (by omega)]; exact q) (.inl (PyProof.noPylong_small (by omega)))
/-- % by a positive divisor of any size -/
theorem op_mod : OpR X (binaryOp .Mod) (rI (fun _ j => 0 < j) fun i j => .int (i % j)) := opI fun i j _ _ _ _ _ hc q => by
  have h1 : (0 : Int) < j := hc
  exact mod_int' (by omega) (by rw [Int.fmod_eq_emod_of_nonneg i (by omega)]; exact q)


theorem unI {f : Value → Sem Value} {g : Int → Int}
    (rule : ∀ (i : Int) (t : Tok) (s : Shared) (Q : Value → Shared → Prop) (E : Value → Shared → Prop), Q (.int (g i) s.toks) { s with toks := s.toks + 1 } → wpAny (model X.prog X.w) X.A (f (.int i t)) Q E s) :
    UnR X f (rU fun i => .int (g i)) := by
  intro pins s σ H x v Q I rx h
  obtain ⟨i, rfl, q⟩ := h
  obtain ⟨t, rfl⟩ := rx
  exact rule i t s _ _ ⟨.int (g i), H, I.tok _, ⟨_, rfl⟩, q⟩
theorem un_neg : UnR X (unaryOp .USub) (rU fun i => .int (-i)) := unI fun _ _ _ _ _ q => neg_int q

/-! ### bools among ints: n += (a < b) -/
end

/-! ### comparisons -/
/-- the scalars that == tells apart as data does -/
def scal : V → V → Bool
  | .non, .non => true | .non, .int _ => true | .int _, .non => true | .non, .bl _ => true | .bl _, .non => true | .non, .str _ => true | .str _, .non => true
  | .int _, .int _ => true | .bl _, .bl _ => true | .str _, .str _ => true | .byt _, .byt _ => true
  | .int _, .str _ => true | .str _, .int _ => true | .bl _, .str _ => true | .str _, .bl _ => true
  | _, _ => false
def rEq : R2 := fun x y H Q => scal x y = true ∧ Q (.bl (decide (x = y))) H
def rNe : R2 := fun x y H Q => scal x y = true ∧ Q (.bl (!decide (x = y))) H

theorem dec_int {i j : Int} : decide (V.int i = V.int j) = (i == j) := by
  rw [Bool.eq_iff_iff]
  simp
theorem dec_bl {i j : Bool} : decide (V.bl i = V.bl j) = (i == j) := by
  rw [Bool.eq_iff_iff]
  simp
theorem dec_str {i j : Str} : decide (V.str i = V.str j) = (i == j) := by
  rw [Bool.eq_iff_iff]
  simp
theorem dec_byt {i j : Array UInt8} : decide (V.byt i = V.byt j) = (i.toList == j.toList) := by
  rw [Bool.eq_iff_iff]
  cases i
  cases j
  simp

section
variable {X : Cx} {a b c : Expr} {ta tb tc : TE} {pos : Pos}
theorem fin_bl {pins : List (Addr × Obj)} {σ : St} {H : Hp} {s : Shared} {Q : VK} {k k' : Bool} (I : Inv X pins σ H s) (q : Q (.bl k) H) (e : k = k') : EP X pins σ Q (.bool k') s := by
  subst e
  exact ⟨.bl k, H, I, rfl, q⟩
theorem op_eq : OpR X (compareOp .Eq) rEq := by
  intro pins s σ H x y v u Q I rx ry h
  obtain ⟨hs, q⟩ := h
  cases x with
  | non =>
    cases rx
    cases y with
    | non => cases ry; exact PySem.EqNone.eq_none_none (fin_bl I q (by simp))
    | bl j => cases ry; exact PySem.EqNone.eq_none_bool (fin_bl I q (by simp))
    | int j => obtain ⟨t', rfl⟩ := ry; exact PySem.EqNone.eq_none_int (fin_bl I q (by simp))
    | str j => obtain ⟨t', rfl⟩ := ry; exact PySem.EqNone.eq_none_str (fin_bl I q (by simp))
    | _ => exact absurd (show false = true from hs) Bool.false_ne_true
  | bl i =>
    cases rx
    cases y with
    | non => cases ry; exact PySem.EqNone.eq_bool_none (fin_bl I q (by simp))
    | bl j => cases ry; exact eq_bool (fin_bl I q dec_bl)
    | str j => obtain ⟨t', rfl⟩ := ry; exact PySem.EqMixed.eq_bool_str (fin_bl I q (by simp))
    | _ => exact absurd (show false = true from hs) Bool.false_ne_true
  | int i =>
    obtain ⟨t, rfl⟩ := rx
    cases y with
    | non => cases ry; exact PySem.EqNone.eq_int_none (fin_bl I q (by simp))
    | int j => obtain ⟨t', rfl⟩ := ry; exact eq_int (fin_bl I q dec_int)
    | str j => obtain ⟨t', rfl⟩ := ry; exact PySem.EqMixed.eq_int_str (fin_bl I q (by simp))
    | _ => exact absurd (show false = true from hs) Bool.false_ne_true
  | str i =>
    obtain ⟨t, rfl⟩ := rx
    cases y with
    | non => cases ry; exact PySem.EqNone.eq_str_none (fin_bl I q (by simp))
    | bl j => cases ry; exact PySem.EqMixed.eq_str_bool (fin_bl I q (by simp))
    | int j => obtain ⟨t', rfl⟩ := ry; exact PySem.EqMixed.eq_str_int (fin_bl I q (by simp))
    | str j => obtain ⟨t', rfl⟩ := ry; exact eq_str (fin_bl I q dec_str)
    | _ => exact absurd (show false = true from hs) Bool.false_ne_true
  | byt i =>
    obtain ⟨t, rfl⟩ := rx
    cases y with
    | byt j => obtain ⟨t', rfl⟩ := ry; exact PySem.W.eq_bytes (fin_bl I q dec_byt)
    | _ => exact absurd (show false = true from hs) Bool.false_ne_true
  | _ => cases y <;> exact absurd (show false = true from hs) Bool.false_ne_true
theorem op_ne : OpR X (compareOp .NotEq) rNe := by
  intro pins s σ H x y v u Q I rx ry h
  obtain ⟨hs, q⟩ := h
  cases x with
  | non =>
    cases rx
    cases y with
    | non => cases ry; exact PySem.EqNone.ne_none_none (fin_bl I q (by simp))
    | bl j => cases ry; exact PySem.EqNone.ne_none_bool (fin_bl I q (by simp))
    | int j => obtain ⟨t', rfl⟩ := ry; exact PySem.EqNone.ne_none_int (fin_bl I q (by simp))
    | str j => obtain ⟨t', rfl⟩ := ry; exact PySem.EqNone.ne_none_str (fin_bl I q (by simp))
    | _ => exact absurd (show false = true from hs) Bool.false_ne_true
  | bl i =>
    cases rx
    cases y with
    | non => cases ry; exact PySem.EqNone.ne_bool_none (fin_bl I q (by simp))
    | bl j => cases ry; exact ne_bool (fin_bl I q (congrArg not dec_bl))
    | str j => obtain ⟨t', rfl⟩ := ry; exact PySem.EqMixed.ne_bool_str (fin_bl I q (by simp))
    | _ => exact absurd (show false = true from hs) Bool.false_ne_true
  | int i =>
    obtain ⟨t, rfl⟩ := rx
    cases y with
    | non => cases ry; exact PySem.EqNone.ne_int_none (fin_bl I q (by simp))
    | int j => obtain ⟨t', rfl⟩ := ry; exact ne_int (fin_bl I q (congrArg not dec_int))
    | str j => obtain ⟨t', rfl⟩ := ry; exact PySem.EqMixed.ne_int_str (fin_bl I q (by simp))
    | _ => exact absurd (show false = true from hs) Bool.false_ne_true
  | str i =>
    obtain ⟨t, rfl⟩ := rx
    cases y with
    | non => cases ry; exact PySem.EqNone.ne_str_none (fin_bl I q (by simp))
    | bl j => cases ry; exact PySem.EqMixed.ne_str_bool (fin_bl I q (by simp))
    | int j => obtain ⟨t', rfl⟩ := ry; exact PySem.EqMixed.ne_str_int (fin_bl I q (by simp))
    | str j => obtain ⟨t', rfl⟩ := ry; exact ne_str (fin_bl I q (congrArg not dec_str))
    | _ => exact absurd (show false = true from hs) Bool.false_ne_true
  | byt i =>
    obtain ⟨t, rfl⟩ := rx
    cases y with
    | byt j => obtain ⟨t', rfl⟩ := ry; exact PySem.W.ne_bytes (fin_bl I q (congrArg not dec_byt))
    | _ => exact absurd (show false = true from hs) Bool.false_ne_true
  | _ => cases y <;> exact absurd (show false = true from hs) Bool.false_ne_true

theorem op_lt : OpR X (compareOp .Lt) (rI0 fun i j => .bl (decide (i < j))) := opB0 fun _ _ _ _ _ _ _ q => lt_int q
theorem op_gt : OpR X (compareOp .Gt) (rI0 fun i j => .bl (decide (j < i))) := opB0 fun _ _ _ _ _ _ _ q => gt_int q
theorem op_ge : OpR X (compareOp .GtE) (rI0 fun i j => .bl (decide (j ≤ i))) := opB0 fun _ _ _ _ _ _ _ q => ge_int q




theorem nomark (b : Expr) {op : CmpOp} (h : op ≠ .In := by decide) (h2 : op ≠ .NotIn := by decide) : behindInMarks op b = false := by
  have e1 : (op == CmpOp.In) = false := by cases op <;> first | rfl | exact absurd rfl h
  have e2 : (op == CmpOp.NotIn) = false := by cases op <;> first | rfl | exact absurd rfl h2
  cases b <;> simp [behindInMarks, e1, e2]
/-- a comparison as a value; hm: nomark b, or (for in, not in) by with_unfolding_all rfl -/
theorem pe_cmpR {op : CmpOp} {r : R2} (ho : OpR X (compareOp op) r) (ha : PE X a ta) (hb : PE X b tb) (hm : behindInMarks op b = false) : PE X (.Compare a [op] [b] pos) (tOp r ta tb) := by
  intro pins s σ H Q I h
  exact wpAny_Compare1 (binT ha hb I h fun v u s2 x y H2 I2 rx ry q => ho pins s2 σ H2 x y v u Q I2 rx ry q) hm
/-- a reading of a value as a test -/
def tTest (t : TE) : TT := fun σ H Q => t σ H fun x H' => ∃ k, x = .bl k ∧ Q k H'
theorem pt_cmpR {op : CmpOp} {r : R2} (ho : OpR X (compareOp op) r) (ha : PE X a ta) (hb : PE X b tb) (hm : behindInMarks op b = false) : PT X (.Compare a [op] [b] pos) (tTest (tOp r ta tb)) := by
  intro pins s σ H Q I h
  refine wpAny_isTrue_Compare1 (thn (ha pins s σ H _ I h) fun v s1 ⟨x, H1, I1, r1, q1⟩ => thn (hb pins s1 σ H1 _ I1 q1) fun u s2 ⟨y, H2, I2, r2, q2⟩ =>
    thn (ho pins s2 σ H2 x y v u _ I2 r1 r2 q2) fun c s3 ⟨z, H3, I3, r3, k, e, q3⟩ => ?_) hm
  subst e
  cases r3
  exact wpAny_truthy_bool ⟨H3, I3, q3⟩

/-! ### truth -/
theorem line63 : (sizeLine : Nat) < 2 ^ 63 := by rw [sizeLine_eq]; decide

/-! ### strs and bytes -/


/-! ### scalar builtins, by CallR -/
theorem vals1 {x : V} {us : List Value} (r : Vals [x] us) : ∃ u, us = [u] ∧ RelV x u := by
  cases r with
  | cons r1 r2 => cases r2; exact ⟨_, rfl, r1⟩
end
end L2

namespace L2
open PySem PySem.Spec PyProof.Rows

/-! ### an instance, its attributes a map -/
structure ObjM (h : Heap) (x dx C : Addr) (mA : Str → Option Value) : Prop where
  obj : h.get? x = some (PySem.W.instObj C dx)
  ns : h.Ns1 dx mA
  ne : dx ≠ x

theorem lookIn_ns {h : Heap} {dx : Addr} {mA : Str → Option Value} (n : h.Ns1 dx mA) : ∃ od, h.get? dx = some od ∧ ∀ name, PySem.W.lookIn name od = some (mA name) := by
  obtain ⟨o, es, ep, ho, hd, hk, _, hm⟩ := n
  refine ⟨o, ho, fun name => ?_⟩
  have e := hm name
  unfold nsFind findBy at e
  rw [← Array.find?_toList] at e
  unfold PySem.W.lookIn
  rw [hd]
  dsimp only
  split
  · rename_i y q
    rw [q] at e
    exact congrArg some e
  · rename_i q
    rw [q] at e
    have a : es.toList.any (·.refKey) = false := by
      rw [List.any_eq_false]
      intro y hy
      obtain ⟨z, t, hkey⟩ := hk y (Array.mem_toList_iff.mp hy)
      simp [DictEntry.refKey, hkey]
    have a' : ¬ es.toList.any (·.refKey) = true := by rw [a]; exact Bool.false_ne_true
    rw [if_neg a']
    exact congrArg some e

theorem ObjM.look {h : Heap} {x dx C : Addr} {mA : Str → Option Value} (I : ObjM h x dx C mA) : ∃ od, PySem.W.InstAt h x (PySem.W.instObj C dx) C (some od) ∧ ∀ name, PySem.W.lookIn name od = some (mA name) :=
  let ⟨od, ho, hl⟩ := lookIn_ns I.ns
  ⟨od, ⟨I.obj, rfl, rfl, ho⟩, hl⟩

section
variable {prog : Program} {w : World} {A : Around} {E : Value → Shared → Prop} {s : Shared} {K : PySem.W.Frag} {x dx C f : Addr} {mA : Str → Option Value} {name : Str} {v : Value}

theorem get_map {expr : Bool} {Q : Value → Shared → Prop} (X : K.In s.heap) (I : ObjM s.heap x dx C mA) (hg : PySem.W.plainGet K C name = true) (hh : PySem.W.hasDictIn K C = true)
    (ha : PySem.W.findIn K (.ref C) name = some none) (hv : mA name = some v) (hv' : PySem.W.handedIn v = true) (h : Q v { s with toks := s.toks + 1 }) :
    wpAny (model prog w) A (getAttr (.ref x) name expr) Q E s := by
  obtain ⟨od, J, hl⟩ := I.look
  exact PySem.W.get_value X J (PySem.W.plainGet_of hg).1 (PySem.W.findObj_own hh ha rfl (by rw [hl, hv])) hv' h


theorem get_meth {pl : Sem Bool} {Q : Value × List Value → Shared → Prop} (X : K.In s.heap) (I : ObjM s.heap x dx C mA) (hg : PySem.W.plainGet K C name = true)
    (hf : PySem.W.findIn K (.ref C) name = some (some (.ref f))) (ht : PySem.W.isFn K (.ref f) = true) (hv : mA name = none) (h : Q (.ref f, [.ref x]) s) :
    wpAny (model prog w) A (getMethod (.ref x) name pl) Q E s := by
  obtain ⟨od, J, hl⟩ := I.look
  exact PySem.W.method_fn X J (PySem.W.plainGet_of hg).1 (PySem.W.plainGet_of hg).2 hf (beq_iff_eq.mp ht) (by show (PySem.W.lookIn name od).map (·.isSome) = some false; rw [hl, hv]; rfl) h

theorem set_map {ns : List Str} {Q : Unit → Shared → Prop} (X : K.In s.heap) (I : ObjM s.heap x dx C mA)
    (hs : PySem.W.findIn K (.ref C) "__setattr__" = some (some (.builtin "object.__setattr__"))) (hp : PySem.W.plainOver K C = true) (ht : PySem.W.takerIn K C name = some none) (hh : PySem.W.hasDictIn K C = true)
    (hw : PySem.Within mA ns) (hsz : ns.length ≤ sizeLine)
    (h : ∀ h', ObjM h' x dx C (fun y => if y = name then some v else mA y) → Heap.SameBut dx s.heap h' → Q () { s with heap := h', toks := s.toks + 2 }) :
    wpAny (model prog w) A (setAttr (.ref x) name v) Q E s := by
  obtain ⟨od, J, hl⟩ := I.look
  refine PySem.W.set_plain X J hs (PySem.W.osa_open (s := { s with toks := s.toks + 1 }) (r := none) X J hp ht fun b => ?_)
  obtain ⟨cd, hc, hd'⟩ := PySem.W.any_some hh
  have hx : s.heap.get? x = some ⟨.ref C, some dx, .plain, #[]⟩ := I.obj
  refine wpAny_bind (wpAny_pure (wpAny_bind (wpAny_bind (wpAny_loadPart hx (wpAny_bind (PySem.W.Looks.here (s := { s with toks := s.toks + 1 }) (PySem.W.looks_clsIn X hc) ?_))))))
  rw [hd']
  refine wpAny_pure (a := some dx) (wpAny_bind (wpAny_pure (wpAny_bind ?_)))
  refine wpAny_nsSet1 (s := { s with toks := s.toks + 1 }) I.ns fun h' hn2 hs2 => ?_
  obtain ⟨oD, esD, epD, hoD, hdD, hcD⟩ := hn2.count (PySem.Within.cons name v hw)
  refine wpAny_bind (wpAny_lookBehind hoD (by rw [hdD]; exact pastItsLine_dict (Nat.le_trans hcD (by rw [List.length_cons]; omega))) ?_)
  exact wpAny_pure (h _ ⟨(hs2.2 _ (Ne.symm I.ne)).trans I.obj, hn2, I.ne⟩ hs2)

/-- C(..): the dict at the heap's end, the instance behind it; then its __init__ -/
theorem make_map {R : Result → Shared → Prop} {vs : List Value} {kw : List (Str × Value)} (X : K.In s.heap) (hm : PySem.W.makesIn K C = true)
    (hi : PySem.W.findIn K (.ref C) "__init__" = some (some (.ref f))) (hf : PySem.W.typeIn K (.ref f) = some (.type "function"))
    (h : codeAny (model prog w) (A.under (.builtin "type.__call__" ⟨.ref C :: vs, kw⟩)) (.call (.ref f) ⟨.ref (s.heap.objs.size + 1) :: vs, kw⟩) (PySem.W.InitBack (s.heap.objs.size + 1) R)
      { s with heap := (s.heap.push PySem.W.emptyDict).push (PySem.W.instObj C s.heap.objs.size) }) :
    codeAny (model prog w) A (.call (.ref C) ⟨vs, kw⟩) R s := by
  obtain ⟨hh, g, d, t, os⟩ := s
  exact PySem.W.make_core (PySem.W.makes_of X hm) (PySem.W.looks_findIn X hi) (fun self => PySem.W.bind_fn X self hf) (.inl rfl) h
end

/-! ### the attributes as a list of pairs -/
def putF (f : Str) (v : V) : List (Str × V) → List (Str × V)
  | [] => [(f, v)]
  | (g, x) :: r => if g = f then (g, v) :: r else (g, x) :: putF f v r
theorem lookup_putF (f g : Str) (v : V) : ∀ fs : List (Str × V), (putF f v fs).lookup g = if g = f then some v else fs.lookup g
  | [] => by
    show List.lookup g [(f, v)] = _
    by_cases h : g = f
    · have hb : (g == f) = true := beq_iff_eq.mpr h
      simp only [List.lookup, hb, if_pos h]
    · have hb : (g == f) = false := beq_eq_false_iff_ne.mpr h
      simp only [List.lookup, hb, if_neg h]
  | (k, x) :: r => by
    have ih := lookup_putF f g v r
    rw [show putF f v ((k, x) :: r) = (if k = f then (k, v) :: r else (k, x) :: putF f v r) from rfl]
    by_cases hk : k = f
    · rw [if_pos hk]
      by_cases h : g = k
      · have hb : (g == k) = true := beq_iff_eq.mpr h
        simp only [List.lookup, hb, if_pos (h.trans hk)]
      · have hb : (g == k) = false := beq_eq_false_iff_ne.mpr h
        simp only [List.lookup, hb, if_neg (fun e : g = f => h (e.trans hk.symm))]
    · rw [if_neg hk]
      by_cases h : g = k
      · have hb : (g == k) = true := beq_iff_eq.mpr h
        simp only [List.lookup, hb, if_neg (fun e : g = f => hk (h.symm.trans e))]
      · have hb : (g == k) = false := beq_eq_false_iff_ne.mpr h
        simp only [List.lookup, hb]
        exact ih
theorem keys_putF (f : Str) (v : V) : ∀ fs : List (Str × V), f ∈ (putF f v fs).map (·.1) ∧ ∀ g, g ∈ fs.map (·.1) → g ∈ (putF f v fs).map (·.1)
  | [] => ⟨by simp [putF], fun g h => by simp at h⟩
  | (k, x) :: r => by
    obtain ⟨i1, i2⟩ := keys_putF f v r
    rw [show putF f v ((k, x) :: r) = (if k = f then (k, v) :: r else (k, x) :: putF f v r) from rfl]
    by_cases hk : k = f
    · rw [if_pos hk]
      subst hk
      exact ⟨by simp, fun g h => by simpa using h⟩
    · rw [if_neg hk]
      refine ⟨?_, fun g h => ?_⟩
      · rw [List.map_cons]
        exact List.mem_cons_of_mem _ i1
      · rw [List.map_cons] at h ⊢
        rcases List.mem_cons.mp h with e | e
        · exact List.mem_cons.mpr (.inl e)
        · exact List.mem_cons_of_mem _ (i2 g e)
theorem length_putF (f : Str) (v : V) : ∀ fs : List (Str × V), (putF f v fs).length ≤ fs.length + 1
  | [] => by simp [putF]
  | (k, x) :: r => by
    have ih := length_putF f v r
    rw [show putF f v ((k, x) :: r) = (if k = f then (k, v) :: r else (k, x) :: putF f v r) from rfl]
    by_cases hk : k = f
    · rw [if_pos hk, List.length_cons, List.length_cons]; omega
    · rw [if_neg hk, List.length_cons, List.length_cons]; omega

theorem RelO.some_of {v : V} {o : Option Value} (r : RelO (some v) o) : ∃ u, o = some u ∧ RelV v u := by
  cases o with
  | none => exact (show False from r).elim
  | some u => exact ⟨u, rfl, r⟩
theorem RelO.none_of {o : Option Value} (r : RelO none o) : o = none := by
  cases o with
  | none => rfl
  | some u => exact (show False from r).elim
theorem handed_of {v : V} {u : Value} (r : RelV v u) : PySem.W.handedIn u = true := by
  cases v with
  | non => cases (show u = Value.none from r); rfl
  | bl b => cases (show u = Value.bool b from r); rfl
  | int i => obtain ⟨t, e⟩ := (show ∃ t, u = Value.int i t from r); cases e; rfl
  | str x => obtain ⟨t, e⟩ := (show ∃ t, u = Value.str x t from r); cases e; rfl
  | byt b => obtain ⟨t, e⟩ := (show ∃ t, u = Value.bytes b t from r); cases e; rfl
  | flt b => obtain ⟨t, e⟩ := (show ∃ t, u = Value.float b t from r); cases e; rfl
  | ref a => cases (show u = Value.ref a from r); rfl
  | ty n => cases (show u = Value.type n from r); rfl

section
variable {P : Program} {w : World} {H H' : Hp} {h h' : Heap} {a C dx : Addr} {fs fs' : List (Str × V)}
theorem ins_get (hok : HOk P w H h) (e : H a = some (.ins C dx fs)) : ∃ mA, ObjM h a dx C mA ∧ (∀ f, RelO (fs.lookup f) (mA f)) ∧ PySem.Within mA (fs.map (·.1)) ∧ fs.length ≤ 1000 ∧ H dx = some (.own a) := by
  obtain ⟨d, z, ne, ob, mA, n, r, q⟩ := (show ObjOk P w H h a (.ins C dx fs) from hok a _ e)
  exact ⟨mA, ⟨ob, n, ne⟩, r, q, z, d⟩
end

/-! ### what of the text a class must have -/
structure Cls (K : PySem.W.Frag) (C : Addr) : Prop where
  pg : PySem.W.plainGet K C Str.empty = true
  hd : PySem.W.hasDictIn K C = true
  po : PySem.W.plainOver K C = true
  sa : PySem.W.findIn K (.ref C) "__setattr__" = some (some (.builtin "object.__setattr__"))
theorem Cls.get {K : PySem.W.Frag} {C : Addr} (c : Cls K C) (f : Str) : PySem.W.plainGet K C f = true := c.pg
/-- no class of it has the name -/
def NoAttr (K : PySem.W.Frag) (C : Addr) (f : Str) : Prop := PySem.W.findIn K (.ref C) f = some none
theorem NoAttr.taker {K : PySem.W.Frag} {C : Addr} {f : Str} (n : NoAttr K C f) : PySem.W.takerIn K C f = some none := by
  unfold PySem.W.takerIn
  rw [show PySem.W.findIn K (.ref C) f = some none from n]
  rfl
/-- a method: a plain def of the class or of one above it -/
structure Meth (K : PySem.W.Frag) (C : Addr) (m : Str) (f : Addr) : Prop where
  at_ : PySem.W.findIn K (.ref C) m = some (some (.ref f))
  fn : PySem.W.isFn K (.ref f) = true
  kp : PySem.W.keepIn K (.ref f) = true

section
variable {X : Cx} {pins : List (Addr × Obj)} {σ : St} {H : Hp} {s : Shared} {a C dx : Addr} {fs : List (Str × V)} {f : Str} {v : V} {A : Around} {E : Value → Shared → Prop}

theorem getattr_ok {b : Bool} {Q : Value → Shared → Prop} (I : Inv X pins σ H s) (e : H a = some (.ins C dx fs)) (c : Cls X.K C) (n : NoAttr X.K C f) (l : fs.lookup f = some v)
    (h : ∀ u s', Inv X pins σ H s' → RelV v u → Q u s') : wpAny (model X.prog X.w) A (getAttr (.ref a) f b) Q E s := by
  obtain ⟨mA, O, r, _, _, _⟩ := ins_get I.hok e
  obtain ⟨u, hu, ru⟩ := RelO.some_of (v := v) (o := mA f) (by rw [← l]; exact r f)
  exact get_map I.kIn O (c.get f) c.hd n hu (handed_of ru) (h u _ (I.tok _) ru)


theorem getmeth_ok {m : Str} {g : Addr} {pl : Sem Bool} {Q : Value × List Value → Shared → Prop} (I : Inv X pins σ H s) (e : H a = some (.ins C dx fs)) (c : Cls X.K C) (k : Meth X.K C m g) (l : fs.lookup m = none)
    (h : Q (.ref g, [.ref a]) s) : wpAny (model X.prog X.w) A (getMethod (.ref a) m pl) Q E s := by
  obtain ⟨mA, O, r, _, _, _⟩ := ins_get I.hok e
  have hn : mA m = none := RelO.none_of (by rw [← l]; exact r m)
  exact get_meth I.kIn O (c.get m) k.at_ k.fn hn h

theorem setattr_ok {y : V} {u : Value} {Q : Unit → Shared → Prop} (I : Inv X pins σ H s) (e : H a = some (.ins C dx fs)) (c : Cls X.K C) (n : NoAttr X.K C f) (hl : fs.length < 1000) (ry : RelV y u)
    (h : ∀ s', Inv X pins σ (upd H a (.ins C dx (putF f y fs))) s' → Q () s') : wpAny (model X.prog X.w) A (setAttr (.ref a) f u) Q E s := by
  obtain ⟨mA, O, r, wi, _, ho⟩ := ins_get I.hok e
  have hz : (fs.map (·.1)).length ≤ sizeLine := by rw [List.length_map, sizeLine_eq]; omega
  refine set_map I.kIn O c.sa c.po n.taker c.hd wi hz fun h' O' sb => h _ ?_
  have hd : ∃ o, h'.get? dx = some o := let ⟨o, _, _, e', _⟩ := O'.ns; ⟨o, e'⟩
  refine I.write (x := a) (e := dx) (by rw [e]; exact True.intro) (.inr ho) (fun b q hb z => (sb.2 b hb).trans z) hd ?_
  refine ⟨by rw [upd_ne O.ne]; exact ho, ?_, O.ne, O'.obj, _, O'.ns, fun g => ?_, fun g hg => ?_⟩
  · have := length_putF f y fs; omega
  · show RelO ((putF f y fs).lookup g) (if g = f then some u else mA g)
    rw [lookup_putF]
    by_cases q : g = f
    · rw [if_pos q, if_pos q]; exact ry
    · rw [if_neg q, if_neg q]; exact r g
  · by_cases q : g = f
    · rw [q]; exact (keys_putF f y fs).1
    · refine (keys_putF f y fs).2 g (wi g fun z => hg ?_)
      show (if g = f then some u else mA g) = none
      rw [if_neg q]; exact z

/-- a new instance, tracked, without attributes -/
theorem Inv.made (I : Inv X pins σ H s) : Inv X pins σ (upd (upd H s.heap.objs.size (.own (s.heap.objs.size + 1))) (s.heap.objs.size + 1) (.ins C s.heap.objs.size []))
    { s with heap := (s.heap.push PySem.W.emptyDict).push (PySem.W.instObj C s.heap.objs.size) } := by
  have e1 : (s.heap.push PySem.W.emptyDict).get? s.heap.objs.size = some PySem.W.emptyDict := Heap.get?_push_size s.heap rfl
  have e2 : ((s.heap.push PySem.W.emptyDict).push (PySem.W.instObj C s.heap.objs.size)).get? (s.heap.objs.size + 1) = some (PySem.W.instObj C s.heap.objs.size) := by
    have := Heap.get?_push_size (s.heap.push PySem.W.emptyDict) (o := PySem.W.instObj C s.heap.objs.size) rfl
    rwa [Heap.size_push] at this
  have e3 : (s.heap.push PySem.W.emptyDict).Ns s.heap.objs.size (fun _ => none) := ⟨PySem.W.emptyDict, #[], _, e1, rfl, (fun e he => absurd he (by simp)), fun _ => rfl⟩
  have I1 := I.laid (a := s.heap.objs.size) (o := .own (s.heap.objs.size + 1)) (h' := s.heap.push PySem.W.emptyDict) (t' := s.toks) (fun b u q => Heap.get?_push_of_some _ q) (Nat.le_refl _) ⟨_, e1⟩
  refine I1.laid (a := s.heap.objs.size + 1) (o := .ins C s.heap.objs.size []) (t' := s.toks) (fun b u q => Heap.get?_push_of_some _ q) (Nat.le_of_eq (Heap.size_push _ _)) ?_
  have ne : s.heap.objs.size ≠ s.heap.objs.size + 1 := Nat.ne_of_lt (Nat.lt_succ_self _)
  refine ⟨by rw [upd_ne ne, upd_same], Nat.zero_le _, ne, e2, fun _ => none, (Heap.Ns1.of_empty e3).at fun o q => Heap.get?_push_of_some _ q, fun _ => True.intro, fun y hy => absurd rfl hy⟩

/-- e.f where nothing but the object is asked: through attributeBase (super) and the last hold -/
theorem attr_of {prog : Program} {w : World} {env : Env} {e : Expr} {f : Str} {pos : Pos} {s : Shared} {Q : Value → Shared → Prop} (hb : attributeBase e f env (eval e env) = eval e env)
    (h : wpAny (model prog w) A (eval e env) (fun o s₁ => wpAny (model prog w) A (getAttr o f true) Q E s₁) E s) : wpAny (model prog w) A (eval (.Attribute e f pos) env) Q E s :=
  Attribute_any_ h (by rw [arm_eval_Attribute, hb])
end

/-! ### readings and rules -/
/-- e.f, an attribute of the instance -/
def tFld (K : PySem.W.Frag) (ta : TE) (f : Str) : TE := fun σ H Q => ta σ H fun x H1 => ∃ a C dx fs v, x = .ref a ∧ H1 a = some (.ins C dx fs) ∧ Cls K C ∧ NoAttr K C f ∧ fs.lookup f = some v ∧ Q v H1
/-- e.f = value -/
def sFld (K : PySem.W.Frag) (ta tv : TE) (f : Str) : TS := fun D σ H => tv σ H fun y H1 => ta σ H1 fun x H2 => ∃ a C dx fs, x = .ref a ∧ H2 a = some (.ins C dx fs) ∧ Cls K C ∧ NoAttr K C f ∧ fs.length < 1000 ∧
  D.nx σ (upd H2 a (.ins C dx (putF f y fs)))
/-- an augmented operator on two values -/
def InOp (X : Cx) (op : Operator) (rd : V → V → Hp → VK → Prop) : Prop :=
  ∀ (pins : List (Addr × Obj)) (s : Shared) (σ : St) (H : Hp) (x y : V) (u v : Value) (Q : VK), Inv X pins σ H s → RelV x u → RelV y v → rd x y H Q → wpAny (model X.prog X.w) X.A (inplaceOp op u v) (EP X pins σ Q) X.xe s
/-- e.f op= value -/
def sFldAug (K : PySem.W.Frag) (ta tv : TE) (rd : V → V → Hp → VK → Prop) (f : Str) : TS := fun D σ H => ta σ H fun x H1 => ∃ a C dx fs v, x = .ref a ∧ H1 a = some (.ins C dx fs) ∧ Cls K C ∧ NoAttr K C f ∧ fs.lookup f = some v ∧
  tv σ H1 fun y H2 => rd v y H2 fun z H3 => ∃ dx' fs', H3 a = some (.ins C dx' fs') ∧ fs'.length < 1000 ∧ D.nx σ (upd H3 a (.ins C dx' (putF f z fs')))

section
variable {X : Cx} {o e value : Expr} {f : Str} {pos pos' tpos : Pos} {ta tv : TE}
theorem pe_fld (he : PE X e ta) (hb : attributeBase e f X.env (eval e X.env) = eval e X.env) : PE X (.Attribute e f pos) (tFld X.K ta f) := by
  intro pins s σ H Q I h
  refine attr_of hb (thn (he pins s σ H _ I h) fun u s1 ⟨x, H1, I1, rx, a, C, dx, fs, v, ex, ea, c, n, l, q⟩ => ?_)
  subst ex
  obtain rfl : u = Value.ref a := rx
  exact getattr_ok I1 ea c n l fun u' s2 I2 ru => ⟨v, H1, I2, ru, q⟩
theorem ps_fld (ha : PE X o ta) (hv : PE X value tv) (hs : swapsWith value (some (.Attribute o f pos')) pos.line X.env = pure false) : PS X (.Assign [.Attribute o f pos'] value pos) (sFld X.K ta tv f) := by
  intro pins s σ H D I h
  refine plainObj_wpAny_Assign_Attribute (thn (hv pins s σ H _ I h) fun u s1 ⟨y, H1, I1, ry, q⟩ => thn (ha pins s1 σ H1 _ I1 q) fun ov s2 ⟨x, H2, I2, rx, a, C, dx, fs, ex, ea, c, n, l, q2⟩ => ?_) hs
  subst ex
  obtain rfl : ov = Value.ref a := rx
  exact setattr_ok I2 ea c n l ry fun s3 I3 => ⟨σ, _, I3, q2⟩
theorem ps_fldaug {op : Operator} {rd : V → V → Hp → VK → Prop} (ha : PE X o ta) (hv : PE X value tv) (hop : InOp X op rd) : PS X (.AugAssign (.Attribute o f tpos) op value pos) (sFldAug X.K ta tv rd f) := by
  intro pins s σ H D I h
  refine wpAny_AugAssign_AttributeAny (thn (ha pins s σ H _ I h) fun ov s1 ⟨x, H1, I1, rx, a, C, dx, fs, v, ex, ea, c, n, l, q⟩ => ?_)
  subst ex
  obtain rfl : ov = Value.ref a := rx
  refine getattr_ok I1 ea c n l fun u s2 I2 ru => thn (hv pins s2 σ H1 _ I2 q) fun w3 s3 ⟨y, H2, I3, ry, q3⟩ => thn (hop pins s3 σ H2 v y u w3 _ I3 ru ry q3) fun w4 s4 ⟨z, H3, I4, rz, dx', fs', ea', l', q4⟩ => ?_
  exact setattr_ok I4 ea' c n l' rz fun s5 I5 => ⟨σ, _, I5, q4⟩
def rAdd : V → V → Hp → VK → Prop := fun x y H Q => ∃ i j, x = .int i ∧ y = .int j ∧ Q (.int (i + j)) H
theorem in_add : InOp X .Add rAdd := by
  rintro pins s σ H x y u v Q I rx ry ⟨i, j, rfl, rfl, q⟩
  obtain ⟨t, rfl⟩ := (show ∃ t, u = Value.int i t from rx)
  obtain ⟨t', rfl⟩ := (show ∃ t', v = Value.int j t' from ry)
  exact PyProof.Rows.iadd_int ⟨.int (i + j), H, I.tok _, ⟨_, rfl⟩, q⟩

end

/-! ### isinstance -/
section
variable {X : Cx} {pins : List (Addr × Obj)} {σ : St} {H : Hp} {s : Shared} {A : Around} {E : Value → Shared → Prop} {Q : Value → Shared → Prop} {c : Value} {b : Bool}
end
end L2

namespace L2
open PySem PySem.Spec PyProof.Rows

/-! ### room -/
structure Room (k : Nat) (A : Around) : Prop where
  hd : A.handled = none
  dp : A.depth + 3 * k + 5 < recursionLimit
  un : A.units + 16 * k + 200 < cLine
theorem Room.mono {j k : Nat} {A : Around} (r : Room k A) (h : j ≤ k) : Room j A := ⟨r.hd, by have := r.dp; omega, by have := r.un; omega⟩
theorem Room.deeper {k : Nat} {A : Around} (r : Room (k + 1) A) (env : Env) : Room k (A.deeper env) :=
  ⟨r.hd, by have := r.dp; show A.depth + 1 + 3 * k + 5 < _; omega, by have := r.un; show A.units + 3 + 16 * k + 200 < _; omega⟩
theorem make_depth {A : Around} {C : Addr} {us : List Value} {kw : List (Str × Value)} : (A.under (.builtin "type.__call__" ⟨.ref C :: us, kw⟩)).depth = A.depth + 1 := by
  first | rfl | simp [Around.under, Code.weight, Code.isCreation, Code.isGuard, Code.isCaller, Code.frames, Code.isFrame, guardIds]
theorem make_units {A : Around} {C : Addr} {us : List Value} {kw : List (Str × Value)} : (A.under (.builtin "type.__call__" ⟨.ref C :: us, kw⟩)).units = A.units + 1 := by
  first | rfl | simp [Around.under, Code.cUnits, Code.frames, Code.isFrame]
theorem Room.make {k : Nat} {A : Around} (r : Room (k + 1) A) (C : Addr) (us : List Value) (kw : List (Str × Value)) : Room k (A.under (.builtin "type.__call__" ⟨.ref C :: us, kw⟩)) :=
  ⟨r.hd, by have := r.dp; rw [make_depth]; omega, by have := r.un; rw [make_units]; omega⟩
theorem Room.depth {k : Nat} {A : Around} (r : Room k A) : A.depth < recursionLimit := by have := r.dp; omega
theorem Room.units {k : Nat} {A : Around} (r : Room k A) : A.units + 64 < cLine := by have := r.un; omega

/-! ### argument lists and displays -/
def tNil : TA := fun _ H Q => Q [] H
def tCons (ta : TE) (tr : TA) : TA := fun σ H Q => ta σ H fun x H1 => tr σ H1 fun xs H2 => Q (x :: xs) H2
section
variable {X : Cx} {e : Expr} {es : List Expr} {te : TE} {t : TA} {pos : Pos}
theorem pa_nil : PA X [] tNil := fun _ _ _ _ H Q I h => Calls.spliced_nil ⟨[], H, I, .nil, h⟩
theorem pa_cons (ha : PE X e te) (hr : PA X es t) (hs : starEach (e :: es) X.env = (false, eval e X.env) :: starEach es X.env := by rfl) : PA X (e :: es) (tCons te t) := by
  intro pos pins s σ H Q I h
  rw [hs]
  show wpAny _ _ (spliced ((false, eval e X.env) :: backTo pos (starEach es X.env))) _ _ s
  refine Calls.spliced_cons (thn (ha pins s σ H _ I h) fun u s1 ⟨x, H1, I1, r1, q1⟩ => ?_)
  exact thn (hr pos pins s1 σ H1 _ I1 q1) fun us s2 ⟨xs, H2, I2, r2, q2⟩ => ⟨x :: xs, H2, I2, .cons r1 r2, q2⟩

def tLst (t : TA) : TE := fun σ H Q => t σ H fun xs H1 => xs.length ≤ sizeLine ∧ ∀ p, H1 p = none → Q (.ref p) (upd H1 p (.lst xs))
theorem pe_lst (h : PA X es t) : PE X (.List es pos) (tLst t) := by
  intro pins s σ H Q I hq
  refine wpAny_List_spliced (thn (h pos pins s σ H _ I hq) fun us s1 ⟨xs, H1, I1, r, z, q⟩ => ⟨by rw [← r.length]; exact z, ?_⟩)
  have hf : H1 s1.heap.objs.size = none := I1.hok.fresh (Nat.le_refl _)
  refine ⟨.ref s1.heap.objs.size, upd H1 s1.heap.objs.size (.lst xs), I1.laid (t' := s1.toks) (fun b u e => Heap.get?_push_of_some _ e) (Nat.le_refl _) ?_, rfl, q _ hf⟩
  exact ⟨z, us, 0, r, Heap.get?_push_size _ rfl⟩
end

/-! ### what a def promises -/
/-- a def's promise: the bound arguments in the parameters' order, the heap, the wanted end, the wanted exception -/
abbrev Sp := List V → Hp → VK → XK → Prop
/-- how an exception lies behind a call (file 08 gives it): the callers' frames, abstract heap and state ahead of the call, the wish, the exception, the state -/
abbrev CXT := List Env → Hp → Shared → XK → Value → Shared → Prop

/-- the state at a call -/
structure Env0 (P : Program) (w : World) (K : PySem.W.Frag) (mg : Str → Option Value) (base : Heap) (A : Around) (outer : List Env) (s : Shared) (H : Hp) : Prop where
  frames : A.frames = some outer
  mod : Mod K mg base
  bs : ∀ b o, base.get? b = some o → s.heap.get? b = some o ∧ H b = none
  bsz : base.objs.size ≤ s.heap.objs.size
  funs : s.heap.FunFrames base outer
  frf : ∀ b ∈ frs outer, H b = none
  hok : HOk P w H s.heap
  bare : AllBare s.gens
/-- a call's end -/
def CE (outer : List Env) (P : Program) (w : World) (H : Hp) (s : Shared) (Q : VK) (u : Value) (s' : Shared) : Prop :=
  ∃ v H', s'.os = s.os ∧ AllBare s'.gens ∧ Un (frs outer) [] H H' s.heap s'.heap ∧ HOk P w H' s'.heap ∧ RelV v u ∧ Q v H'
def CR (CX : CXT) (outer : List Env) (P : Program) (w : World) (H : Hp) (s : Shared) (Q : VK) (E : XK) (r : Result) (s' : Shared) : Prop :=
  match r with
  | .ok (.ret u) => CE outer P w H s Q u s'
  | .ok _ => False
  | .error e => CX outer H s E e s'
structure FnOk (P : Program) (w : World) (K : PySem.W.Frag) (mg : Str → Option Value) (base : Heap) (CX : CXT) (k : Nat) (f : Addr) (fd : FuncData) (ps : List Str) (sp : Sp) : Prop where
  len : ∀ vs H Q E, sp vs H Q E → vs.length = ps.length
  run : ∀ (A : Around) (outer : List Env) (s : Shared) (H : Hp) (args : Args) (us : List Value) (vs : List V) (Q : VK) (E : XK), Room k A → Env0 P w K mg base A outer s H → BindsTo s fd args (ps.zip us) → Vals vs us → sp vs H Q E →
    codeAny (model P w) A (.call (.ref f) args) (CR CX outer P w H s Q E) s
theorem FnOk.mono {P : Program} {w : World} {K : PySem.W.Frag} {mg : Str → Option Value} {base : Heap} {CX : CXT} {j k : Nat} {f : Addr} {fd : FuncData} {ps : List Str} {sp : Sp} (F : FnOk P w K mg base CX j f fd ps sp) (h : j ≤ k) :
    FnOk P w K mg base CX k f fd ps sp := ⟨F.len, fun A outer s H args us vs Q E hr => F.run A outer s H args us vs Q E (hr.mono h)⟩

theorem Env0.make {P : Program} {w : World} {K : PySem.W.Frag} {mg : Str → Option Value} {base : Heap} {A : Around} {outer : List Env} {s : Shared} {H : Hp} (e : Env0 P w K mg base A outer s H) (C : Addr) (us : List Value) (kw : List (Str × Value)) :
    Env0 P w K mg base (A.under (.builtin "type.__call__" ⟨.ref C :: us, kw⟩)) outer s H := ⟨by first | exact e.frames | (simpa [Around.under, Code.envs, Code.isFrame, pushEnvs] using e.frames), e.mod, e.bs, e.bsz, e.funs, e.frf, e.hok, e.bare⟩

section
variable {X : Cx} {pins : List (Addr × Obj)} {σ : St} {H : Hp} {s s' : Shared}
/-- from a body: what a callee wants -/
theorem Inv.env0 (I : Inv X pins σ H s) : Env0 X.prog X.w X.K X.mg X.base X.A X.stack s H :=
  ⟨I.ok.frames, I.ok.mod, I.bs, Nat.le_trans I.ok.bsz I.sz, I.stack, I.stkFree, I.hok, I.bare⟩
/-- behind a call -/
theorem Inv.after {Q : VK} {u : Value} (I : Inv X pins σ H s) (h : CE X.stack X.prog X.w H s Q u s') : EP X pins σ Q u s' := by
  obtain ⟨v, H', os, bare, un, hok, r, q⟩ := h
  obtain ⟨hh, g, d, t, os'⟩ := s'
  obtain rfl : os' = s.os := os
  exact ⟨v, H', I.call (h' := hh) (g' := g) (d' := d) (t' := t) (ch := []) un hok bare (fun b z => absurd z (by simp)), r, q⟩
end

/-! ### calls -/
/-- f(..): the written arguments, then the defaults dvs; E: what is wanted of an exception -/
def tCall (sp : Sp) (dvs : List V) (E : XK) (t : TA) : TE := fun σ H Q => t σ H fun vs H1 => sp (vs ++ dvs) H1 Q E
/-- o.m(..) of an instance of the class at C -/
def tMeth (C : Addr) (m : Str) (sp : Sp) (dvs : List V) (E : XK) (ta : TE) (t : TA) : TE := fun σ H Q => ta σ H fun x H1 => ∃ a dx fs, x = .ref a ∧ H1 a = some (.ins C dx fs) ∧ fs.lookup m = none ∧
  t σ H1 fun vs H2 => sp (x :: (vs ++ dvs)) H2 Q E
/-- C(..): a new instance and its dict, then __init__ -/
def tMake (C : Addr) (sp : Sp) (dvs : List V) (E : XK) (t : TA) : TE := fun σ H Q => t σ H fun vs H1 => ∀ x dx, H1 x = none → H1 dx = none → dx ≠ x →
  sp (.ref x :: (vs ++ dvs)) (upd (upd H1 dx (.own x)) x (.ins C dx [])) (fun v H2 => v = .non ∧ Q (.ref x) H2) E

/-- how the parameters are bound: us the positional arguments, kw the keywords' values by name, ds the defaults that fill up -/
def Binds (K : PySem.W.Frag) (fd : FuncData) (ps : List Str) (ds : List Value) : Prop :=
  ∀ (s : Shared) (us : List Value), K.In s.heap → (us ++ ds).length = ps.length → BindsTo s fd ⟨us, []⟩ (ps.zip (us ++ ds))
/-- every parameter is given -/
theorem Binds.all {K : PySem.W.Frag} {fd : FuncData} {ps : List Str} (h : ∀ us : List Value, us.length = ps.length → bindArgs fd ⟨us, []⟩ = pure (ps.zip us)) : Binds K fd ps [] := fun s us _ hl => by
  rw [List.append_nil] at hl ⊢
  exact .of_eq (h us hl)

/-- an exception of a callee reaches what this body wants of exceptions -/
def Passes (CX : CXT) (X : Cx) (E : XK) : Prop := ∀ (pins : List (Addr × Obj)) (σ : St) (H : Hp) (s : Shared) (e : Value) (s' : Shared), Inv X pins σ H s → CX X.stack H s E e s' → X.xe e s'

section
variable {X : Cx} {CX : CXT} {k : Nat} {f C : Addr} {fd : FuncData} {ps : List Str} {sp : Sp} {dvs : List V} {ds : List Value} {E : XK} {x m : Str} {p pos apos : Pos} {e o : Expr} {es : List Expr} {ta : TE} {t : TA}

/-- the callee runs -/
theorem run_fn {pins : List (Addr × Obj)} {σ : St} {H : Hp} {s : Shared} {Q : VK} {us : List Value} {vs : List V} (F : FnOk X.prog X.w X.K X.mg X.base CX k f fd ps sp) (hr : Room k X.A) (hb : Binds X.K fd ps ds) (hd : Vals dvs ds) (hx : Passes CX X E)
    (I : Inv X pins σ H s) (r : Vals vs us) (h : sp (vs ++ dvs) H Q E) : wpAny (model X.prog X.w) X.A (call (.ref f) us) (EP X pins σ Q) X.xe s := by
  have r2 : Vals (vs ++ dvs) (us ++ ds) := r.append hd
  have hl : (us ++ ds).length = ps.length := by rw [← r2.length]; exact F.len _ _ _ _ h
  refine wpAny_call (codeAny_mono (F.run X.A X.stack s H ⟨us, []⟩ (us ++ ds) (vs ++ dvs) Q E hr I.env0 (hb s us I.kIn hl) r2 h) fun r s' hq => ?_)
  cases r with
  | error e => exact hx pins σ H s e s' I hq
  | ok fl =>
    cases fl with
    | ret u => exact I.after hq
    | next => exact False.elim hq
    | brk => exact False.elim hq
    | cont => exact False.elim hq

theorem pe_call (F : FnOk X.prog X.w X.K X.mg X.base CX k f fd ps sp) (hr : Room k X.A) (hg : Gl X x) (hm : X.mg x = some (.ref f)) (hk : PySem.W.keepIn X.K (.ref f) = true) (hb : Binds X.K fd ps ds) (hd : Vals dvs ds) (hx : Passes CX X E)
    (ha : PA X (e :: es) t) (hdb : (x == ("__debug__" : Str)) = false := by decide) (he : starEach (e :: es) X.env = (false, eval e X.env) :: starEach es X.env := by rfl) (hpl : (backTo pos (starEach es X.env)).any (·.1) = false := by rfl) :
    PE X (.Call (.Name x p) (e :: es) [] pos) (tCall sp dvs E t) := by
  intro pins s σ H Q I h
  refine wpAny_Call_Name_kw (ld_glob I hg hm ?_ hdb)
  refine PySem.W.callWith_K (h₀ := X.base) I.ok.mod.kin hk (thn (ha pos pins s σ H _ I h) fun us s1 ⟨vs, H1, I1, r, q⟩ => ⟨I1.kIn, ?_⟩) he hpl
  exact run_fn F hr hb hd hx I1 r q

/-- o.m() -/
theorem pe_meth0 {pl : Sem Bool} (he : PE X o ta) (c : Cls X.K C) (hm : Meth X.K C m f) (F : FnOk X.prog X.w X.K X.mg X.base CX k f fd ps sp) (hr : Room k X.A) (hb : Binds X.K fd ps ds) (hd : Vals dvs ds) (hx : Passes CX X E)
    (ht : eval (.Call (.Attribute o m apos) [] [] pos) X.env = (do
      let ov ← eval o X.env
      standAt apos.atName
      let (f, first) ← holding [ov] (getMethod ov m pl)
      callWith pos f first (backTo pos (starEach [] X.env)) (backToKw pos (keywordEach [] X.env))) := by rfl) :
    PE X (.Call (.Attribute o m apos) [] [] pos) (tMeth C m sp dvs E ta tNil) := by
  intro pins s σ H Q I h
  refine PySem.W.methodCall_KW (pl := pl) (thn (he pins s σ H _ I h) fun u s1 ⟨x, H1, I1, rx, a, dx, fs, ex, ea, l, q⟩ => ?_) ht
  subst ex
  obtain rfl : u = Value.ref a := rx
  refine getmeth_ok I1 ea c hm l ?_
  exact PySem.W.callWith_K0 (first := [.ref a]) I1.kIn hm.kp (run_fn (us := [.ref a]) (vs := [.ref a]) F hr hb hd hx I1 (.cons rfl .nil) q)

/-- what a class must have to be made -/
structure Mk (K : PySem.W.Frag) (C f : Addr) : Prop where
  makes : PySem.W.makesIn K C = true
  init : PySem.W.findIn K (.ref C) "__init__" = some (some (.ref f))
  fn : PySem.W.isFn K (.ref f) = true
  kp : PySem.W.keepIn K (.ref C) = true

theorem run_make {pins : List (Addr × Obj)} {σ : St} {H : Hp} {s : Shared} {Q : VK} {us : List Value} {vs : List V} (M : Mk X.K C f) (F : FnOk X.prog X.w X.K X.mg X.base CX k f fd ps sp) (hr : Room (k + 1) X.A) (hb : Binds X.K fd ps ds) (hd : Vals dvs ds)
    (hx : Passes CX X E) (I : Inv X pins σ H s) (r : Vals vs us)
    (h : ∀ x dx, H x = none → H dx = none → dx ≠ x → sp (.ref x :: (vs ++ dvs)) (upd (upd H dx (.own x)) x (.ins C dx [])) (fun v H2 => v = .non ∧ Q (.ref x) H2) E) :
    wpAny (model X.prog X.w) X.A (call (.ref C) us) (EP X pins σ Q) X.xe s := by
  have hq := h (s.heap.objs.size + 1) s.heap.objs.size (I.hok.fresh (Nat.le_succ _)) (I.hok.fresh (Nat.le_refl _)) (Nat.ne_of_lt (Nat.lt_succ_self _))
  have I2 := Inv.made (C := C) I
  have r2 : Vals (V.ref (s.heap.objs.size + 1) :: (vs ++ dvs)) (Value.ref (s.heap.objs.size + 1) :: (us ++ ds)) := .cons rfl (r.append hd)
  have hl : (Value.ref (s.heap.objs.size + 1) :: us ++ ds).length = ps.length := by
    have e := r2.length
    rw [F.len _ _ _ _ hq] at e
    exact e.symm
  refine wpAny_call (make_map (f := f) I.kIn M.makes M.init (beq_iff_eq.mp M.fn) (codeAny_mono (F.run _ X.stack _ _ ⟨Value.ref (s.heap.objs.size + 1) :: us, []⟩ (Value.ref (s.heap.objs.size + 1) :: (us ++ ds)) _ _ E (hr.make C us [])
    (I2.env0.make C us []) (hb _ (Value.ref (s.heap.objs.size + 1) :: us) I2.kIn hl) r2 hq) fun r s' hq' => ?_))
  cases r with
  | error e => exact hx pins σ _ _ e s' I2 hq'
  | ok fl =>
    cases fl with
    | ret u =>
      obtain ⟨v, H', I3, rv, ev, q3⟩ := I2.after hq'
      subst ev
      exact ⟨rv, ⟨V.ref (s.heap.objs.size + 1), H', I3, rfl, q3⟩⟩
    | next => exact False.elim hq'
    | brk => exact False.elim hq'
    | cont => exact False.elim hq'
theorem pe_make (M : Mk X.K C f) (F : FnOk X.prog X.w X.K X.mg X.base CX k f fd ps sp) (hr : Room (k + 1) X.A) (hg : Gl X x) (hm : X.mg x = some (.ref C)) (hb : Binds X.K fd ps ds) (hd : Vals dvs ds) (hx : Passes CX X E)
    (ha : PA X (e :: es) t) (hdb : (x == ("__debug__" : Str)) = false := by decide) (he : starEach (e :: es) X.env = (false, eval e X.env) :: starEach es X.env := by rfl) (hpl : (backTo pos (starEach es X.env)).any (·.1) = false := by rfl) :
    PE X (.Call (.Name x p) (e :: es) [] pos) (tMake C sp dvs E t) := by
  intro pins s σ H Q I h
  refine wpAny_Call_Name_kw (ld_glob I hg hm ?_ hdb)
  refine PySem.W.callWith_K (h₀ := X.base) I.ok.mod.kin M.kp (thn (ha pos pins s σ H _ I h) fun us s1 ⟨vs, H1, I1, r, q⟩ => ⟨I1.kIn, ?_⟩) he hpl
  exact run_make M F hr hb hd hx I1 r q
end

/-! ### keywords -/
section
variable {X : Cx} {CX : CXT} {k : Nat} {f C : Addr} {fd : FuncData} {ps ks : List Str} {sp : Sp} {E : XK} {x m : Str} {p pos apos kpos : Pos} {e o : Expr} {es : List Expr} {kws : List Keyword} {te ta : TE} {t tk : TA} {nm : Option Str}

variable {g : List Value → List Value → List Value} {gV : List V → List V → List V}
end

/-! ### a def's body keeps its promise -/
/-- names: the parameters first -/
structure FnScope (N P : List Str) (sc : Scope) : Prop where
  kind : sc.kind = .function
  co : sc.isCoroutine = false
  gen : sc.isGenerator = false
  nd : N.Nodup
  pre : N.take P.length = P
  par : ∀ x ∈ P, sc.names.lookup x = some .local ∨ sc.names.lookup x = some .cell
  nofree : ∀ y ∈ sc.names, y.2 ≠ .free

theorem bindL_out {kindOf : Str → Option NameKind} {x : Str} : ∀ {binds : List (Str × Value)} {m : Str → Option Value}, (∀ v, (x, v) ∉ binds) → bindL kindOf binds m x = m x
  | [], _, _ => rfl
  | (n, v) :: r, m, h => by
    unfold bindL
    rw [bindL_out fun w hw => h w (List.mem_cons_of_mem _ hw)]
    split
    · have : x ≠ n := by rintro rfl; exact h v List.mem_cons_self
      simp [this]
    · rfl
theorem bindC_out {kindOf : Str → Option NameKind} {x : Str} : ∀ {binds : List (Str × Value)} {m : Str → Option Value}, (∀ v, (x, v) ∉ binds) → bindC kindOf binds m x = m x
  | [], _, _ => rfl
  | (n, v) :: r, m, h => by
    unfold bindC
    rw [bindC_out fun w hw => h w (List.mem_cons_of_mem _ hw)]
    split
    · rfl
    · have : x ≠ n := by rintro rfl; exact h v List.mem_cons_self
      simp [this]
theorem bindL_get {kindOf : Str → Option NameKind} {x : Str} {v : Value} : ∀ {P : List Str} {vs : List Value} {i : Nat} {m : Str → Option Value}, P.Nodup → P[i]? = some x → vs[i]? = some v → kindOf x = some .local →
    bindL kindOf (P.zip vs) m x = some v
  | [], _, _, _, _, h, _, _ => by simp at h
  | _ :: _, [], _, _, _, _, h, _ => by simp at h
  | p :: P, w :: vs, 0, m, nd, h1, h2, hk => by
    simp at h1 h2; subst h1; subst h2
    show bindL kindOf ((p, w) :: P.zip vs) m p = _
    unfold bindL
    rw [bindL_out fun v hv => (List.nodup_cons.mp nd).1 (List.of_mem_zip hv).1, if_pos hk]
    simp
  | p :: P, w :: vs, i + 1, m, nd, h1, h2, hk => by
    show bindL kindOf ((p, w) :: P.zip vs) m x = _
    unfold bindL
    exact bindL_get (i := i) (List.nodup_cons.mp nd).2 (by simpa using h1) (by simpa using h2) hk
theorem bindC_get {kindOf : Str → Option NameKind} {x : Str} {v : Value} : ∀ {P : List Str} {vs : List Value} {i : Nat} {m : Str → Option Value}, P.Nodup → P[i]? = some x → vs[i]? = some v → kindOf x ≠ some .local →
    bindC kindOf (P.zip vs) m x = some v
  | [], _, _, _, _, h, _, _ => by simp at h
  | _ :: _, [], _, _, _, _, h, _ => by simp at h
  | p :: P, w :: vs, 0, m, nd, h1, h2, hk => by
    simp at h1 h2; subst h1; subst h2
    show bindC kindOf ((p, w) :: P.zip vs) m p = _
    unfold bindC
    rw [bindC_out fun v hv => (List.nodup_cons.mp nd).1 (List.of_mem_zip hv).1, if_neg hk]
    simp
  | p :: P, w :: vs, i + 1, m, nd, h1, h2, hk => by
    show bindC kindOf ((p, w) :: P.zip vs) m x = _
    unfold bindC
    exact bindC_get (i := i) (List.nodup_cons.mp nd).2 (by simpa using h1) (by simpa using h2) hk

/-- the names' values at the entry -/
def start (N : List Str) (vs : List V) : St := vs.map some ++ List.replicate (N.length - vs.length) none

/-- the context of a def's body, at its entry; an exception leaves the frame, then lies as CX says -/
def cxOf (CX : CXT) (P : Program) (w : World) (K : PySem.W.Frag) (mg : Str → Option Value) (base : Heap) (N : List Str) (qual : Str) (scope : Scope) (f : Addr) (cd : Value) (A : Around) (outer : List Env) (s : Shared) (H : Hp) (E : XK) : Cx where
  prog := P
  w := w
  K := K
  mg := mg
  base := base
  A := A.deeper (envOfC qual scope s.heap.objs.size f cd)
  N := N
  s_0 := s
  H_0 := H
  env := envOfC qual scope s.heap.objs.size f cd
  outer := outer
  stack := envOfC qual scope s.heap.objs.size f cd :: outer
  ex := []
  calm := true
  fn := fun _ => true
  pn := []
  xe := fun e s' => wpAny (model P w) (A.deeper (envOfC qual scope s.heap.objs.size f cd)) (leaving (envOfC qual scope s.heap.objs.size f cd) e) (fun _ s'' => CX outer H s E e s'') (fun e' s'' => CX outer H s E e' s'') s'

theorem cell_has {sc : Scope} {n : Nat} {x : Str} (h : sc.names.lookup x = some .cell) : ∃ c, (cellsFrom n sc.names []).lookup x = some c := by
  have q := PySem.W.cellsFrom_some sc.names n [] (.inl h)
  exact Option.isSome_iff_exists.mp q

theorem inv_start {CX : CXT} {P : Program} {w : World} {K : PySem.W.Frag} {mg : Str → Option Value} {base : Heap} {N ps : List Str} {qual : Str} {scope : Scope} {f : Addr} {cd : Value} {A : Around} {outer : List Env} {s s1 : Shared} {H : Hp} {E : XK} {us : List Value} {vs : List V}
    (S : FnScope N ps scope) (hd : A.handled = none) (e0 : Env0 P w K mg base A outer s H) (hl : vs.length = ps.length) (r : Vals vs us)
    (x : InCallC s s.heap.objs.size (bindL (envOfC qual scope s.heap.objs.size f cd).kindOf (ps.zip us) fun _ => none) (cellsFrom (s.heap.objs.size + 1) scope.names []) (bindC (envOfC qual scope s.heap.objs.size f cd).kindOf (ps.zip us) fun _ => none) s1) :
    Inv (cxOf CX P w K mg base N qual scope f cd A outer s H E) [] (start N vs) H s1 := by
  have hpl : ps.length ≤ N.length := by have := congrArg List.length S.pre; rw [List.length_take] at this; omega
  obtain ⟨h1, tk, rfl, hk⟩ := x.done
  have noA : ∀ b : Addr, b ∉ (cxOf CX P w K mg base N qual scope f cd A outer s H E).ex := fun b z => absurd (show b ∈ ([] : List Addr) from z) (by simp)
  refine ⟨⟨e0.mod, S.kind, rfl, rfl, Nat.le_refl _, fun y z c h1 h2 => ?_, fun y hy => ?_, fun y c _ h => ?_, fun _ => hd, Around.frames_deeper e0.frames, .inr ⟨rfl, rfl⟩, fun b z => absurd z (noA b), e0.bs, e0.bsz, fun b _ _ => noA b, fun b z => absurd z (noA b), e0.funs, e0.frf⟩,
    rfl, e0.bare, Un.kept hk, ⟨_, x.toInCall.ns, fun i y v h1 h2 h3 => ?_⟩, fun y c h => ⟨_, x.cell y c h⟩, e0.hok.fresh (Nat.le_refl _), fun y c h => ?_, fun p hp => absurd (show p ∈ ([] : List (Addr × Obj)) from hp) (by simp), e0.hok.kept hk, ?_⟩
  · exact name_of_addr x.apart (PySem.mem_of_lookup h1) (PySem.mem_of_lookup h2)
  · have hy : scope.names.lookup y = some .cell ∨ scope.names.lookup y = some .free := hy
    rcases hy with hy | hy
    · exact cell_has hy
    · exact absurd rfl (S.nofree _ (PySem.mem_of_lookup hy))
  · exact Nat.le_of_lt (x.above y c (PySem.mem_of_lookup h))
  · have hi : i < vs.length := by
      unfold start at h2
      by_cases hi : i < vs.length
      · exact hi
      · rw [List.getElem?_append_right (by simpa using hi)] at h2
        rw [List.getElem?_replicate] at h2
        split at h2 <;> cases h2
    have ha : vs[i]? = some v := by
      unfold start at h2
      rw [List.getElem?_append_left (by simpa using hi), List.getElem?_map] at h2
      cases e : vs[i]? with
      | none => rw [e] at h2; cases h2
      | some a => rw [e] at h2; cases h2; rfl
    obtain ⟨u, hu, rv⟩ := r.get ha
    have hp : ps[i]? = some y := by
      rw [← S.pre, List.getElem?_take_of_lt (by omega)]; exact h1
    have ndP : ps.Nodup := by rw [← S.pre]; exact S.nd.sublist (List.take_sublist _ _)
    refine ⟨u, rv, ?_⟩
    rcases S.par y (List.mem_of_getElem? hp) with k | k
    · exact .inl ⟨k, bindL_get ndP hp hu k⟩
    · obtain ⟨c, e⟩ := cell_has (n := s.heap.objs.size + 1) k
      refine .inr ⟨.inl k, c, e, ?_⟩
      have q := x.cell y c e
      rw [bindC_get ndP hp hu (by show scope.names.lookup y ≠ _; rw [k]; decide)] at q
      exact q
  · exact e0.hok.fresh (Nat.le_of_lt (x.above y c (PySem.mem_of_lookup h)))
  · unfold start
    show _ = N.length
    rw [List.length_append, List.length_map, List.length_replicate]
    omega

/-- THE RULE: a def (or a method) of the text, by its body. The body's reading t is chosen for each entry; it is run at the parameters' values -/
theorem fn_of {CX : CXT} {P : Program} {w : World} {K : PySem.W.Frag} {mg : Str → Option Value} {base : Heap} {k : Nat} {f : Addr} {name qual : Str} {params : Arguments} {body : List Stmt} {scope : Scope} {dV kV doc pm cdv ct oc : Value} {an od : Option Addr}
    {osl : Array (Option Value)} {N ps : List Str} {sp : Sp} (lk : K.lookup f = some ⟨oc, od, .func (PySem.W.fnOf name qual params body scope dV kV doc pm an cdv ct), osl⟩) (hcd : PySem.W.codeIn K cdv qual = true) (S : FnScope N ps scope)
    (len : ∀ vs H Q E, sp vs H Q E → vs.length = ps.length)
    (hbody : ∀ (A : Around) (outer : List Env) (s : Shared) (H : Hp) (vs : List V) (Q : VK) (E : XK), Room k (A.deeper (envOfC qual scope s.heap.objs.size f cdv)) → sp vs H Q E →
      ∃ t, PSs (cxOf CX P w K mg base N qual scope f cdv A outer s H E) body t ∧ t { nx := fun _ H' => Q .non H', rt := Q } (start N vs) H) :
    FnOk P w K mg base CX (k + 1) f (PySem.W.fnOf name qual params body scope dV kV doc pm an cdv ct) ps sp := by
  refine ⟨len, fun A outer s H args us vs Q E hr e0 hb r hsp => ?_⟩
  have hl := len _ _ _ _ hsp
  have KX : K.In s.heap := e0.mod.kin.keeps fun b o e => (e0.bs b o e).1
  have lim : s.heap.NoLimit := e0.mod.nolimit.keeps fun b o e => (e0.bs b o e).1
  have hkind : ∀ y ∈ ps.zip us, scope.names.lookup y.1 = some .local ∨ (scope.names.lookup y.1 = some .cell ∧ ((cellsFrom (s.heap.objs.size + 1) scope.names []).lookup y.1).isSome = true) := fun ⟨n, v⟩ hy => by
    rcases S.par n (List.of_mem_zip hy).1 with q | q
    · exact .inl q
    · exact .inr ⟨q, PySem.W.cellsFrom_some _ _ _ (.inl q)⟩
  refine codeAny_call_function hr.depth (KX _ _ lk) rfl S.co S.gen rfl (PySem.W.codeRec_of KX hcd) (hb _ _ _ _ ?_)
  refine wpAny_newFunctionEnv_cells S.kind hkind fun env he s1 x => ?_
  subst he
  refine ⟨lim.keeps x.toInCall.keep, codeAny_func ?_⟩
  obtain ⟨t, ht, hq⟩ := hbody A outer s H vs Q E (hr.deeper _) hsp
  have I : Inv (cxOf CX P w K mg base N qual scope f cdv A outer s H E) [] (start N vs) H s1 := inv_start S hr.hd e0 hl r x
  refine wpAny_mono (ht [] s1 (start N vs) H _ I hq) (fun fl s' hs => ?_) fun e s' hs => hs
  have fin : ∀ {σ' : St} {H' : Hp} {v : V} {u : Value}, Inv (cxOf CX P w K mg base N qual scope f cdv A outer s H E) [] σ' H' s' → RelV v u → Q v H' → CE outer P w H s Q u s' :=
    fun {σ' H' v u} J rv q => ⟨v, H', J.os, J.bare, J.base, J.hok, rv, q⟩
  cases fl with
  | ret u =>
    obtain ⟨v, σ', H', J, rv, q⟩ := hs
    exact fin J rv q
  | next =>
    obtain ⟨σ', H', J, q⟩ := hs
    exact fin (v := V.non) (u := Value.none) J rfl q
  | brk =>
    obtain ⟨_, _, _, q⟩ := hs
    exact False.elim q
  | cont =>
    obtain ⟨_, _, _, q⟩ := hs
    exact False.elim q
end L2

namespace L2
open PySem PySem.Spec PyProof.Rows
section
variable {X : Cx} {x : Str} {p pos : Pos} {e : Expr} {es : List Expr} {t : TA} {id T : String} {r : List V → Hp → VK → Prop}

def tCB (r : List V → Hp → VK → Prop) (t : TA) : TE := fun σ H Q => t σ H fun vs H1 => r vs H1 Q
/-- f(e, ..), f a built-in function -/
theorem pe_callB (hc : CallR X (.builtin id) r) (hg : Gl X x) (hm : X.mg x = none) (hv : bootBuiltins x = some (.builtin id)) (ha : PA X (e :: es) t) (hn : x ≠ "__name__" := by decide) (hdb : (x == ("__debug__" : Str)) = false := by decide)
    (he : starEach (e :: es) X.env = (false, eval e X.env) :: starEach es X.env := by rfl) (hpl : (backTo pos (starEach es X.env)).any (·.1) = false := by rfl) : PE X (.Call (.Name x p) (e :: es) [] pos) (tCB r t) := by
  intro pins s σ H Q I h
  refine wpAny_Call_Name_kw (ld_blt I hg hm hv ?_ hn hdb)
  exact PyProof.Rows.callWith_builtin1 (thn (ha pos pins s σ H _ I h) fun us s1 ⟨vs, H1, I1, r1, q1⟩ => hc pins s1 σ H1 vs us Q I1 r1 q1) he hpl
/-- T(e, ..), T a built-in type -/
theorem pe_callTy (hc : CallR X (.type T) r) (hg : Gl X x) (hm : X.mg x = none) (hv : bootBuiltins x = some (.type T)) (ha : PA X (e :: es) t) (hn : x ≠ "__name__" := by decide) (hdb : (x == ("__debug__" : Str)) = false := by decide)
    (he : starEach (e :: es) X.env = (false, eval e X.env) :: starEach es X.env := by rfl) (hpl : (backTo pos (starEach es X.env)).any (·.1) = false := by rfl) : PE X (.Call (.Name x p) (e :: es) [] pos) (tCB r t) := by
  intro pins s σ H Q I h
  refine wpAny_Call_Name_kw (ld_blt I hg hm hv ?_ hn hdb)
  exact PyProof.Rows.callWith_type1 (thn (ha pos pins s σ H _ I h) fun us s1 ⟨vs, H1, I1, r1, q1⟩ => hc pins s1 σ H1 vs us Q I1 r1 q1) he hpl
end
end L2

namespace HT
open PySem PyProof.Rows



section
open PySem.SeqAt
open PySem.AutoSeq1 (wpAny_loadPart')
open PySem.MeetsSeq PySem.MeetsSeq2 PySem.MeetsSeq3

end

section
variable {prog : Program} {w : World} {A : Around} {E : Value → Shared → Prop} {s : Shared}



/-! ### t[a:b], not the whole -/
/-- a slice's bound as a place among n (d where it is left out) -/
def sIx (n d : Nat) : Option Int → Nat
  | none => d
  | some v => if v < 0 then (v + (n : Int)).toNat else min v.toNat n
theorem sIx_nat (n d k : Nat) : sIx n d (some (k : Int)) = min k n := by
  show (if (k : Int) < 0 then ((k : Int) + (n : Int)).toNat else min (k : Int).toNat n) = min k n
  rw [if_neg (by omega), Int.toNat_natCast]

end
end HT

namespace L2
open PySem PySem.Spec PyProof.Rows

/-! ### the parts of a slice -/
abbrev TO := St → Hp → (Option Int → Hp → Prop) → Prop
/-- a slice's part (left out, or an int) -/
def PO (X : Cx) (e : Option Expr) (t : TO) : Prop :=
  ∀ (pins : List (Addr × Obj)) (s : Shared) (σ : St) (H : Hp) (Q : Option Int → Hp → Prop), Inv X pins σ H s → t σ H Q →
    wpAny (model X.prog X.w) X.A (evalPart e X.env) (fun u s' => ∃ o H', Inv X pins σ H' s' ∧ IsPart u o ∧ Q o H') X.xe s
def tPart (t : TE) : TO := fun σ H Q => t σ H fun x H1 => ∃ i, x = .int i ∧ Q (some i) H1


section
variable {X : Cx} {e : Expr} {te : TE} {lo hi : Option Expr} {tl th : TO} {pos p2 : Pos}

theorem po_some (h : PE X e te) : PO X (some e) (tPart te) := by
  intro pins s σ H Q I hw
  rw [evalPart_some]
  refine thn (h pins s σ H _ I hw) fun u s1 ⟨x, H1, I1, r1, q1⟩ => ?_
  obtain ⟨i, rfl, q⟩ := q1
  obtain ⟨t, rfl⟩ := r1
  exact ⟨some i, H1, I1, .int i t, q⟩

/-- what a slice of a value is, by values: the slice object stands at sl -/
def SlR (X : Cx) (r : V → Option Int → Option Int → Hp → VK → Prop) : Prop :=
  ∀ (pins : List (Addr × Obj)) (s : Shared) (σ : St) (H : Hp) (x : V) (v vl vu : Value) (lo hi : Option Int) (sl : Addr) (Q : VK), Inv X pins σ H s → RelV x v → s.heap.IsSliceOf sl vl vu .none → IsPart vl lo → IsPart vu hi → r x lo hi H Q →
    ∃ T id, typeLookup (.type T) "__getitem__" = pure (some (.builtin id)) ∧ s.TypeIs v T ∧ wpAny (model X.prog X.w) X.A (getItem v (.ref sl)) (EP X pins σ Q) X.xe s
def tSl (r : V → Option Int → Option Int → Hp → VK → Prop) (te : TE) (tl th : TO) : TE := fun σ H Q => te σ H fun x H1 => tl σ H1 fun l H2 => th σ H2 fun u H3 => r x l u H3 Q
/-- a[lo:hi], any a -/
theorem pe_slice {r : V → Option Int → Option Int → Hp → VK → Prop} (hr : SlR X r) (he : PE X e te) (hl : PO X lo tl) (hu : PO X hi th) : PE X (.Subscript e (.Slice lo hi none p2) pos) (tSl r te tl th) := by
  intro pins s σ H Q I h
  refine Subscript_ (thn (he pins s σ H _ I h) fun v s1 ⟨x, H1, I1, r1, q1⟩ => ?_)
  refine wpAny_Slice (thn (hl pins s1 σ H1 _ I1 q1) fun vl s2 ⟨l, H2, I2, pl, q2⟩ => thn (hu pins s2 σ H2 _ I2 q2) fun vu s3 ⟨u, H3, I3, pu, q3⟩ => ?_)
  rw [evalPart_none]
  refine wpAny_pure ?_
  have I4 : Inv X pins σ H3 { s3 with heap := s3.heap.push { cls := .type "slice", data := .fields #[vl, vu, .none] } } := I3.kept (t' := s3.toks) fun b ob q => Heap.get?_push_of_some _ q
  obtain ⟨T, id, hT, ht, hg⟩ := hr pins { s3 with heap := s3.heap.push { cls := .type "slice", data := .fields #[vl, vu, .none] } } σ H3 x v vl vu l u s3.heap.objs.size Q I4 r1 (Heap.IsSliceOf.new ..) pl pu q3
  show wpAny (model X.prog X.w) X.A (subscriptTail e (.Slice lo hi none p2) v (.ref s3.heap.objs.size)) (EP X pins σ Q) X.xe { s3 with heap := s3.heap.push { cls := .type "slice", data := .fields #[vl, vu, .none] } }
  exact tail_any (ops := [.ref s3.heap.objs.size, v]) ht hT hg (by with_unfolding_all rfl)

/-- the items of xs[lo:hi] -/
def cutV (xs : List V) (lo hi : Option Int) : List V := (xs.drop (HT.sIx xs.length 0 lo)).take (HT.sIx xs.length xs.length hi - HT.sIx xs.length 0 lo)
theorem cutV_length (xs : List V) (lo hi : Option Int) : (cutV xs lo hi).length ≤ xs.length := by
  unfold cutV
  rw [List.length_take, List.length_drop]
  omega

/-! ### t < u, t + u -/
end
end L2

namespace L2
open PySem PySem.Spec PyProof.Rows

/-! ### places -/
/-- the place that an index of any sign means -/
def ixN (n : Nat) (i : Int) : Option Nat := if 0 ≤ i then (if i < n then some i.toNat else none) else if -(n : Int) ≤ i then some (i + n).toNat else none
def atI {α : Type} (xs : List α) (i : Int) : Option α := (ixN xs.length i).bind fun j => xs[j]?
theorem ixN_seq {n : Nat} {i : Int} {j : Nat} (h : ixN n i = some j) : seqIndex? i n = some j ∧ j < n ∧ -(n : Int) ≤ i ∧ i < n := by
  unfold ixN at h
  by_cases h0 : 0 ≤ i
  · rw [if_pos h0] at h
    by_cases h1 : i < n
    · rw [if_pos h1] at h
      have e : i.toNat = j := Option.some.inj h
      exact ⟨by rw [seqIndex_of h0 h1, e], by omega, by omega, h1⟩
    · rw [if_neg h1] at h; cases h
  · rw [if_neg h0] at h
    by_cases h1 : -(n : Int) ≤ i
    · rw [if_pos h1] at h
      have e : (i + n).toNat = j := Option.some.inj h
      exact ⟨by rw [seqIndex_neg (by omega) h1, e], by omega, h1, by omega⟩
    · rw [if_neg h1] at h; cases h
theorem atI_get {α : Type} {xs : List α} {i : Int} {v : α} (h : atI xs i = some v) : ∃ j, seqIndex? i xs.length = some j ∧ xs[j]? = some v ∧ j < xs.length ∧ -(xs.length : Int) ≤ i ∧ i < xs.length := by
  unfold atI at h
  cases e : ixN xs.length i with
  | none => rw [e] at h; cases h
  | some j =>
    rw [e] at h
    obtain ⟨h1, h2, h3, h4⟩ := ixN_seq e
    exact ⟨j, h1, h, h2, h3, h4⟩
theorem atI_nat {α : Type} {xs : List α} {j : Nat} {v : α} (h : xs[j]? = some v) : atI xs (j : Int) = some v := by
  have hj : j < xs.length := (List.getElem?_eq_some_iff.mp h).1
  have e : ixN xs.length (j : Int) = some j := by
    unfold ixN
    rw [if_pos (by omega), if_pos (by omega)]; simp
  unfold atI; rw [e]; exact h

/-! ### what may be subscripted -/
/-- what stands as an index of a plain subscript -/
def PlainIx (b : Expr) : Prop := ∀ o i, subscripted b false o i = operate [o, i] (getItem o i)
/-- a subscript by values -/
def IxR (X : Cx) (r : R2) : Prop :=
  ∀ (value slice : Expr) (pins : List (Addr × Obj)) (s : Shared) (σ : St) (H : Hp) (x y : V) (v u : Value) (Q : VK), Inv X pins σ H s → RelV x v → RelV y u → r x y H Q →
    subscripted slice false v u = operate [v, u] (getItem v u) → wpAny (model X.prog X.w) X.A (subscriptTail value slice v u) (EP X pins σ Q) X.xe s
/-- a call of a builtin's method by values: the receiver, the arguments -/
def MtR (X : Cx) (id : String) (r : V → List V → Hp → VK → Prop) : Prop :=
  ∀ (pins : List (Addr × Obj)) (s : Shared) (σ : St) (H : Hp) (x : V) (xs : List V) (v : Value) (us : List Value) (Q : VK), Inv X pins σ H s → RelV x v → Vals xs us → r x xs H Q →
    wpAny (model X.prog X.w) X.A (call (.builtin id) (v :: us)) (EP X pins σ Q) X.xe s
section
variable {X : Cx} {a b : Expr} {ta tb : TE} {pos : Pos}
/-- a[b] -/
theorem pe_ix {r : R2} (hr : IxR X r) (ha : PE X a ta) (hb : PE X b tb) (hs : PlainIx b) : PE X (.Subscript a b pos) (tOp r ta tb) := by
  intro pins s σ H Q I h
  exact Subscript_ (binT ha hb I h fun v u s2 x y H2 I2 rx ry q => hr a b pins s2 σ H2 x y v u Q I2 rx ry q (hs _ _))

def rIxL (K : PySem.W.Frag) : R2 := fun x y H Q => ∃ p xs i v, x = .ref p ∧ y = .int i ∧ SqL K H p xs ∧ atI xs i = some v ∧ Q v H
theorem ix_list : IxR X (rIxL X.K) := by
  intro value slice pins s σ H x y v u Q I rx ry h hs
  obtain ⟨p, xs, i, z, rfl, rfl, hq, he, q⟩ := h
  cases rx
  obtain ⟨t, rfl⟩ := ry
  obtain ⟨its, r, pl, hz⟩ := I.list hq
  obtain ⟨j, h1, h2, h3, h4, h5⟩ := atI_get he
  obtain ⟨w, ew, rw'⟩ := r.get h2
  have hl := r.length
  have hn := line63
  have fin : EP X pins σ Q w s := ⟨z, H, I, rw', q⟩
  by_cases h0 : 0 ≤ i
  · have hj : i.toNat = j := by
      rw [seqIndex_of h0 h5] at h1
      exact Option.some.inj h1
    exact item_listR pl.isList h0 (by omega) (by rw [hj]; simpa using ew) fin hs
  · have hj : (i + (its.toArray.size : Int)).toNat = j := by
      rw [seqIndex_neg (by omega) h4] at h1
      rw [List.size_toArray, ← hl]
      exact Option.some.inj h1
    exact subscriptTail_builtinR (x := w) pl.isList.typeIs slot_list_getitem.lookup
      (wpAny_getItem_list_neg (Q := fun r s' => r = w ∧ EP X pins σ Q r s') pl.isList (by omega) (by rw [List.size_toArray] <;> omega) (by omega) (by rw [hj]; simpa using ew) ⟨rfl, fin⟩) hs

/-! ### xs[i] = v, any sign -/
/-- the list's object behind a store -/
theorem mapSeq_set (its : List Value) (n j : Nat) (u : Value) : Obj.mapSeq (·.setIfInBounds j u) { cls := .type "list", data := .seq its.toArray n } = { cls := .type "list", data := .seq (its.set j u).toArray n } := by
  simp [Obj.mapSeq]
theorem Inv.lst {pins : List (Addr × Obj)} {σ : St} {H : Hp} {s : Shared} {p : Addr} {xs : List V} (I : Inv X pins σ H s) (h : H p = some (.lst xs)) :
    ∃ (its : List Value) (n : Nat), Vals xs its ∧ s.heap.get? p = some { cls := .type "list", data := .seq its.toArray n } ∧ xs.length ≤ sizeLine := by
  obtain ⟨z, its, n, r, e⟩ := I.hok p _ h
  exact ⟨its, n, r, e, z⟩
/-- the list at p is written by an update of its object -/
theorem Inv.lstUpd {pins : List (Addr × Obj)} {σ : St} {H : Hp} {s : Shared} {p : Addr} {xs ys : List V} {its its' : List Value} {n n' : Nat} {f : Obj → Obj} (I : Inv X pins σ H s) (h : H p = some (.lst xs))
    (ho : s.heap.get? p = some { cls := .type "list", data := .seq its.toArray n }) (hf : f { cls := .type "list", data := .seq its.toArray n } = { cls := .type "list", data := .seq its'.toArray n' }) (r : Vals ys its') (hz : ys.length ≤ sizeLine) (t : Nat) :
    Inv X pins σ (upd H p (.lst ys)) { s with heap := s.heap.update p f, toks := t } := by
  have e : (s.heap.update p f).get? p = some { cls := .type "list", data := .seq its'.toArray n' } := by
    rw [Heap.get?_update_self f ho (by rw [hf] <;> rfl), hf]
  refine I.write (x := p) (e := p) (by rw [h]; trivial) (.inl rfl) (fun b u hb q => (Heap.get?_update_other _ _ (Ne.symm hb)).trans q) ⟨_, e⟩ ?_
  exact ⟨hz, its', n', r, e⟩
def rSetL : V → V → V → Hp → (Hp → Prop) → Prop := fun o i v H Q => ∃ p xs k j, o = .ref p ∧ i = .int k ∧ H p = some (.lst xs) ∧ ixN xs.length k = some j ∧ Q (upd H p (.lst (xs.set j v)))
theorem set_list : PSet X rSetL := by
  intro pins s σ H o i v ov iv u Q I ro ri rv h
  obtain ⟨p, xs, k, j, rfl, rfl, hp, hj, q⟩ := h
  cases ro
  obtain ⟨t, rfl⟩ := ri
  obtain ⟨its, n, r, ho, hz⟩ := I.lst hp
  obtain ⟨h1, h2, h3, h4⟩ := ixN_seq hj
  have hl := r.length
  have hn := line63
  have I' : Inv X pins σ (upd H p (.lst (xs.set j v))) { s with heap := s.heap.update p (Obj.mapSeq (·.setIfInBounds j u)) } :=
    I.lstUpd hp ho (mapSeq_set its n j u) (r.set rv j) (by rw [List.length_set]; exact hz) s.toks
  by_cases h0 : 0 ≤ k
  · have hk : k.toNat = j := by
      rw [seqIndex_of h0 h4] at h1
      exact Option.some.inj h1
    exact PySem.W.ki_setAt ho h0 (by omega) (by rw [List.size_toArray, ← hl]; exact h4) (by rw [hk]; exact ⟨_, I', q⟩)
  · have hk : (k + (its.toArray.size : Int)).toNat = j := by
      rw [seqIndex_neg (by omega) h3] at h1
      rw [List.size_toArray, ← hl]
      exact Option.some.inj h1
    exact PySem.W.ki_setBack ho (by omega) (by rw [List.size_toArray, ← hl]; exact h3) (by omega) (by rw [hk]; exact ⟨_, I', q⟩)

/-! ### slices -/
theorem slice_bounds (lo hi : Option Int) (n : Nat) : (sliceBounds lo hi none n).1 = ((HT.sIx n 0 lo : Nat) : Int) ∧ (sliceBounds lo hi none n).2.1 = ((HT.sIx n n hi : Nat) : Int) ∧ (sliceBounds lo hi none n).2.2 = 1 := by
  refine ⟨?_, ?_, rfl⟩
  · cases lo with
    | none => simp [sliceBounds, HT.sIx]
    | some i =>
      simp only [sliceBounds, HT.sIx, Option.getD_none, show (1 : Int) > 0 by decide, if_true]
      by_cases h : i < 0
      · simp only [h, if_true] <;> omega
      · simp only [h, if_false] <;> omega
  · cases hi with
    | none => simp [sliceBounds, HT.sIx]
    | some i =>
      simp only [sliceBounds, HT.sIx, Option.getD_none, show (1 : Int) > 0 by decide, if_true]
      by_cases h : i < 0
      · simp only [h, if_true] <;> omega
      · simp only [h, if_false] <;> omega
theorem slicePick_cut (its : List Value) (lo hi : Option Int) : slicePick its.toArray lo hi none = ((its.drop (HT.sIx its.length 0 lo)).take (HT.sIx its.length its.length hi - HT.sIx its.length 0 lo)).toArray := by
  obtain ⟨h1, h2, h3⟩ := slice_bounds lo hi its.toArray.size
  unfold slicePick
  rw [h1, h2, h3]
  simp only [sliceRange_one, pick_run, List.size_toArray] <;> rfl
/-- xs[lo:hi] of a list: a new list -/
def rSlL (K : PySem.W.Frag) : V → Option Int → Option Int → Hp → VK → Prop := fun x lo hi H Q => ∃ a xs, x = .ref a ∧ SqL K H a xs ∧ ∀ p, H p = none → Q (.ref p) (upd H p (.lst (cutV xs lo hi)))
theorem sl_list : SlR X (rSlL X.K) := by
  intro pins s σ H x v vl vu lo hi sl Q I rx hs pl pu h
  obtain ⟨a, xs, rfl, hx, q⟩ := h
  cases rx
  obtain ⟨its, r, ht, hz⟩ := I.list hx
  have hlen := r.length
  refine ⟨"list", _, slot_list_getitem.lookup, ht.isList.typeIs, ?_⟩
  refine wpAny_getItem_list_slice ht.isList hs pl pu .none (by simp) ?_ (by rw [List.size_toArray] <;> omega)
  rw [slicePick_cut, ← hlen]
  refine ⟨.ref s.heap.objs.size, _, I.laid (t' := s.toks) (o := .lst (cutV xs lo hi)) (fun b ob q => Heap.get?_push_of_some _ q) (Nat.le_refl _) ?_, rfl, q _ (I.hok.fresh (Nat.le_refl _))⟩
  exact ⟨Nat.le_trans (cutV_length xs lo hi) hz, _, 0, (r.drop (HT.sIx xs.length 0 lo)).take (HT.sIx xs.length xs.length hi - HT.sIx xs.length 0 lo), Heap.get?_push_size _ rfl⟩

/-! ### in, not in: flat items -/

/-! ### len, list(x), tuple(x) of any list or tuple that is read -/
theorem call_len_seq : CallR X (.builtin "len") (fun xs H Q => ∃ p ys, xs = [.ref p] ∧ (SqL X.K H p ys ∨ SqT X.K H p ys) ∧ Q (.int ys.length) H) := by
  intro pins s σ H xs us Q I r h
  obtain ⟨p, ys, rfl, hq, q⟩ := h
  obtain ⟨u, rfl, rx⟩ := vals1 r
  cases rx
  have hn := line63
  rcases hq with hq | hq
  · obtain ⟨its, r', pl, hz⟩ := I.list hq
    have hlen := r'.length
    exact Calls.call_len_list pl.isList (by simp only [List.size_toArray] <;> omega) ⟨.int ys.length, H, I.tok _, ⟨s.toks + 1, by rw [List.size_toArray, hlen]⟩, q⟩
  · obtain ⟨its, r', pl, hz⟩ := I.tuple hq
    have hlen := r'.length
    exact len_tuple pl (by simp only [List.size_toArray] <;> omega) ⟨.int ys.length, H, I.tok _, ⟨s.toks + 1, by rw [List.size_toArray, hlen]⟩, q⟩

/-! ### the call of a builtin's method: o.m(..) -/
/-- the value is of that builtin type -/
def tyV (K : PySem.W.Frag) (T : String) (x : V) (H : Hp) : Prop := match x with
  | .str _ => T = "str"
  | .int _ => T = "int"
  | .ref p => (T = "list" ∧ ∃ xs, SqL K H p xs) ∨ (T = "tuple" ∧ ∃ o, K.lookup p = some o ∧ o.cls = .type "tuple" ∧ o.dict = none) ∨
      (T = "dict" ∧ ((∃ kvs, H p = some (.dK kvs)) ∨ ∃ kvs, H p = some (.dT kvs))) ∨ (T = "set" ∧ ∃ S n, H p = some (.set S n))
  | _ => False
theorem tyV_is {pins : List (Addr × Obj)} {σ : St} {H : Hp} {s : Shared} {T : String} {x : V} {v : Value} (I : Inv X pins σ H s) (r : RelV x v) (ty : tyV X.K T x H) :
    s.TypeIs v T ∧ ∀ a, v = .ref a → ∃ ob, s.heap.get? a = some ob ∧ ob.dict = none := by
  cases x with
  | str z =>
    obtain ⟨t, rfl⟩ := r
    cases (show T = "str" from ty)
    exact ⟨typeIs_str s z t, fun _ e => nomatch e⟩
  | int i =>
    obtain ⟨t, rfl⟩ := r
    cases (show T = "int" from ty)
    exact ⟨typeIs_int s i t, fun _ e => nomatch e⟩
  | ref p =>
    cases r
    rcases ty with ⟨rfl, xs, hq⟩ | ⟨rfl, o, hk, hc, hd⟩ | ⟨rfl, hk⟩ | ⟨rfl, S, n, hk⟩
    · obtain ⟨its, _, pl, _⟩ := I.list hq
      refine ⟨pl.isList.typeIs, fun a e => ?_⟩
      cases e
      obtain ⟨o, n, e, c, hd, _⟩ := pl
      exact ⟨o, e, hd⟩
    · refine ⟨⟨o, I.kIn p o hk, hc⟩, fun a e => ?_⟩
      cases e
      exact ⟨o, I.kIn _ o hk, hd⟩
    · have z : ∃ o, s.heap.get? p = some o ∧ o.ExactDict := by
        rcases hk with ⟨kvs, hk⟩ | ⟨kvs, hk⟩
        · obtain ⟨_, _, _, _, o, _, _, e, ex, _⟩ := I.hok p _ hk
          exact ⟨o, e, ex⟩
        · obtain ⟨_, _, _, _, o, _, _, e, ex, _⟩ := I.hok p _ hk
          exact ⟨o, e, ex⟩
      obtain ⟨o, e, ex⟩ := z
      refine ⟨⟨o, e, ex.1⟩, fun a e2 => ?_⟩
      cases e2
      exact ⟨o, e, ex.2.1⟩
    · obtain ⟨o, _, _, _, e, ex, _⟩ := I.hok p _ hk
      refine ⟨⟨o, e, ex.1⟩, fun a e2 => ?_⟩
      cases e2
      exact ⟨o, e, ex.2.1⟩
  | _ => exact False.elim ty
def tBM (K : PySem.W.Frag) (T : String) (r : V → List V → Hp → VK → Prop) (to : TE) (t : TA) : TE := fun σ H Q => to σ H fun x H1 => tyV K T x H1 ∧ t σ H1 fun xs H2 => r x xs H2 Q
variable {o e : Expr} {es : List Expr} {to : TE} {t : TA} {name : Str} {apos cpos : Pos} {T id : String} {r : V → List V → Hp → VK → Prop}
theorem pe_bm (pa : PlainAttrs T) (slot : Slot T name id) (hty : typeOf (.builtin id) = pure (.type "method_descriptor")) (hm : MtR X id r) (ho : PE X o to) (ha : PA X (e :: es) t)
    (hbase : attributeBase o name X.env (eval o X.env) = eval o X.env := by rfl)
    (hfew : ((backTo cpos (starEach (e :: es) X.env)).all (fun x => !x.1) && (backToKw cpos (keywordEach [] X.env)).all (fun x => x.1.isSome)
      && decide ((e :: es).length + ([] : List Keyword).length + (if ([] : List Keyword).isEmpty then 0 else 1) < 30)) = true := by rfl)
    (hline : (apos.endLine == cpos.line) = true := by rfl) (hs : starEach (e :: es) X.env = (false, eval e X.env) :: starEach es X.env := by rfl) (hplain : (backTo cpos (starEach es X.env)).any (·.1) = false := by rfl) :
    PE X (.Call (.Attribute o name apos) (e :: es) [] cpos) (tBM X.K T r to t) := by
  intro pins s σ H Q I h
  refine wpAny_Call_method_late hbase hfew hline rfl (thn (ho pins s σ H _ I h) fun v s1 ⟨x, H1, I1, r1, ty, q1⟩ => ?_)
  obtain ⟨h1, h2⟩ := tyV_is I1 r1 ty
  refine ⟨T, id, pa, slot, hty, h1, h2, ?_⟩
  have hA := ha cpos pins s1 σ H1 _ I1 q1
  rw [hs] at hA ⊢
  refine Calls.callWith_builtin (by show (false || (backTo cpos (starEach es X.env)).any (·.1)) = false; rw [hplain] <;> rfl) (Calls.evalArgs_plain ?_)
  exact thn hA fun us s2 ⟨vs, H2, I2, r2, q2⟩ => hm pins s2 σ H2 x vs v us Q I2 r1 r2 q2
/- xs.append(e), list.index on a module's tuple .. are MtR facts of 06m -/
end
end L2

namespace L2
open PySem PySem.Spec PyProof.Rows

def MtM (X : Cx) (id : String) (r : V → List V → Hp → VK → Prop) : Prop :=
  ∀ (pins : List (Addr × Obj)) (s : Shared) (σ : St) (H : Hp) (x : V) (xs : List V) (v : Value) (us : List Value) (Q : VK), Inv X pins σ H s → RelV x v → Vals xs us → r x xs H Q →
    wpAny (model X.prog X.w) X.A (call (.builtin id) (v :: us)) (EP X pins σ Q) X.xe s

/-! ### lists of values -/
theorem Vals.one : ∀ {x : V} {us : List Value}, Vals [x] us → ∃ u, us = [u] ∧ RelV x u
  | _, _, .cons r .nil => ⟨_, rfl, r⟩
theorem Vals.rep {xs : List V} {us : List Value} (h : Vals xs us) : ∀ k : Nat, Vals (List.replicate k xs).flatten (List.replicate k us).flatten
  | 0 => .nil
  | k + 1 => by
    rw [List.replicate_succ, List.replicate_succ, List.flatten_cons, List.flatten_cons]
    exact Vals.append h (Vals.rep h k)
theorem foldl_rep (its : List Value) : ∀ (k : Nat) (acc : List Value),
    List.foldl (fun x1 x2 => x1 ++ x2) acc.toArray (List.replicate k its.toArray) = (acc ++ (List.replicate k its).flatten).toArray
  | 0, acc => by simp
  | k + 1, acc => by
    have e : acc.toArray ++ its.toArray = (acc ++ its).toArray := by simp
    have e2 : (acc ++ its) ++ (List.replicate k its).flatten = acc ++ (List.replicate (k + 1) its).flatten := by
      rw [List.replicate_succ, List.flatten_cons, List.append_assoc]
    rw [← e2, ← foldl_rep its k (acc ++ its), ← e, List.replicate_succ, List.foldl_cons]

section
variable {X : Cx} {pins : List (Addr × Obj)} {σ : St} {H : Hp} {s : Shared} {l b : Addr} {xs ys zs : List V}

/-! ### the two steps: a tracked list is rewritten, a new list is laid -/
theorem Inv.lset {its its' : List Value} {n : Nat} {f : Array Value → Array Value} {t' : Nat} (I : Inv X pins σ H s) (hH : H l = some (.lst xs))
    (e : s.heap.get? l = some { cls := .type "list", data := .seq its.toArray n }) (hf : f its.toArray = its'.toArray) (hv : Vals ys its') (hz : ys.length ≤ sizeLine) :
    Inv X pins σ (upd H l (.lst ys)) { s with heap := s.heap.update l (Obj.mapSeq f), toks := t' } := by
  have q := PySem.IsL.update e f
  rw [hf] at q
  refine I.write (x := l) (e := l) (by rw [hH]; exact trivial) (.inl rfl) (fun b' u hb hu => (Heap.get?_update_other s.heap (Obj.mapSeq f) (Ne.symm hb)).trans hu) ⟨_, q⟩ ?_
  exact ⟨hz, its', _, hv, q⟩
theorem Inv.lnew {its : List Value} {t' : Nat} (I : Inv X pins σ H s) (hv : Vals ys its) (hz : ys.length ≤ sizeLine) :
    Inv X pins σ (upd H s.heap.objs.size (.lst ys)) { s with heap := s.heap.push { cls := .type "list", data := .seq its.toArray }, toks := t' } :=
  I.laid (fun _ _ q => Heap.get?_push_of_some _ q) (Nat.le_refl _) ⟨hz, its, 0, hv, Heap.get?_push_size _ rfl⟩
theorem Inv.fresh (I : Inv X pins σ H s) : H s.heap.objs.size = none := I.hok.fresh (Nat.le_refl _)
theorem Inv.lstM (I : Inv X pins σ H s) (hH : H l = some (.lst xs)) : xs.length ≤ sizeLine ∧ ∃ (its : List Value) (n : Nat), Vals xs its ∧ xs.length = its.length ∧ s.heap.get? l = some { cls := .type "list", data := .seq its.toArray n } := by
  obtain ⟨z, its, n, r, e⟩ := I.hok l _ hH
  exact ⟨z, its, n, r, r.length, e⟩

theorem notLongL {n : Nat} (h : n ≤ sizeLine) : Builtin.List.listTooLong n = false := by
  unfold Builtin.List.listTooLong
  exact decide_eq_false (by omega)
end

section
variable {X : Cx}

/-! ### methods -/
def rAppend : V → List V → Hp → VK → Prop := fun x vs H Q => ∃ l xs y, x = .ref l ∧ vs = [y] ∧ H l = some (.lst xs) ∧ xs.length < sizeLine ∧ Q .non (upd H l (.lst (xs ++ [y])))
theorem mt_append : MtM X "list.append" rAppend := by
  intro pins s σ H x vs v us Q I rx rv h
  obtain ⟨l, xs, y, rfl, rfl, hH, hz, q⟩ := h
  cases rx
  obtain ⟨u, rfl, ru⟩ := rv.one
  obtain ⟨z, its, n, r, hl, e⟩ := I.lstM hH
  refine call_meets F.slot_list_append ⟨_, e, rfl⟩ F.entry_list_append (F.args_list_append_2 _ _) (PySem.list_append l its.toArray n u (by rw [List.size_toArray]; omega)) ⟨e, ?_⟩
  refine ⟨.non, _, I.lset (its' := its ++ [u]) hH e (by simp) (r.append (.cons ru .nil)) ?_, rfl, q⟩
  rw [List.length_append, List.length_singleton]
  omega

def rExtend : V → List V → Hp → VK → Prop := fun x vs H Q => ∃ l b xs zs, x = .ref l ∧ vs = [.ref b] ∧ H l = some (.lst xs) ∧ H b = some (.lst zs) ∧ xs.length + zs.length ≤ sizeLine ∧ Q .non (upd H l (.lst (xs ++ zs)))
theorem mt_extend : MtM X "list.extend" rExtend := by
  intro pins s σ H x vs v us Q I rx rv h
  obtain ⟨l, b, xs, zs, rfl, rfl, hH, hB, hz, q⟩ := h
  cases rx
  obtain ⟨u, rfl, ru⟩ := rv.one
  cases ru
  obtain ⟨z, its, n, r, hl, e⟩ := I.lstM hH
  obtain ⟨z2, its2, n2, r2, hl2, e2⟩ := I.lstM hB
  have hsz : its.toArray.size + its2.toArray.size ≤ sizeLine := by rw [List.size_toArray, List.size_toArray]; omega
  have hlong : ¬ (!its.toArray.isEmpty && Builtin.List.listTooLong (its.toArray.size + its2.toArray.size)) = true := by
    rw [notLongL hsz, Bool.and_false]
    exact Bool.false_ne_true
  refine call_meets F.slot_list_extend ⟨_, e, rfl⟩ F.entry_list_extend (F.args_list_extend_2 _ _)
    (AutoSeq1.list_extend_list_list_0 l its.toArray n b its2.toArray n2 hlong (by rw [List.size_toArray]; omega) (by omega)) ⟨e, e2, ?_⟩
  refine ⟨.non, _, I.lset (its' := its ++ its2) hH e (by simp) (r.append r2) ?_, rfl, q⟩
  rw [List.length_append]
  omega





/-! ### list + list, list += list, list * int -/
def rCat : R2 := fun x y H Q => ∃ l b xs zs, x = .ref l ∧ y = .ref b ∧ H l = some (.lst xs) ∧ H b = some (.lst zs) ∧ xs.length + zs.length ≤ sizeLine ∧ ∀ p, H p = none → Q (.ref p) (upd H p (.lst (xs ++ zs)))
theorem op_cat : OpR X (binaryOp .Add) rCat := by
  intro pins s σ H x y v u Q I rx ry h
  obtain ⟨l, b, xs, zs, rfl, rfl, hH, hB, hz, q⟩ := h
  cases rx
  cases ry
  obtain ⟨z, its, n, r, hl, e⟩ := I.lstM hH
  obtain ⟨z2, its2, n2, r2, hl2, e2⟩ := I.lstM hB
  refine PySem.P.add_list e e2 ?_ (by rw [List.size_toArray, List.size_toArray]; omega)
  have ea : its.toArray ++ its2.toArray = (its ++ its2).toArray := by simp
  rw [ea]
  exact ⟨.ref _, _, I.lnew (t' := s.toks) (r.append r2) (by rw [List.length_append]; omega), rfl, q _ I.fresh⟩
/-- a list times an int (a negative one is nothing) -/
def rRep : R2 := fun x y H Q => ∃ l k xs, x = .ref l ∧ y = .int k ∧ H l = some (.lst xs) ∧ -(2 ^ 63) ≤ k ∧ k < 2 ^ 63 ∧ xs.length * k.toNat ≤ sizeLine ∧
  ∀ p, H p = none → Q (.ref p) (upd H p (.lst (List.replicate k.toNat xs).flatten))
theorem len_rep {α : Type} (xs : List α) (k : Nat) : (List.replicate k xs).flatten.length = k * xs.length := by
  induction k with
  | zero => simp
  | succ k ih => rw [List.replicate_succ, List.flatten_cons, List.length_append, ih, Nat.succ_mul, Nat.add_comm]
theorem op_rep : OpR X (binaryOp .Mult) rRep := by
  intro pins s σ H x y v u Q I rx ry h
  obtain ⟨l, k, xs, rfl, rfl, hH, h1, h2, hz, q⟩ := h
  cases rx
  obtain ⟨t, rfl⟩ := ry
  obtain ⟨z, its, n, r, hl, e⟩ := I.lstM hH
  have hlen : its.toArray.size * k.toNat ≤ sizeLine := by rw [List.size_toArray, ← hl]; exact hz
  have hcap : ¬ its.toArray.size * k.toNat > (2 ^ 63 - 1) / 8 := by
    have : (sizeLine : Nat) ≤ (2 ^ 63 - 1) / 8 := by decide
    omega
  have hfit : ¬ (!Builtin.List.listFitsIndex k) = true := by
    rw [fitsIndex_both h1 h2]
    exact Bool.false_ne_true
  have hlong : ¬ Builtin.List.listTooLong (its.toArray.size * k.toNat) = true := by
    rw [notLongL hlen]
    exact Bool.false_ne_true
  have hnew : List.foldl (fun x1 x2 => x1 ++ x2) #[] (List.replicate (if its.toArray.isEmpty = true then 0 else k.toNat) its.toArray) = (List.replicate k.toNat its).flatten.toArray := by
    have f0 : ∀ m : Nat, List.foldl (fun x1 x2 => x1 ++ x2) #[] (List.replicate m its.toArray) = (List.replicate m its).flatten.toArray := fun m => by
      have := foldl_rep its m []
      rw [List.nil_append] at this
      exact this
    rw [f0]
    cases its with
    | nil => simp
    | cons a r' => rw [if_neg (by simp)]
  refine wpAny_binaryOp_repeat_ref (T := "list") (U := "int") (by decide) ⟨_, e, rfl⟩ (fun s' => typeIs_int s' k t) noFill_list_mul F.fills_int_mul F.slot_int_rmul repeat_list F.slot_int_index.lookup
    (call_meets F.slot_int_rmul (typeIs_int s k t) F.entry_int_rmul (F.args_int_rmul_2 _ _) (int___rmul___int_list k t l its.toArray n)
      ⟨e, rfl, ⟨_, e, rfl⟩, call_meets F.slot_list_mul ⟨_, e, rfl⟩ F.entry_list_mul (F.args_list_mul_2 _ _) (AutoListH.list___mul___list_int_3 l its.toArray n k t hfit hcap hlong) ⟨e, ?_⟩⟩)
  rw [hnew]
  exact ⟨.ref _, _, I.lnew (t' := s.toks) (r.rep k.toNat) (by rw [len_rep, Nat.mul_comm]; exact hz), rfl, q _ I.fresh⟩

/-! ### del xs[i] -/
end

/-! ### xs[a:b] = ys -/
section
variable {prog : Program} {w : World} {A : Around} {E : Value → Shared → Prop} {s : Shared}
set_option maxRecDepth 100000 in
end

section
variable {X : Cx}
end
end L2

namespace L2
open PySem PySem.Spec PyProof.Rows

theorem Vals.ints : ∀ {ns : List Int} {us : List Value}, Vals (ns.map V.int) us → IntsAre us ns
  | [], us, h => by
    rw [List.map_nil] at h
    cases h
    exact IntsAre.nil
  | n :: ns, us, h => by
    rw [List.map_cons] at h
    cases h with
    | cons r t =>
      obtain ⟨k, rfl⟩ := r
      exact IntsAre.cons n k (Vals.ints t)
theorem Vals.bls : ∀ {bs : List Bool} {us : List Value}, Vals (bs.map V.bl) us → us = bs.map Value.bool
  | [], us, h => by
    rw [List.map_nil] at h
    cases h
    rfl
  | b :: bs, us, h => by
    rw [List.map_cons] at h
    cases h with
    | cons r t =>
      cases r
      rw [Vals.bls t, List.map_cons]
theorem Vals.ref1 {a : Addr} {us : List Value} (r : Vals [V.ref a] us) : us = [Value.ref a] := by
  cases r with
  | cons r t =>
    cases t
    cases r
    rfl

/-! ### the library's walks over a list of ints, kept objects alone -/
section
variable {prog : Program} {w : World} {A : Around} {E : Value → Shared → Prop} {s : Shared} {l : Addr} {its : List Value} {ns : List Int} {Q : Value → Shared → Prop}
theorem sum_raw (hh : A.handled = none) (hl : s.heap.IsList l its.toArray) (hi : IntsAre its ns)
    (h : ∀ h' tk t', (∀ b o, s.heap.get? b = some o → h'.get? b = some o) → Q (.int ns.sum t') { s with heap := h', toks := tk }) : wpAny (model prog w) A (call (.builtin "sum") [.ref l]) Q E s := by
  obtain ⟨xs, e⟩ := hi.allInts.items
  have hn : numsOf (intItems xs).toList = ns := by rw [← e]; exact hi.numsOf
  rw [nums_intItems] at hn
  rw [e] at hl
  refine PySem.sum_intListG hh hl fun h' tk t' hk => ?_
  have := h h' tk t' hk
  rw [preSum_eq, List.take_of_length_le (by simp), hn]; exact this
end

/-! ### the calls, by values (CallR of 03t; MtR of 06l) -/
section
variable {X : Cx}
/-- sum(xs) of a list of ints -/
def rSum (K : PySem.W.Frag) : List V → Hp → VK → Prop := fun vs H Q => ∃ (a : Addr) (ns : List Int), vs = [V.ref a] ∧ SqL K H a (ns.map V.int) ∧ Q (.int ns.sum) H
theorem cr_sum (hc : X.calm = true) : CallR X (.builtin "sum") (rSum X.K) := by
  intro pins s σ H vs us Q I r h
  obtain ⟨a, ns, rfl, hs, q⟩ := h
  obtain ⟨its, rv, hl, _⟩ := I.list hs
  rw [Vals.ref1 r]
  exact sum_raw (I.ok.hd hc) hl.isList rv.ints fun h' tk t' hk => ⟨.int _, H, I.kept hk, ⟨_, rfl⟩, q⟩

/-! sorted, sort (fewer than 64 items: the library's own bound) -/
end

/-! ### list.index, flat items -/
section
variable {X : Cx}
end

/-! ### type(x) of an own instance; is, is not of a module's class -/
section
variable {X : Cx}
end

/-! ### any(xs), all(xs) of a list of bools -/
theorem iter_any {prog : Program} {w : World} {A : Around} {E : Value → Shared → Prop} {s : Shared} {l : Addr} {items : Array Value} {Q : Value → Shared → Prop} (hl : s.heap.IsList l items)
    (h : ∀ s₂ : Shared, s₂ = { s with heap := s.heap.push { cls := .type "list_iterator", data := .fields #[.ref l, .int 0 0] } } →
      (s₂.heap.IsListIter s.heap.objs.size l 0 ∧ s₂.heap.IsList l items) → l ≠ s.heap.objs.size → Q (.ref s.heap.objs.size) s₂) : wpAny (model prog w) A (pyIter (.ref l)) Q E s := by
  have hlt : l < s.heap.objs.size := by obtain ⟨_, e, _⟩ := hl; exact Heap.lt_size e
  exact wpAny_pyIter_list hl (h _ rfl ⟨⟨_, Heap.get?_push_size _ rfl, rfl, rfl⟩, hl.push _⟩ (Nat.ne_of_lt hlt))
theorem truth_bools {prog : Program} {w : World} {A : Around} {bs : List Bool} {its : List Value} (e : its = bs.map Value.bool) :
    TruthOf prog w A (fun i v => its.toArray[i]? = some v) (fun i => bs.getD i false) := fun i v s Q E hv hq => by
  have hv' : its[i]? = some v := by simpa using hv
  rw [e, List.getElem?_map] at hv'
  obtain ⟨b, hb, rfl⟩ := Option.map_eq_some_iff.mp hv'
  have hg : bs.getD i false = b := by rw [List.getD_eq_getElem?_getD, hb] <;> rfl
  have hq' : Q (bs.getD i false) s := hq
  rw [hg] at hq'
  exact wpAny_truthy_bool hq'
theorem any_range : ∀ bs : List Bool, (List.range bs.length).any (fun i => bs.getD i false) = bs.any id
  | [] => rfl
  | b :: bs => by
    rw [List.length_cons, List.range_succ_eq_map, List.any_cons, List.any_map, List.any_cons, ← any_range bs]
    all_goals rfl
section
variable {X : Cx}
def rAny (K : PySem.W.Frag) : List V → Hp → VK → Prop := fun vs H Q => ∃ (a : Addr) (bs : List Bool), vs = [V.ref a] ∧ SqL K H a (bs.map V.bl) ∧ Q (.bl (bs.any id)) H
theorem cr_any (hc : X.calm = true) : CallR X (.builtin "any") (rAny X.K) := by
  intro pins s σ H vs us Q I r h
  obtain ⟨a, bs, rfl, hs, q⟩ := h
  obtain ⟨its, rv, hl, _⟩ := I.list hs
  rw [Vals.ref1 r]
  have hb := rv.bls
  refine call_any_walk (iter_any hl.isList fun s₂ e2 st hne => ?_)
  subst e2
  refine ⟨_, _, _, _, _, _, _, rfl, Walks.list (A := X.A.in1) (I.ok.hd hc) _ a hne its.toArray, st, truth_bools hb, fun h' tk hk => ?_⟩
  refine ⟨.bl _, H, I.kept fun b o eo => hk b o (fun hmem => ?_) (Heap.get?_push_of_some _ eo), ?_, q⟩
  · rcases List.mem_cons.mp hmem with e1 | hmem
    · exact absurd (e1 ▸ Heap.lt_size eo) (Nat.lt_irrefl _)
    · cases hmem
  · show Value.bool _ = Value.bool _
    rw [← any_range, hb, List.size_toArray, List.length_map]
end

/-! ### == and != of data at any depth: none, bools, ints, texts, lists, tuples -/
mutual
inductive Dp (K : PySem.W.Frag) (H : Hp) : V → PyData → Prop
  | non : Dp K H .non .none
  | bl (b : Bool) : Dp K H (.bl b) (.bool b)
  | int (i : Int) : Dp K H (.int i) (.int i)
  | str (x : Str) : Dp K H (.str x) (.str x)
  | lst {a : Addr} {xs : List V} {ds : List PyData} : SqL K H a xs → DpAll K H xs ds → Dp K H (.ref a) (.list ds)
  | tup {a : Addr} {xs : List V} {ds : List PyData} : SqT K H a xs → DpAll K H xs ds → Dp K H (.ref a) (.tuple ds)
inductive DpAll (K : PySem.W.Frag) (H : Hp) : List V → List PyData → Prop
  | nil : DpAll K H [] []
  | cons {v : V} {vs : List V} {d : PyData} {ds : List PyData} : Dp K H v d → DpAll K H vs ds → DpAll K H (v :: vs) (d :: ds)
end
section
variable {X : Cx} {pins : List (Addr × Obj)} {σ : St} {H : Hp} {s : Shared}
mutual
theorem Dp.reads (I : Inv X pins σ H s) : ∀ (d : PyData) (v : V) (u : Value), Dp X.K H v d → RelV v u → ∃ as, Reads s.heap u d as
  | .none, _, _, h, r => by
    cases h
    cases r
    exact ⟨_, Reads.none⟩
  | .bool b, _, _, h, r => by
    cases h
    cases r
    exact ⟨_, Reads.bool b⟩
  | .int i, _, _, h, r => by
    cases h
    obtain ⟨t, rfl⟩ := r
    exact ⟨_, Reads.int i t⟩
  | .str x, _, _, h, r => by
    cases h
    obtain ⟨t, rfl⟩ := r
    exact ⟨_, Reads.str x t⟩
  | .list ds, _, _, h, r => by
    cases h with
    | lst hs ha =>
      cases r
      obtain ⟨its, rv, ⟨o, n, ho, hc, _, hd⟩, _⟩ := I.list hs
      obtain ⟨as, hr⟩ := Dp.readsAll I ds _ its ha rv
      exact ⟨_, Reads.list ho hc hd hr⟩
  | .tuple ds, _, _, h, r => by
    cases h with
    | tup hs ha =>
      cases r
      obtain ⟨its, rv, ⟨o, ho, hc, n, hd⟩, _⟩ := I.tuple hs
      obtain ⟨as, hr⟩ := Dp.readsAll I ds _ its ha rv
      exact ⟨_, Reads.tuple ho hc hd hr⟩
  | .dict _, _, _, h, _ => by cases h
theorem Dp.readsAll (I : Inv X pins σ H s) : ∀ (ds : List PyData) (vs : List V) (us : List Value), DpAll X.K H vs ds → Vals vs us → ∃ as, ReadsAll s.heap us ds as
  | [], _, _, h, r => by
    cases h
    cases r
    exact ⟨_, ReadsAll.nil⟩
  | d :: ds, _, _, h, r => by
    cases h with
    | cons h1 h2 =>
      cases r with
      | cons r1 r2 =>
        obtain ⟨as, q1⟩ := Dp.reads I d _ _ h1 r1
        obtain ⟨bs, q2⟩ := Dp.readsAll I ds _ _ h2 r2
        exact ⟨_, ReadsAll.cons q1 q2⟩
end
end
section
variable {X : Cx}
def rEqD (K : PySem.W.Frag) : R2 := fun x y H Q => ∃ d e, Dp K H x d ∧ Dp K H y e ∧ SeqAt.shaped d = true ∧ SeqAt.shaped e = true ∧ Q (.bl (PyData.eqv d e)) H
theorem op_eqD (hu : X.A.units + 64 < cLine) : OpR X (compareOp .Eq) (rEqD X.K) := by
  intro pins s σ H x y v u Q I rx ry h
  obtain ⟨d, e, hd, he, sd, se, q⟩ := h
  obtain ⟨as, r1⟩ := Dp.reads I d x v hd rx
  obtain ⟨bs, r2⟩ := Dp.reads I e y u he ry
  exact SeqAt.compareEq_shaped r1 r2 sd se hu ⟨.bl _, H, I, rfl, q⟩
end
end L2

namespace L2
open PySem PySem.Spec PyProof.Rows
abbrev CellAt (h : Heap) (c : Addr) (v : Option Value) : Prop := h.IsCell c v
def relS (scope sc : Scope) : Scope :=
  { scope with names := scope.names.map fun (n, k) => if (k == .free && sc.kind == .function && sc.names.lookup n == some .cell) then (n, .cell) else (n, k) }

def cloFrom (cells : List (Str × Addr)) : List (Str × NameKind) → List (Str × Addr) → List (Str × Addr)
  | [], acc => acc
  | (n, k) :: r, acc => if k == .free then cloFrom cells r ((n, (cells.lookup n).getD 0) :: acc) else cloFrom cells r acc

theorem closure_loop (env : Env) (f : Str × NameKind → List (Str × Addr) → Sem (ForInStep (List (Str × Addr))))
    (hf : ∀ n k c, f (n, k) c = if k == .free then (do let a ← cellOf env n; pure (.yield ((n, a) :: c))) else pure (.yield c)) :
    ∀ (names : List (Str × NameKind)) (acc : List (Str × Addr)), (∀ y ∈ names, y.2 = .free → ∃ c, env.cells.lookup y.1 = some c) → forIn names acc f = pure (cloFrom env.cells names acc)
  | [], acc, _ => by rw [List.forIn_nil]; rfl
  | (n, k) :: r, acc, h => by
    rw [List.forIn_cons, hf]
    have ih := fun acc => closure_loop env f hf r acc fun y hy => h y (List.mem_cons_of_mem _ hy)
    unfold cloFrom
    by_cases hk : (k == NameKind.free) = true
    · rw [if_pos hk, if_pos hk]
      obtain ⟨c, hc⟩ := h (n, k) List.mem_cons_self (by simpa using hk)
      have e : cellOf env n = pure c := by unfold cellOf; rw [hc]
      rw [e]
      have e2 : (env.cells.lookup n).getD 0 = c := by rw [hc]; rfl
      rw [e2]
      exact ih _
    · rw [if_neg hk, if_neg hk]
      exact ih _
theorem closure_ok {scope : Scope} {env : Env} (h : ∀ y ∈ scope.names, y.2 = .free → ∃ c, env.cells.lookup y.1 = some c) : closureFor scope env = pure (cloFrom env.cells scope.names []) := by
  simp only [closureFor]
  rw [closure_loop env _ (fun n k c => rfl) scope.names [] h]
  rfl

theorem mem_lookup {α : Type} : ∀ {l : List (Str × α)} {n : Str} {c : α}, (n, c) ∈ l → ∃ c', l.lookup n = some c'
  | (k, v) :: r, n, c, h => by
    rw [List.lookup_cons]
    cases hb : n == k with
    | true => exact ⟨_, rfl⟩
    | false =>
      rcases List.mem_cons.mp h with e | h
      · cases e; simp at hb
      · exact mem_lookup h

theorem cloFrom_mem {cells : List (Str × Addr)} : ∀ {names : List (Str × NameKind)} {acc : List (Str × Addr)} {n : Str} {c : Addr}, (n, c) ∈ cloFrom cells names acc → (n, c) ∈ acc ∨ ((n, .free) ∈ names ∧ c = (cells.lookup n).getD 0)
  | [], _, _, _, h => .inl h
  | (m, k) :: r, acc, n, c, h => by
    unfold cloFrom at h
    split at h
    · rename_i hk
      have hk : k = .free := by simpa using hk
      rcases cloFrom_mem h with h | ⟨h1, h2⟩
      · rcases List.mem_cons.mp h with e | h
        · cases e; exact .inr ⟨hk ▸ List.mem_cons_self, rfl⟩
        · exact .inl h
      · exact .inr ⟨List.mem_cons_of_mem _ h1, h2⟩
    · rcases cloFrom_mem h with h | ⟨h1, h2⟩
      · exact .inl h
      · exact .inr ⟨List.mem_cons_of_mem _ h1, h2⟩
theorem cloFrom_acc {cells : List (Str × Addr)} : ∀ {names : List (Str × NameKind)} {acc : List (Str × Addr)} {p : Str × Addr}, p ∈ acc → p ∈ cloFrom cells names acc
  | [], _, _, h => h
  | (m, k) :: r, acc, p, h => by
    unfold cloFrom
    split
    · exact cloFrom_acc (List.mem_cons_of_mem _ h)
    · exact cloFrom_acc h
theorem cloFrom_has {cells : List (Str × Addr)} : ∀ {names : List (Str × NameKind)} {acc : List (Str × Addr)} {n : Str}, (n, .free) ∈ names → (n, (cells.lookup n).getD 0) ∈ cloFrom cells names acc
  | (m, k) :: r, acc, n, h => by
    unfold cloFrom
    rcases List.mem_cons.mp h with e | h
    · cases e
      exact cloFrom_acc List.mem_cons_self
    · split
      · exact cloFrom_has h
      · exact cloFrom_has h

theorem cells_mem : ∀ {names : List (Str × NameKind)} {h : Heap} {acc : List (Str × Addr)} {x : Str} {c : Addr}, (x, c) ∈ cellsFrom h.objs.size names acc →
    (x, c) ∈ acc ∨ ((x, .cell) ∈ names ∧ h.objs.size ≤ c ∧ CellAt (pushCells h names) c none)
  | [], _, _, _, _, h => .inl h
  | (n, k) :: r, h, acc, x, c, hm => by
    unfold cellsFrom at hm
    unfold pushCells
    split at hm
    · rename_i hk
      rw [if_pos hk]
      have hk : k = .cell := by simpa using hk
      rw [← Heap.size_push h { cls := .type "cell", data := .cell none }] at hm
      rcases cells_mem hm with hm | ⟨h1, h2, h3⟩
      · rcases List.mem_cons.mp hm with e | hm
        · cases e
          exact .inr ⟨hk ▸ List.mem_cons_self, Nat.le_refl _, _, pushCells_keeps r _ _ _ (Heap.get?_push_size _ rfl), rfl⟩
        · exact .inl hm
      · rw [Heap.size_push] at h2
        exact .inr ⟨List.mem_cons_of_mem _ h1, Nat.le_of_succ_le h2, h3⟩
    · rename_i hk
      rw [if_neg hk]
      rcases cells_mem hm with hm | ⟨h1, h2, h3⟩
      · exact .inl hm
      · exact .inr ⟨List.mem_cons_of_mem _ h1, h2, h3⟩
theorem cells_acc : ∀ {names : List (Str × NameKind)} {n : Nat} {acc : List (Str × Addr)} {p : Str × Addr}, p ∈ acc → p ∈ cellsFrom n names acc
  | [], _, _, _, h => h
  | (m, k) :: r, n, acc, p, h => by
    unfold cellsFrom
    split
    · exact cells_acc (List.mem_cons_of_mem _ h)
    · exact cells_acc h
theorem cells_has : ∀ {names : List (Str × NameKind)} {n : Nat} {acc : List (Str × Addr)} {x : Str}, (x, .cell) ∈ names → ∃ c, (x, c) ∈ cellsFrom n names acc
  | (m, k) :: r, n, acc, x, h => by
    unfold cellsFrom
    rcases List.mem_cons.mp h with e | h
    · cases e
      exact ⟨n, cells_acc List.mem_cons_self⟩
    · split
      · exact cells_has h
      · exact cells_has h
theorem cells_inj : ∀ {names : List (Str × NameKind)} {h : Heap} {acc : List (Str × Addr)} {x y : Str} {c : Addr}, (∀ p ∈ acc, p.2 < h.objs.size) → (∀ x y c, (x, c) ∈ acc → (y, c) ∈ acc → x = y) →
    (x, c) ∈ cellsFrom h.objs.size names acc → (y, c) ∈ cellsFrom h.objs.size names acc → x = y
  | [], _, _, _, _, _, _, hi, h1, h2 => hi _ _ _ h1 h2
  | (n, k) :: r, h, acc, x, y, c, hl, hi, h1, h2 => by
    unfold cellsFrom at h1 h2
    split at h1
    · rename_i hk
      rw [if_pos hk] at h2
      rw [← Heap.size_push h { cls := .type "cell", data := .cell none }] at h1 h2
      refine cells_inj (h := h.push _) (fun p hp => ?_) (fun x y c a b => ?_) h1 h2
      · rw [Heap.size_push]
        rcases List.mem_cons.mp hp with rfl | hp
        · exact Nat.lt_succ_self _
        · exact Nat.lt_succ_of_lt (hl p hp)
      · rcases List.mem_cons.mp a with e | a <;> rcases List.mem_cons.mp b with e' | b
        · cases e; cases e'; rfl
        · cases e; exact absurd (hl _ b) (Nat.lt_irrefl _)
        · cases e'; exact absurd (hl _ a) (Nat.lt_irrefl _)
        · exact hi _ _ _ a b
    · rename_i hk
      rw [if_neg hk] at h2
      exact cells_inj hl hi h1 h2

theorem newEnv_comp {M : Model} {A : Around} {E : Value → Shared → Prop} {s : Shared} {scope : Scope} {globals : Addr} {closure : List (Str × Addr)} {qual : Str} {func : Option Addr} {code : Value} {around : Env} {builtins : Addr} {Q : Env → Shared → Prop}
    (h : Q (newEnv scope s.heap.objs.size globals (cellsFrom (s.heap.objs.size + 1) scope.names closure) qual func code (some around) builtins)
      { s with heap := pushCells (s.heap.push { cls := .type "dict", data := .dict #[] }) scope.names }) :
    wpAny M A (newFunctionEnv scope globals closure [] qual func code (some around) builtins) Q E s := by
  simp only [newFunctionEnv, Option.isSome_some, if_true]
  refine wpAny_bind (wpAny_alloc ?_)
  refine wpAny_bind (wpAny_layCells _ (fun n k c => rfl) scope.names closure _ _ ?_)
  rw [show ({ s with heap := s.heap.push { cls := .type "dict", data := .dict #[] } } : Shared).heap.objs.size = s.heap.objs.size + 1 from Heap.size_push ..]
  rw [List.forIn_nil]
  exact wpAny_bind (wpAny_pure (wpAny_pure h))

/-- every name of the written scope, in the scope that runs -/
theorem lookup_relS {sc : Scope} : ∀ {names : List (Str × NameKind)} {x : Str} {k : NameKind},
    (names.map fun (n, k) => if (k == NameKind.free && sc.kind == .function && sc.names.lookup n == some .cell) then (n, NameKind.cell) else (n, k)).lookup x = some k →
    ∃ k', names.lookup x = some k' ∧ (k = k' ∨ (k' = .free ∧ k = .cell))
  | [], _, _, h => by simp at h
  | (n, k₀) :: r, x, k, h => by
    have ih := @lookup_relS sc r x k
    have h' : List.lookup x ((if (k₀ == NameKind.free && sc.kind == .function && sc.names.lookup n == some .cell) = true then (n, NameKind.cell) else (n, k₀)) :: (r.map _)) = some k := h
    cases hx : x == n with
    | true =>
      simp only [List.lookup_cons, hx]
      by_cases hc : (k₀ == NameKind.free && sc.kind == .function && sc.names.lookup n == some .cell) = true
      · rw [if_pos hc] at h'
        simp only [List.lookup_cons, hx] at h'
        cases h'
        simp only [Bool.and_eq_true, beq_iff_eq] at hc
        exact ⟨k₀, rfl, .inr ⟨hc.1.1, rfl⟩⟩
      · rw [if_neg hc] at h'
        simp only [List.lookup_cons, hx] at h'
        cases h'
        exact ⟨_, rfl, .inl rfl⟩
    | false =>
      simp only [List.lookup_cons, hx]
      by_cases hc : (k₀ == NameKind.free && sc.kind == .function && sc.names.lookup n == some .cell) = true
      · rw [if_pos hc] at h'
        simp only [List.lookup_cons, hx] at h'
        exact ih h'
      · rw [if_neg hc] at h'
        simp only [List.lookup_cons, hx] at h'
        exact ih h'



/-- the names of a comprehension's block: its own (with their places in N), or captured -/
structure BlkOk (N : List Str) (sc scope : Scope) (own : List (Str × Nat)) : Prop where
  kind : scope.kind = .function
  uniq : ∀ y ∈ scope.names, scope.names.lookup y.1 = some y.2
  ix : ∀ p ∈ own, N[p.2]? = some p.1
  free : ∀ y ∈ scope.names, y.2 = .free → sc.names.lookup y.1 = some .cell ∨ sc.names.lookup y.1 = some .free
  own : ∀ y ∈ scope.names, y.2 = .local ∨ y.2 = .cell → y.1 ∈ own.map (·.1) ∨ y.1 ∉ N
/-- the slots of the block's own names forgotten -/
def wipe (σ : St) : List Nat → St
  | [] => σ
  | v :: vs => (wipe σ vs).set v none
theorem wipe_length (σ : St) : ∀ vs : List Nat, (wipe σ vs).length = σ.length
  | [] => rfl
  | v :: vs => by unfold wipe; rw [List.length_set, wipe_length σ vs]
theorem wipe_some {σ : St} {i : Nat} {x : V} : ∀ {vs : List Nat}, (wipe σ vs)[i]? = some (some x) → σ[i]? = some (some x) ∧ i ∉ vs
  | [], h => ⟨h, by simp⟩
  | v :: vs, h => by
    unfold wipe at h
    by_cases hi : v = i
    · subst hi
      by_cases hv : v < (wipe σ vs).length
      · rw [List.getElem?_set_self hv] at h; cases h
      · rw [List.getElem?_eq_none (by simpa using hv)] at h; cases h
    · rw [List.getElem?_set_ne hi] at h
      obtain ⟨h1, h2⟩ := wipe_some h
      exact ⟨h1, by simp only [List.mem_cons, not_or]; exact ⟨fun e => hi e.symm, h2⟩⟩

/-- the context of a block that starts at s, its iterator's objects at fp -/
abbrev Cx.blk (X : Cx) (s : Shared) (H : Hp) (scope : Scope) (cenv : Env) (fp : List Addr) : Cx := { X with s_0 := s, H_0 := H, env := cenv, outer := X.stack, ex := fp, fn := fun x => scope.names.lookup x == some .cell, pn := [], xe := fun _ _ => False }
section
variable {X : Cx} {pins : List (Addr × Obj)} {σ : St} {H : Hp} {s : Shared}
theorem block_start {scope : Scope} {own : List (Str × Nat)} {fp : List Addr} (I : Inv X pins σ H s) (ok : BlkOk X.N X.env.scope scope own) (hN : X.N.Nodup) (hfp : ∀ b ∈ fp, FpOk X pins H b ∧ b < s.heap.objs.size) :
    Inv (X.blk s H scope (compEnvC scope (cellsFrom (s.heap.objs.size + 1) scope.names (cloFrom X.env.cells scope.names [])) s.heap.objs.size X.env) fp) [] (wipe σ (own.map (·.2))) H { s with heap := pushCells (s.heap.push { cls := .type "dict", data := .dict #[] }) scope.names } := by
  have hfree : ∀ y ∈ scope.names, y.2 = .free → ∃ c, X.env.cells.lookup y.1 = some c := fun y hy e => by
    rcases ok.free y hy e with k | k
    · exact I.ok.has _ (.inl k)
    · exact I.ok.has _ (.inr k)
  generalize hcenv : compEnvC scope (cellsFrom (s.heap.objs.size + 1) scope.names (cloFrom X.env.cells scope.names [])) s.heap.objs.size X.env = cenv
  have kp : ∀ b o, s.heap.get? b = some o → (pushCells (s.heap.push { cls := .type "dict", data := .dict #[] }) scope.names).get? b = some o := fun b o e => pushCells_keeps _ _ _ _ (Heap.get?_push_of_some _ e)
  have hL : cenv.locals = s.heap.objs.size := by rw [← hcenv]; rfl
  have hcl : cenv.cells = cellsFrom (s.heap.objs.size + 1) scope.names (cloFrom X.env.cells scope.names []) := by rw [← hcenv]; rfl
  have hsc : cenv.scope = relS scope X.env.scope := by rw [← hcenv]; rfl
  rw [← Heap.size_push s.heap { cls := .type "dict", data := .dict #[] }] at hcl
  have cm : ∀ {y c}, (y, c) ∈ cloFrom X.env.cells scope.names [] → X.env.cells.lookup y = some c ∧ c < s.heap.objs.size := fun {y c} hm => by
    rcases cloFrom_mem hm with hm | ⟨h1, rfl⟩
    · cases hm
    · obtain ⟨c, hc⟩ := hfree _ h1 rfl
      rw [hc]
      obtain ⟨w, z⟩ := I.cell _ _ hc
      exact ⟨rfl, z.lt⟩
  have mem : ∀ {y c}, cenv.cells.lookup y = some c → (X.env.cells.lookup y = some c ∧ c < s.heap.objs.size) ∨ (s.heap.objs.size + 1 ≤ c ∧ CellAt (pushCells (s.heap.push { cls := .type "dict", data := .dict #[] }) scope.names) c none) := fun {y c} e => by
    rw [hcl] at e
    rcases cells_mem (PySem.mem_of_lookup e) with hm | ⟨_, h2, h3⟩
    · exact .inl (cm hm)
    · rw [Heap.size_push] at h2; exact .inr ⟨h2, h3⟩
  have look : ∀ {y}, scope.names.lookup y = some .free → ∃ c, cenv.cells.lookup y = some c ∧ X.env.cells.lookup y = some c := fun {y} hl => by
    have hy : (y, NameKind.free) ∈ scope.names := PySem.mem_of_lookup hl
    obtain ⟨c', e'⟩ := mem_lookup (cells_acc (names := scope.names) (n := (s.heap.push { cls := .type "dict", data := .dict #[] }).objs.size) (cloFrom_has (cells := X.env.cells) (acc := []) hy))
    rw [← hcl] at e'
    refine ⟨c', e', ?_⟩
    rw [hcl] at e'
    rcases cells_mem (PySem.mem_of_lookup e') with hm | ⟨h1, _, _⟩
    · exact (cm hm).1
    · have := ok.uniq _ h1
      rw [hl] at this; cases this
  have okB : (X.blk s H scope cenv fp).Ok := by
    refine ⟨I.ok.mod, by show cenv.scope.kind = _; rw [hsc]; exact ok.kind, by show cenv.globals = _; rw [← hcenv]; exact I.ok.glob, by show cenv.builtins = _; rw [← hcenv]; exact I.ok.blt, by show s.heap.objs.size ≤ cenv.locals; rw [hL]; exact Nat.le_refl _,
      fun y z c e1 e2 => ?_, fun y hy => ?_, fun y c z e => ?_, I.ok.hd, I.ok.frames, .inl rfl, fun b hb => ⟨?_, fun y c e z => ?_⟩, I.bs, Nat.le_trans I.ok.bsz I.sz, fun b o e hb => ?_, fun b hb z => ?_, I.stack, I.stkFree⟩
    · have e1 : cenv.cells.lookup y = some c := e1
      have e2 : cenv.cells.lookup z = some c := e2
      rw [hcl] at e1 e2
      refine cells_inj (fun p hp => ?_) (fun y z c a b => I.ok.inj y z c (cm a).1 (cm b).1) (PySem.mem_of_lookup e1) (PySem.mem_of_lookup e2)
      rw [Heap.size_push]
      exact Nat.lt_succ_of_lt (cm (y := p.1) (c := p.2) hp).2
    · show ∃ c, cenv.cells.lookup y = some c
      have key : ∀ k, cenv.kindOf y = some k → (k = .cell ∨ k = .free) → ∃ c, cenv.cells.lookup y = some c := fun k hk hk' => by
        unfold Env.kindOf at hk
        rw [hsc] at hk
        obtain ⟨k', e, r⟩ := lookup_relS hk
        have : k' = .cell ∨ k' = .free := by
          rcases r with rfl | ⟨rfl, _⟩
          · exact hk'
          · exact .inr rfl
        rcases this with rfl | rfl
        · obtain ⟨c, hm⟩ := cells_has (n := (s.heap.push { cls := .type "dict", data := .dict #[] }).objs.size) (acc := cloFrom X.env.cells scope.names []) (PySem.mem_of_lookup e)
          obtain ⟨c', e'⟩ := mem_lookup hm
          exact ⟨c', by rw [hcl]; exact e'⟩
        · obtain ⟨c, h1, _⟩ := look e
          exact ⟨c, h1⟩
      rcases hy with hy | hy
      · exact key _ hy (.inl rfl)
      · exact key _ hy (.inr rfl)
    · have z : (scope.names.lookup y == some NameKind.cell) = true := z
      have z : scope.names.lookup y = some .cell := by simpa using z
      have e : cenv.cells.lookup y = some c := e
      rw [hcl] at e
      rcases cells_mem (PySem.mem_of_lookup e) with hm | ⟨_, h2, _⟩
      · rcases cloFrom_mem hm with hm | ⟨h1, _⟩
        · cases hm
        · have q := ok.uniq _ h1
          rw [z] at q; cases q
      · rw [Heap.size_push] at h2
        exact Nat.le_of_succ_le h2
    · show b ≠ cenv.locals
      rw [hL]; exact Nat.ne_of_lt (hfp b hb).2
    · have e : cenv.cells.lookup y = some c := e
      rcases mem e with ⟨h1, _⟩ | ⟨h1, _⟩
      · exact (hfp b hb).1.2.2.2.2.1 y c h1 z
      · have h2 : s.heap.objs.size + 1 ≤ b := by rw [← z]; exact h1
        exact absurd (Nat.lt_of_lt_of_le (hfp b hb).2 (Nat.le_of_succ_le h2)) (Nat.lt_irrefl _)
    · rcases (hfp b hb).1.2.2.2.1 with z | z
      · exact I.ok.noex b o e z
      · exact absurd (Nat.lt_of_lt_of_le (Heap.lt_size e) (Nat.le_trans I.ok.bsz z)) (Nat.lt_irrefl _)
    · rcases List.mem_cons.mp (I.stkSub b z) with z | z
      · exact (hfp b hb).1.2.1 z
      · exact (hfp b hb).1.2.2.1 z
  refine ⟨okB, rfl, I.bare, Un.kept kp, ⟨fun _ => none, ?_, fun i y av e1 e2 e3 => ?_⟩, fun y c e => ?_, ?_, fun y c e => ?_, fun p hp => ?_, I.hok.kept kp, by rw [wipe_length]; exact I.len⟩
  · show Heap.Ns _ cenv.locals _
    rw [hL]
    exact Heap.Ns.keeps (Heap.Ns.new ..) fun b o e => pushCells_keeps _ _ _ _ e
  · obtain ⟨e2, hne⟩ := wipe_some e2
    have hfr : scope.names.lookup y = some .free ∧ (cenv.kindOf y = some .cell ∨ cenv.kindOf y = some .free) := by
      have key : ∀ k, cenv.scope.names.lookup y = some k → k = .local ∨ k = .cell ∨ k = .free → scope.names.lookup y = some .free ∧ (cenv.kindOf y = some .cell ∨ cenv.kindOf y = some .free) := fun k hk hk' => by
        have hk0 := hk
        rw [hsc] at hk
        obtain ⟨k', e, r⟩ := lookup_relS hk
        have no : ¬ (k' = .local ∨ k' = .cell) := fun hh => by
          rcases ok.own _ (PySem.mem_of_lookup e) hh with e' | e'
          · obtain ⟨p, hp, hpy⟩ := List.mem_map.mp e'
            have e3 := ok.ix p hp
            have : p.1 = y := hpy
            rw [this] at e3
            exact hne (List.mem_map.mpr ⟨p, hp, nodup_ix hN e3 e1⟩)
          · exact e' (List.mem_of_getElem? e1)
        rcases r with rfl | ⟨rfl, rfl⟩
        · rcases hk' with rfl | rfl | rfl
          · exact absurd (.inl rfl) no
          · exact absurd (.inr rfl) no
          · exact ⟨e, .inr hk0⟩
        · exact ⟨e, .inl hk0⟩
      have e3 : Vis cenv.scope y := e3
      rcases e3 with e3 | e3 | e3
      · exact key _ e3 (.inl rfl)
      · exact key _ e3 (.inr (.inl rfl))
      · exact key _ e3 (.inr (.inr rfl))
    obtain ⟨m, hn, hl⟩ := I.loc
    have hvis : Vis X.env.scope y := (ok.free _ (PySem.mem_of_lookup hfr.1) rfl).elim (fun k => .inr (.inl k)) (fun k => .inr (.inr k))
    obtain ⟨w, r, q⟩ := hl i y av e1 e2 hvis
    refine ⟨w, r, .inr ⟨hfr.2, ?_⟩⟩
    obtain ⟨c, h1, h2⟩ := look hfr.1
    rcases q with ⟨k, _⟩ | ⟨_, c', e', z⟩
    · have k : X.env.scope.names.lookup y = some .local := k
      rcases ok.free _ (PySem.mem_of_lookup hfr.1) rfl with k' | k' <;> rw [show X.env.scope.names.lookup y = _ from k'] at k <;> cases k
    · rw [h2] at e'; cases e'
      exact ⟨c, h1, z.keeps kp⟩
  · have e : cenv.cells.lookup y = some c := e
    rcases mem e with ⟨h1, _⟩ | ⟨_, z⟩
    · obtain ⟨w, z⟩ := I.cell y c h1
      exact ⟨w, z.keeps kp⟩
    · exact ⟨_, z⟩
  · show H cenv.locals = none
    rw [hL]; exact I.hok.fresh (Nat.le_refl _)
  · have e : cenv.cells.lookup y = some c := e
    rcases mem e with ⟨h1, _⟩ | ⟨h1, _⟩
    · exact I.freeC y c h1
    · exact I.hok.fresh (Nat.le_of_succ_le h1)
  · exact absurd (show p ∈ ([] : List (Addr × Obj)) ++ [] from hp) (by simp)

/-- an item appended to a tracked list -/
theorem app_ok {E : Value → Shared → Prop} {D : Addr} {xs : List V} {y : V} {v : Value} {Q : Value → Shared → Prop} (I : Inv X pins σ H s) (hD : H D = some (.lst xs)) (hz : xs.length < sizeLine) (r : RelV y v)
    (h : ∀ s', Inv X pins σ (upd H D (.lst (xs ++ [y]))) s' → Q .none s') : wpAny (model X.prog X.w) X.A (call (.builtin "list.append") [.ref D, v]) Q E s := by
  obtain ⟨hz', its, n, ri, e⟩ := I.hok D _ hD
  have hl := ri.length
  refine append_at (hsz := by rw [List.size_toArray]; omega) e fun h' sb ho' => ?_
  refine h { s with heap := h' } (I.write (t' := s.toks) (by rw [hD]; trivial) (.inl rfl) (fun b u hb q => (sb.2 b hb).trans q) ⟨_, ho'⟩ ⟨by rw [List.length_append]; exact hz, its ++ [v], n + 1, ri.append (.cons r .nil), ?_⟩)
  rw [ho']
  simp

/-- a clause's tests -/
def PTs (X : Cx) (ifs : List Expr) (t : TT) : Prop :=
  ∀ (pins : List (Addr × Obj)) (s : Shared) (σ : St) (H : Hp) (Q : Bool → Hp → Prop), Inv X pins σ H s → t σ H Q →
    wpAny (model X.prog X.w) X.A (forIn ifs true fun c r => if r = true then do let ok ← isTrue c X.env (eval c X.env); pure (ForInStep.yield ok) else pure (ForInStep.yield r)) (TP X pins σ Q) X.xe s
def tYes : TT := fun _ H Q => Q true H
theorem pts_nil : PTs X [] tYes := fun _ _ _ H _ I h => wpAny_tests_nil ⟨H, I, h⟩
theorem pts_one {c : Expr} {t : TT} (h : PT X c t) : PTs X [c] t := fun pins s σ H Q I hw => wpAny_tests_one (h pins s σ H Q I hw)
end

theorem thnF {α : Type} {t : Sem α} {Q Q' : α → Shared → Prop} {M : Model} {A : Around} {E : Value → Shared → Prop} {s : Shared} (h : wpAny M A t Q (fun _ _ => False) s) (hQ : ∀ a s, Q a s → Q' a s) : wpAny M A t Q' E s := wpAny_mono h hQ fun _ _ z => False.elim z

/-- the loop of a list comprehension's block, the target of any form (codeAny_compLoop_tests asks a target that no tuple goes to; statement and proof follow it, PyProof/CompMap.lean:41-61, with the step letOwnedTupleGo kept) -/
theorem compLoop_any {prog : Program} {w : World} {A : Around} {R : Result → Shared → Prop} {s : Shared} {elt target iter : Expr} {ifs : List Expr} {scope : Scope} {pos : Pos} {it acc : Value} {env : Env} (I : Nat → Shared → Prop)
    (turn : ∀ n s, I n s → wpAny (model prog w) A (pyNext it) (fun r s₁ => match r with
      | none => R (.ok .next) s₁
      | some v => wpAny (model prog w) A (letOwnedTupleGo target it v) (fun _ s₁' => wpAny (model prog w) A (assign target env v) (fun _ s₂ =>
          wpAny (model prog w) A (forIn ifs true fun c r => if r = true then do let ok ← isTrue c env (eval c env); pure (ForInStep.yield ok) else pure (ForInStep.yield r)) (fun ok s₃ =>
            if ok = true then wpAny (model prog w) A (eval elt env) (fun x s₄ =>
              wpAny (model prog w) A (call (.builtin "list.append") [acc, x]) (fun _ s₅ => ∃ m, m < n ∧ I m s₅) (notedBy (model prog w) A env fun e s' => R (.error e) s') s₄) (notedBy (model prog w) A env fun e s' => R (.error e) s') s₃
            else ∃ m, m < n ∧ I m s₃) (notedBy (model prog w) A env fun e s' => R (.error e) s') s₂) (notedBy (model prog w) A env fun e s' => R (.error e) s') s₁') (notedBy (model prog w) A env fun e s' => R (.error e) s') s₁) (notedBy (model prog w) A env fun e s' => R (.error e) s') s)
    (n : Nat) (h : I n s) :
    codeAny (model prog w) A (.compLoop (.ListComp elt [⟨target, iter, ifs, 0⟩] scope pos) 0 it acc env) R s := by
  refine codeAny_loop rfl I (fun n s hI => ?_) n h
  show wpAny _ A ((compTurn (.ListComp elt [⟨target, iter, ifs, 0⟩] scope pos) 0 it acc env).onRaise (fun x => do noteFrame x env; theTreesLotGoes x)) _ _ s
  refine wpAny_noted ?_
  rw [compTurn_list]
  refine wpAny_bind (wpAny_standAt (wpAny_bind (wpAny_mono (turn n s hI) (fun r s₁ h₁ => ?_) fun _ _ h' => h')))
  cases r with
  | none => exact wpAny_pure h₁
  | some v =>
    refine wpAny_bind (wpAny_mono h₁ (fun _ s₁' h₁' => ?_) fun _ _ h' => h')
    refine wpAny_bind (wpAny_mono h₁' (fun _ s₂ h₂ => wpAny_bind (wpAny_mono h₂ (fun ok s₃ h₃ => ?_) fun _ _ h' => h')) fun _ _ h' => h')
    cases ok with
    | false => exact wpAny_pure ⟨rfl, h₃⟩
    | true =>
      exact wpAny_bind (wpAny_bind (wpAny_mono h₃ (fun x s₄ h₄ => wpAny_bind (wpAny_mono h₄ (fun _ s₅ h₅ => wpAny_pure (wpAny_pure ⟨rfl, h₅⟩)) fun _ _ h' => h')) fun _ _ h' => h'))

section
variable {X : Cx}
/-- [elt for target in iter if ..]: D the new list; W by the turn and a measure, Nx what a turn is to reach -/
def tLc (wi : TI) (g : TG) (tt : TT) (te : TE) (vs : List Nat) : TE := fun σ H Q => wi σ H fun J H1 => ∀ D, H1 D = none → ∃ W : Nat → Nat → Hp → Prop, (∃ m, W 0 m (upd H1 D (.lst []))) ∧ ∀ i m H, W i m H →
  (J.stop i H ∧ Q (.ref D) H) ∨ (J.go i H ∧ ∃ Nx : Hp → Prop, (∀ H', Nx H' → ∃ m', m' < m ∧ W (i + 1) m' H') ∧ ∀ x H', J.yld i H x H' → g x (wipe σ vs) H' fun σ2 H2 => wipe σ2 vs = wipe σ vs ∧ tt σ2 H2 fun b H3 =>
    if b = true then te σ2 H3 fun y H4 => ∃ acc, H4 D = some (.lst acc) ∧ acc.length < sizeLine ∧ Nx (upd H4 D (.lst (acc ++ [y]))) else Nx H3)
theorem lc_core {pins : List (Addr × Obj)} {s : Shared} {σ : St} {H : Hp} {Q : VK} {elt tg iter : Expr} {ifs : List Expr} {scope : Scope} {own : List (Str × Nat)} {pos pos' : Pos} {wi : TI} {g : TG} {tt : TT} {te : TE} {use : Option (Value → Sem Unit)} {Qf : Value → Shared → Prop}
    (hc : X.calm = true) (hN : X.N.Nodup) (I : Inv X pins σ H s) (hi : PI X tg iter wi) (ok : BlkOk X.N X.env.scope scope own)
    (hg : ∀ (s : Shared) (H : Hp) (C : Addr) (cl : List (Str × Addr)) (fp : List Addr), PG (X.blk s H scope (compEnvC scope cl C X.env) fp) tg g) (ht : ∀ (s : Shared) (H : Hp) (C : Addr) (cl : List (Str × Addr)) (fp : List Addr), PTs (X.blk s H scope (compEnvC scope cl C X.env) fp) ifs tt)
    (he : ∀ (s : Shared) (H : Hp) (C : Addr) (cl : List (Str × Addr)) (fp : List Addr), PE (X.blk s H scope (compEnvC scope cl C X.env) fp) elt te) (hs : ∀ x, foldedSetIterable iter X.env x = pure x)
    (h : tLc wi g tt te (own.map (·.2)) σ H Q)
    (hRR : ∀ D C s' m H', Inv X pins σ H' s' → Q (.ref D) H' → s'.heap.Ns C m → FpOk X pins H' C → compPost (model X.prog X.w) X.A X.xe use Qf (.ref D) C (.ok .next) s') :
    wpAny (model X.prog X.w) X.A (comprehension (.ListComp elt [⟨tg, iter, ifs, 0⟩] scope pos) scope X.env pos' (newList []) false (eval iter X.env) use) Qf X.xe s := by
  have hfree : ∀ y ∈ scope.names, y.2 = .free → ∃ c, X.env.cells.lookup y.1 = some c := fun y hy e => by
    rcases ok.free y hy e with k | k
    · exact I.ok.has _ (.inl k)
    · exact I.ok.has _ (.inr k)
  refine wpAny_comprehension_free (use := use) rfl hs (closure_ok hfree) ok.kind (fun y hy e => by rw [ok.uniq y hy, e])
    (thn (hi pins s σ H _ I h) fun xv s1 hx => thn hx fun itv s2 h2 => ?_)
  obtain ⟨it, fp, tn, J, H2, e, I2, T, st2, f2, q⟩ := h2
  subst e
  refine wpAny_newObj_type (newEnv_comp ?_) (by show 0 ≤ sizeLine; decide)
  generalize hD : s2.heap.objs.size = D
  have hDn : H2 D = none := I2.hok.fresh (Nat.le_of_eq hD)
  obtain ⟨W, ⟨m0, w0⟩, turn⟩ := q D hDn
  -- the new list
  generalize hs3 : ({ s2 with heap := s2.heap.push { cls := .type "list", data := .seq ([] : List Value).toArray } } : Shared) = s3
  have I3 : Inv X pins σ (upd H2 D (.lst [])) s3 := by
    rw [← hs3]
    refine I2.laid (t' := s2.toks) (fun b o e => Heap.get?_push_of_some _ e) (Nat.le_of_eq hD) ⟨Nat.zero_le _, [], 0, .nil, ?_⟩
    rw [← hD]
    exact Heap.get?_push_size _ rfl
  have h3 : s3.heap = s2.heap.push { cls := .type "list", data := .seq ([] : List Value).toArray } := by rw [← hs3]
  have sz : ∀ b ∈ fp, b < s2.heap.objs.size := fun b hb => by
    obtain ⟨o, e, _⟩ := T.obj _ _ st2 b hb
    exact Heap.lt_size e
  have f3 : ∀ b ∈ fp, FpOk X pins (upd H2 D (.lst [])) b ∧ b < s3.heap.objs.size := fun b hb => by
    have hlt := sz b hb
    refine ⟨⟨?_, (f2 b hb).2⟩, by rw [h3, Heap.size_push]; exact Nat.lt_succ_of_lt hlt⟩
    rw [upd_ne (by rw [← hD]; exact Nat.ne_of_lt hlt)]
    exact (f2 b hb).1
  have st3 : tn 0 s3.heap := T.keep _ _ _ st2 fun b _ o e => by rw [h3]; exact Heap.get?_push_of_some _ e
  have I4 := block_start I3 ok hN f3
  have pg := hg s3 (upd H2 D (.lst [])) s3.heap.objs.size (cellsFrom (s3.heap.objs.size + 1) scope.names (cloFrom X.env.cells scope.names [])) fp
  have pt := ht s3 (upd H2 D (.lst [])) s3.heap.objs.size (cellsFrom (s3.heap.objs.size + 1) scope.names (cloFrom X.env.cells scope.names [])) fp
  have pe := he s3 (upd H2 D (.lst [])) s3.heap.objs.size (cellsFrom (s3.heap.objs.size + 1) scope.names (cloFrom X.env.cells scope.names [])) fp
  show codeAny _ _ (.compStart (.ListComp elt [⟨tg, iter, ifs, 0⟩] scope pos) 0 (.ref it) (.ref D) (compEnvC scope (cellsFrom (s3.heap.objs.size + 1) scope.names (cloFrom X.env.cells scope.names [])) s3.heap.objs.size X.env)) (compPost (model X.prog X.w) X.A X.xe use Qf (.ref D) s3.heap.objs.size) { s3 with heap := pushCells (s3.heap.push { cls := .type "dict", data := .dict #[] }) scope.names }
  have nfp : ∀ b ∈ fp, (upd H2 D (.lst [])) b = none := fun b hb => (f3 b hb).1.1
  generalize hce : compEnvC scope (cellsFrom (s3.heap.objs.size + 1) scope.names (cloFrom X.env.cells scope.names [])) s3.heap.objs.size X.env = ce at I4 pg pt pe ⊢
  have cL : ce.locals = s3.heap.objs.size := by subst hce; rfl
  generalize hH3 : upd H2 D (.lst []) = H3 at I3 I4 pg pt pe w0 nfp f3
  generalize hs4 : ({ s3 with heap := pushCells (s3.heap.push { cls := .type "dict", data := .dict #[] }) scope.names } : Shared) = s4 at I4 ⊢
  have st4 : tn 0 s4.heap := T.keep _ _ _ st3 fun b _ o e => by rw [← hs4]; exact pushCells_keeps _ _ _ _ (Heap.get?_push_of_some _ e)
  have stat : ∀ {σ' : St} {H' : Hp} {s' : Shared}, Inv (X.blk s3 H3 scope ce fp) [] σ' H' s' → (∀ b ∈ fp, H' b = none) → ∀ b ∈ fp, FpOk (X.blk s3 H3 scope ce fp) [] H' b := fun {σ' H' s'} I' hn b hb =>
    ⟨hn b hb, (I'.ok.exf b hb).1, I'.ok.exfs b hb, .inl hb, fun x c e => (I'.ok.exf b hb).2 x c e, fun p hp => absurd (show p ∈ ([] : List (Addr × Obj)) ++ [] from hp) (by simp)⟩
  have loop : codeAny (model X.prog X.w) X.A (.compLoop (.ListComp elt [⟨tg, iter, ifs, 0⟩] scope pos) 0 (.ref it) (.ref D) ce) (compPost (model X.prog X.w) X.A X.xe use Qf (.ref D) s3.heap.objs.size) s4 := by
    refine compLoop_any (fun n s' => ∃ i H', Inv (X.blk s3 H3 scope ce fp) [] (wipe σ (own.map (·.2))) H' s' ∧ tn i s'.heap ∧ (∀ b ∈ fp, H' b = none) ∧ W i n H') ?_ m0 ⟨0, H3, I4, st4, nfp, w0⟩
    rintro n s5 ⟨i, H5, I5, st5, n5, w5⟩
    rcases turn i n H5 w5 with ⟨stop, qq⟩ | ⟨go, Nx, hNx, step⟩
    · have td := T.done (X.blk s3 H3 scope ce fp) rfl rfl rfl hc i [] s5 _ H5 (fun _ _ => False) I5 (stat I5 n5) st5 stop
      refine thnF td fun r s6 ⟨hr, I6⟩ => ?_
      subst hr
      -- back in the def's context
      have I7 : Inv X pins σ H5 s6 := I3.call' (ch := fp) I6.os I6.base I6.hok I6.bare fun b hb => ⟨(f3 b hb).1.2.2.2.1, (f3 b hb).1.2.1, (f3 b hb).1.2.2.2.2.1, (f3 b hb).1.2.2.2.2.2⟩
      have nC : H5 s3.heap.objs.size = none := by
        have z : H5 ce.locals = none := I6.free
        rw [cL] at z
        exact z
      obtain ⟨m, hn, _⟩ := I6.loc
      have hn : s6.heap.Ns ce.locals m := hn
      rw [cL] at hn
      exact hRR D s3.heap.objs.size s6 m H5 I7 qq hn (I3.fpOk (Nat.le_refl _) nC)
    · have ti := T.item (X.blk s3 H3 scope ce fp) rfl rfl rfl hc i [] s5 _ H5 (fun _ _ => False) I5 (stat I5 n5) st5 go
      refine thnF ti fun r s6 ⟨u, hr, h6⟩ => ?_
      subst hr
      refine thnF h6 fun _ s7 ⟨x, H7, I7, r7, y7, st7, n7⟩ => ?_
      have I7' := I7.pinned (stat I7 n7) (T.obj _ _ st7)
      refine thnF (pg _ s7 _ H7 x u _ I7' r7 (step x H7 y7)) fun _ s8 ⟨σ8, H8, I8, hw8, q8⟩ => ?_
      refine thnF (pt _ s8 σ8 H8 _ I8 q8) fun b s9 ⟨H9, I9, q9⟩ => ?_
      -- the turn's end
      have fin : ∀ {s' : Shared} {H' : Hp}, Inv (X.blk s3 H3 scope ce fp) ([] ++ pinsAt fp s7.heap) σ8 H' s' → Nx H' → ∃ m, m < n ∧ ∃ i H', Inv (X.blk s3 H3 scope ce fp) [] (wipe σ (own.map (·.2))) H' s' ∧ tn i s'.heap ∧ (∀ b ∈ fp, H' b = none) ∧ W i m H' := fun {s' H'} I' nx => by
        obtain ⟨m', hm, w'⟩ := hNx H' nx
        have pin' : ∀ b ∈ fp, ∀ o, s7.heap.get? b = some o → s'.heap.get? b = some o ∧ H' b = none := fun b hb o e =>
          let z := I'.pin (b, o) (List.mem_append_right _ (List.mem_append_right _ (mem_pinsAt hb e)))
          ⟨z.1, z.2.1⟩
        have hl : (wipe σ (own.map (·.2))).length = σ8.length := by rw [← hw8, wipe_length]
        refine ⟨m', hm, i + 1, H', (I'.unpinned (pins := [])).weak hl (fun j v e => ?_), T.keep _ _ _ st7 fun b hb o e => (pin' b hb o e).1, fun b hb => ?_, w'⟩
        · rw [← hw8] at e
          exact (wipe_some e).1
        · obtain ⟨o, e, _⟩ := T.obj _ _ st7 b hb
          exact (pin' b hb o e).2
      cases b with
      | false =>
        simp only [Bool.false_eq_true, if_false] at q9 ⊢
        exact fin I9 q9
      | true =>
        simp only [if_true] at q9 ⊢
        refine thnF (pe _ s9 σ8 H9 _ I9 q9) fun z s10 ⟨yv, H10, I10, r10, acc, hD10, hz10, nx⟩ => ?_
        exact app_ok (X := X.blk s3 H3 scope ce fp) I10 hD10 hz10 r10 fun s11 I11 => fin I11 nx
  exact codeAny_compStart_list loop (T.self X.A 0 _ _ _ st4 loop)
/-- as a value -/
theorem pe_lc {elt tg iter : Expr} {ifs : List Expr} {scope : Scope} {own : List (Str × Nat)} {pos : Pos} {wi : TI} {g : TG} {tt : TT} {te : TE} (hc : X.calm = true) (hN : X.N.Nodup) (hi : PI X tg iter wi) (ok : BlkOk X.N X.env.scope scope own)
    (hg : ∀ (s : Shared) (H : Hp) (C : Addr) (cl : List (Str × Addr)) (fp : List Addr), PG (X.blk s H scope (compEnvC scope cl C X.env) fp) tg g) (ht : ∀ (s : Shared) (H : Hp) (C : Addr) (cl : List (Str × Addr)) (fp : List Addr), PTs (X.blk s H scope (compEnvC scope cl C X.env) fp) ifs tt)
    (he : ∀ (s : Shared) (H : Hp) (C : Addr) (cl : List (Str × Addr)) (fp : List Addr), PE (X.blk s H scope (compEnvC scope cl C X.env) fp) elt te) (hs : ∀ x, foldedSetIterable iter X.env x = pure x := by intro _; rfl) :
    PE X (.ListComp elt [⟨tg, iter, ifs, 0⟩] scope pos) (tLc wi g tt te (own.map (·.2))) := by
  intro pins s σ H Q I h
  rw [eval_ListComp]
  refine lc_core hc hN I hi ok hg ht he hs h fun D C s' m H' I' q hn f => ⟨m, hn, fun h'' sb => ?_⟩
  obtain ⟨f0, f1, f2, f3, f4, f5⟩ := f
  exact ⟨.ref D, H', I'.turned (t' := s'.toks) (fun b o hb e => (sb.2 b hb).trans e) f0 f1 f3 f4 f5, rfl, q⟩
/-- name = [..] on one line, the name a local -/
theorem ps_setLc {i : Nat} {y : Str} {py : Pos} {elt tg iter : Expr} {ifs : List Expr} {scope : Scope} {own : List (Str × Nat)} {pos spos : Pos} {wi : TI} {g : TG} {tt : TT} {te : TE} (hc : X.calm = true) (hN : X.N.Nodup) (hy : X.N[i]? = some y) (hyl : X.env.scope.names.lookup y = some .local)
    (hsw : swapsWith (.ListComp elt [⟨tg, iter, ifs, 0⟩] scope pos) (some (.Name y py)) spos.line X.env = pure true) (hi : PI X tg iter wi) (ok : BlkOk X.N X.env.scope scope own)
    (hg : ∀ (s : Shared) (H : Hp) (C : Addr) (cl : List (Str × Addr)) (fp : List Addr), PG (X.blk s H scope (compEnvC scope cl C X.env) fp) tg g) (ht : ∀ (s : Shared) (H : Hp) (C : Addr) (cl : List (Str × Addr)) (fp : List Addr), PTs (X.blk s H scope (compEnvC scope cl C X.env) fp) ifs tt)
    (he : ∀ (s : Shared) (H : Hp) (C : Addr) (cl : List (Str × Addr)) (fp : List Addr), PE (X.blk s H scope (compEnvC scope cl C X.env) fp) elt te) (hs : ∀ x, foldedSetIterable iter X.env x = pure x := by intro _; rfl) :
    PS X (.Assign [.Name y py] (.ListComp elt [⟨tg, iter, ifs, 0⟩] scope pos) spos) (tAsg (tLc wi g tt te (own.map (·.2))) (gName i)) := by
  intro pins s σ H D I h
  rw [exec_Assign_Name_used _ _ _ _ hsw]
  refine wpAny_bind (wpAny_standAt (wpAny_bind ?_))
  show wpAny _ X.A (do let _ ← comprehension (.ListComp elt [⟨tg, iter, ifs, 0⟩] scope pos) scope X.env (firstIterPos [⟨tg, iter, ifs, 0⟩] pos) (newList []) false (eval iter X.env) (some (assign (.Name y py) X.env))) _ _ s
  have h : tLc wi g tt te (own.map (·.2)) σ H (fun x H1 => gName i x σ H1 D.nx) := h
  refine wpAny_bind (thn (lc_core (Qf := fun _ s' => SP X pins D .next s') hc hN I hi ok hg ht he hs h fun L C s' m H' I' q hn f => ?_) fun _ s' hq => wpAny_pure (wpAny_pure hq))
  show wpAny _ _ (assign (.Name y py) X.env (.ref L)) _ _ _
  refine wpAny_assign_Name (store_ok2 (v := V.ref L) I' hN hy (.inl hyl) rfl (fun s2 I2 ⟨a, sb, ha⟩ => ?_) (.inr hyl))
  obtain ⟨f0, f1, f2, f3, f4, f5⟩ := f
  have haC : C ≠ a := by
    rcases ha with z | z
    · rw [z]; exact f1
    · exact fun e => f4 y a z e.symm
  refine ⟨m, hn.sameBut sb haC, fun h3 sb3 => ?_⟩
  exact ⟨_, H', I2.turned (t' := s2.toks) (fun b o hb e => (sb3.2 b hb).trans e) f0 f1 f3 f4 f5, q⟩
theorem sw_true {elt : Expr} {gs : List Comprehension} {scope : Scope} {pos py : Pos} {y : Str} {l : Nat} {env : Env} (hk : env.scope.kind = .function) (hy : env.scope.names.lookup y = some .local) (hl : (py.line == pos.line) = true)
    (ha : (scope.names.any fun (n, k) => n == y && (k == .local || k == .cell)) = false) : swapsWith (.ListComp elt gs scope pos) (some (.Name y py)) l env = pure true := by
  have ky : env.kindOf y = some .local := hy
  have hb : env.blockKind = .function := by unfold Env.blockKind; rw [hk]; rfl
  unfold swapsWith
  simp only [hb, ky, ha, Expr.pos, hl]
  rfl
end

/-! ### the forms one uses -/
/-- over a range: Pv by the turn and the heap (the new list at D within) -/
theorem lc_range {lo : Int} {n : Nat} {g : TG} {tt : TT} {te : TE} {vs : List Nat} {σ : St} {H1 : Hp} {D : Addr} {Qd : Hp → Prop} (Pv : Nat → Hp → Prop) (h0 : Pv 0 (upd H1 D (.lst [])))
    (hs : ∀ i H, i < n → Pv i H → g (.int (lo + i)) (wipe σ vs) H fun σ2 H2 => wipe σ2 vs = wipe σ vs ∧ tt σ2 H2 fun b H3 =>
      if b = true then te σ2 H3 fun y H4 => ∃ acc, H4 D = some (.lst acc) ∧ acc.length < sizeLine ∧ Pv (i + 1) (upd H4 D (.lst (acc ++ [y]))) else Pv (i + 1) H3) (hd : ∀ H, Pv n H → Qd H) :
    ∃ W : Nat → Nat → Hp → Prop, (∃ m, W 0 m (upd H1 D (.lst []))) ∧ ∀ i m H, W i m H →
      ((Itr lo n).stop i H ∧ Qd H) ∨ ((Itr lo n).go i H ∧ ∃ Nx : Hp → Prop, (∀ H', Nx H' → ∃ m', m' < m ∧ W (i + 1) m' H') ∧ ∀ x H', (Itr lo n).yld i H x H' → g x (wipe σ vs) H' fun σ2 H2 => wipe σ2 vs = wipe σ vs ∧ tt σ2 H2 fun b H3 =>
        if b = true then te σ2 H3 fun y H4 => ∃ acc, H4 D = some (.lst acc) ∧ acc.length < sizeLine ∧ Nx (upd H4 D (.lst (acc ++ [y]))) else Nx H3) := by
  refine ⟨fun i m H => m = n - i ∧ i ≤ n ∧ Pv i H, ⟨n, by simp, Nat.zero_le _, h0⟩, ?_⟩
  rintro i m H ⟨rfl, hi, p⟩
  by_cases hlt : i < n
  · refine .inr ⟨hlt, Pv (i + 1), fun H' p' => ⟨n - (i + 1), by omega, rfl, hlt, p'⟩, fun x H' y => ?_⟩
    obtain ⟨e, y⟩ := y
    subst e y
    exact hs i _ hlt p
  · have e : i = n := by omega
    subst e
    exact .inl ⟨Nat.le_refl _, hd H p⟩
/-- over a list that the block leaves as it is -/
theorem lc_list {K : PySem.W.Frag} {a : Addr} {xs : List V} {g : TG} {tt : TT} {te : TE} {vs : List Nat} {σ : St} {H1 : Hp} {D : Addr} {Qd : Hp → Prop} (Pv : Nat → Hp → Prop) (h0 : Pv 0 (upd H1 D (.lst []))) (hl : ∀ i H, i ≤ xs.length → Pv i H → SqL K H a xs)
    (hs : ∀ i x H, xs[i]? = some x → Pv i H → g x (wipe σ vs) H fun σ2 H2 => wipe σ2 vs = wipe σ vs ∧ tt σ2 H2 fun b H3 =>
      if b = true then te σ2 H3 fun y H4 => ∃ acc, H4 D = some (.lst acc) ∧ acc.length < sizeLine ∧ Pv (i + 1) (upd H4 D (.lst (acc ++ [y]))) else Pv (i + 1) H3) (hd : ∀ H, Pv xs.length H → Qd H) :
    ∃ W : Nat → Nat → Hp → Prop, (∃ m, W 0 m (upd H1 D (.lst []))) ∧ ∀ i m H, W i m H →
      ((Itl K a).stop i H ∧ Qd H) ∨ ((Itl K a).go i H ∧ ∃ Nx : Hp → Prop, (∀ H', Nx H' → ∃ m', m' < m ∧ W (i + 1) m' H') ∧ ∀ x H', (Itl K a).yld i H x H' → g x (wipe σ vs) H' fun σ2 H2 => wipe σ2 vs = wipe σ vs ∧ tt σ2 H2 fun b H3 =>
        if b = true then te σ2 H3 fun y H4 => ∃ acc, H4 D = some (.lst acc) ∧ acc.length < sizeLine ∧ Nx (upd H4 D (.lst (acc ++ [y]))) else Nx H3) := by
  refine ⟨fun i m H => m = xs.length - i ∧ i ≤ xs.length ∧ Pv i H, ⟨xs.length, by simp, Nat.zero_le _, h0⟩, ?_⟩
  rintro i m H ⟨rfl, hi, p⟩
  have q := hl i H hi p
  by_cases hlt : i < xs.length
  · refine .inr ⟨⟨xs, xs[i], q, by simp [hlt]⟩, Pv (i + 1), fun H' p' => ⟨xs.length - (i + 1), by omega, rfl, hlt, p'⟩, fun x H' y => ?_⟩
    obtain ⟨e, y⟩ := y
    subst e
    exact hs i x _ (y xs q) p
  · have e : i = xs.length := by omega
    subst e
    exact .inl ⟨⟨xs, q, Nat.le_refl _⟩, hd H p⟩
def blkC (N : List Str) (sc scope : Scope) (own : List (Str × Nat)) : Bool :=
  (match scope.kind with | .function => true | _ => false) && (scope.names.all fun y => decide (scope.names.lookup y.1 = some y.2)) && (own.all fun p => decide (N[p.2]? = some p.1)) &&
    (scope.names.all fun y => match y.2 with
      | .free => (match sc.names.lookup y.1 with | some .cell => true | some .free => true | _ => false)
      | .local => decide (y.1 ∈ own.map (·.1)) || decide (y.1 ∉ N)
      | .cell => decide (y.1 ∈ own.map (·.1)) || decide (y.1 ∉ N)
      | _ => true)
theorem blkOk_by {N : List Str} {sc scope : Scope} {own : List (Str × Nat)} (h : blkC N sc scope own = true) : BlkOk N sc scope own := by
  unfold blkC at h
  simp only [Bool.and_eq_true, List.all_eq_true, decide_eq_true_eq] at h
  obtain ⟨⟨⟨h1, h2⟩, h3⟩, h4⟩ := h
  refine ⟨?_, h2, h3, fun y hy e => ?_, fun y hy e => ?_⟩
  · split at h1
    · assumption
    · cases h1
  · have q := h4 y hy
    simp only [e] at q
    split at q <;> first | exact .inl (by assumption) | exact .inr (by assumption) | cases q
  · have q := h4 y hy
    rcases e with e | e <;> (simp only [e, Bool.or_eq_true, decide_eq_true_eq] at q; exact q)
end L2

namespace L2
open PySem PySem.Spec PyProof.Rows


section
variable {prog : Program} {w : World} {A : Around} {R : Result → Shared → Prop} {s : Shared} {elt t0 i0 t1 i1 : Expr} {ifs0 ifs1 : List Expr} {scope : Scope} {pos : Pos} {it acc : Value} {env : Env}
end

section
variable {X : Cx}
end
end L2

namespace L2
open PySem PySem.Spec PyProof.Rows

/-! ### lists of pairs as tables -/
section
variable {κ : Type} [DecidableEq κ]



end


/-! ### a tracked dict, its keys ints and texts or tuples of these -/


section
variable {P : Program} {w : World} {H : Hp} {h : Heap} {a : Addr}
end



section
variable {X : Cx} {pins : List (Addr × Obj)} {σ : St} {H : Hp} {s : Shared} {a : Addr} {y v : V} {u r : Value} {o : Option V} {A : Around} {E : Value → Shared → Prop}


end

section
variable {X : Cx} {pins : List (Addr × Obj)} {σ : St} {H : Hp} {s : Shared} {a : Addr} {kvs : List (Key × V)} {k : Key} {u : Value} {A : Around} {E : Value → Shared → Prop}
end


/-! ### readings and rules -/
/-- the element of a subscription, not a slice -/
def NoSl (i : Expr) : Prop := ∀ ov iv, subscripted i false ov iv = operate [ov, iv] (getItem ov iv)
theorem subD_of {prog : Program} {w : World} {A : Around} {E : Value → Shared → Prop} {s : Shared} {env : Env} {value slice : Expr} {pos : Pos} {T id : String} {Q : Value → Shared → Prop}
    (hl : typeLookup (.type T) "__getitem__" = pure (some (.builtin id))) (hs : NoSl slice)
    (h : wpAny (model prog w) A (eval value env) (fun o s₁ => wpAny (model prog w) A (eval slice env) (fun i s₂ => s₂.TypeIs o T ∧ wpAny (model prog w) A (getItem o i) Q E s₂) E s₁) E s) :
    wpAny (model prog w) A (eval (.Subscript value slice pos) env) Q E s := by
  refine Subscript_ (wpAny_mono h (fun o s₁ h₁ => wpAny_mono h₁ (fun i s₂ h₂ => ?_) fun _ _ x => x) fun _ _ x => x)
  obtain ⟨hT, h₂⟩ := h₂
  unfold subscriptTail
  refine wpAny_bind ?_
  rw [getitemInPython_of_ne hT.not_modules]
  refine wpAny_bind (wpAny_specialOf hT hl ?_)
  have fin : wpAny (model prog w) A (subscripted slice false o i) (fun r s₃ => wpAny (model prog w) A (letTemporaryGo value o r >>= fun _ => pure r) Q E s₃) E s₂ := by
    rw [hs o i]
    exact wpAny_operating (wpAny_mono h₂ (fun r s₃ h₃ => wpAny_bind (wpAny_letTemporaryGo (wpAny_pure h₃))) fun _ _ x => x)
  first
    | exact wpAny_pure (wpAny_bind fin)
    | exact wpAny_bind (wpAny_pure (wpAny_bind fin))
    | exact wpAny_bind fin



section
variable {X : Cx} {o i e value : Expr} {pos pos' tpos : Pos} {td ty tv : TE}
end


/-! ### displays -/
section
variable {X : Cx} {pos : Pos}
end




/-! ### methods -/


section
variable {X : Cx} {pins : List (Addr × Obj)} {σ : St} {H : Hp} {s : Shared} {a : Addr} {y d : V} {u r : Value} {o : Option V} {A : Around} {E : Value → Shared → Prop}
end

section
variable {X : Cx} {o e f : Expr} {apos cpos : Pos} {td ty tx : TE}
end

/-! ### dict(d): a copy -/
section
variable {X : Cx} {pins : List (Addr × Obj)} {σ : St} {H : Hp} {s : Shared} {a : Addr} {kvs : List (Key × V)} {A : Around} {E : Value → Shared → Prop}
end


section
variable {X : Cx} {pins : List (Addr × Obj)} {σ : St} {H : Hp} {s : Shared} {a : Addr} {y : V} {u : Value} {A : Around} {E : Value → Shared → Prop}
end
end L2

namespace L2
open PySem PySem.Spec PyProof.Rows


section
variable {prog : Program} {w : World} {A : Around} {E : Value → Shared → Prop}


end

section
variable {X : Cx}
end
end L2

namespace L2
open PySem PySem.Spec PyProof.Rows


section
variable {X : Cx} {pins : List (Addr × Obj)} {σ : St} {H : Hp} {s : Shared} {h' : Heap}
/-- several records of ours have turned -/
theorem Inv.turnedL {t' : Nat} {ch : List Addr} (I : Inv X pins σ H s) (k : ∀ b o, b ∉ ch → s.heap.get? b = some o → h'.get? b = some o) (hf : ∀ b ∈ ch, FpOk X pins H b) : Inv X pins σ H { s with heap := h', toks := t' } := by
  have nit : ∀ b u, H b = some u → b ∉ ch := fun b u e z => by
    have q := (hf b z).1
    rw [q] at e; cases e
  refine I.step (g' := s.gens) (d' := s.drawn) (ch := ch) (fun b hb => ⟨(hf b hb).2.2.2.1, (hf b hb).2.1, (hf b hb).2.2.2.2.1, (hf b hb).2.2.2.2.2⟩) (fun b o _ _ hc e _ => k b o hc e) (fun b o _ _ hc e _ => ⟨o.slots, k b o hc e⟩)
    (fun _ _ _ _ n => n) (fun b o hc e => ⟨o, k b o hc e⟩) (fun _ _ e => e) (fun _ _ _ e => e) (fun b ps e => ⟨#[], by rw [e]; simp⟩) (fun m hm => ?_) (fun b u e => ?_) I.bare
  · obtain ⟨o, es, ep, ho, r⟩ := hm
    exact ⟨o, es, ep, k _ o (fun z => (hf _ z).2.1 rfl) ho, r⟩
  · refine (I.hok b u e).stay (fun c v hc q => k c v ?_ q) (fun _ q => q) fun _ _ q => q
    rcases hc with z | z
    · rw [z]; exact nit b u e
    · exact nit c _ z
/-- .. and one new object is laid -/
theorem Inv.turnedNew {t' : Nat} {ch : List Addr} {T : Addr} {ob : HO} (I : Inv X pins σ H s) (k : ∀ b o, b ∉ ch → s.heap.get? b = some o → h'.get? b = some o) (hf : ∀ b ∈ ch, FpOk X pins H b) (hT : s.heap.objs.size ≤ T)
    (new : ObjOk X.prog X.w (upd H T ob) h' T ob) : Inv X pins σ (upd H T ob) { s with heap := h', toks := t' } := by
  have hn : H T = none := I.hok.fresh hT
  have nit : ∀ b u, H b = some u → b ∉ ch := fun b u e z => by
    have q := (hf b z).1
    rw [q] at e; cases e
  refine I.step (g' := s.gens) (d' := s.drawn) (ch := ch) (fun b hb => ⟨(hf b hb).2.2.2.1, (hf b hb).2.1, (hf b hb).2.2.2.2.1, (hf b hb).2.2.2.2.2⟩) (fun b o _ _ hc e _ => k b o hc e) (fun b o _ _ hc e _ => ⟨o.slots, k b o hc e⟩)
    (fun b o _ e n => ?_) (fun b o hc e => ⟨o, k b o hc e⟩) (fun b xs e => ?_) (fun b o u e => ?_) (fun b ps e => ⟨#[], ?_⟩) (fun m hm => ?_) (fun b u e => ?_) I.bare
  · rw [upd_ne (Nat.ne_of_lt (Nat.lt_of_lt_of_le (Heap.lt_size e) hT))]; exact n
  · rw [upd_ne (ne_of_none e hn)]; exact e
  · rw [upd_ne (ne_of_none e hn)]; exact e
  · rw [upd_ne (ne_of_none e hn), e]; simp
  · obtain ⟨o, es, ep, ho, r⟩ := hm
    exact ⟨o, es, ep, k _ o (fun z => (hf _ z).2.1 rfl) ho, r⟩
  · by_cases hb : b = T
    · subst hb
      rw [upd_same] at e
      cases e
      exact new
    · rw [upd_ne hb] at e
      refine (I.hok b u e).stay (fun c v hc q => k c v ?_ q) (fun c q => by rw [upd_ne (ne_of_none q hn)]; exact q) fun c xs q => by rw [upd_ne (ne_of_none q hn)]; exact q
      rcases hc with z | z
      · rw [z]; exact nit b u e
      · exact nit c _ z

/-! ### locking a thing while a statement runs -/
end
section
variable {X : Cx}

/-! ### one iterator just laid -/
theorem pi_one {tg : Expr} {pins : List (Addr × Obj)} {σ : St} {H : Hp} {s : Shared} {R : It → Hp → Prop} {J : It} {tn : Nat → Heap → Prop} {tk : Nat} (I : Inv X pins σ H s) (o : Obj)
    (T : Turn X.prog X.w X.K tg J [s.heap.objs.size] s.heap.objs.size tn) (st : tn 0 (s.heap.push o)) (q : R J H) : PIE X pins σ tg R (.ref s.heap.objs.size) { s with heap := s.heap.push o, toks := tk } := by
  refine ⟨s.heap.objs.size, [s.heap.objs.size], tn, J, H, rfl, I.kept fun b ob e => Heap.get?_push_of_some _ e, T, st, fun b hb => ?_, q⟩
  have e : b = s.heap.objs.size := by simpa using hb
  subst e
  exact I.fpOk (Nat.le_refl _) (I.hok.fresh (Nat.le_refl _))
end

/-! ### range with a step -/
/-- lo, lo + c, .. (n of them) -/
def Itc (lo c : Int) (n : Nat) : It := ⟨fun i _ => i < n, fun i H x H' => H' = H ∧ x = .int (lo + (i : Nat) * c), fun i _ => n ≤ i⟩
theorem turn_rangeC {P : Program} {w : World} {K : PySem.W.Frag} {tg : Expr} (it : Addr) (lo c : Int) (n : Nat) : Turn P w K tg (Itc lo c n) [it] it (fun i h => IsRangeIter h it (lo + (i : Nat) * c) ((n : Int) - (i : Nat)) c) where
  mem := by simp
  obj := fun i h st b hb => by
    have e : b = it := by simpa using hb
    subst e
    exact ⟨_, st, fun v z => nomatch z⟩
  keep := fun i h h' st k => k it (by simp) _ st
  item := by
    intro X hP hw hK hc i pins s σ H E I hf st hg
    subst hP hw hK
    obtain ⟨f0, f1, f2, f3, f4, f5⟩ := hf it (by simp)
    have W := Walks.range (prog := X.prog) (w := X.w) (I.ok.hd hc) it lo c n
    refine W.item i s _ _ hg st fun v h' tk hv st' kk => ?_
    obtain ⟨t, rfl⟩ := hv
    have I1 : Inv X pins σ H { s with heap := h', toks := tk } := I.turned (fun b o hb e => kk b o (by simpa using hb) e) f0 f1 f3 f4 f5
    exact ⟨_, rfl, go_of (s := { s with heap := h', toks := tk }) (n := "range_iterator") st' rfl rfl (by decide) ⟨.int (lo + (i : Nat) * c), H, I1, ⟨t, rfl⟩, ⟨rfl, rfl⟩, st', fun b hb => (hf b hb).1⟩⟩
  done := by
    intro X hP hw hK hc i pins s σ H E I hf st hg
    subst hP hw hK
    obtain ⟨f0, f1, f2, f3, f4, f5⟩ := hf it (by simp)
    exact wpAny_pyNext_range_end (I.ok.hd hc) st (by have : n ≤ i := hg; omega) fun h' eb => ⟨rfl, I.turned (t' := s.toks) (fun b o hb e => eb b o hb e) f0 f1 f3 f4 f5⟩
  self := fun A i s Q E st h => wpAny_pyIter_rangeiter st h
/-- range(i, j, c): small bounds, n items -/
def RgC (i j c : Int) (n : Nat) : Prop := c ≠ 0 ∧ c.natAbs < 1073741824 ∧ Builtin.Range.small i j c = true ∧ Builtin.Range.rangeSize i j c = n
def iRng3 (ta : TA) : TI := fun σ H R => ta σ H fun vs H1 => ∃ (i j c : Int) (n : Nat), vs = [.int i, .int j, .int c] ∧ RgC i j c n ∧ R (Itc i c n) H1
section
variable {X : Cx} {tg : Expr}
theorem pi_range3 {a b c : Expr} {ta : TA} {p pos : Pos} (hg : Gl X "range") (hm : X.mg "range" = none) (ha : PA X [a, b, c] ta)
    (hs : starEach [a, b, c] X.env = (false, eval a X.env) :: starEach [b, c] X.env := by rfl) (hpl : (backTo pos (starEach [b, c] X.env)).any (·.1) = false := by rfl) :
    PI X tg (.Call (.Name "range" p) [a, b, c] [] pos) (iRng3 ta) := by
  intro pins s σ H R I h
  refine Call_ (ld_blt I hg hm boot_range (PyProof.Rows.callWith_type1 (thn (ha pos pins s σ H _ I h) fun us s1 ⟨vs, H1, I1, r1, q1⟩ => ?_) hs hpl))
  obtain ⟨i, j, k, n, e, ⟨c0, c1, c2, c3⟩, q⟩ := q1
  subst e
  cases r1 with
  | cons r rr =>
    cases rr with
    | cons r' rr =>
      cases rr with
      | cons r'' rr =>
        cases rr
        obtain ⟨t, rfl⟩ := r
        obtain ⟨t', rfl⟩ := r'
        obtain ⟨t'', rfl⟩ := r''
        refine call_range_3 c0 ?_ (.inl (PyProof.noPylong_small c1))
        refine wpAny_pyIter_range (IsRange.new ..) c2 ?_
        have I2 : Inv X pins σ H1 { s1 with heap := s1.heap.push { cls := .type "range", data := .fields #[.int i t, .int j t', .int k t''] } } := I1.kept (t' := s1.toks) fun b o e => Heap.get?_push_of_some _ e
        refine pi_one (tk := s1.toks) I2 _ (turn_rangeC _ i k n) ?_ q
        have e1 : i + ((0 : Nat) : Int) * k = i := by simp
        have e2 : (n : Int) - ((0 : Nat) : Int) = Builtin.Range.rangeSize i j k := by rw [c3]; simp
        show IsRangeIter _ _ (i + ((0 : Nat) : Int) * k) ((n : Int) - ((0 : Nat) : Int)) k
        rw [e1, e2]
        exact Heap.get?_push_size _ rfl
end
/-- the turns of a step range, for the for loop -/
theorem for_rangeC {lo c : Int} {n : Nat} {g : TG} {tb : TS} {D : Ends} {σ : St} {H : Hp} (Pv : Nat → St → Hp → Prop) (h0 : Pv 0 σ H)
    (hs : ∀ i σ H, i < n → Pv i σ H → g (.int (lo + (i : Nat) * c)) σ H fun σ2 H2 => tb { D with nx := Pv (i + 1), ct := Pv (i + 1), bk := D.nx } σ2 H2) (hd : ∀ σ H, Pv n σ H → D.nx σ H) :
    ∃ W : Nat → Nat → St → Hp → Prop, (∃ m, W 0 m σ H) ∧ ∀ i m σ H, W i m σ H →
      ((Itc lo c n).stop i H ∧ D.nx σ H) ∨ ((Itc lo c n).go i H ∧ ∃ N : St → Hp → Prop, (∀ σ' H', N σ' H' → ∃ m', m' < m ∧ W (i + 1) m' σ' H') ∧ ∀ x H', (Itc lo c n).yld i H x H' → g x σ H' fun σ2 H2 => tb { D with nx := N, ct := N, bk := D.nx } σ2 H2) := by
  refine ⟨fun i m σ H => m = n - i ∧ i ≤ n ∧ Pv i σ H, ⟨n, by simp, Nat.zero_le _, h0⟩, ?_⟩
  rintro i m σ H ⟨rfl, hi, p⟩
  by_cases hlt : i < n
  · refine .inr ⟨hlt, Pv (i + 1), fun σ' H' p' => ⟨n - (i + 1), by omega, rfl, hlt, p'⟩, fun x H' y => ?_⟩
    obtain ⟨e, y⟩ := y
    subst e y
    exact hs i σ _ hlt p
  · have e : i = n := by omega
    subst e
    exact .inl ⟨Nat.le_refl _, hd σ H p⟩

/-! ### reversed(list) -/
section
variable {X : Cx} {tg : Expr}
end

/-! ### a str -/

/-! ### a dict's keys: any dict's entries -/
section
variable {prog : Program} {w : World} {A : Around} {E : Value → Shared → Prop} {s : Shared}
end

/-! ### a locked dict -/
section
variable {X : Cx} {pins : List (Addr × Obj)} {σ : St} {H : Hp} {s : Shared} {d : Addr} {o : Obj}
end

section
variable {P : Program} {w : World} {K : PySem.W.Frag} {tg : Expr} {d : Addr} {o : Obj} {es : Array DictEntry} {ep : Nat}
end

/-! ### for k in d, d.keys(), d.values(), d.items() -/
section
variable {X : Cx} {tg e : Expr} {td : TE} {apos cpos : Pos}
end

/-! ### enumerate(list) -/
/-- the list at a as it stands at each turn, each item in a new pair -/
def Ite (K : PySem.W.Frag) (a : Addr) : It :=
  ⟨fun i H => ∃ (xs : List V) (x : V), SqL K H a xs ∧ xs[i]? = some x, fun i H v H' => ∃ T x, v = .ref T ∧ H T = none ∧ H' = upd H T (.tup [.int (i : Nat), x]) ∧ ∀ xs, SqL K H a xs → xs[i]? = some x, fun i H => ∃ xs : List V, SqL K H a xs ∧ xs.length ≤ i⟩
theorem turn_enum {P : Program} {w : World} {K : PySem.W.Frag} {elts : List Expr} {kk : Nat} {tpos : Pos} (a e it : Addr) :
    Turn P w K (.Tuple elts kk tpos) (Ite K a) [e, it] e (fun i h => (∃ old, IsEnum h e it ((i : Nat) : Int) old) ∧ h.IsListIter it a i ∧ e ≠ it) where
  mem := by simp
  obj := fun i h st b hb => by
    obtain ⟨⟨old, he⟩, ⟨o, ho, hc, hd⟩, _⟩ := st
    have e' : b = e ∨ b = it := by simpa using hb
    rcases e' with z | z
    · rw [z]; exact ⟨_, he, fun v q => nomatch q⟩
    · rw [z]; exact ⟨o, ho, fun v q => by rw [hd] at q; cases q⟩
  keep := fun i h h' st k => let ⟨⟨old, he⟩, hi, hne⟩ := st; ⟨⟨old, k e (by simp) _ he⟩, hi.at fun o q => k it (by simp) o q, hne⟩
  item := by
    intro X hP hw hK hc i pins s σ H E I hf st hg
    subst hP hw hK
    obtain ⟨⟨old, he⟩, hit, hne⟩ := st
    obtain ⟨xs, x, hq, hx⟩ := hg
    obtain ⟨its, rv, p, hz⟩ := I.list hq
    obtain ⟨u, hu, ru⟩ := rv.get hx
    have hel : e < s.heap.objs.size := Heap.lt_size he
    have hil : it < s.heap.objs.size := by obtain ⟨_, q, _⟩ := hit; exact Heap.lt_size q
    refine wpAny_pyNext_enum_item he hit p.isList (x := u) (by simpa using hu) hne fun h' ho hit' hT hsz hk => ?_
    refine ⟨_, rfl, wpAny_letOwnedTupleGo_enum (s := { s with heap := h', toks := s.toks + 1 }) ho fun h'' he' sb => ?_⟩
    have hT2 : h''.get? s.heap.objs.size = some { cls := .type "tuple", data := .seq #[.int i s.toks, u] } := (sb.2 _ (Nat.ne_of_gt hel)).trans hT
    have new : ObjOk X.prog X.w (upd H s.heap.objs.size (.tup [.int (i : Nat), x])) h'' s.heap.objs.size (.tup [.int (i : Nat), x]) :=
      ⟨by show 2 ≤ sizeLine; decide, [.int i s.toks, u], .cons ⟨_, rfl⟩ (.cons ru .nil), ⟨_, hT2, rfl, _, rfl⟩⟩
    have I1 : Inv X pins σ (upd H s.heap.objs.size (.tup [.int (i : Nat), x])) { s with heap := h'', toks := s.toks + 1 } :=
      I.turnedNew (ch := [e, it]) (fun b ob hb q => (sb.2 b (fun z => hb (by simp [z]))).trans (hk b ob (fun z => hb (by simp [z])) (fun z => hb (by simp [z])) q)) hf (Nat.le_refl _) new
    refine ⟨.ref s.heap.objs.size, _, I1, rfl, ⟨_, x, rfl, I.hok.fresh (Nat.le_refl _), rfl, fun ys hy => by rw [I.list_inj hy hq]; exact hx⟩, ⟨⟨u, ?_⟩, hit'.at fun o q => (sb.2 it (Ne.symm hne)).trans q, hne⟩, fun b hb => ?_⟩
    · have e1 : ((i + 1 : Nat) : Int) = (i : Int) + 1 := by omega
      rw [e1]; exact he'
    · have hb' : b < s.heap.objs.size := by
        have e' : b = e ∨ b = it := by simpa using hb
        rcases e' with z | z
        · rw [z]; exact hel
        · rw [z]; exact hil
      rw [upd_ne (Nat.ne_of_lt hb')]
      exact (hf b hb).1
  done := by
    intro X hP hw hK hc i pins s σ H E I hf st hg
    subst hP hw hK
    obtain ⟨⟨old, he⟩, hit, hne⟩ := st
    obtain ⟨xs, hq, hx⟩ := hg
    obtain ⟨its, rv, p, hz⟩ := I.list hq
    obtain ⟨f0, f1, f2, f3, f4, f5⟩ := hf it (by simp)
    have hl := rv.length
    exact wpAny_pyNext_enum_end (I.ok.hd hc) he hit p.isList (by simp; omega) fun h' eb => ⟨rfl, I.turned (t' := s.toks) (fun b o hb q => eb b o hb q) f0 f1 f3 f4 f5⟩
  self := fun A i s Q E st h => let ⟨⟨_, he⟩, _⟩ := st; wpAny_pyIter_enum he h
def iEnum (K : PySem.W.Frag) (ta : TA) : TI := fun σ H R => ta σ H fun vs H1 => ∃ a xs, vs = [.ref a] ∧ SqL K H1 a xs ∧ R (Ite K a) H1
theorem pi_enum {X : Cx} {e : Expr} {ta : TA} {p pos tpos : Pos} {elts : List Expr} {kk : Nat} (hg : Gl X "enumerate") (hm : X.mg "enumerate" = none) (ha : PA X [e] ta) (hs : starEach [e] X.env = [(false, eval e X.env)] := by rfl) :
    PI X (.Tuple elts kk tpos) (.Call (.Name "enumerate" p) [e] [] pos) (iEnum X.K ta) := by
  intro pins s σ H R I h
  refine Call_ (ld_blt I hg hm boot_enumerate (PyProof.Rows.callWith_type1 (thn (ha pos pins s σ H _ I h) fun us s1 ⟨vs, H1, I1, r1, q1⟩ => ?_) hs rfl))
  obtain ⟨a, xs, ex, hq, q⟩ := q1
  subst ex
  cases r1 with
  | cons r rr =>
    cases rr
    cases r
    obtain ⟨its, rv, p', hz⟩ := I1.list hq
    refine call_enumerate_list p'.isList fun h' he hit hsz hk => wpAny_pyIter_enum he ?_
    have I2 : Inv X pins σ H1 { s1 with heap := h' } := I1.kept (t' := s1.toks) hk
    refine ⟨s1.heap.objs.size + 1, [s1.heap.objs.size + 1, s1.heap.objs.size], _, _, H1, rfl, I2, turn_enum a (s1.heap.objs.size + 1) s1.heap.objs.size, ⟨⟨.none, he⟩, hit, Nat.succ_ne_self _⟩, fun b hb => ?_, q⟩
    have e' : b = s1.heap.objs.size + 1 ∨ b = s1.heap.objs.size := by simpa using hb
    have hle : s1.heap.objs.size ≤ b := by
      rcases e' with z | z
      · rw [z]; exact Nat.le_add_right _ _
      · rw [z]; exact Nat.le_refl _
    exact I1.fpOk hle (I1.hok.fresh hle)
/-! ### zip(list, list) -/
theorem boot_zip5 : bootBuiltins "zip" = some (.type "zip") := by decide +kernel
/-- the lists at a and b as they stand at each turn, the items in new pairs -/
def Itz (K : PySem.W.Frag) (a b : Addr) : It :=
  ⟨fun i H => ∃ (xs ys : List V) (x y : V), SqL K H a xs ∧ SqL K H b ys ∧ xs[i]? = some x ∧ ys[i]? = some y,
    fun i H v H' => ∃ T x y, v = .ref T ∧ H T = none ∧ H' = upd H T (.tup [x, y]) ∧ (∀ xs, SqL K H a xs → xs[i]? = some x) ∧ ∀ ys, SqL K H b ys → ys[i]? = some y,
    fun i H => ∃ xs ys : List V, SqL K H a xs ∧ SqL K H b ys ∧ (xs.length ≤ i ∨ ys.length ≤ i)⟩
theorem turn_zip {P : Program} {w : World} {K : PySem.W.Frag} {elts : List Expr} {kk : Nat} {tpos : Pos} {a b z TI TO i1 i2 : Addr} (D : ZipApart z TI TO i1 i2 a b) :
    Turn P w K (.Tuple elts kk tpos) (Itz K a b) [z, TI, TO, i1, i2] z (fun i h => IsZip h z TI TO .none ∧ IsPair h TI (.ref i1) (.ref i2) ∧ (∃ x y, IsPair h TO x y) ∧ h.IsListIter i1 a i ∧ h.IsListIter i2 b i) where
  mem := by simp
  obj := fun i h st c hc => by
    obtain ⟨hz, hTI, ⟨x, y, hTO⟩, ⟨o1, e1, _, d1⟩, ⟨o2, e2, _, d2⟩⟩ := st
    have e' : c = z ∨ c = TI ∨ c = TO ∨ c = i1 ∨ c = i2 := by simpa using hc
    rcases e' with q | q | q | q | q
    · rw [q]; exact ⟨_, hz, fun v q => nomatch q⟩
    · rw [q]; exact ⟨_, hTI, fun v q => nomatch q⟩
    · rw [q]; exact ⟨_, hTO, fun v q => nomatch q⟩
    · rw [q]; exact ⟨o1, e1, fun v q => by rw [d1] at q; cases q⟩
    · rw [q]; exact ⟨o2, e2, fun v q => by rw [d2] at q; cases q⟩
  keep := fun i h h' st k => by
    obtain ⟨hz, hTI, ⟨x, y, hTO⟩, h1, h2⟩ := st
    exact ⟨k z (by simp) _ hz, k TI (by simp) _ hTI, ⟨x, y, k TO (by simp) _ hTO⟩, h1.at fun o q => k i1 (by simp) o q, h2.at fun o q => k i2 (by simp) o q⟩
  item := by
    intro X hP hw hK hc i pins s σ H E I hf st hg
    subst hP hw hK
    obtain ⟨hz, hTI, ⟨x0, y0, hTO⟩, h1, h2⟩ := st
    obtain ⟨xs, ys, x, y, hqx, hqy, hx, hy⟩ := hg
    obtain ⟨its, rv, p, _⟩ := I.list hqx
    obtain ⟨its2, rv2, p2, _⟩ := I.list hqy
    obtain ⟨u, hu, ru⟩ := rv.get hx
    obtain ⟨u2, hu2, ru2⟩ := rv2.get hy
    have hzl : z < s.heap.objs.size := Heap.lt_size hz
    refine wpAny_pyNext_zip_item D hz hTI hTO h1 h2 p.isList p2.isList (x := u) (y := u2) (by simpa using hu) (by simpa using hu2) fun h' z' TO' h1' h2' hT hsz hk => ?_
    refine ⟨_, rfl, wpAny_letOwnedTupleGo_zip (s := { s with heap := h' }) z' fun h'' z'' sb => ?_⟩
    have hT2 : h''.get? s.heap.objs.size = some { cls := .type "tuple", data := .seq #[u, u2] } := (sb.2 _ (Nat.ne_of_gt hzl)).trans hT
    have new : ObjOk X.prog X.w (upd H s.heap.objs.size (.tup [x, y])) h'' s.heap.objs.size (.tup [x, y]) :=
      ⟨by show 2 ≤ sizeLine; decide, [u, u2], .cons ru (.cons ru2 .nil), ⟨_, hT2, rfl, _, rfl⟩⟩
    have I1 : Inv X pins σ (upd H s.heap.objs.size (.tup [x, y])) { s with heap := h'' } :=
      I.turnedNew (t' := s.toks) (ch := [z, TI, TO, i1, i2]) (fun c o hb q => (sb.2 c (fun q' => hb (by simp [q']))).trans (hk c o (fun q' => hb (by simp [q'])) (fun q' => hb (by simp [q'])) (fun q' => hb (by simp [q'])) (fun q' => hb (by simp [q'])) q)) hf (Nat.le_refl _) new
    refine ⟨.ref s.heap.objs.size, _, I1, rfl, ⟨_, x, y, rfl, I.hok.fresh (Nat.le_refl _), rfl, fun l hl => by rw [I.list_inj hl hqx]; exact hx, fun l hl => by rw [I.list_inj hl hqy]; exact hy⟩, ⟨z'', ?_, ⟨u, u2, ?_⟩, ?_, ?_⟩, fun c hcm => ?_⟩
    · exact (sb.2 _ D.TIz).trans (hk _ _ D.TIz D.TITO D.TIi1 D.TIi2 hTI)
    · exact (sb.2 _ D.TOz).trans TO'
    · exact h1'.at fun o q => (sb.2 _ D.i1z).trans q
    · exact h2'.at fun o q => (sb.2 _ D.i2z).trans q
    · have hlt : c < s.heap.objs.size := by
        have e' : c = z ∨ c = TI ∨ c = TO ∨ c = i1 ∨ c = i2 := by simpa using hcm
        rcases e' with q | q | q | q | q
        · rw [q]; exact hzl
        · rw [q]; exact Heap.lt_size hTI
        · rw [q]; exact Heap.lt_size hTO
        · rw [q]; obtain ⟨_, e1, _⟩ := h1; exact Heap.lt_size e1
        · rw [q]; obtain ⟨_, e2, _⟩ := h2; exact Heap.lt_size e2
      rw [upd_ne (Nat.ne_of_lt hlt)]
      exact (hf c hcm).1
  done := by
    intro X hP hw hK hc i pins s σ H E I hf st hg
    subst hP hw hK
    obtain ⟨hz, hTI, ⟨x0, y0, hTO⟩, h1, h2⟩ := st
    obtain ⟨xs, ys, hqx, hqy, hend⟩ := hg
    obtain ⟨its, rv, p, _⟩ := I.list hqx
    obtain ⟨its2, rv2, p2, _⟩ := I.list hqy
    have l1 := rv.length
    have l2 := rv2.length
    have he : its.toArray[i]? = none ∨ its2.toArray[i]? = none := by
      rcases hend with q | q
      · exact .inl (by simp; omega)
      · exact .inr (by simp; omega)
    exact wpAny_pyNext_zip_end (I.ok.hd hc) D hz hTI hTO h1 h2 p.isList p2.isList he fun h' hk => ⟨rfl, I.turnedL (t' := s.toks) (ch := [z, TI, TO, i1, i2]) (fun c o hb q =>
      hk c o (fun q' => hb (by simp [q'])) (fun q' => hb (by simp [q'])) (fun q' => hb (by simp [q'])) (fun q' => hb (by simp [q'])) q) hf⟩
  self := fun A i s Q E st h => wpAny_pyIter_zip st.1 h
def iZip (K : PySem.W.Frag) (ta : TA) : TI := fun σ H R => ta σ H fun vs H1 => ∃ a b xs ys, vs = [.ref a, .ref b] ∧ SqL K H1 a xs ∧ SqL K H1 b ys ∧ R (Itz K a b) H1
theorem pi_zip {X : Cx} {e e2 : Expr} {ta : TA} {p pos tpos : Pos} {elts : List Expr} {kk : Nat} (hg : Gl X "zip") (hm : X.mg "zip" = none) (ha : PA X [e, e2] ta)
    (hs : starEach [e, e2] X.env = (false, eval e X.env) :: starEach [e2] X.env := by rfl) (hpl : (backTo pos (starEach [e2] X.env)).any (·.1) = false := by rfl) :
    PI X (.Tuple elts kk tpos) (.Call (.Name "zip" p) [e, e2] [] pos) (iZip X.K ta) := by
  intro pins s σ H R I h
  refine Call_ (ld_blt I hg hm boot_zip5 (PyProof.Rows.callWith_type1 (thn (ha pos pins s σ H _ I h) fun us s1 ⟨vs, H1, I1, r1, q1⟩ => ?_) hs hpl))
  obtain ⟨a, b, xs, ys, ex, hqx, hqy, q⟩ := q1
  subst ex
  cases r1 with
  | cons r rr =>
    cases rr with
    | cons r' rr =>
      cases rr
      cases r
      cases r'
      obtain ⟨its, rv, p1, _⟩ := I1.list hqx
      obtain ⟨its2, rv2, p2, _⟩ := I1.list hqy
      have la : a < s1.heap.objs.size := p1.lt
      have lb : b < s1.heap.objs.size := p2.lt
      refine call_zip_2 p1.isList p2.isList fun h' hz hTI hTO h1 h2 hsz hk => wpAny_pyIter_zip hz ?_
      have I2 : Inv X pins σ H1 { s1 with heap := h' } := I1.kept (t' := s1.toks) hk
      refine ⟨s1.heap.objs.size + 4, [s1.heap.objs.size + 4, s1.heap.objs.size + 2, s1.heap.objs.size + 3, s1.heap.objs.size, s1.heap.objs.size + 1], _, _, H1, rfl, I2, turn_zip (PySem.W.ktu_apart s1.heap.objs.size a b la lb), ⟨hz, hTI, ⟨_, _, hTO⟩, h1, h2⟩, fun c hcm => ?_, q⟩
      have e' : c = s1.heap.objs.size + 4 ∨ c = s1.heap.objs.size + 2 ∨ c = s1.heap.objs.size + 3 ∨ c = s1.heap.objs.size ∨ c = s1.heap.objs.size + 1 := by simpa using hcm
      have hle : s1.heap.objs.size ≤ c := by
        rcases e' with z | z | z | z | z
        · rw [z]; exact Nat.le_add_right _ _
        · rw [z]; exact Nat.le_add_right _ _
        · rw [z]; exact Nat.le_add_right _ _
        · rw [z]; exact Nat.le_refl _
        · rw [z]; exact Nat.le_add_right _ _
      exact I1.fpOk hle (I1.hok.fresh hle)
end L2

/-! SHORT WORDS over the layer: a def of the text, its body, what a loop and a test want. -/
namespace L2
open PySem PySem.Spec PyProof.Rows

/-! ### the text by places -/
/-- the j-th statement of a class's body -/
def inClass (s : Stmt) (j : Nat) : Stmt := match s with
  | .ClassDef _ _ _ body _ _ _ _ _ _ _ => body.getD j (.Pass ⟨0, 0, 0, 0⟩)
  | _ => .Pass ⟨0, 0, 0, 0⟩
def defArgs (s : Stmt) : Arguments := match s with
  | .FunctionDef _ a _ _ _ _ _ _ _ _ => a
  | _ => { posonlyargs := [], args := [], vararg := none, kwonlyargs := [], kw_defaults := [], kwarg := none, defaults := [] }
def defBody (s : Stmt) : List Stmt := match s with
  | .FunctionDef _ _ b _ _ _ _ _ _ _ => b
  | _ => []
def defScope (s : Stmt) : Scope := match s with
  | .FunctionDef _ _ _ _ _ _ sc _ _ _ => sc
  | _ => { kind := .function, names := [], isGenerator := false, isCoroutine := false }

/-! ### no exception leaves a def -/
abbrev CX0 : CXT := fun _ _ _ _ _ _ => False
abbrev E0 : XK := fun _ _ _ => False
theorem pass0 {X : Cx} : Passes CX0 X E0 := fun _ _ _ _ _ _ _ h => h.elim

/-! ### a def (or method) of the text as it stands behind the top -/
structure Fun (K : PySem.W.Frag) (x qual : Str) (st : Stmt) (f : Addr) (fd : FuncData) : Prop where
  ex : ∃ (oc : Value) (od : Option Addr) (kV doc pm : Value) (an : Option Addr) (cdv ct : Value) (osl : Array (Option Value)),
    fd = PySem.W.fnOf x qual (defArgs st) (defBody st) (defScope st) .none kV doc pm an cdv ct ∧ K.lookup f = some ⟨oc, od, .func fd, osl⟩ ∧ PySem.W.codeIn K cdv qual = true
  kp : PySem.W.keepIn K (.ref f) = true
section
variable {P : Program} {w : World} {K : PySem.W.Frag} {mg : Str → Option Value} {base : Heap}
/-- THE RULE for a def: its body as a term of rules, and the reading of that term -/
theorem Fun.ok {x qual : Str} {st : Stmt} {f : Addr} {fd : FuncData} {N ps : List Str} {k : Nat} {sp : Sp} (F : Fun K x qual st f fd) (S : FnScope N ps (defScope st)) (len : ∀ vs H Q E, sp vs H Q E → vs.length = ps.length)
    (hbody : ∀ (cdv : Value) (A : Around) (outer : List Env) (s : Shared) (H : Hp) (vs : List V) (Q : VK) (E : XK), Room k (A.deeper (envOfC qual (defScope st) s.heap.objs.size f cdv)) → sp vs H Q E →
      ∃ t, PSs (cxOf CX0 P w K mg base N qual (defScope st) f cdv A outer s H E).nox (defBody st) t ∧ t { nx := fun _ H' => Q .non H', rt := Q } (start N vs) H) : FnOk P w K mg base CX0 (k + 1) f fd ps sp := by
  obtain ⟨oc, od, kV, doc, pm, an, cdv, ct, osl, rfl, lk, hcd⟩ := F.ex
  refine fn_of lk hcd S len fun A outer s H vs Q E hr hsp => ?_
  obtain ⟨t, h, q⟩ := hbody cdv A outer s H vs Q E hr hsp
  exact ⟨t, h.nox, q⟩
/-- how its arguments bind (no defaults): h is «fun _ _ _ _ _ _ us hl => match us, hl with | [_, _], _ => rfl», one _ a parameter -/
theorem Fun.binds {x qual : Str} {st : Stmt} {f : Addr} {fd : FuncData} {ps : List Str} (F : Fun K x qual st f fd)
    (h : ∀ (kV doc pm : Value) (an : Option Addr) (cdv ct : Value) (us : List Value), us.length = ps.length → bindArgs (PySem.W.fnOf x qual (defArgs st) (defBody st) (defScope st) .none kV doc pm an cdv ct) ⟨us, []⟩ = pure (ps.zip us)) : Binds K fd ps [] := by
  obtain ⟨oc, od, kV, doc, pm, an, cdv, ct, osl, rfl, lk, hcd⟩ := F.ex
  exact .all (h kV doc pm an cdv ct)
theorem fun_mk {x qual : Str} {st : Stmt} {f : Addr} {oc : Value} {od an : Option Addr} {osl : Array (Option Value)} {kV doc pm cdv ct : Value} (l : K.lookup f = some ⟨oc, od, .func (PySem.W.fnOf x qual (defArgs st) (defBody st) (defScope st) .none kV doc pm an cdv ct), osl⟩)
    (c : PySem.W.codeIn K cdv qual = true) (k : PySem.W.keepIn K (.ref f) = true) : Fun K x qual st f (PySem.W.fnOf x qual (defArgs st) (defBody st) (defScope st) .none kV doc pm an cdv ct) := ⟨⟨oc, od, kV, doc, pm, an, cdv, ct, osl, rfl, l, c⟩, k⟩
end

/-! ### expressions in short: the name that stands in the i-th slot -/
section
variable {X : Cx}
theorem pv (i : Nat) {x : Str} {pos : Pos} (hN : X.N[i]? = some x := by rfl) (hv : Vis X.env.scope x := by first | exact Or.inl rfl | exact Or.inr (Or.inl rfl) | exact Or.inr (Or.inr rfl)) (hd : (x == ("__debug__" : Str)) = false := by decide)
    (hcd : (x == ("__classdict__" : Str)) = false := by decide) : PE X (.Name x pos) (tVar i) := pe_var hN hv hd hcd
end

/-! ### tests -/
theorem iteF {A B : Prop} (h : B) : if false = true then A else B := by
  rw [if_neg Bool.false_ne_true]
  exact h
theorem iteT {A B : Prop} (h : A) : if true = true then A else B := by
  rw [if_pos rfl]
  exact h
theorem ite2 {c A B : Prop} [Decidable c] (h1 : c → A) (h2 : ¬ c → B) : if c then A else B := by
  by_cases h : c
  · rw [if_pos h]
    exact h1 h
  · rw [if_neg h]
    exact h2 h

/-! ### heaps -/
/-- all that was tracked is as it was -/
def Same (H H' : Hp) : Prop := ∀ b o, H b = some o → H' b = some o
theorem Same.refl (H : Hp) : Same H H := fun _ _ h => h
theorem Same.trans {H H1 H2 : Hp} (a : Same H H1) (b : Same H1 H2) : Same H H2 := fun c o h => b c o (a c o h)
theorem Same.free {H H' : Hp} (e : Same H H') {l : Addr} (h : H' l = Option.none) : H l = Option.none := by
  cases q : H l with
  | none => rfl
  | some o =>
    rw [e l o q] at h
    cases h
theorem Same.seq {K : PySem.W.Frag} {H H' : Hp} {a : Addr} {xs : List V} (e : Same H H') (h : SqL K H a xs) : SqL K H' a xs := by
  rcases h with (h | ⟨o, h⟩) | h
  · exact .inl (.inl (e _ _ h))
  · exact .inl (.inr ⟨o, e _ _ h⟩)
  · exact .inr h

/-! ### a dict's pairs: keys that differ -/
section
variable {κ : Type} [DecidableEq κ]
theorem nd_snoc : ∀ {l : List κ} {k : κ}, l.Nodup → ¬ k ∈ l → (l ++ [k]).Nodup
  | [], k, _, _ => by simp
  | a :: r, k, h, hk => by
    obtain ⟨h1, h2⟩ := List.nodup_cons.mp h
    show (a :: (r ++ [k])).Nodup
    refine List.nodup_cons.mpr ⟨fun m => ?_, nd_snoc h2 fun m => hk (List.mem_cons.mpr (Or.inr m))⟩
    rcases List.mem_append.mp m with q | q
    · exact h1 q
    · exact hk (List.mem_cons.mpr (Or.inl (List.mem_singleton.mp q).symm))
end
/-! ### lists -/
theorem at_of {xs : List V} {z : Int} {j : Nat} {v : V} (e : z = (j : Int)) (h : xs[j]? = some v) : atI xs z = some v := by
  rw [e]
  exact atI_nat h
theorem nd_ix {α : Type} {l : List α} (hN : l.Nodup) {i j : Nat} {x : α} (a : l[i]? = some x) (b : l[j]? = some x) : i = j := by
  obtain ⟨h1, e1⟩ := List.getElem?_eq_some_iff.mp a
  obtain ⟨h2, e2⟩ := List.getElem?_eq_some_iff.mp b
  exact (List.getElem_inj hN).mp (e1.trans e2.symm)
/-- a new instance and its __init__ leave all that was tracked as it was -/
theorem Same.made {H H1 : Hp} {x dx C : Addr} (nx : H x = Option.none) (nd : H dx = Option.none) (k : ∀ b o, (upd (upd H dx (.own x)) x (.ins C dx [])) b = some o → b ≠ x → H1 b = some o) : Same H H1 := fun b o e =>
  k b o (by rw [upd_ne (ne_of_none e nx), upd_ne (ne_of_none e nd)]; exact e) (ne_of_none e nx)
end L2

section
set_option Elab.async false
set_option linter.all false
set_option maxRecDepth 100000
set_option maxHeartbeats 2000000
namespace L2
open PySem PySem.Spec PyProof.Rows
open PySem.W (WData Codec OpenSpec Well WellAll ReadsW ReadsAllW)
/-! ### an answer as data -/
mutual
/-- x stands for the datum d, lists and tuples all the way -/
inductive Dw (K : PySem.W.Frag) (H : Hp) : V → WData → Prop
  | non : Dw K H .non .none
  | bl (b : Bool) : Dw K H (.bl b) (.bool b)
  | int (i : Int) : Dw K H (.int i) (.int i)
  | str (x : Str) : Dw K H (.str x) (.str x)
  | byt (b : Array UInt8) : Dw K H (.byt b) (.bytes b.toList)
  | lst {a : Addr} {xs : List V} {ds : List WData} : SqL K H a xs → DwAll K H xs ds → Dw K H (.ref a) (.list ds)
  | tup {a : Addr} {xs : List V} {ds : List WData} : SqT K H a xs → DwAll K H xs ds → Dw K H (.ref a) (.tuple ds)
inductive DwAll (K : PySem.W.Frag) (H : Hp) : List V → List WData → Prop
  | nil : DwAll K H [] []
  | cons {v : V} {vs : List V} {d : WData} {ds : List WData} : Dw K H v d → DwAll K H vs ds → DwAll K H (v :: vs) (d :: ds)
end
theorem dw_ints {K : PySem.W.Frag} {H : Hp} : ∀ ns : List Int, DwAll K H (ns.map V.int) (ns.map WData.int)
  | [] => .nil
  | n :: r => .cons (.int n) (dw_ints r)
theorem ints_dw {K : PySem.W.Frag} {H : Hp} : ∀ (ns : List Int) (xs : List V), DwAll K H xs (ns.map WData.int) → xs = ns.map V.int
  | [], xs, h => by
    cases h
    rfl
  | n :: r, xs, h => by
    cases h with
    | cons h1 h2 =>
      cases h1
      rw [ints_dw r _ h2] <;> rfl
section
variable {P : Program} {w : World} {K : PySem.W.Frag} {H : Hp} {h : Heap} {R : PySem.W.WRecords} {cl : Str → Option Addr}
theorem sqL_at {a : Addr} {xs : List V} (hok : HOk P w H h) (KX : K.In h) (q : SqL K H a xs) : ∃ (its : List Value) (o : Obj) (n : Nat), Vals xs its ∧ h.get? a = some o ∧ o.cls = .type "list" ∧ o.data = .seq its.toArray n := by
  rcases q with q | ⟨o, its, n, e, hc, _, hd, _, hv⟩
  · obtain ⟨_, its, n, hv, e⟩ := (show ObjOk P w H h a (.lst xs) from q.ok hok)
    exact ⟨its, _, n, hv, e, rfl, rfl⟩
  · exact ⟨its.toList, o, n, hv, KX _ _ e, hc, by simp [hd]⟩
theorem sqT_at {a : Addr} {xs : List V} (hok : HOk P w H h) (KX : K.In h) (q : SqT K H a xs) : ∃ (its : List Value) (o : Obj) (n : Nat), Vals xs its ∧ h.get? a = some o ∧ o.cls = .type "tuple" ∧ o.data = .seq its.toArray n := by
  rcases q with q | ⟨o, its, n, e, hc, hd, _, hv⟩
  · obtain ⟨_, its, hv, o, e, hc, n, hd⟩ := (show ObjOk P w H h a (.tup xs) from q.ok hok)
    exact ⟨its, o, n, hv, e, hc, hd⟩
  · exact ⟨its.toList, o, n, hv, KX _ _ e, hc, by simp [hd]⟩
mutual
theorem Dw.reads (hok : HOk P w H h) (KX : K.In h) : ∀ (d : WData) (v : V) (u : Value), Dw K H v d → RelV v u → ∃ as, ReadsW R cl h u d as
  | .none, _, _, x, r => by
    cases x
    cases r
    exact ⟨_, ReadsW.none⟩
  | .bool b, _, _, x, r => by
    cases x
    cases r
    exact ⟨_, ReadsW.bool b⟩
  | .int i, _, _, x, r => by
    cases x
    obtain ⟨t, rfl⟩ := r
    exact ⟨_, ReadsW.int i t⟩
  | .str s, _, _, x, r => by
    cases x
    obtain ⟨t, rfl⟩ := r
    exact ⟨_, ReadsW.str s t⟩
  | .bytes b, _, _, x, r => by
    cases x
    obtain ⟨t, rfl⟩ := r
    exact ⟨_, ReadsW.bytes _ t⟩
  | .list ds, _, _, x, r => by
    cases x with
    | lst hs ha =>
      cases r
      obtain ⟨its, o, n, rv, ho, hc, hd⟩ := sqL_at hok KX hs
      obtain ⟨as, hr⟩ := Dw.readsAll hok KX ds _ its ha rv
      exact ⟨_, ReadsW.list ho hc hd hr⟩
  | .tuple ds, _, _, x, r => by
    cases x with
    | tup hs ha =>
      cases r
      obtain ⟨its, o, n, rv, ho, hc, hd⟩ := sqT_at hok KX hs
      obtain ⟨as, hr⟩ := Dw.readsAll hok KX ds _ its ha rv
      exact ⟨_, ReadsW.tuple ho hc hd hr⟩
  | .float _, _, _, x, _ => by cases x
  | .dict _, _, _, x, _ => by cases x
  | .bytearray _, _, _, x, _ => by cases x
  | .set _, _, _, x, _ => by cases x
  | .frozenset _, _, _, x, _ => by cases x
  | .obj _ _, _, _, x, _ => by cases x
theorem Dw.readsAll (hok : HOk P w H h) (KX : K.In h) : ∀ (ds : List WData) (vs : List V) (us : List Value), DwAll K H vs ds → Vals vs us → ∃ as, ReadsAllW R cl h us ds as
  | [], _, _, x, r => by
    cases x
    cases r
    exact ⟨_, ReadsAllW.nil⟩
  | d :: ds, _, _, x, r => by
    cases x with
    | cons h1 h2 =>
      cases r with
      | cons r1 r2 =>
        obtain ⟨as, q1⟩ := Dw.reads hok KX d _ _ h1 r1
        obtain ⟨bs, q2⟩ := Dw.readsAll hok KX ds _ _ h2 r2
        exact ⟨_, ReadsAllW.cons q1 q2⟩
end
end
/-! ### the arguments -/
mutual
/-- data that a codec tells -/
def plW : WData → Bool
  | .none => true
  | .bool _ => true
  | .int _ => true
  | .str _ => true
  | .bytes _ => true
  | .list xs => plWs xs
  | .tuple xs => plWs xs
  | _ => false
def plWs : List WData → Bool
  | [] => true
  | x :: r => plW x && plWs r
end
theorem plWs_map {α : Type} {f : α → WData} (h : ∀ a, plW (f a) = true) : ∀ l : List α, plWs (l.map f) = true
  | [] => rfl
  | x :: r => by
    show (plW (f x) && plWs (r.map f)) = true
    rw [h x, plWs_map h r] <;> rfl
theorem pl_enc : ∀ (c : Codec) (a : c.denote), plW (c.enc a) = true
  | .unit, _ => rfl
  | .bool, _ => rfl
  | .int _ _, _ => rfl
  | .nat _ _, _ => rfl
  | .u8, _ => rfl
  | .bytes _ _, _ => rfl
  | .text _ _ _ _, _ => rfl
  | .list _ _ c, a => plWs_map (fun x => pl_enc c x) a
  | .pair c d, a => by
    show (plW (c.enc a.1) && (plW (d.enc a.2) && true)) = true
    rw [pl_enc c a.1, pl_enc d a.2] <;> rfl
  | .triple c d e, a => by
    show (plW (c.enc a.1) && (plW (d.enc a.2.1) && (plW (e.enc a.2.2) && true))) = true
    rw [pl_enc c a.1, pl_enc d a.2.1, pl_enc e a.2.2] <;> rfl
  | .option c, none => rfl
  | .option c, some x => pl_enc c x
theorem pl_encAll : ∀ (cs : List Codec) (a : Codec.denoteAll cs), plWs (Codec.encAll cs a) = true
  | [], _ => rfl
  | c :: cs, a => by
    show (plW (c.enc a.1) && plWs (Codec.encAll cs a.2)) = true
    rw [pl_enc c a.1, pl_encAll cs a.2] <;> rfl
theorem weight_mem : ∀ {xs : List WData} {d : WData}, d ∈ xs → d.weight ≤ WData.weightAll xs
  | [], d, h => absurd h (by simp)
  | x :: r, d, h => by
    show d.weight ≤ x.weight + 1 + WData.weightAll r
    rcases List.mem_cons.mp h with e | m
    · rw [e]
      omega
    · have z := weight_mem m
      omega
def toV : Value → V
  | .none => .non
  | .bool b => .bl b
  | .int i _ => .int i
  | .str x _ => .str x
  | .bytes b _ => .byt b
  | .ref a => .ref a
  | _ => .non
/-- a value of the arguments, its objects among A -/
def OkU (A : List Addr) : Value → Prop
  | .none => True
  | .bool _ => True
  | .int _ _ => True
  | .str _ _ => True
  | .bytes _ _ => True
  | .ref a => a ∈ A
  | _ => False
theorem OkU.mono {A B : List Addr} (h : ∀ a ∈ A, a ∈ B) : ∀ {u : Value}, OkU A u → OkU B u := fun {u} x => by
  cases u with
  | ref a => exact h a x
  | none => trivial
  | bool b => trivial
  | int i t => trivial
  | str s t => trivial
  | bytes b t => trivial
  | _ => exact False.elim x
theorem relV_toV {A : List Addr} {u : Value} (x : OkU A u) : RelV (toV u) u := by
  cases u with
  | ref a => rfl
  | none => rfl
  | bool b => rfl
  | int i t => exact ⟨t, rfl⟩
  | str s t => exact ⟨t, rfl⟩
  | bytes b t => exact ⟨t, rfl⟩
  | _ => exact False.elim x
theorem vals_toV {A : List Addr} : ∀ {vs : List Value}, (∀ u ∈ vs, OkU A u) → Vals (vs.map toV) vs
  | [], _ => .nil
  | u :: r, h => .cons (relV_toV (h u (List.mem_cons_self ..))) (vals_toV fun x hx => h x (List.mem_cons_of_mem _ hx))
/-- an object of the arguments -/
def ArgOb (h : Heap) (A : List Addr) (a : Addr) : Prop := ∃ vs : List Value, vs.length ≤ sizeLine ∧ (∀ u ∈ vs, OkU A u) ∧
  (h.get? a = some { cls := .type "list", data := .seq vs.toArray } ∨ h.get? a = some { cls := .type "tuple", data := .seq vs.toArray })
theorem ArgOb.mono {h : Heap} {A B : List Addr} {a : Addr} (k : ∀ a ∈ A, a ∈ B) (x : ArgOb h A a) : ArgOb h B a := by
  obtain ⟨vs, h1, h2, h3⟩ := x
  exact ⟨vs, h1, fun u hu => (h2 u hu).mono k, h3⟩
theorem wellAll_len {P : Params} {h : Heap} : ∀ {vs : List Value} {ds : List WData}, WellAll P h vs ds → vs.length = ds.length
  | _, _, .nil => rfl
  | _, _, .cons _ b => by
    show _ + 1 = _ + 1
    rw [wellAll_len b]
theorem well_list {P : Params} {h : Heap} {v : Value} {ds : List WData} (x : Well P h v (.list ds)) : ∃ (a : Addr) (vs : List Value), v = .ref a ∧ h.get? a = some { cls := .type "list", data := .seq vs.toArray } ∧ WellAll P h vs ds := by
  cases x with
  | list ho hall => exact ⟨_, _, rfl, ho, hall⟩
theorem well_tuple {P : Params} {h : Heap} {v : Value} {ds : List WData} (x : Well P h v (.tuple ds)) : ∃ (a : Addr) (vs : List Value), v = .ref a ∧ h.get? a = some { cls := .type "tuple", data := .seq vs.toArray } ∧ WellAll P h vs ds := by
  cases x with
  | tuple ho hall => exact ⟨_, _, rfl, ho, hall⟩
theorem well_cons {P : Params} {h : Heap} {us : List Value} {d : WData} {ds : List WData} (x : WellAll P h us (d :: ds)) : ∃ (v : Value) (vs : List Value), us = v :: vs ∧ Well P h v d ∧ WellAll P h vs ds := by
  cases x with
  | cons a b => exact ⟨_, _, rfl, a, b⟩
theorem line_of {n : Nat} (h : n ≤ 1048576) : n ≤ sizeLine := Nat.le_trans h (by decide)
section
variable {P : Params} {h : Heap}
mutual
theorem area_one : ∀ (d : WData) (v : Value), Well P h v d → plW d = true → d.weight ≤ 1048576 → ∃ A : List Addr, OkU A v ∧ ∀ a ∈ A, ArgOb h A a
  | .none, _, x, _, _ => by
    cases x
    exact ⟨[], trivial, fun a m => absurd m (by simp)⟩
  | .bool b, _, x, _, _ => by
    cases x
    exact ⟨[], trivial, fun a m => absurd m (by simp)⟩
  | .int i, _, x, _, _ => by
    cases x
    exact ⟨[], trivial, fun a m => absurd m (by simp)⟩
  | .str s, _, x, _, _ => by
    cases x
    exact ⟨[], trivial, fun a m => absurd m (by simp)⟩
  | .bytes b, _, x, _, _ => by
    cases x
    exact ⟨[], trivial, fun a m => absurd m (by simp)⟩
  | .list ds, _, x, p, z => by
    obtain ⟨a, vs, rfl, ho, hall⟩ := well_list x
    have z2 : WData.weightAll ds ≤ 1048576 := z
    obtain ⟨A, h1, h2⟩ := area_all ds _ hall p fun d hd => Nat.le_trans (weight_mem hd) z2
    have k : ∀ b ∈ A, b ∈ a :: A := fun b hb => List.mem_cons_of_mem _ hb
    refine ⟨a :: A, List.mem_cons_self .., fun b hb => ?_⟩
    rcases List.mem_cons.mp hb with e | m
    · rw [e]
      exact ⟨vs, line_of (by rw [wellAll_len hall]; exact Nat.le_trans (PySem.W.length_le_weightAllW ds) z2), fun u hu => (h1 u hu).mono k, .inl ho⟩
    · exact (h2 b m).mono k
  | .tuple ds, _, x, p, z => by
    obtain ⟨a, vs, rfl, ho, hall⟩ := well_tuple x
    have z2 : WData.weightAll ds ≤ 1048576 := z
    obtain ⟨A, h1, h2⟩ := area_all ds _ hall p fun d hd => Nat.le_trans (weight_mem hd) z2
    have k : ∀ b ∈ A, b ∈ a :: A := fun b hb => List.mem_cons_of_mem _ hb
    refine ⟨a :: A, List.mem_cons_self .., fun b hb => ?_⟩
    rcases List.mem_cons.mp hb with e | m
    · rw [e]
      exact ⟨vs, line_of (by rw [wellAll_len hall]; exact Nat.le_trans (PySem.W.length_le_weightAllW ds) z2), fun u hu => (h1 u hu).mono k, .inr ho⟩
    · exact (h2 b m).mono k
  | .float _, _, _, p, _ => Bool.noConfusion (show false = true from p)
  | .dict _, _, _, p, _ => Bool.noConfusion (show false = true from p)
  | .bytearray _, _, _, p, _ => Bool.noConfusion (show false = true from p)
  | .set _, _, _, p, _ => Bool.noConfusion (show false = true from p)
  | .frozenset _, _, _, p, _ => Bool.noConfusion (show false = true from p)
  | .obj _ _, _, _, p, _ => Bool.noConfusion (show false = true from p)
theorem area_all : ∀ (ds : List WData) (vs : List Value), WellAll P h vs ds → plWs ds = true → (∀ d ∈ ds, d.weight ≤ 1048576) → ∃ A : List Addr, (∀ u ∈ vs, OkU A u) ∧ ∀ a ∈ A, ArgOb h A a
  | [], _, x, _, _ => by
    cases x
    exact ⟨[], fun u m => absurd m (by simp), fun a m => absurd m (by simp)⟩
  | d :: ds, _, x, p, z => by
    obtain ⟨v, vs, rfl, x1, x2⟩ := well_cons x
    have q : plW d = true ∧ plWs ds = true := Bool.and_eq_true_iff.mp p
    obtain ⟨A, a1, a2⟩ := area_one d v x1 q.1 (z d (List.mem_cons_self ..))
    obtain ⟨B, b1, b2⟩ := area_all ds vs x2 q.2 fun e he => z e (List.mem_cons_of_mem _ he)
    have kA : ∀ b ∈ A, b ∈ A ++ B := fun b hb => List.mem_append.mpr (.inl hb)
    have kB : ∀ b ∈ B, b ∈ A ++ B := fun b hb => List.mem_append.mpr (.inr hb)
    refine ⟨A ++ B, fun u hu => ?_, fun b hb => ?_⟩
    · rcases List.mem_cons.mp hu with e | m
      · rw [e]
        exact a1.mono kA
      · exact (b1 u m).mono kB
    · rcases List.mem_append.mp hb with m | m
      · exact (a2 b m).mono kA
      · exact (b2 b m).mono kB
end
end
/-- what is tracked of an argument's object -/
def hoOf (o : Obj) : Option HO := match o.data with
  | .seq vs _ => if (o.cls == Value.type "list") = true then some (.frz o (.lst (vs.toList.map toV))) else some (.frz o (.tup (vs.toList.map toV)))
  | _ => none
def argH (K : PySem.W.Frag) (h : Heap) (A : List Addr) : Hp := fun b => if b ∈ A then (if (K.lookup b).isNone = true then (h.get? b).bind hoOf else none) else none
/-- nothing is tracked but what is known to the object -/
def OnlyF (H : Hp) : Prop := ∀ b, H b = none ∨ ∃ o u, H b = some (.frz o u)
theorem hoOf_lst (vs : List Value) : hoOf { cls := .type "list", data := .seq vs.toArray } = some (.frz { cls := .type "list", data := .seq vs.toArray } (.lst (vs.map toV))) := by
  show (if (Value.type "list" == Value.type "list") = true then some (HO.frz { cls := .type "list", data := .seq vs.toArray } (.lst (vs.toArray.toList.map toV))) else some (HO.frz { cls := .type "list", data := .seq vs.toArray } (.tup (vs.toArray.toList.map toV)))) = _
  rw [if_pos (beq_self_eq_true _)]
theorem hoOf_tup (vs : List Value) : hoOf { cls := .type "tuple", data := .seq vs.toArray } = some (.frz { cls := .type "tuple", data := .seq vs.toArray } (.tup (vs.map toV))) := by
  show (if (Value.type "tuple" == Value.type "list") = true then some (HO.frz { cls := .type "tuple", data := .seq vs.toArray } (.lst (vs.toArray.toList.map toV))) else some (HO.frz { cls := .type "tuple", data := .seq vs.toArray } (.tup (vs.toArray.toList.map toV)))) = _
  rw [if_neg (by decide)]
section
variable {P : Program} {w : World} {K : PySem.W.Frag} {h : Heap} {A : List Addr}
theorem argH_at {b : Addr} {o : Obj} (hb : b ∈ A) (hk : K.lookup b = none) (e : h.get? b = some o) : argH K h A b = hoOf o := by
  unfold argH
  rw [if_pos hb, hk, if_pos (show (none : Option Obj).isNone = true from rfl), e] <;> rfl
theorem of_argH {b : Addr} {u : HO} (q : argH K h A b = some u) : b ∈ A ∧ K.lookup b = none := by
  unfold argH at q
  by_cases hb : b ∈ A
  · rw [if_pos hb] at q
    cases hk : K.lookup b with
    | none => exact ⟨hb, rfl⟩
    | some o =>
      rw [hk, if_neg (by simp)] at q
      cases q
  · rw [if_neg hb] at q
    cases q
/-- what stands tracked -/
theorem argH_is (ar : ∀ a ∈ A, ArgOb h A a) {b : Addr} {u : HO} (q : argH K h A b = some u) : K.lookup b = none ∧ ∃ vs : List Value, vs.length ≤ sizeLine ∧ (∀ u ∈ vs, OkU A u) ∧
    ((h.get? b = some { cls := .type "list", data := .seq vs.toArray } ∧ u = .frz { cls := .type "list", data := .seq vs.toArray } (.lst (vs.map toV))) ∨
     (h.get? b = some { cls := .type "tuple", data := .seq vs.toArray } ∧ u = .frz { cls := .type "tuple", data := .seq vs.toArray } (.tup (vs.map toV)))) := by
  obtain ⟨hb, hk⟩ := of_argH q
  obtain ⟨vs, h1, h2, h3⟩ := ar b hb
  refine ⟨hk, vs, h1, h2, ?_⟩
  rcases h3 with e | e
  · rw [argH_at hb hk e, hoOf_lst] at q
    exact .inl ⟨e, (Option.some.inj q).symm⟩
  · rw [argH_at hb hk e, hoOf_tup] at q
    exact .inr ⟨e, (Option.some.inj q).symm⟩
theorem argH_only (ar : ∀ a ∈ A, ArgOb h A a) : OnlyF (argH K h A) := fun b => by
  cases q : argH K h A b with
  | none => exact .inl rfl
  | some u =>
    obtain ⟨_, vs, _, _, ⟨_, e⟩ | ⟨_, e⟩⟩ := argH_is ar q
    · exact .inr ⟨_, _, by rw [e]⟩
    · exact .inr ⟨_, _, by rw [e]⟩
theorem argH_ok (ar : ∀ a ∈ A, ArgOb h A a) : HOk P w (argH K h A) h := fun b u q => by
  obtain ⟨_, vs, h1, h2, ⟨e, rfl⟩ | ⟨e, rfl⟩⟩ := argH_is ar q
  · exact ⟨e, by rw [List.length_map]; exact h1, vs, _, vals_toV h2, e⟩
  · exact ⟨e, by rw [List.length_map]; exact h1, vs, vals_toV h2, _, e, rfl, _, rfl⟩
theorem seq_inj {c c' : Value} {vs us : List Value} (e : (some { cls := c, data := .seq vs.toArray } : Option Obj) = some { cls := c', data := .seq us.toArray }) : c = c' ∧ vs = us := by
  have e1 := Option.some.inj e
  have e2 : c = c' := congrArg Obj.cls e1
  have e3 : Data.seq vs.toArray = Data.seq us.toArray := congrArg Obj.data e1
  injection e3 with e4
  refine ⟨e2, ?_⟩
  have e5 := congrArg Array.toList e4
  simpa using e5
/-- a list argument -/
theorem argL (KX : K.In h) (ar : ∀ a ∈ A, ArgOb h A a) {a : Addr} {vs : List Value} (ha : a ∈ A) (e : h.get? a = some { cls := .type "list", data := .seq vs.toArray }) : (∀ u ∈ vs, OkU A u) ∧ SqL K (argH K h A) a (vs.map toV) := by
  obtain ⟨us, h1, h2, h3⟩ := ar a ha
  have hu : us = vs := by
    rcases h3 with q | q
    · rw [e] at q
      exact (seq_inj q).2.symm
    · rw [e] at q
      exact absurd (Value.type.inj (seq_inj q).1) (by decide)
  subst hu
  refine ⟨h2, ?_⟩
  cases hk : K.lookup a with
  | none => exact .inl (.inr ⟨_, by rw [argH_at ha hk e, hoOf_lst]⟩)
  | some o =>
    have e2 := KX a o hk
    rw [e] at e2
    obtain rfl := Option.some.inj e2
    exact .inr ⟨_, us.toArray, _, hk, rfl, rfl, rfl, by rw [List.size_toArray]; exact h1, by simpa using vals_toV h2⟩
theorem argT (KX : K.In h) (ar : ∀ a ∈ A, ArgOb h A a) {a : Addr} {vs : List Value} (ha : a ∈ A) (e : h.get? a = some { cls := .type "tuple", data := .seq vs.toArray }) : (∀ u ∈ vs, OkU A u) ∧ SqT K (argH K h A) a (vs.map toV) := by
  obtain ⟨us, h1, h2, h3⟩ := ar a ha
  have hu : us = vs := by
    rcases h3 with q | q
    · rw [e] at q
      exact absurd (Value.type.inj (seq_inj q).1) (by decide)
    · rw [e] at q
      exact (seq_inj q).2.symm
  subst hu
  refine ⟨h2, ?_⟩
  cases hk : K.lookup a with
  | none => exact .inl (.inr ⟨_, by rw [argH_at ha hk e, hoOf_tup]⟩)
  | some o =>
    have e2 := KX a o hk
    rw [e] at e2
    obtain rfl := Option.some.inj e2
    exact .inr ⟨_, us.toArray, _, hk, rfl, rfl, by rw [List.size_toArray]; exact h1, by simpa using vals_toV h2⟩
mutual
theorem dw_one {Pm : Params} (KX : K.In h) (ar : ∀ a ∈ A, ArgOb h A a) : ∀ (d : WData) (v : Value), Well Pm h v d → plW d = true → OkU A v → Dw K (argH K h A) (toV v) d
  | .none, _, x, _, _ => by
    cases x
    exact .non
  | .bool b, _, x, _, _ => by
    cases x
    exact .bl b
  | .int i, _, x, _, _ => by
    cases x
    exact .int i
  | .str s, _, x, _, _ => by
    cases x
    exact .str s
  | .bytes b, _, x, _, _ => by
    cases x
    have z := Dw.byt (K := K) (H := argH K h A) b.toArray
    exact z
  | .list ds, _, x, p, hu => by
    obtain ⟨a, vs, rfl, ho, hall⟩ := well_list x
    obtain ⟨h2, hs⟩ := argL KX ar hu ho
    exact .lst hs (dw_all KX ar ds _ hall p h2)
  | .tuple ds, _, x, p, hu => by
    obtain ⟨a, vs, rfl, ho, hall⟩ := well_tuple x
    obtain ⟨h2, hs⟩ := argT KX ar hu ho
    exact .tup hs (dw_all KX ar ds _ hall p h2)
  | .float _, _, _, p, _ => Bool.noConfusion (show false = true from p)
  | .dict _, _, _, p, _ => Bool.noConfusion (show false = true from p)
  | .bytearray _, _, _, p, _ => Bool.noConfusion (show false = true from p)
  | .set _, _, _, p, _ => Bool.noConfusion (show false = true from p)
  | .frozenset _, _, _, p, _ => Bool.noConfusion (show false = true from p)
  | .obj _ _, _, _, p, _ => Bool.noConfusion (show false = true from p)
theorem dw_all {Pm : Params} (KX : K.In h) (ar : ∀ a ∈ A, ArgOb h A a) : ∀ (ds : List WData) (vs : List Value), WellAll Pm h vs ds → plWs ds = true → (∀ u ∈ vs, OkU A u) → DwAll K (argH K h A) (vs.map toV) ds
  | [], _, x, _, _ => by
    cases x
    exact .nil
  | d :: ds, _, x, p, hu => by
    obtain ⟨v, vs, rfl, x1, x2⟩ := well_cons x
    have q : plW d = true ∧ plWs ds = true := Bool.and_eq_true_iff.mp p
    exact .cons (dw_one KX ar d v x1 q.1 (hu _ (List.mem_cons_self ..))) (dw_all KX ar ds vs x2 q.2 fun u m => hu u (List.mem_cons_of_mem _ m))
end
end
/-! ### the call -/
theorem spec_call {P : Program} {w : World} {K : PySem.W.Frag} {mg mb : Str → Option Value} {CX : CXT} {k : Nat} {fa : Addr} {fd : FuncData} {ps : List Str} {sp : Sp} {s₁ : Shared} {vals : List Value} {ds : List WData} {R : PySem.W.WRecords} {cl : Str → Option Addr} {d0 : WData}
    (KX : K.In s₁.heap) (hns : s₁.heap.Ns mainGlobals mg) (hb : s₁.heap.Ns builtinsNs mb) (hbb : ∀ x : Str, x ≠ "__name__" → mb x = bootBuiltins x) (hlim : s₁.heap.NoLimit) (hg : s₁.gens = #[])
    (hwl : WellAll w.params s₁.heap vals ds) (hpl : plWs ds = true) (hwt : ∀ d ∈ ds, d.weight ≤ 1048576) (hr : Room k callerA)
    (F : ∀ base : Heap, K.In base → base.Ns mainGlobals mg → FnOk P w K mg base CX k fa fd ps sp) (hbind : ∀ (s : Shared) (us : List Value), us.length = ps.length → BindsTo s fd ⟨us, []⟩ (ps.zip us)) (hlen : ds.length = ps.length)
    (hsp : ∀ (H : Hp) (xs : List V), OnlyF H → DwAll K H xs ds → sp xs H (fun v H' => Dw K H' v d0) fun _ _ _ => False)
    (hCX : ∀ H e s', CX [] H s₁ (fun _ _ _ => False) e s' → False) :
    codeAny (model P w) callerA (.call (.ref fa) ⟨vals, []⟩) (fun r s' => ∃ u as, r = .ok (.ret u) ∧ ReadsW R cl s'.heap u d0 as ∧ OldK s₁.heap s'.heap ∧ s'.os = s₁.os ∧ AllBare s'.gens) s₁ := by
  obtain ⟨A, ho, ar⟩ := area_all ds vals hwl hpl hwt
  have hO : OnlyF (argH K s₁.heap A) := argH_only ar
  have hok : HOk P w (argH K s₁.heap A) s₁.heap := argH_ok ar
  have hS := dw_all KX ar ds vals hwl hpl ho
  have hV := vals_toV ho
  have hK : ∀ b u, argH K s₁.heap A b = some u → K.lookup b = none := fun b u q => (argH_is ar q).1
  have noA : ∀ {b : Addr} {o : Obj} {es : Array DictEntry} {ep : Nat}, s₁.heap.get? b = some o → o.data = .dict es ep → argH K s₁.heap A b = none := fun {b o es ep} e d => by
    cases q : argH K s₁.heap A b with
    | none => rfl
    | some u =>
      obtain ⟨_, vs, _, _, ⟨e2, _⟩ | ⟨e2, _⟩⟩ := argH_is ar q
      · rw [e2] at e
        cases e
        have d' : Data.seq vs.toArray _ = Data.dict es ep := d
        cases d'
      · rw [e2] at e
        cases e
        have d' : Data.seq vs.toArray _ = Data.dict es ep := d
        cases d'
  generalize argH K s₁.heap A = H at hO hok hS hK noA
  have base_of : ∀ {b : Addr} {o : Obj}, s₁.heap.get? b = some o → H b = none → (hidT s₁.heap H).get? b = some o := fun e n => hidT_get e n
  have nsK : ∀ {b : Addr} {m : Str → Option Value}, s₁.heap.Ns b m → (hidT s₁.heap H).Ns b m := fun {b m} ⟨o, es, ep, e, d, r⟩ => ⟨o, es, ep, base_of e (noA e d), d, r⟩
  have nK : ∀ b o, K.lookup b = some o → H b = none := fun b o e => by
    cases q : H b with
    | none => rfl
    | some u =>
      rw [hK b u q] at e
      cases e
  have hKb : K.In (hidT s₁.heap H) := fun b o e => base_of (KX b o e) (nK b o e)
  have hM : Mod K mg (hidT s₁.heap H) := ⟨hKb, nsK hns, ⟨mb, nsK hb, hbb⟩, let ⟨mc, h1, h2⟩ := hlim; ⟨mc, nsK h1, h2⟩⟩
  have e0 : Env0 P w K mg (hidT s₁.heap H) callerA [] s₁ H := ⟨rfl, hM, fun b o e => of_hidT e, Nat.le_of_eq (hidT_size _ _), trivial, fun b hb => absurd (show b ∈ ([] : List Addr) from hb) (by simp), hok, .of_eq hg⟩
  have hl : vals.length = ps.length := by rw [wellAll_len hwl]; exact hlen
  refine codeAny_mono ((F _ hKb (nsK hns)).run callerA [] s₁ H ⟨vals, []⟩ vals (vals.map toV) _ _ hr e0 (hbind s₁ vals hl) hV (hsp H _ hO hS)) fun r s' x => ?_
  cases r with
  | error e => exact (hCX H e s' x).elim
  | ok fl =>
    cases fl with
    | next => exact False.elim x
    | brk => exact False.elim x
    | cont => exact False.elim x
    | ret u =>
      obtain ⟨v, H', os, bare, un, hok', r', q⟩ := x
      have kept : ∀ b o, s₁.heap.get? b = some o → s'.heap.get? b = some o := fun b o e => by
        cases q2 : H b with
        | none => exact un.keep b o e q2 (by intro z; exact absurd (show b ∈ ([] : List Addr) from z) (by simp)) (by simp)
        | some u2 =>
          rcases hO b with z | ⟨ob, u3, z⟩
          · rw [q2] at z
            cases z
          · have z2 := un.frzs b ob _ z
            obtain ⟨e1, _⟩ := hok b _ z
            obtain ⟨e2, _⟩ := hok' b _ z2
            rw [e] at e1
            cases e1
            exact e2
      have KX' : K.In s'.heap := fun b o e => kept b o (KX b o e)
      obtain ⟨as, hrd⟩ := Dw.reads (R := R) (cl := cl) hok' KX' d0 v u q r'
      exact ⟨u, as, rfl, hrd, OldK.of_keep kept, os, bare⟩
/-! ### the row -/
theorem layable_weight {ds : List WData} (h : WData.layableAll ds = true) : ∀ d ∈ ds, d.weight ≤ 1048576 := fun d hd =>
  (PySem.W.layableW_iff.mp (List.all_eq_true.mp h d hd)).2.2
theorem encAll_len : ∀ (cs : List Codec) (a : Codec.denoteAll cs), (Codec.encAll cs a).length = cs.length
  | [], _ => rfl
  | c :: cs, a => by
    show (Codec.encAll cs a.2).length + 1 = cs.length + 1
    rw [encAll_len cs a.2]
/-- the goal that k_headS leaves (case hc), from the promise of the row's def: whatever the arguments that the codecs let and the row asks for, the def gives what stands for enc (f ..) -/
theorem walk_spec {r : OpenSpec} {k : Nat} {q : Program} {loose : List Str} {XP : (Str → Option Value) → Heap → Prop} {YP : World → Heap → Prop} {d : DefRec} {K : Params → PySem.W.Frag} {CX : World → CXT} {ps : List Str} {sp : World → Sp}
    (hwell : r.wellSaid = true) (hdf : d.params.defaults = []) (hlen : r.args.length = ps.length) (hr : Room k callerA)
    (hY : ∀ (w : World) (h : Heap), YP w h → (K w.params).In h)
    (F : ∀ (w : World) (mg : Str → Option Value) (fa : Addr) (h : Heap), YP w h → (K w.params).In h → h.Ns mainGlobals mg → mg d.name = some (.ref fa) →
      ∃ fd : FuncData, (∀ (s : Shared) (us : List Value), us.length = ps.length → BindsTo s fd ⟨us, []⟩ (ps.zip us)) ∧
        ∀ base : Heap, (K w.params).In base → base.Ns mainGlobals mg → FnOk r.prog w (K w.params) mg base (CX w) k fa fd ps (sp w))
    (hsp : ∀ (w : World) (H : Hp) (xs : List V) (a : Codec.denoteAll r.args), OnlyF H → Codec.withinAll r.args a = true → Codec.app r.args r.asked a = true → DwAll (K w.params) H xs (Codec.encAll r.args a) →
      sp w xs H (fun v H' => Dw (K w.params) H' v (r.ret.enc (Codec.app r.args r.f a))) fun _ _ _ => False)
    (hCX : ∀ (w : World) (H : Hp) (s : Shared) (e : Value) (s' : Shared), CX w [] H s (fun _ _ _ => False) e s' → False) :
    PySem.W.WalkOS q loose XP YP r d [] (fun f vs => PySem.call f vs) := by
  intro w s_0 s₁ mg mb G Y fa o pm cd doc dV kV ho hd hcd hD hmg hg args vals as hpre hlay hrd hwl hlo
  obtain ⟨a, e1, e2⟩ := PySem.W.os_pre_some hpre
  obtain ⟨e3, hwi⟩ := Codec.encAll_of_decAll r.args args a e1
  subst e3
  have KX := hY w _ Y
  obtain ⟨fd, hb, hF⟩ := F w mg fa _ Y KX G.T.g hmg
  refine PySem.W.enter_call (codeAny_mono (spec_call (R := []) (cl := classAt s_0.heap) (d0 := r.ret.enc (Codec.app r.args r.f a)) KX G.T.g G.T.b G.T.builtins G.T.nolimit hg hwl (pl_encAll _ _) (layable_weight hlay) hr hF hb (by rw [encAll_len]; exact hlen)
    (fun H xs hO hS => hsp w H xs a hO hwi e2 hS) fun H e s' => hCX w H s₁ e s') fun r' s' hq => ?_)
  obtain ⟨u, as', rfl, h1, h2, h3, h4⟩ := hq
  exact ⟨.inl ⟨u, _, as', rfl, fun _ => rfl, h1, (OpenSpec.post_iff hwell hwi _ _).mpr rfl, fun z => Bool.noConfusion (show false = true from z)⟩, h2, h3, h4⟩
/-- the same where the promise hangs on the written part alone -/
theorem walk_specK {r : OpenSpec} {k : Nat} {q : Program} {loose : List Str} {XP : (Str → Option Value) → Heap → Prop} {YP : World → Heap → Prop} {d : DefRec} {K : Params → PySem.W.Frag} {CX : CXT} {ps : List Str} {sp : PySem.W.Frag → Sp}
    (hwell : r.wellSaid = true) (hdf : d.params.defaults = []) (hlen : r.args.length = ps.length) (hr : Room k callerA)
    (hY : ∀ (w : World) (h : Heap), YP w h → (K w.params).In h)
    (F : ∀ (w : World) (mg : Str → Option Value) (fa : Addr) (h : Heap), YP w h → (K w.params).In h → h.Ns mainGlobals mg → mg d.name = some (.ref fa) →
      ∃ fd : FuncData, (∀ (s : Shared) (us : List Value), us.length = ps.length → BindsTo s fd ⟨us, []⟩ (ps.zip us)) ∧
        ∀ base : Heap, (K w.params).In base → base.Ns mainGlobals mg → FnOk r.prog w (K w.params) mg base CX k fa fd ps (sp (K w.params)))
    (hsp : ∀ (K : PySem.W.Frag) (H : Hp) (xs : List V) (a : Codec.denoteAll r.args), OnlyF H → Codec.withinAll r.args a = true → Codec.app r.args r.asked a = true → DwAll K H xs (Codec.encAll r.args a) →
      sp K xs H (fun v H' => Dw K H' v (r.ret.enc (Codec.app r.args r.f a))) fun _ _ _ => False)
    (hCX : ∀ (H : Hp) (s : Shared) (e : Value) (s' : Shared), CX [] H s (fun _ _ _ => False) e s' → False) :
    PySem.W.WalkOS q loose XP YP r d [] (fun f vs => PySem.call f vs) :=
  walk_spec (K := K) (CX := fun _ => CX) (sp := fun w => sp (K w.params)) hwell hdf hlen hr hY F (fun w H xs a h1 h2 h3 h4 => hsp (K w.params) H xs a h1 h2 h3 h4) fun _ H s e s' => hCX H s e s'
end L2
-- rests on (row put in by the clerk, for the bench that shows a file only what it spells): KE.SpHead KE.OsShapes
end

set_option Elab.async false
set_option linter.all false
set_option maxRecDepth 100000
set_option maxHeartbeats 2000000
/-! Rules that the layer lacks. -/
namespace L2
open PySem PySem.Spec PyProof.Rows
section
variable {X : Cx}

/-! ### a constant of the file's top -/
theorem pe_top {x : Str} {v : V} {pos : Pos} (hg : Gl X x) (h : ∃ u, X.mg x = some u ∧ RelV v u) (hd : (x == ("__debug__" : Str)) = false := by decide) : PE X (.Name x pos) (tC v) := by
  obtain ⟨u, hm, r⟩ := h
  exact pe_glob hg hm r hd

/-! ### list(range(i, j)) -/
def tRng2 (ta : TA) : TE := fun σ H Q => ta σ H fun vs H1 => ∃ i j : Int, vs = [.int i, .int j] ∧ ∀ p, H1 p = none → Q (.ref p) (upd H1 p (.rng i j))
theorem pe_rng2 {a b : Expr} {ta : TA} {p pos : Pos} (hg : Gl X "range") (hm : X.mg "range" = none) (ha : PA X [a, b] ta) (hs : starEach [a, b] X.env = [(false, eval a X.env), (false, eval b X.env)] := by rfl) (hs2 : starEach [b] X.env = [(false, eval b X.env)] := by rfl) :
    PE X (.Call (.Name "range" p) [a, b] [] pos) (tRng2 ta) := by
  intro pins s σ H Q I h
  refine Call_ (ld_blt I hg hm boot_range (PyProof.Rows.callWith_type1 (thn (ha pos pins s σ H _ I h) fun us s1 ⟨vs, H1, I1, r1, q1⟩ => ?_) (by rw [hs, hs2]) (by rw [hs2]; rfl)))
  obtain ⟨i, j, e, q⟩ := q1
  subst e
  cases r1 with
  | cons r rr =>
    cases rr with
    | cons r' rr =>
      cases rr
      obtain ⟨t, rfl⟩ := r
      obtain ⟨t', rfl⟩ := r'
      refine call_range_2 ⟨.ref s1.heap.objs.size, upd H1 s1.heap.objs.size (.rng i j), I1.laid (t' := s1.toks + 1) (fun b u e => Heap.get?_push_of_some _ e) (Nat.le_refl _) ?_, rfl, q _ (I1.hok.fresh (Nat.le_refl _))⟩
      exact ⟨t, t', s1.toks, Heap.get?_push_size _ rfl⟩
theorem vals_items {a : Int} : ∀ {us : List Value} {o : Nat}, (∀ j v, us[j]? = some v → ∃ t, v = Value.int (a + ((o + j : Nat) : Int)) t) → Vals ((List.range us.length).map fun k => V.int (a + ((o + k : Nat) : Int))) us
  | [], _, _ => .nil
  | u :: us, o, h => by
    rw [List.length_cons, List.range_succ_eq_map, List.map_cons, List.map_map]
    refine .cons ?_ ?_
    · exact h 0 u rfl
    · have ih := vals_items (a := a) (us := us) (o := o + 1) fun j v hj => by
        obtain ⟨t, e⟩ := h (j + 1) v hj
        exact ⟨t, by rw [e, show o + 1 + j = o + (j + 1) by omega]⟩
      have e : (List.range us.length).map ((fun k => V.int (a + ((o + k : Nat) : Int))) ∘ Nat.succ) = (List.range us.length).map fun k => V.int (a + ((o + 1 + k : Nat) : Int)) := by
        refine List.map_congr_left fun k _ => ?_
        show V.int (a + ((o + (k + 1) : Nat) : Int)) = _
        rw [show o + (k + 1) = o + 1 + k by omega]
      rw [e]
      exact ih
theorem call_list_rng (hc : X.calm = true) : CallR X (.type "list") (fun xs H Q => ∃ (p : Addr) (i j : Int), xs = [.ref p] ∧ H p = some (.rng i j) ∧ (0 ≤ i ∧ i ≤ j ∧ j ≤ 2 ^ 24) ∧
    ∀ l, H l = none → Q (.ref l) (upd H l (.lst ((List.range (j - i).toNat).map fun (k : Nat) => V.int (i + (k : Int)))))) := by
  intro pins s σ H xs us Q I r h
  obtain ⟨p, i, j, rfl, hp, ⟨h1, h2, h3⟩, q⟩ := h
  obtain ⟨u, rfl, rx⟩ := vals1 r
  cases rx
  obtain ⟨t, t', t'', e⟩ := I.hok p _ hp
  refine call_list_range (n := (j - i).toNat) (I.ok.hd hc) e (small_one (by omega) (by omega) (by omega) (by omega)) (by rw [rangeSize_one]; split <;> omega) (by omega) fun h' tk acc' c' hk e' ha => ?_
  obtain ⟨ha1, ha2⟩ := ha
  have hv : Vals ((List.range acc'.toList.length).map fun k => V.int (i + ((0 + k : Nat) : Int))) acc'.toList := vals_items fun j' v hj => by
    obtain ⟨t, e⟩ := ha2 j' v (by simpa using hj)
    exact ⟨t, by rw [e, Int.mul_one, Nat.zero_add]⟩
  have hv' : Vals ((List.range (j - i).toNat).map fun (k : Nat) => V.int (i + (k : Int))) acc'.toList := by
    have e : acc'.toList.length = (j - i).toNat := by simpa using ha1
    rw [e] at hv
    have e2 : ((List.range (j - i).toNat).map fun k => V.int (i + ((0 + k : Nat) : Int))) = (List.range (j - i).toNat).map fun (k : Nat) => V.int (i + (k : Int)) := by
      refine List.map_congr_left fun k _ => ?_
      rw [Nat.zero_add]
    rw [e2] at hv
    exact hv
  refine ⟨.ref s.heap.objs.size, _, I.laid (t' := tk) hk (Nat.le_refl _) (show ObjOk X.prog X.w _ h' _ (.lst ((List.range (j - i).toNat).map fun (k : Nat) => V.int (i + (k : Int)))) from ⟨?_, acc'.toList, c', hv', by simpa using e'⟩), rfl, q _ (I.hok.fresh (Nat.le_refl _))⟩
  rw [List.length_map, List.length_range, sizeLine_eq]
  omega

/-! ### xs[0::2] -/
def evens {α : Type} (xs : List α) : List α := (List.range ((xs.length + 1) / 2)).filterMap fun k => xs[2 * k]?
theorem Vals.pick {xs : List V} {us : List Value} (r : Vals xs us) : ∀ js : List Nat, Vals (js.filterMap fun j => xs[j]?) (js.filterMap fun j => us[j]?)
  | [] => .nil
  | j :: js => by
    cases e : xs[j]? with
    | none =>
      rw [List.filterMap_cons_none (f := fun j => xs[j]?) e, List.filterMap_cons_none (f := fun j => us[j]?) (r.none_of e)]
      exact r.pick js
    | some x =>
      obtain ⟨u, h1, h2⟩ := r.get e
      rw [List.filterMap_cons_some (f := fun j => xs[j]?) e, List.filterMap_cons_some (f := fun j => us[j]?) h1]
      exact .cons h2 (r.pick js)
theorem slicePick_two (its : List Value) : slicePick its.toArray (some 0) none (some 2) = (((List.range ((its.length + 1) / 2)).map fun k => 2 * k).filterMap fun j => its[j]?).toArray := by
  unfold slicePick
  have e1 : (sliceBounds (some 0) none (some 2) its.toArray.size).1 = 0 := by
    simp only [sliceBounds, Option.getD_some, show (2 : Int) > 0 by decide, if_true, show ¬ (0 : Int) < 0 by decide, if_false, List.size_toArray]
    omega
  have e2 : (sliceBounds (some 0) none (some 2) its.toArray.size).2.1 = (its.length : Int) := by
    simp only [sliceBounds, Option.getD_some, show (2 : Int) > 0 by decide, if_true, List.size_toArray]
  have e3 : (sliceBounds (some 0) none (some 2) its.toArray.size).2.2 = 2 := rfl
  rw [e1, e2, e3]
  have e4 : sliceRange 0 (its.length : Int) 2 = (List.range ((its.length + 1) / 2)).map fun k => 2 * k := by
    unfold sliceRange
    simp only [show (2 : Int) > 0 by decide, if_true]
    have e5 : (if (0 : Int) < (its.length : Int) then ((its.length : Int) - 0 + 2 - 1) / 2 else 0).toNat = (its.length + 1) / 2 := by
      split <;> omega
    rw [e5]
    refine List.map_congr_left fun k _ => ?_
    omega
  rw [e4]
  congr 2
  funext j
  simp
def tSl2 (te : TE) : TE := fun σ H Q => te σ H fun x H1 => ∃ a xs, x = .ref a ∧ SqL X.K H1 a xs ∧ ∀ p, H1 p = none → Q (.ref p) (upd H1 p (.lst (evens xs)))
theorem evens_len {α : Type} (xs : List α) : (evens xs).length ≤ xs.length := by
  unfold evens
  have := List.length_filterMap_le (fun k => xs[2 * k]?) (List.range ((xs.length + 1) / 2))
  rw [List.length_range] at this
  omega
theorem pe_evens {e : Expr} {te : TE} {j k : Nat} {p1 p2 p3 pos : Pos} (he : PE X e te) : PE X (.Subscript e (.Slice (some (.Constant (.int 0) j p1)) none (some (.Constant (.int 2) k p2)) p3) pos) (tSl2 (X := X) te) := by
  intro pins s σ H Q I h
  refine Subscript_ (thn (he pins s σ H _ I h) fun v s1 ⟨x, H1, I1, r1, q1⟩ => ?_)
  obtain ⟨a, xs, rfl, hx, q⟩ := q1
  cases r1
  refine wpAny_Slice ?_
  rw [evalPart_some]
  refine wpAny_Constant_int ?_
  rw [evalPart_none]
  refine wpAny_pure ?_
  rw [evalPart_some]
  refine wpAny_Constant_int ?_
  generalize hs2 : ({ { s1 with toks := s1.toks + 1 } with toks := ({ s1 with toks := s1.toks + 1 } : Shared).toks + 1 } : Shared) = s2
  have I2 : Inv X pins σ H1 s2 := by
    rw [← hs2]
    exact (I1.tok _).tok _
  have I4 : Inv X pins σ H1 { s2 with heap := s2.heap.push { cls := .type "slice", data := .fields #[.int 0 s1.toks, .none, .int 2 ({ s1 with toks := s1.toks + 1 } : Shared).toks] } } := I2.kept (t' := s2.toks) fun b ob q => Heap.get?_push_of_some _ q
  obtain ⟨its, r, ht, hz⟩ := I4.list hx
  have hlen := r.length
  refine tail_any (ops := [.ref a, .ref s2.heap.objs.size]) ht.isList.typeIs slot_list_getitem.lookup ?_ (by with_unfolding_all rfl)
  refine wpAny_getItem_list_slice ht.isList (Heap.IsSliceOf.new ..) (.int 0 _) .none (.int 2 _) (by simp) ?_ (by rw [List.size_toArray] <;> omega)
  rw [slicePick_two]
  have e : (((List.range ((its.length + 1) / 2)).map fun k => 2 * k).filterMap fun j => its[j]?) = ((List.range ((its.length + 1) / 2)).filterMap fun k => its[2 * k]?) := by
    rw [List.filterMap_map]
    rfl
  have hv : Vals (evens xs) (((List.range ((its.length + 1) / 2)).map fun k => 2 * k).filterMap fun j => its[j]?) := by
    have hp := r.pick ((List.range ((its.length + 1) / 2)).map fun k => 2 * k)
    have e2 : (((List.range ((its.length + 1) / 2)).map fun k => 2 * k).filterMap fun j => xs[j]?) = evens xs := by
      rw [List.filterMap_map, ← hlen]
      rfl
    rw [e2] at hp
    exact hp
  refine ⟨.ref _, _, I4.laid (t' := s2.toks) (o := .lst (evens xs)) (fun b ob q => Heap.get?_push_of_some _ q) (Nat.le_refl _) ?_, rfl, q _ (I4.hok.fresh (Nat.le_refl _))⟩
  exact ⟨Nat.le_trans (evens_len xs) hz, _, 0, hv, Heap.get?_push_size _ rfl⟩

/-! ### xs[i] op= e, i below 0 -/
def rGetN (K : PySem.W.Frag) : V → V → Hp → VK → Prop := fun o i H Q => ∃ p xs k v, o = .ref p ∧ i = .int k ∧ SqL K H p xs ∧ k < 0 ∧ atI xs k = some v ∧ Q v H
theorem get_listN : PGet X (rGetN X.K) := by
  intro pins s σ H o i ov iv Q I ro ri h
  obtain ⟨p, xs, k, z, rfl, rfl, hq, h0, he, q⟩ := h
  cases ro
  obtain ⟨t, rfl⟩ := ri
  obtain ⟨its, r, pl, hz⟩ := I.list hq
  obtain ⟨j, h1, h2, h3, h4, h5⟩ := atI_get he
  obtain ⟨w, ew, rw'⟩ := r.get h2
  have hl := r.length
  have hn := line63
  have hj : (k + (its.toArray.size : Int)).toNat = j := by
    rw [seqIndex_neg (by omega) h4] at h1
    rw [List.size_toArray, ← hl]
    exact Option.some.inj h1
  exact wpAny_getItem_list_neg pl.isList (by omega) (by rw [List.size_toArray] <;> omega) (by omega) (by rw [hj]; simpa using ew) ⟨z, H, I, rw', q⟩

/-! ### a call through a table of the file's top -/
/-- the table at d: its keys are whole numbers -/
structure Tab (K : PySem.W.Frag) (d : Addr) (fs : List (Int × Addr)) : Prop where
  ex : ∃ es ep, K.lookup d = some ⟨.type "dict", none, .dict es ep, #[]⟩ ∧ (∀ e ∈ es, ∃ k t, e.key = .int k t ∧ e.hash = hashInt k) ∧ ∀ n f, fs.lookup n = some f → findBy Value.isInt es n = some (.ref f)
def tTabCall (fs : List (Int × Addr)) (sp : Int → Sp) (ti : TE) (ta : TA) : TE := fun σ H Q => ti σ H fun y H1 => ∃ n f, y = .int n ∧ fs.lookup n = some f ∧ ta σ H1 fun vs H2 => sp n vs H2 Q E0
theorem pe_tabcall {x : Str} {d : Addr} {fs : List (Int × Addr)} {ie e : Expr} {es : List Expr} {ti : TE} {ta : TA} {p p2 pos : Pos} {k : Nat} {ps : List Str} {sp : Int → Sp} (T : Tab X.K d fs) (hg : Gl X x) (hm : X.mg x = some (.ref d)) (hi : PE X ie ti) (hs : NoSl ie)
    (hF : ∀ n f, fs.lookup n = some f → ∃ fd, FnOk X.prog X.w X.K X.mg X.base CX0 k f fd ps (sp n) ∧ PySem.W.keepIn X.K (.ref f) = true ∧ Binds X.K fd ps []) (hr : Room k X.A) (hx : Passes CX0 X E0)
    (ha : PA X (e :: es) ta) (hd : (x == ("__debug__" : Str)) = false := by decide) (he : starEach (e :: es) X.env = (false, eval e X.env) :: starEach es X.env := by rfl) (hpl : (backTo pos (starEach es X.env)).any (·.1) = false := by rfl)
    (hc : eval (.Call (.Subscript (.Name x p) ie p2) (e :: es) [] pos) X.env = (do callWith pos (← eval (.Subscript (.Name x p) ie p2) X.env) [] (backTo pos (starEach (e :: es) X.env)) (backToKw pos (keywordEach [] X.env))) := by rfl) :
    PE X (.Call (.Subscript (.Name x p) ie p2) (e :: es) [] pos) (tTabCall fs sp ti ta) := by
  intro pins s σ H Q I h
  refine Call_ (subD_of PySem.F.slot_dict_getitem.lookup hs (ld_glob I hg hm ?_ hd)) hc
  refine thn (hi pins s σ H _ I h) fun iv s2 ⟨y, H2, I2, ry, n, f, ey, hf, q2⟩ => ?_
  subst ey
  obtain ⟨t, rfl⟩ := ry
  obtain ⟨es', ep, hk, hes, hfs⟩ := T.ex
  have ho := I2.kIn d _ hk
  refine ⟨⟨_, ho, rfl⟩, ?_⟩
  refine wpAny_getItem_of (knd := intKind X.prog X.w) (k := n) (f := fun k => findBy Value.isInt es' k) (intKind_is X.prog X.w n t) ⟨_, es', ep, ho, ⟨rfl, rfl, rfl⟩, rfl, fun e he => ?_, fun k => rfl⟩ (hfs n f hf) ?_
  · obtain ⟨k, t', e1, e2⟩ := hes e he
    exact ⟨k, by rw [e1]; exact intKind_is X.prog X.w k t', e2⟩
  · obtain ⟨fd, F, hkp, hb⟩ := hF n f hf
    refine PySem.W.callWith_K (h₀ := X.base) I.ok.mod.kin hkp (thn (ha pos pins _ σ H2 _ (I2.tok _) q2) fun us s3 ⟨vs, H3, I3, r, q⟩ => ⟨I3.kIn, ?_⟩) he hpl
    exact run_fn F hr hb .nil hx I3 r (by rw [List.append_nil]; exact q)
end

/-! ### the turns of a step range in a comprehension -/
theorem lc_rangeC {lo c : Int} {n : Nat} {g : TG} {tt : TT} {te : TE} {vs : List Nat} {σ : St} {H1 : Hp} {D : Addr} {Qd : Hp → Prop} (Pv : Nat → Hp → Prop) (h0 : Pv 0 (upd H1 D (.lst [])))
    (hs : ∀ i H, i < n → Pv i H → g (.int (lo + (i : Nat) * c)) (wipe σ vs) H fun σ2 H2 => wipe σ2 vs = wipe σ vs ∧ tt σ2 H2 fun b H3 =>
      if b = true then te σ2 H3 fun y H4 => ∃ acc, H4 D = some (.lst acc) ∧ acc.length < sizeLine ∧ Pv (i + 1) (upd H4 D (.lst (acc ++ [y]))) else Pv (i + 1) H3) (hd : ∀ H, Pv n H → Qd H) :
    ∃ W : Nat → Nat → Hp → Prop, (∃ m, W 0 m (upd H1 D (.lst []))) ∧ ∀ i m H, W i m H →
      ((Itc lo c n).stop i H ∧ Qd H) ∨ ((Itc lo c n).go i H ∧ ∃ Nx : Hp → Prop, (∀ H', Nx H' → ∃ m', m' < m ∧ W (i + 1) m' H') ∧ ∀ x H', (Itc lo c n).yld i H x H' → g x (wipe σ vs) H' fun σ2 H2 => wipe σ2 vs = wipe σ vs ∧ tt σ2 H2 fun b H3 =>
        if b = true then te σ2 H3 fun y H4 => ∃ acc, H4 D = some (.lst acc) ∧ acc.length < sizeLine ∧ Nx (upd H4 D (.lst (acc ++ [y]))) else Nx H3) := by
  refine ⟨fun i m H => m = n - i ∧ i ≤ n ∧ Pv i H, ⟨n, by simp, Nat.zero_le _, h0⟩, ?_⟩
  rintro i m H ⟨rfl, hi, p⟩
  by_cases hlt : i < n
  · refine .inr ⟨hlt, Pv (i + 1), fun H' p' => ⟨n - (i + 1), by omega, rfl, hlt, p'⟩, fun x H' y => ?_⟩
    obtain ⟨e, y⟩ := y
    subst e y
    exact hs i _ hlt p
  · have e : i = n := by omega
    subst e
    exact .inl ⟨Nat.le_refl _, hd H p⟩

theorem yes_of {σ : St} {H : Hp} {A B : Hp → Prop} (h : A H) : tYes σ H (fun b H3 => if b = true then A H3 else B H3) := by
  show if true = true then A H else B H
  rw [if_pos rfl]
  exact h
/-! ### for i, x in enumerate(xs), the list left as it is -/
abbrev g2 (K : PySem.W.Frag) (i j : Nat) : TG := gTup K 2 (gCons (gName i) (gCons (gName j) gNil))
theorem for_enum {K : PySem.W.Frag} {a : Addr} {xs : List V} {j1 j2 : Nat} {tb : TS} {D : Ends} {σ : St} {H : Hp} (Pv : Nat → St → Hp → Prop) (h0 : Pv 0 σ H) (hl : ∀ i σ H, i ≤ xs.length → Pv i σ H → SqL K H a xs)
    (hs : ∀ i x σ H T, xs[i]? = some x → Pv i σ H → H T = none → tb { D with nx := Pv (i + 1), ct := Pv (i + 1), bk := D.nx } ((σ.set j1 (some (.int (i : Nat)))).set j2 (some x)) (upd H T (.tup [.int (i : Nat), x]))) (hd : ∀ σ H, Pv xs.length σ H → D.nx σ H) :
    ∃ W : Nat → Nat → St → Hp → Prop, (∃ m, W 0 m σ H) ∧ ∀ i m σ H, W i m σ H →
      ((Ite K a).stop i H ∧ D.nx σ H) ∨ ((Ite K a).go i H ∧ ∃ N : St → Hp → Prop, (∀ σ' H', N σ' H' → ∃ m', m' < m ∧ W (i + 1) m' σ' H') ∧ ∀ x H', (Ite K a).yld i H x H' → g2 K j1 j2 x σ H' fun σ2 H2 => tb { D with nx := N, ct := N, bk := D.nx } σ2 H2) := by
  refine ⟨fun i m σ H => m = xs.length - i ∧ i ≤ xs.length ∧ Pv i σ H, ⟨xs.length, by simp, Nat.zero_le _, h0⟩, ?_⟩
  rintro i m σ H ⟨rfl, hi, p⟩
  have q := hl i σ H hi p
  by_cases hlt : i < xs.length
  · refine .inr ⟨⟨xs, xs[i], q, by simp [hlt]⟩, Pv (i + 1), fun σ' H' p' => ⟨xs.length - (i + 1), by omega, rfl, hlt, p'⟩, fun v H' y => ?_⟩
    obtain ⟨T, x, rfl, hT, rfl, y⟩ := y
    exact ⟨T, _, rfl, SqT.of upd_same, rfl, _, _, rfl, _, _, rfl, rfl, hs i x σ H T (y xs q) p hT⟩
  · have e : i = xs.length := by omega
    subst e
    exact .inl ⟨⟨xs, q, Nat.le_refl _⟩, hd σ H p⟩
/-! ### [.. for x, y in zip(xs, ys)], both of one length -/
theorem lc_zip {K : PySem.W.Frag} {a b : Addr} {xs ys : List V} {j1 j2 : Nat} {te : TE} {vs : List Nat} {σ : St} {H1 : Hp} {D : Addr} {Qd : Hp → Prop} (hlen : xs.length = ys.length) (Pv : Nat → Hp → Prop) (h0 : Pv 0 (upd H1 D (.lst [])))
    (hl : ∀ i H, i ≤ xs.length → Pv i H → SqL K H a xs ∧ SqL K H b ys) (hw : ∀ u v : V, wipe (((wipe σ vs).set j1 (some u)).set j2 (some v)) vs = wipe σ vs)
    (hs : ∀ i x y H T, xs[i]? = some x → ys[i]? = some y → Pv i H → H T = none → te (((wipe σ vs).set j1 (some x)).set j2 (some y)) (upd H T (.tup [x, y])) fun z H4 => ∃ acc, H4 D = some (.lst acc) ∧ acc.length < sizeLine ∧ Pv (i + 1) (upd H4 D (.lst (acc ++ [z])))) (hd : ∀ H, Pv xs.length H → Qd H) :
    ∃ W : Nat → Nat → Hp → Prop, (∃ m, W 0 m (upd H1 D (.lst []))) ∧ ∀ i m H, W i m H →
      ((Itz K a b).stop i H ∧ Qd H) ∨ ((Itz K a b).go i H ∧ ∃ Nx : Hp → Prop, (∀ H', Nx H' → ∃ m', m' < m ∧ W (i + 1) m' H') ∧ ∀ x H', (Itz K a b).yld i H x H' → g2 K j1 j2 x (wipe σ vs) H' fun σ2 H2 => wipe σ2 vs = wipe σ vs ∧ tYes σ2 H2 fun b H3 =>
        if b = true then te σ2 H3 fun y H4 => ∃ acc, H4 D = some (.lst acc) ∧ acc.length < sizeLine ∧ Nx (upd H4 D (.lst (acc ++ [y]))) else Nx H3) := by
  refine ⟨fun i m H => m = xs.length - i ∧ i ≤ xs.length ∧ Pv i H, ⟨xs.length, by simp, Nat.zero_le _, h0⟩, ?_⟩
  rintro i m H ⟨rfl, hi, p⟩
  obtain ⟨q1, q2⟩ := hl i H hi p
  by_cases hlt : i < xs.length
  · refine .inr ⟨⟨xs, ys, xs[i], ys[i]'(by omega), q1, q2, by simp [hlt], by simp [hlen ▸ hlt]⟩, Pv (i + 1), fun H' p' => ⟨xs.length - (i + 1), by omega, rfl, hlt, p'⟩, fun v H' y => ?_⟩
    obtain ⟨T, x, z, rfl, hT, rfl, y1, y2⟩ := y
    refine ⟨T, _, rfl, SqT.of upd_same, rfl, _, _, rfl, _, _, rfl, rfl, hw x z, ?_⟩
    exact yes_of (hs i x z H T (y1 xs q1) (y2 ys q2) p hT)
  · have e : i = xs.length := by omega
    subst e
    exact .inl ⟨⟨xs, ys, q1, q2, .inl (Nat.le_refl _)⟩, hd H p⟩

/-! ### == of two lists of whole numbers -/
theorem dp_ints {K : PySem.W.Frag} {H : Hp} : ∀ ns : List Int, DpAll K H (ns.map V.int) (ns.map PyData.int)
  | [] => .nil
  | n :: r => .cons (.int n) (dp_ints r)
end L2
namespace L2
open PySem PySem.Spec PyProof.Rows
theorem eqv_ints : ∀ ns ms : List Int, PyData.eqvAll (ns.map PyData.int) (ms.map PyData.int) = decide (ns = ms)
  | [], [] => rfl
  | [], _ :: _ => rfl
  | _ :: _, [] => rfl
  | n :: ns, m :: ms => by
    show (PyData.eqv (.int n) (.int m) && PyData.eqvAll (ns.map PyData.int) (ms.map PyData.int)) = _
    rw [eqv_ints ns ms, PyData.eqv]
    by_cases h1 : n = m
    · subst h1
      by_cases h2 : ns = ms
      · subst h2
        simp
      · simp [h2]
    · simp [h1]
theorem lay_ints : ∀ ns : List Int, PyData.canLayAll0 (ns.map PyData.int) = true
  | [] => rfl
  | n :: ns => by
    show (PyData.canLay0 (.int n) && PyData.canLayAll0 (ns.map PyData.int)) = true
    rw [lay_ints ns, PyData.canLay0]
    rfl
theorem depth_ints : ∀ ns : List Int, PyData.depthAll (ns.map PyData.int) = 0
  | [] => rfl
  | n :: ns => by
    show max (PyData.depth (.int n)) (PyData.depthAll (ns.map PyData.int)) = 0
    rw [depth_ints ns, PyData.depth]
    rfl
theorem shaped_ints (ns : List Int) : SeqAt.shaped (.list (ns.map PyData.int)) = true := by
  unfold SeqAt.shaped
  rw [PyData.canLay0, PyData.depth, lay_ints, depth_ints]
  rfl
section
variable {X : Cx}
def rEqInts (K : PySem.W.Frag) : R2 := fun x y H Q => ∃ (a b : Addr) (ns ms : List Int), x = .ref a ∧ y = .ref b ∧ SqL K H a (ns.map V.int) ∧ SqL K H b (ms.map V.int) ∧ Q (.bl (decide (ns = ms))) H
theorem op_eqInts (hu : X.A.units + 64 < cLine) : OpR X (compareOp .Eq) (rEqInts X.K) := by
  intro pins s σ H x y v u Q I rx ry h
  obtain ⟨a, b, ns, ms, rfl, rfl, ha, hb, q⟩ := h
  refine op_eqD hu pins s σ H _ _ v u Q I rx ry ⟨.list (ns.map PyData.int), .list (ms.map PyData.int), .lst ha (dp_ints ns), .lst hb (dp_ints ms), shaped_ints ns, shaped_ints ms, ?_⟩
  rw [PyData.eqv, eqv_ints]
  exact q
end
theorem RgC.two (j : Nat) (h : j ≤ 1073741824) : RgC 0 (j : Int) 2 ((j + 1) / 2) := by
  have e : Builtin.Range.rangeSize 0 (j : Int) 2 = (((j + 1) / 2 : Nat) : Int) := by
    unfold Builtin.Range.rangeSize
    rw [if_pos (show (2 : Int) > 0 by decide)]
    split <;> omega
  refine ⟨by decide, by decide, ?_, e⟩
  have hj : (0 : Int) ≤ (j : Int) := Int.natCast_nonneg j
  have hj2 : (j : Int) ≤ 1073741824 := by omega
  generalize (j : Int) = z at hj hj2 e ⊢
  generalize ((j + 1) / 2 : Nat) = y at e
  have hy : (y : Int) ≤ 1073741824 := by
    rw [← e]
    unfold Builtin.Range.rangeSize
    rw [if_pos (show (2 : Int) > 0 by decide)]
    split <;> omega
  unfold Builtin.Range.small
  rw [e]
  simp only [Builtin.Range.rangeFitsLong, Bool.and_eq_true, Bool.or_eq_true, decide_eq_true_eq, beq_iff_eq, show (2 : Int) > 0 by decide, if_true]
  omega
theorem rep_non (k : Nat) : (List.replicate k [V.non]).flatten = List.replicate k V.non := by
  induction k with
  | zero => rfl
  | succ k ih => rw [List.replicate_succ, List.flatten_cons, ih, List.replicate_succ]; rfl
end L2
namespace L2
open PySem PySem.Spec PyProof.Rows
/-! ### the same in a comprehension's block: the written part is the def's -/
section
variable {X : Cx}
theorem ix_listK (K : PySem.W.Frag) (h : X.K = K := by rfl) : IxR X (rIxL K) := by
  subst h
  exact ix_list
theorem pe_fldK (K : PySem.W.Frag) {e : Expr} {f : Str} {pos : Pos} {ta : TE} (he : PE X e ta) (hb : attributeBase e f X.env (eval e X.env) = eval e X.env) (h : X.K = K := by rfl) : PE X (.Attribute e f pos) (tFld K ta f) := by
  subst h
  exact pe_fld he hb
theorem pg_tupK (K : PySem.W.Frag) {es : List Expr} {k : Nat} {t : TGs} {n : Nat} {pos : Pos} (hc : X.calm = true) (h : PGs X es t) (hK : X.K = K := by rfl)
    (hn : (assignEach es X.env).length = n := by rfl) (hst : (assignEach es X.env).findIdx? (·.1) = none := by rfl) : PG X (.Tuple es k pos) (gTup K n t) := by
  subst hK
  exact pg_tup hc h hn hst
end
end L2

set_option Elab.async false
set_option linter.all false
set_option maxRecDepth 100000
set_option maxHeartbeats 2000000
/-! The program: its text by places, its data, what the top has written; the small defs. -/
namespace Ed
open PySem PySem.Spec PyProof.Rows L2

/-! ### calls in short -/
def Cal (P : Program) (w : World) (K : PySem.W.Frag) (mg : Str → Option Value) (base : Heap) (k : Nat) (x : Str) (ps : List Str) (sp : Sp) : Prop :=
  ∃ f fd, FnOk P w K mg base CX0 k f fd ps sp ∧ mg x = some (.ref f) ∧ PySem.W.keepIn K (.ref f) = true ∧ Binds K fd ps []
def CalM (P : Program) (w : World) (K : PySem.W.Frag) (mg : Str → Option Value) (base : Heap) (k : Nat) (C : Addr) (m : Str) (ps : List Str) (sp : Sp) : Prop :=
  ∃ f fd, FnOk P w K mg base CX0 k f fd ps sp ∧ Meth K C m f ∧ Binds K fd ps []
def CalC (P : Program) (w : World) (K : PySem.W.Frag) (mg : Str → Option Value) (base : Heap) (k : Nat) (x : Str) (C : Addr) (ps : List Str) (sp : Sp) : Prop :=
  ∃ f fd, FnOk P w K mg base CX0 k f fd ps sp ∧ Mk K C f ∧ mg x = some (.ref C) ∧ Binds K fd ps []
/-- a def of the file's top -/
def Has (K : PySem.W.Frag) (mg : Str → Option Value) (x : Str) (st : Stmt) (ps : List Str) : Prop := ∃ f fd, Fun K x x st f fd ∧ mg x = some (.ref f) ∧ Binds K fd ps []
def HasM (K : PySem.W.Frag) (C : Addr) (m qual : Str) (st : Stmt) (ps : List Str) : Prop := ∃ f fd, Fun K m qual st f fd ∧ Meth K C m f ∧ Binds K fd ps []
def HasC (K : PySem.W.Frag) (mg : Str → Option Value) (x : Str) (C : Addr) (qual : Str) (st : Stmt) (ps : List Str) : Prop := ∃ f fd, Fun K "__init__" qual st f fd ∧ Mk K C f ∧ mg x = some (.ref C) ∧ Binds K fd ps []
section
variable {P : Program} {w : World} {K : PySem.W.Frag} {mg : Str → Option Value} {base : Heap} {k : Nat} {x m qual : Str} {C : Addr} {ps : List Str} {sp : Sp} {st : Stmt}
theorem Has.cal (h : Has K mg x st ps) (ok : ∀ f fd, Fun K x x st f fd → FnOk P w K mg base CX0 k f fd ps sp) : Cal P w K mg base k x ps sp := by
  obtain ⟨f, fd, F, m, b⟩ := h
  exact ⟨f, fd, ok f fd F, m, F.kp, b⟩
theorem HasM.cal (h : HasM K C m qual st ps) (ok : ∀ f fd, Fun K m qual st f fd → FnOk P w K mg base CX0 k f fd ps sp) : CalM P w K mg base k C m ps sp := by
  obtain ⟨f, fd, F, m, b⟩ := h
  exact ⟨f, fd, ok f fd F, m, b⟩
theorem HasC.cal (h : HasC K mg x C qual st ps) (ok : ∀ f fd, Fun K "__init__" qual st f fd → FnOk P w K mg base CX0 k f fd ps sp) : CalC P w K mg base k x C ps sp := by
  obtain ⟨f, fd, F, m, e, b⟩ := h
  exact ⟨f, fd, ok f fd F, m, e, b⟩
end
section
variable {X : Cx} {k : Nat} {x m : Str} {C : Addr} {ps : List Str} {sp : Sp} {e o : Expr} {es : List Expr} {t : TA} {ta : TE} {p pos apos : Pos}
theorem pe_fn (G : Cal X.prog X.w X.K X.mg X.base k x ps sp) (hr : Room k X.A) (hg : Gl X x) (ha : PA X (e :: es) t) (hdb : (x == ("__debug__" : Str)) = false := by decide)
    (he : starEach (e :: es) X.env = (false, eval e X.env) :: starEach es X.env := by rfl) (hpl : (backTo pos (starEach es X.env)).any (·.1) = false := by rfl) :
    PE X (.Call (.Name x p) (e :: es) [] pos) (tCall sp [] E0 t) := by
  obtain ⟨f, fd, F, m, kp, b⟩ := G
  exact pe_call F hr hg m kp b .nil pass0 ha hdb he hpl
theorem pe_new (G : CalC X.prog X.w X.K X.mg X.base k x C ps sp) (hr : Room (k + 1) X.A) (hg : Gl X x) (ha : PA X (e :: es) t) (hdb : (x == ("__debug__" : Str)) = false := by decide)
    (he : starEach (e :: es) X.env = (false, eval e X.env) :: starEach es X.env := by rfl) (hpl : (backTo pos (starEach es X.env)).any (·.1) = false := by rfl) :
    PE X (.Call (.Name x p) (e :: es) [] pos) (tMake C sp [] E0 t) := by
  obtain ⟨f, fd, F, M, m, b⟩ := G
  exact pe_make M F hr hg m b .nil pass0 ha hdb he hpl
theorem pe_mth {pl : Sem Bool} (he : PE X o ta) (c : Cls X.K C) (G : CalM X.prog X.w X.K X.mg X.base k C m ps sp) (hr : Room k X.A)
    (ht : eval (.Call (.Attribute o m apos) [] [] pos) X.env = (do
      let ov ← eval o X.env
      standAt apos.atName
      let (f, first) ← holding [ov] (getMethod ov m pl)
      callWith pos f first (backTo pos (starEach [] X.env)) (backToKw pos (keywordEach [] X.env))) := by rfl) :
    PE X (.Call (.Attribute o m apos) [] [] pos) (tMeth C m sp [] E0 ta tNil) := by
  obtain ⟨f, fd, F, M, b⟩ := G
  exact pe_meth0 he c M F hr b .nil pass0 ht
end

/-! ### the text by places -/
def top (i : Nat) : Stmt := PySem.Challenge.pw_editslots_s01_answers.main.body.getD i (.Pass ⟨0, 0, 0, 0⟩)
abbrev sEdit : Stmt := inClass (top 7) 0
abbrev sRdI : Stmt := inClass (top 25) 0
abbrev sEnd : Stmt := inClass (top 25) 1
abbrev sNum : Stmt := inClass (top 25) 2
abbrev sRow : Stmt := inClass (top 25) 3
def nameOf (n : Int) : Str := if n = 1 then "answer_set" else if n = 2 then "answer_look" else if n = 3 then "answer_items" else if n = 4 then "answer_bytes" else if n = 5 then "answer_apply" else if n = 6 then "answer_then" else if n = 7 then "answer_back" else if n = 8 then "answer_over" else if n = 9 then "answer_place" else "answer_same"
structure Txt (K : PySem.W.Frag) (mg : Str → Option Value) (CE CR : Addr) : Prop where
  clE : Cls K CE
  clR : Cls K CR
  nOs : NoAttr K CE "old_size"
  nOr : NoAttr K CE "origins"
  nCa : NoAttr K CR "calls"
  nPo : NoAttr K CR "position"
  mkE : HasC K mg "Edit" CE "Edit.__init__" sEdit ["self", "old_size", "origins"]
  mkR : HasC K mg "Reader" CR "Reader.__init__" sRdI ["self", "calls"]
  mEnd : HasM K CR "at_end" "Reader.at_end" sEnd ["self"]
  mNum : HasM K CR "number" "Reader.number" sNum ["self"]
  mRow : HasM K CR "row" "Reader.row" sRow ["self"]
  d8 : Has K mg "new_origin" (top 8) ["octet"]
  d9 : Has K mg "octet_of" (top 9) ["origin"]
  d10 : Has K mg "is_new" (top 10) ["origin"]
  d11 : Has K mg "total" (top 11) ["items", "kind"]
  d12 : Has K mg "edit_of" (top 12) ["items", "octets"]
  d13 : Has K mg "add_item" (top 13) ["items", "kind", "count"]
  d14 : Has K mg "one_form" (top 14) ["edit"]
  d15 : Has K mg "new_bytes" (top 15) ["edit"]
  d16 : Has K mg "new_text" (top 16) ["edit", "old_text"]
  d17 : Has K mg "kept_places" (top 17) ["edit"]
  d18 : Has K mg "new_places" (top 18) ["edit"]
  d19 : Has K mg "one_then_other" (top 19) ["one", "other"]
  d20 : Has K mg "taken_back" (top 20) ["edit", "old_text"]
  d21 : Has K mg "led_over" (top 21) ["edit", "other", "edit_first"]
  d22 : Has K mg "left_place" (top 22) ["edit", "g"]
  d23 : Has K mg "right_place" (top 23) ["edit", "g"]
  d24 : Has K mg "are_same" (top 24) ["one", "other"]
  d26 : Has K mg "edit_in" (top 26) ["slots", "i"]
  d27 : Has K mg "refusal_of_set" (top 27) ["k", "items", "octets"]
  cS : ∃ u, mg "SLOT_COUNT" = some u ∧ RelV (.int 8) u
  cL : ∃ u, mg "LONGEST_TEXT" = some u ∧ RelV (.int 1024) u
  cM : ∃ u, mg "MOST_ITEMS" = some u ∧ RelV (.int 2049) u
  cK : ∃ u, mg "KEEP" = some u ∧ RelV (.int 0) u
  cD : ∃ u, mg "DROP" = some u ∧ RelV (.int 1) u
  cP : ∃ u, mg "PUT" = some u ∧ RelV (.int 2) u
  nLen : mg "len" = none
  nSum : mg "sum" = none
  nRange : mg "range" = none
  nAny : mg "any" = none
  nList : mg "list" = none
  nEnum : mg "enumerate" = none
  nZip : mg "zip" = none
  tab : ∃ d fs, mg "ANSWERS_OF_CALLS" = some (.ref d) ∧ Tab K d fs ∧ (∀ n : Int, 1 ≤ n → n ≤ 10 → ∃ f, fs.lookup n = some f) ∧ ∀ n f, fs.lookup n = some f → (1 ≤ n ∧ n ≤ 10) ∧ ∃ fd, Fun K (nameOf n) (nameOf n) (top (27 + n.toNat)) f fd ∧ Binds K fd ["slots", "reader"] []

/-! ### data -/
def ef (b : Int) (o : Addr) : List (Str × V) := putF "origins" (.ref o) (putF "old_size" (.int b) [])
theorem ef_old (b : Int) (o : Addr) : (ef b o).lookup ("old_size" : Str) = some (.int b) := by
  unfold ef
  rw [lookup_putF, if_neg (by decide +kernel), lookup_putF, if_pos rfl]
theorem ef_ori (b : Int) (o : Addr) : (ef b o).lookup ("origins" : Str) = some (.ref o) := by
  unfold ef
  rw [lookup_putF, if_pos rfl]
def EditAt (C : Addr) (M : List Addr) (H : Hp) (e : Addr) (d : Dl.Delta) : Prop :=
  ∃ dx o, H e = some (.ins C dx (ef d.base o)) ∧ H o = some (.lst ((d.out.map enc).map V.int)) ∧ e ∉ M ∧ o ∉ M
def Keep (M : List Addr) (H H' : Hp) : Prop := ∀ b o, H b = some o → b ∉ M → H' b = some o
def NewEdit (C : Addr) (H H' : Hp) (e : Addr) (d : Dl.Delta) : Prop :=
  ∃ dx o, H' e = some (.ins C dx (ef d.base o)) ∧ H' o = some (.lst ((d.out.map enc).map V.int)) ∧ H e = Option.none ∧ H o = Option.none
section
variable {C : Addr} {M N : List Addr} {H H1 H2 H' : Hp} {e x dx o : Addr} {d : Dl.Delta}
theorem keep_same (h : Same H H') : Keep M H H' := fun b o q _ => h b o q
theorem Keep.trans (a : Keep M H H1) (b : Keep M H1 H2) : Keep M H H2 := fun c o h m => b c o (a c o h m) m
theorem Keep.mono (a : Keep M H H1) (h : ∀ m ∈ M, m ∈ N) : Keep N H H1 := fun c o q m => a c o q fun z => m (h c z)
theorem EditAt.keep (h : EditAt C M H e d) (k : Keep M H H') : EditAt C M H' e d := by
  obtain ⟨dx, o, h1, h2, h3, h4⟩ := h
  exact ⟨dx, o, k _ _ h1 h3, k _ _ h2 h4, h3, h4⟩
theorem EditAt.same (h : EditAt C M H e d) (k : Same H H') : EditAt C M H' e d := h.keep (keep_same k)
theorem EditAt.bare (h : EditAt C M H e d) : EditAt C [] H e d := by
  obtain ⟨dx, o, h1, h2, _, _⟩ := h
  exact ⟨dx, o, h1, h2, by simp, by simp⟩
theorem NewEdit.at_ (h : NewEdit C H H' e d) (tr : ∀ m ∈ M, H m ≠ Option.none) : EditAt C M H' e d := by
  obtain ⟨dx, o, h1, h2, h3, h4⟩ := h
  exact ⟨dx, o, h1, h2, fun z => tr _ z h3, fun z => tr _ z h4⟩
theorem same_upd {u : HO} (h : H x = Option.none) : Same H (upd H x u) := fun b o q => by
  rw [upd_ne (ne_of_none q h)]
  exact q
/-- a new edit and its __init__ -/
theorem made_edit (s : Same H H1) (ho : H1 o = some (.lst ((d.out.map enc).map V.int))) (hn : H o = Option.none) (nx : H1 x = Option.none) (nd : H1 dx = Option.none) (h1 : H2 x = some (.ins C dx (ef d.base o)))
    (h2 : ∀ b u, (upd (upd H1 dx (.own x)) x (.ins C dx [])) b = some u → b ≠ x → H2 b = some u) : NewEdit C H H2 x d ∧ Same H H2 := by
  have s2 : Same H1 H2 := Same.made nx nd h2
  exact ⟨⟨dx, o, h1, s2 _ _ ho, s.free nx, hn⟩, s.trans s2⟩
end

/-! ### the promise of each small def -/
def spInitE (C : Addr) : Sp := fun vs H Q _ => ∃ (p dx : Addr) (b : Int) (o : Addr), vs = [.ref p, .int b, .ref o] ∧ H p = some (.ins C dx []) ∧ ∀ H' : Hp, H' p = some (.ins C dx (ef b o)) → (∀ b u, H b = some u → b ≠ p → H' b = some u) → Q .non H'
def spOct : Sp := fun vs H Q _ => ∃ z : Int, vs = [.int z] ∧ Q (.int (-1 - z)) H
def spIsNew : Sp := fun vs H Q _ => ∃ z : Int, vs = [.int z] ∧ Q (.bl (decide (z < 0))) H
section
variable {P : Program} {w : World} {K : PySem.W.Frag} {mg : Str → Option Value} {base : Heap} {CE CR : Addr}
theorem scI : FnScope ["self", "old_size", "origins"] ["self", "old_size", "origins"] (defScope sEdit) := ⟨rfl, rfl, rfl, by decide +kernel, rfl, by decide +kernel, by decide +kernel⟩
theorem cal_edit (T : Txt K mg CE CR) : CalC P w K mg base 1 "Edit" CE ["self", "old_size", "origins"] (spInitE CE) := T.mkE.cal fun f fd F => by
  refine F.ok scI (fun vs H Q E h => ?_) (fun cdv A outer s H vs Q E hr h => ?_)
  · obtain ⟨p, dx, b, o, rfl, _⟩ := h
    rfl
  · obtain ⟨p, dx, b, o, rfl, hp, k⟩ := h
    refine ⟨_, pss_cons (ps_fld (pv 0) (pv 1) rfl) (pss_one (ps_fld (pv 0) (pv 2) rfl)), ?_⟩
    refine ⟨_, rfl, _, rfl, p, CE, dx, [], rfl, hp, T.clE, T.nOs, (by show 0 < 1000; decide), _, rfl, _, rfl, p, CE, dx, _, rfl, upd_same, T.clE, T.nOr, (by show 1 < 1000; decide), ?_⟩
    refine k _ upd_same fun b u e hb => ?_
    rw [upd_ne hb, upd_ne hb]
    exact e
theorem sc8 : FnScope ["octet"] ["octet"] (defScope (top 8)) := ⟨rfl, rfl, rfl, by decide +kernel, rfl, by decide +kernel, by decide +kernel⟩
theorem cal_new_origin (T : Txt K mg CE CR) : Cal P w K mg base 1 "new_origin" ["octet"] spOct := T.d8.cal fun f fd F => by
  refine F.ok sc8 (fun vs H Q E h => ?_) (fun cdv A outer s H vs Q E hr h => ?_)
  · obtain ⟨z, rfl, _⟩ := h
    rfl
  · obtain ⟨z, rfl, k⟩ := h
    refine ⟨_, pss_one (ps_ret (pe_op op_sub (pe_un un_neg pe_int) (pv 0))), ?_⟩
    exact ⟨_, rfl, _, rfl, _, _, rfl, rfl, k⟩
theorem sc9 : FnScope ["origin"] ["origin"] (defScope (top 9)) := ⟨rfl, rfl, rfl, by decide +kernel, rfl, by decide +kernel, by decide +kernel⟩
theorem cal_octet_of (T : Txt K mg CE CR) : Cal P w K mg base 1 "octet_of" ["origin"] spOct := T.d9.cal fun f fd F => by
  refine F.ok sc9 (fun vs H Q E h => ?_) (fun cdv A outer s H vs Q E hr h => ?_)
  · obtain ⟨z, rfl, _⟩ := h
    rfl
  · obtain ⟨z, rfl, k⟩ := h
    refine ⟨_, pss_one (ps_ret (pe_op op_sub (pe_un un_neg pe_int) (pv 0))), ?_⟩
    exact ⟨_, rfl, _, rfl, _, _, rfl, rfl, k⟩
theorem sc10 : FnScope ["origin"] ["origin"] (defScope (top 10)) := ⟨rfl, rfl, rfl, by decide +kernel, rfl, by decide +kernel, by decide +kernel⟩
theorem cal_is_new (T : Txt K mg CE CR) : Cal P w K mg base 1 "is_new" ["origin"] spIsNew := T.d10.cal fun f fd F => by
  refine F.ok sc10 (fun vs H Q E h => ?_) (fun cdv A outer s H vs Q E hr h => ?_)
  · obtain ⟨z, rfl, _⟩ := h
    rfl
  · obtain ⟨z, rfl, k⟩ := h
    refine ⟨_, pss_one (ps_ret (pe_cmpR op_lt (pv 0) pe_int (nomark _))), ?_⟩
    exact ⟨_, rfl, _, _, rfl, rfl, k⟩
end

/-! ### the reader -/
def rf (a : Addr) (p : Int) : List (Str × V) := putF "position" (.int p) (putF "calls" (.ref a) [])
theorem rf_calls (a : Addr) (p : Int) : (rf a p).lookup ("calls" : Str) = some (.ref a) := by
  unfold rf
  rw [lookup_putF, if_neg (by decide +kernel), lookup_putF, if_pos rfl]
theorem rf_pos (a : Addr) (p : Int) : (rf a p).lookup ("position" : Str) = some (.int p) := by
  unfold rf
  rw [lookup_putF, if_pos rfl]
theorem rf_no (a : Addr) (p : Int) {m : Str} (h1 : ¬ m = "position") (h2 : ¬ m = "calls") : (rf a p).lookup m = none := by
  unfold rf
  rw [lookup_putF, if_neg h1, lookup_putF, if_neg h2]
  rfl
theorem rf_put (a : Addr) (p q : Int) : putF "position" (.int q) (rf a p) = rf a q := by
  unfold rf
  have e : putF "position" (V.int p) (putF "calls" (V.ref a) []) = [(("calls" : Str), V.ref a), ("position", V.int p)] := by
    show (if ("calls" : Str) = "position" then _ else _) = _
    rw [if_neg (by decide +kernel)]
    rfl
  have e2 : putF "position" (V.int q) (putF "calls" (V.ref a) []) = [(("calls" : Str), V.ref a), ("position", V.int q)] := by
    show (if ("calls" : Str) = "position" then _ else _) = _
    rw [if_neg (by decide +kernel)]
    rfl
  rw [e, e2]
  show (if ("calls" : Str) = "position" then _ else _) = _
  rw [if_neg (by decide +kernel)]
  have e3 : putF "position" (V.int q) [(("position" : Str), V.int p)] = [(("position" : Str), V.int q)] := by
    show (if ("position" : Str) = "position" then [(("position" : Str), V.int q)] else _) = _
    rw [if_pos rfl]
  rw [e3]
def RdAt (C : Addr) (H : Hp) (r a : Addr) (p : Nat) : Prop := ∃ dx, H r = some (.ins C dx (rf a (p : Int)))
def spInitR (C : Addr) : Sp := fun vs H Q _ => ∃ (p dx a : Addr), vs = [.ref p, .ref a] ∧ H p = some (.ins C dx []) ∧ ∀ H' : Hp, RdAt C H' p a 0 → (∀ b u, H b = some u → b ≠ p → H' b = some u) → Q .non H'
def spEnd (K : PySem.W.Frag) (C : Addr) : Sp := fun vs H Q _ => ∃ (r a : Addr) (p : Nat) (ns : List Int), vs = [.ref r] ∧ RdAt C H r a p ∧ SqL K H a (ns.map V.int) ∧ Q (.bl (decide (ns.length ≤ p))) H
/-- a list that stays while what is in M changes -/
def LstAt (K : PySem.W.Frag) (M : List Addr) (H : Hp) (a : Addr) (xs : List V) : Prop := ∀ H' : Hp, Keep M H H' → SqL K H' a xs
theorem LstAt.sq {K : PySem.W.Frag} {M : List Addr} {H : Hp} {a : Addr} {xs : List V} (h : LstAt K M H a xs) : SqL K H a xs := h H fun _ _ q _ => q
theorem LstAt.keep {K : PySem.W.Frag} {M : List Addr} {H H' : Hp} {a : Addr} {xs : List V} (h : LstAt K M H a xs) (k : Keep M H H') : LstAt K M H' a xs := fun H2 k2 => h H2 (k.trans k2)
theorem LstAt.mono {K : PySem.W.Frag} {M N : List Addr} {H : Hp} {a : Addr} {xs : List V} (h : LstAt K M H a xs) (k : ∀ m ∈ N, m ∈ M) : LstAt K N H a xs := fun H2 k2 => h H2 (k2.mono k)
def spNum (K : PySem.W.Frag) (C : Addr) : Sp := fun vs H Q _ => ∃ (r a : Addr) (p : Nat) (ns : List Int) (z : Int), vs = [.ref r] ∧ RdAt C H r a p ∧ LstAt K [r] H a (ns.map V.int) ∧ ns[p]? = some z ∧
  ∀ H' : Hp, RdAt C H' r a (p + 1) → Keep [r] H H' → Q (.int z) H'
/-- how a list stays that is not among the changing -/
def spRow (K : PySem.W.Frag) (C : Addr) : Sp := fun vs H Q _ => ∃ (r a : Addr) (p : Nat) (ns row : List Int) (rest : List Int), vs = [.ref r] ∧ RdAt C H r a p ∧ LstAt K [r] H a (ns.map V.int) ∧ ns.drop p = (row.length : Int) :: (row ++ rest) ∧
  ∀ (H' : Hp) (l : Addr), RdAt C H' r a (p + 1 + row.length) → Keep [r] H H' → H' l = some (.lst (row.map V.int)) → H l = Option.none → Q (.ref l) H'
theorem keep_free {M : List Addr} {H H' : Hp} {l : Addr} (k : Keep M H H') (hm : ∀ m ∈ M, H' m ≠ Option.none) (h : H' l = Option.none) : H l = Option.none := by
  cases q : H l with
  | none => rfl
  | some o =>
    by_cases hl : l ∈ M
    · exact absurd h (hm l hl)
    · rw [k l o q hl] at h
      cases h
theorem cut_row {ns row rest : List Int} {q : Nat} (h : ns.drop q = row ++ rest) : cutV (ns.map V.int) (some (q : Int)) (some ((q : Int) + (row.length : Int))) = row.map V.int := by
  have hl : ns.length - q = row.length + rest.length := by
    have := congrArg List.length h
    rw [List.length_drop, List.length_append] at this
    exact this
  unfold cutV
  rw [show (q : Int) + (row.length : Int) = ((q + row.length : Nat) : Int) by omega, HT.sIx_nat, HT.sIx_nat, List.length_map, ← List.map_drop, ← List.map_take]
  congr 1
  by_cases c : q ≤ ns.length
  · rw [Nat.min_eq_left c, Nat.min_eq_left (by omega), h, show q + row.length - q = row.length by omega]
    exact List.take_left
  · have e : row = [] := List.length_eq_zero_iff.mp (by omega)
    rw [e, Nat.min_eq_right (by omega), Nat.min_eq_right (by show ns.length ≤ q + 0; omega), Nat.sub_self]
    rfl
section
variable {P : Program} {w : World} {K : PySem.W.Frag} {mg : Str → Option Value} {base : Heap} {CE CR : Addr}
theorem scR : FnScope ["self", "calls"] ["self", "calls"] (defScope sRdI) := ⟨rfl, rfl, rfl, by decide +kernel, rfl, by decide +kernel, by decide +kernel⟩
theorem cal_reader (T : Txt K mg CE CR) : CalC P w K mg base 1 "Reader" CR ["self", "calls"] (spInitR CR) := T.mkR.cal fun f fd F => by
  refine F.ok scR (fun vs H Q E h => ?_) (fun cdv A outer s H vs Q E hr h => ?_)
  · obtain ⟨p, dx, a, rfl, _⟩ := h
    rfl
  · obtain ⟨p, dx, a, rfl, hp, k⟩ := h
    refine ⟨_, pss_cons (ps_fld (pv 0) (pv 1) rfl) (pss_one (ps_fld (pv 0) pe_int rfl)), ?_⟩
    refine ⟨_, rfl, _, rfl, p, CR, dx, [], rfl, hp, T.clR, T.nCa, (by show 0 < 1000; decide), _, rfl, p, CR, dx, _, rfl, upd_same, T.clR, T.nPo, (by show 1 < 1000; decide), ?_⟩
    refine k _ ⟨dx, upd_same⟩ fun b u e hb => ?_
    rw [upd_ne hb, upd_ne hb]
    exact e
theorem scEnd : FnScope ["self"] ["self"] (defScope sEnd) := ⟨rfl, rfl, rfl, by decide +kernel, rfl, by decide +kernel, by decide +kernel⟩
theorem cal_end (T : Txt K mg CE CR) : CalM P w K mg base 1 CR "at_end" ["self"] (spEnd K CR) := T.mEnd.cal fun f fd F => by
  refine F.ok scEnd (fun vs H Q E h => ?_) (fun cdv A outer s H vs Q E hr h => ?_)
  · obtain ⟨r, a, p, ns, rfl, _⟩ := h
    rfl
  · obtain ⟨r, a, p, ns, rfl, ⟨dx, hrd⟩, hs, k⟩ := h
    refine ⟨_, pss_one (ps_ret (pe_cmpR op_ge (pe_fld (pv 0) rfl) (pe_callB call_len_seq (by rfl) T.nLen PySem.boot_len (pa_cons (pe_fld (pv 0) rfl) pa_nil)) (nomark _))), ?_⟩
    refine ⟨_, rfl, r, CR, dx, _, _, rfl, hrd, T.clR, T.nPo, rf_pos _ _, _, rfl, r, CR, dx, _, _, rfl, hrd, T.clR, T.nCa, rf_calls _ _, a, _, rfl, .inl hs, _, _, rfl, rfl, ?_⟩
    have e : decide (((ns.map V.int).length : Int) ≤ (p : Int)) = decide (ns.length ≤ p) := by
      rw [decide_eq_decide, List.length_map]
      omega
    show Q (.bl (decide (((ns.map V.int).length : Int) ≤ (p : Int)))) H
    rw [e]
    exact k
theorem scNum : FnScope ["self"] ["self"] (defScope sNum) := ⟨rfl, rfl, rfl, by decide +kernel, rfl, by decide +kernel, by decide +kernel⟩
theorem cal_num (T : Txt K mg CE CR) : CalM P w K mg base 1 CR "number" ["self"] (spNum K CR) := T.mNum.cal fun f fd F => by
  refine F.ok scNum (fun vs H Q E h => ?_) (fun cdv A outer s H vs Q E hr h => ?_)
  · obtain ⟨r, a, p, ns, z, rfl, _⟩ := h
    rfl
  · obtain ⟨r, a, p, ns, z, rfl, ⟨dx, hrd⟩, hs, hz, k⟩ := h
    refine ⟨_, pss_cons (ps_fldaug (pv 0) pe_int in_add) (pss_one (ps_ret (pe_ix ix_list (pe_fld (pv 0) rfl) (pe_op op_sub (pe_fld (pv 0) rfl) pe_int) (fun _ _ => rfl)))), ?_⟩
    have e1 : putF "position" (V.int ((p : Int) + 1)) (rf a (p : Int)) = rf a (((p + 1 : Nat)) : Int) := rf_put a p _
    have hK : Keep [r] H (upd H r (.ins CR dx (rf a ((p + 1 : Nat) : Int)))) := fun b u e hb => by
      rw [upd_ne (by simpa using hb)]
      exact e
    refine ⟨_, rfl, r, CR, dx, _, _, rfl, hrd, T.clR, T.nPo, rf_pos _ _, _, _, rfl, rfl, dx, _, hrd, (by show 2 < 1000; decide), ?_⟩
    rw [e1]
    refine ⟨_, rfl, r, CR, dx, _, _, rfl, upd_same, T.clR, T.nCa, rf_calls _ _, _, rfl, r, CR, dx, _, _, rfl, upd_same, T.clR, T.nPo, rf_pos _ _, _, _, rfl, rfl, a, _, _, _, rfl, rfl, hs _ hK, at_of (j := p) (v := V.int z) (by omega) (by rw [List.getElem?_map, hz]; rfl), ?_⟩
    exact k _ ⟨dx, upd_same⟩ hK
theorem scRow : FnScope ["self", "size", "begin"] ["self"] (defScope sRow) := ⟨rfl, rfl, rfl, by decide +kernel, rfl, by decide +kernel, by decide +kernel⟩
theorem cal_row (T : Txt K mg CE CR) : CalM P w K mg base 2 CR "row" ["self"] (spRow K CR) := T.mRow.cal fun f fd F => by
  refine F.ok scRow (fun vs H Q E h => ?_) (fun cdv A outer s H vs Q E hr h => ?_)
  · obtain ⟨r, a, p, ns, row, rest, rfl, _⟩ := h
    rfl
  · obtain ⟨r, a, p, ns, row, rest, rfl, hrd, hs, hd, k⟩ := h
    refine ⟨_, pss_cons (ps_set (i := 1) scRow.nd rfl (Or.inl rfl) (pe_mth (pv 0) T.clR (cal_num T) hr))
      (pss_cons (ps_set (i := 2) scRow.nd rfl (Or.inl rfl) (pe_fld (pv 0) rfl))
      (pss_cons (ps_fld (pv 0) (pe_op op_add (pv 2) (pv 1)) rfl)
      (pss_one (ps_ret (pe_slice sl_list (pe_fld (pv 0) rfl) (po_some (pv 2)) (po_some (pe_op op_add (pv 2) (pv 1)))))))), ?_⟩
    have h0 : ns[p]? = some (row.length : Int) := by
      have := congrArg (fun l => l[0]?) hd
      simpa [List.getElem?_drop] using this
    have h1 : ns.drop (p + 1) = row ++ rest := by
      have := congrArg (List.drop 1) hd
      rw [List.drop_drop] at this
      exact this
    obtain ⟨dx, hrd⟩ := hrd
    refine ⟨_, rfl, r, dx, _, rfl, hrd, rf_no _ _ (by decide +kernel) (by decide +kernel), r, a, p, ns, (row.length : Int), rfl, ⟨dx, hrd⟩, hs, h0, fun H1 hr1 k1 => ?_⟩
    obtain ⟨dx1, hr1⟩ := hr1
    refine ⟨_, rfl, r, CR, dx1, _, _, rfl, hr1, T.clR, T.nPo, rf_pos _ _, ?_⟩
    refine ⟨_, rfl, _, rfl, _, _, rfl, rfl, _, rfl, r, CR, dx1, _, rfl, hr1, T.clR, T.nPo, (by show 2 < 1000; decide), ?_⟩
    have e1 : putF "position" (V.int (((p + 1 : Nat) : Int) + (row.length : Int))) (rf a ((p + 1 : Nat) : Int)) = rf a ((p + 1 + row.length : Nat) : Int) := by
      rw [rf_put]
      congr 1
    have k2 : Keep [r] H (upd H1 r (.ins CR dx1 (rf a ((p + 1 + row.length : Nat) : Int)))) := fun b u e hb => by
      rw [upd_ne (by simpa using hb)]
      exact k1 b u e hb
    rw [e1]
    refine ⟨_, rfl, r, CR, dx1, _, _, rfl, upd_same, T.clR, T.nCa, rf_calls _ _, _, rfl, _, rfl, _, rfl, _, rfl, _, _, rfl, rfl, _, rfl, a, _, rfl, hs _ k2, fun l hl => ?_⟩
    have nrl : r ≠ l := ne_of_none upd_same hl
    refine k _ l ⟨dx1, by rw [upd_ne nrl]; exact upd_same⟩ (fun b u e hb => ?_) ?_ (keep_free k2 (by simp [upd_same]) hl)
    · rw [upd_ne (ne_of_none (k2 b u e hb) hl)]
      exact k2 b u e hb
    · rw [upd_same]
      exact congrArg (fun z => some (HO.lst z)) (cut_row h1)
end
end Ed

set_option Elab.async false
set_option linter.all false
set_option maxRecDepth 100000
set_option maxHeartbeats 2000000
/-! total, add_item, one_form, new_bytes, new_text. -/
namespace Ed
open PySem PySem.Spec PyProof.Rows L2
theorem lt_line {n : Nat} (h : n ≤ 16000000) : n < sizeLine := by
  rw [sizeLine_eq]
  omega
theorem le_line {n : Nat} (h : n ≤ 16000000) : n ≤ sizeLine := Nat.le_of_lt (lt_line h)
def spTotal (K : PySem.W.Frag) : Sp := fun vs H Q _ => ∃ (a : Addr) (l : List Int) (m k : Nat), vs = [.ref a, .int (k : Int)] ∧ SqL K H a (l.map V.int) ∧ l.length = 2 * m ∧ m ≤ 20000 ∧ (∀ z ∈ l, 0 ≤ z) ∧
  ∀ H' : Hp, Same H H' → Q (.int (tot (Dl.rawsOf (DlNeutral.natsOf l)) k : Int)) H'
section
variable {P : Program} {w : World} {K : PySem.W.Frag} {mg : Str → Option Value} {base : Heap} {CE CR : Addr}
theorem sc11 : FnScope ["items", "kind", "at"] ["items", "kind"] (defScope (top 11)) := ⟨rfl, rfl, rfl, by decide +kernel, rfl, by decide +kernel, by decide +kernel⟩
theorem cal_total (T : Txt K mg CE CR) : Cal P w K mg base 1 "total" ["items", "kind"] (spTotal K) := T.d11.cal fun f fd F => by
  refine F.ok sc11 (fun vs H Q E h => ?_) (fun cdv A outer s H vs Q E hr h => ?_)
  · obtain ⟨a, l, m, k, rfl, _⟩ := h
    rfl
  · obtain ⟨a, l, m, k, rfl, hs, hl, hm, hp, hq⟩ := h
    refine ⟨_, pss_one (ps_ret (pe_callB (cr_sum rfl) (by rfl) T.nSum (by decide +kernel) (pa_cons (pe_lc (own := [("at", 2)]) rfl sc11.nd
      (pi_range3 (by rfl) T.nRange (pa_cons pe_int (pa_cons (pe_callB call_len_seq (by rfl) T.nLen PySem.boot_len (pa_cons (pv 0) pa_nil)) (pa_cons pe_int pa_nil))))
      (blkOk_by (N := ["items", "kind", "at"]) (sc := defScope (top 11)) (by decide +kernel))
      (fun _ _ _ _ _ => pg_name (i := 2) sc11.nd rfl (Or.inl rfl))
      (fun _ _ _ _ _ => pts_one (pt_cmpR op_eq (pe_ix (ix_listK K) (pv 0) (pv 2) (fun _ _ => rfl)) (pv 1) (nomark _)))
      (fun _ _ _ _ _ => pe_ix (ix_listK K) (pv 0) (pe_op op_add (pv 2) pe_int) (fun _ _ => rfl))) pa_nil))), ?_⟩
    have hrl : (Dl.rawsOf (DlNeutral.natsOf l)).length = m := raws_len hl
    refine ⟨_, rfl, a, _, rfl, .inl hs, 0, _, 2, _, rfl, RgC.two _ (by rw [List.length_map]; omega), fun D hD => ?_⟩
    have hn : ((l.map V.int).length + 1) / 2 = m := by
      rw [List.length_map]
      omega
    rw [hn]
    refine lc_rangeC (fun i H' => Same H H' ∧ H' D = some (.lst ((totAt (Dl.rawsOf (DlNeutral.natsOf l)) k i).map V.int))) ⟨same_upd hD, upd_same⟩ ?_ ?_
    · rintro i H' hi ⟨s1, hD1⟩
      obtain ⟨x, y, h1, h2, h3, h4, h5⟩ := raws_at hl hp hi
      have ea : atI (l.map V.int) ((0 : Int) + (i : Nat) * 2) = some (V.int x) := at_of (j := 2 * i) (by omega) (by rw [List.getElem?_map, h1]; rfl)
      have eb : atI (l.map V.int) ((0 : Int) + (i : Nat) * 2 + 1) = some (V.int y) := at_of (j := 2 * i + 1) (by omega) (by rw [List.getElem?_map, h2]; rfl)
      refine ⟨rfl, _, rfl, _, rfl, a, _, _, _, rfl, rfl, s1.seq hs, ea, _, rfl, rfl, _, rfl, ?_⟩
      have ex := totAt_succ (k := k) h3
      refine ite2 (fun c => ?_) (fun c => ?_)
      · have c : V.int x = V.int (k : Int) := of_decide_eq_true c
        have c : x = (k : Int) := V.int.inj c
        refine ⟨_, rfl, _, rfl, _, _, rfl, rfl, a, _, _, _, rfl, rfl, s1.seq hs, eb, _, hD1, lt_line ?_, fun b o e => ?_, ?_⟩
        · have := totAt_len (Dl.rawsOf (DlNeutral.natsOf l)) k i
          rw [List.length_map]
          omega
        · rw [upd_ne (ne_of_none e hD)]
          exact s1 b o e
        · rw [upd_same, ex, if_pos (show x.toNat = k by omega), List.map_append]
          show some (HO.lst (_ ++ [V.int y])) = some (HO.lst (_ ++ [V.int ((y.toNat : Nat) : Int)]))
          rw [Int.toNat_of_nonneg h5]
      · have c : ¬ x = (k : Int) := fun e => c (decide_eq_true (congrArg V.int e))
        refine ⟨s1, ?_⟩
        rw [ex, if_neg (show ¬ x.toNat = k by omega)]
        exact hD1
    · rintro H' ⟨s1, hD1⟩
      refine ⟨D, _, rfl, SqL.of hD1, ?_⟩
      have e := totAt_sum (Dl.rawsOf (DlNeutral.natsOf l)) k
      rw [hrl] at e
      rw [e]
      exact hq H' s1
end
/-! ### add_item -/
def spAdd : Sp := fun vs H Q _ => ∃ (a : Addr) (rs : List (Int × Int)) (k n : Int), vs = [.ref a, .int k, .int n] ∧ H a = some (.lst ((flatR rs).map V.int)) ∧ rs.length ≤ 100000 ∧
  ∀ H' : Hp, H' a = some (.lst ((flatR (addR rs k n)).map V.int)) → Keep [a] H H' → Q .non H'
theorem flat_neg2 (x : Int × Int) (rs : List (Int × Int)) : atI ((flatR (x :: rs)).map V.int) (-2) = some (V.int x.1) := by
  rw [flatR_cons, List.map_append]
  have hl : ((flatR rs).map V.int ++ [x.1, x.2].map V.int).length = (flatR rs).length + 2 := by simp
  have e : ixN ((flatR rs).map V.int ++ [x.1, x.2].map V.int).length (-2) = some (flatR rs).length := by
    unfold ixN
    rw [hl, if_neg (by decide), if_pos (by omega)]
    congr 1
    omega
  unfold atI
  rw [e]
  show ((flatR rs).map V.int ++ [x.1, x.2].map V.int)[(flatR rs).length]? = _
  rw [List.getElem?_append_right (by simp)]
  simp
theorem flat_neg1 (x : Int × Int) (rs : List (Int × Int)) : atI ((flatR (x :: rs)).map V.int) (-1) = some (V.int x.2) ∧ ixN ((flatR (x :: rs)).map V.int).length (-1) = some ((flatR rs).length + 1) := by
  rw [flatR_cons, List.map_append]
  have hl : ((flatR rs).map V.int ++ [x.1, x.2].map V.int).length = (flatR rs).length + 2 := by simp
  have e : ixN ((flatR rs).map V.int ++ [x.1, x.2].map V.int).length (-1) = some ((flatR rs).length + 1) := by
    unfold ixN
    rw [hl, if_neg (by decide), if_pos (by omega)]
    congr 1
    omega
  refine ⟨?_, e⟩
  unfold atI
  rw [e]
  show ((flatR rs).map V.int ++ [x.1, x.2].map V.int)[(flatR rs).length + 1]? = _
  rw [List.getElem?_append_right (by simp)]
  simp
theorem flat_set (x : Int × Int) (rs : List (Int × Int)) (n : Int) : ((flatR (x :: rs)).map V.int).set ((flatR rs).length + 1) (V.int (x.2 + n)) = (flatR ((x.1, x.2 + n) :: rs)).map V.int := by
  rw [flatR_cons, flatR_cons, List.map_append, List.map_append, List.set_append_right _ _ (by simp)]
  simp
section
variable {P : Program} {w : World} {K : PySem.W.Frag} {mg : Str → Option Value} {base : Heap} {CE CR : Addr}
theorem sc13 : FnScope ["items", "kind", "count"] ["items", "kind", "count"] (defScope (top 13)) := ⟨rfl, rfl, rfl, by decide +kernel, rfl, by decide +kernel, by decide +kernel⟩
theorem cal_add (T : Txt K mg CE CR) : Cal P w K mg base 1 "add_item" ["items", "kind", "count"] spAdd := T.d13.cal fun f fd F => by
  refine F.ok sc13 (fun vs H Q E h => ?_) (fun cdv A outer s H vs Q E hr h => ?_)
  · obtain ⟨a, rs, k, n, rfl, _⟩ := h
    rfl
  · obtain ⟨a, rs, k, n, rfl, ha, hl, hq⟩ := h
    refine ⟨_, pss_cons (ps_if (pt_cmpR op_eq (pv 2) pe_int (nomark _)) (pss_one ps_retN) pss_nil)
      (pss_one (ps_if (pw_and (pt_cmpR op_gt (pe_callB call_len_seq (by rfl) T.nLen PySem.boot_len (pa_cons (pv 0) pa_nil)) pe_int (nomark _)) (pw_and1 (pt_cmpR op_eq (pe_ix ix_list (pv 0) (pe_un un_neg pe_int) (fun _ _ => rfl)) (pv 1) (nomark _)))).pt
        (pss_one (ps_augS (pv 0) (pe_un un_neg pe_int) get_listN (pv 2) ip_add set_list))
        (pss_one (ps_expr (pe_bm PySem.F.plainAttrs_list PySem.F.slot_list_extend PySem.F.type_list_extend mt_extend (pv 0) (pa_cons (pe_lst (pa_cons (pv 1) (pa_cons (pv 2) pa_nil))) pa_nil)))))), ?_⟩
    refine ⟨_, rfl, rfl, _, rfl, ite2 (fun c => ?_) (fun c => ?_)⟩
    · have c : n = 0 := V.int.inj (of_decide_eq_true c)
      subst c
      refine hq H ?_ fun b o e _ => e
      rw [addR_zero]
      exact ha
    · have c : n ≠ 0 := fun e => c (decide_eq_true (congrArg V.int e))
      rw [addR_pos _ _ c] at hq
      have other : (∀ y, addN rs k n = y → y = (k, n) :: rs) → (tDrop (tBM K "list" rExtend (tVar 0) (tCons (tLst (tCons (tVar 1) (tCons (tVar 2) tNil))) tNil))) { nx := fun _ H' => Q .non H', rt := Q } [some (.ref a), some (.int k), some (.int n)] H := fun hy => by
        refine ⟨_, rfl, .inl ⟨rfl, _, SqL.of ha⟩, _, rfl, _, rfl, (by show 2 ≤ sizeLine; decide), fun p hp => ?_⟩
        have na : a ≠ p := ne_of_none ha hp
        refine ⟨a, p, _, _, rfl, rfl, (by rw [upd_ne na]; exact ha), upd_same, le_line ?_, ?_⟩
        · rw [List.length_map, flatR_len]
          show _ + 2 ≤ _
          omega
        · refine hq _ ?_ fun b o e hb => ?_
          · rw [upd_same, hy _ rfl, flatR_cons, List.map_append]
            rfl
          · rw [upd_ne (by simpa using hb), upd_ne (ne_of_none e hp)]
            exact e
      refine ⟨_, rfl, a, _, rfl, .inl (SqL.of ha), _, _, rfl, rfl, _, rfl, ?_⟩
      cases rs with
      | nil =>
        refine ite2 (fun c => absurd (of_decide_eq_true c) (by show ¬ ((0 : Int) < (([] : List V).length : Int)); decide)) (fun _ => iteF ?_)
        exact other fun y hy => hy.symm
      | cons x rs =>
        refine ite2 (fun _ => ?_) (fun c => absurd (decide_eq_true (by rw [List.length_map, flatR_len, List.length_cons]; omega)) c)
        refine ⟨_, rfl, _, rfl, a, _, _, _, rfl, rfl, SqL.of ha, flat_neg2 x rs, _, rfl, rfl, _, rfl, ite2 (fun c2 => ?_) (fun c2 => ?_)⟩
        · have c2 : x.1 = k := V.int.inj (of_decide_eq_true c2)
          obtain ⟨h1, h2⟩ := flat_neg1 x rs
          refine ⟨_, rfl, _, rfl, a, _, _, _, rfl, rfl, SqL.of ha, (by decide), h1, _, rfl, _, _, rfl, rfl, a, _, _, _, rfl, rfl, ha, h2, ?_⟩
          refine hq _ ?_ fun b o e hb => ?_
          · rw [upd_same, flat_set]
            have e : addN (x :: rs) k n = (x.1, x.2 + n) :: rs := by
              obtain ⟨k', m⟩ := x
              show (if k' = k then _ else _) = _
              rw [if_pos c2]
              have c3 : k' = k := c2
              rw [c3]
            rw [e]
          · rw [upd_ne (by simpa using hb)]
            exact e
        · have c2 : ¬ x.1 = k := fun e => c2 (decide_eq_true (congrArg V.int e))
          refine other fun y hy => ?_
          rw [← hy]
          obtain ⟨k', m⟩ := x
          show (if k' = k then _ else _) = _
          rw [if_neg c2]
end
/-! ### one_form -/
def spForm (C : Addr) : Sp := fun vs H Q _ => ∃ (e : Addr) (d : Dl.Delta), vs = [.ref e] ∧ EditAt C [] H e d ∧ Fits d ∧
  ∀ (H' : Hp) (l : Addr), Same H H' → H l = Option.none → H' l = some (.lst ((flatR (formR d)).map V.int)) → Q (.ref l) H'
section
variable {P : Program} {w : World} {K : PySem.W.Frag} {mg : Str → Option Value} {base : Heap} {CE CR : Addr}
theorem sc14 : FnScope ["edit", "items", "old_at", "origin"] ["edit"] (defScope (top 14)) := ⟨rfl, rfl, rfl, by decide +kernel, rfl, by decide +kernel, by decide +kernel⟩
theorem cal_form (T : Txt K mg CE CR) : Cal P w K mg base 2 "one_form" ["edit"] (spForm CE) := T.d14.cal fun f fd F => by
  refine F.ok sc14 (fun vs H Q E h => ?_) (fun cdv A outer s H vs Q E hr h => ?_)
  · obtain ⟨e, d, rfl, _⟩ := h
    rfl
  · obtain ⟨e, d, rfl, ⟨dx, o, he, ho, _, _⟩, hf, hq⟩ := h
    refine ⟨_, pss_cons (ps_set (i := 1) sc14.nd rfl (Or.inl rfl) (pe_lst pa_nil))
      (pss_cons (ps_set (i := 2) sc14.nd rfl (Or.inl rfl) pe_int)
      (pss_cons (ps_for PassesOwn.never rfl (pi_list (pe_fld (pv 0) rfl)) (pg_name (i := 3) sc14.nd rfl (Or.inl rfl))
        (pss_one (ps_if (pt_val (pe_fn (cal_is_new T) hr (by rfl) (pa_cons (pv 3) pa_nil)))
          (pss_one (ps_expr (pe_fn (cal_add T) hr (by rfl) (pa_cons (pv 1) (pa_cons (pe_top (by rfl) T.cP) (pa_cons pe_int pa_nil))))))
          (pss_cons (ps_expr (pe_fn (cal_add T) hr (by rfl) (pa_cons (pv 1) (pa_cons (pe_top (by rfl) T.cD) (pa_cons (pe_op op_sub (pv 3) (pv 2)) pa_nil)))))
          (pss_cons (ps_expr (pe_fn (cal_add T) hr (by rfl) (pa_cons (pv 1) (pa_cons (pe_top (by rfl) T.cK) (pa_cons pe_int pa_nil)))))
          (pss_one (ps_set (i := 2) sc14.nd rfl (Or.inl rfl) (pe_op op_add (pv 3) pe_int))))))))
      (pss_cons (ps_expr (pe_fn (cal_add T) hr (by rfl) (pa_cons (pv 1) (pa_cons (pe_top (by rfl) T.cD) (pa_cons (pe_op op_sub (pe_fld (pv 0) rfl) (pv 2)) pa_nil)))))
      (pss_one (ps_ret (pv 1)))))), ?_⟩
    refine ⟨Nat.zero_le _, fun l hl => ?_⟩
    have s0 : Same H (upd H l (.lst [])) := same_upd hl
    have nle : ∀ {b : Addr} {u : HO}, H b = some u → b ≠ l := fun q => ne_of_none q hl
    have bnd : ∀ i, (formAt d i).1.length ≤ 2048 := fun i => Nat.le_trans (formAt_len d i) (by have := hf.new; omega)
    refine ⟨_, rfl, e, CE, dx, _, _, rfl, s0 _ _ he, T.clE, T.nOr, ef_ori _ _, o, rfl, ⟨_, SqL.of (s0 _ _ ho)⟩,
      for_list (K := K) (a := o) (xs := (d.out.map enc).map V.int) (fun i σ H' => ∃ v3 : Option V, σ = [some (.ref e), some (.ref l), some (.int (formAt d i).2), v3] ∧ Same H H' ∧ H' l = some (.lst ((flatR (formAt d i).1).map V.int)))
        ⟨none, rfl, s0, upd_same⟩ (fun i σ H' _ ⟨_, _, s5, _⟩ => SqL.of (s5 _ _ ho)) ?_ ?_⟩
    · rintro i y σ H' hi ⟨v3, rfl, s1, h1⟩
      obtain ⟨z, hz, rfl⟩ := map_get hi
      have hst := formAt_succ hz
      have kp : ∀ {H2 H3 : Hp}, Same H H2 → Keep [l] H2 H3 → Same H H3 := fun a b c u q => b c u (a c u q) (by simpa using nle q)
      refine ⟨_, rfl, z, rfl, _, rfl, ite2 (fun c => ?_) (fun c => ?_)⟩
      · have c : z < 0 := of_decide_eq_true c
        refine ⟨_, rfl, l, _, _, _, rfl, h1, Nat.le_trans (bnd i) (by decide), fun H2 h2 k2 => ⟨some (.int z), ?_, kp s1 k2, ?_⟩⟩
        · rw [hst]
          unfold formStep
          rw [if_pos c]
          rfl
        · rw [h2, hst]
          unfold formStep
          rw [if_pos c]
      · have c : ¬ z < 0 := fun q => c (decide_eq_true q)
        refine ⟨_, rfl, _, rfl, _, rfl, _, _, rfl, rfl, l, _, _, _, rfl, h1, Nat.le_trans (bnd i) (by decide), fun H2 h2 k2 => ?_⟩
        have b2 := addR_len (formAt d i).1 1 (z - (formAt d i).2)
        have b3 := bnd i
        refine ⟨_, rfl, l, _, _, _, rfl, h2, (by omega), fun H3 h3 k3 => ?_⟩
        refine ⟨_, rfl, _, _, rfl, rfl, some (.int z), ?_, kp (kp s1 k2) k3, ?_⟩
        · rw [hst]
          unfold formStep
          rw [if_neg c]
          rfl
        · rw [h3, hst]
          unfold formStep
          rw [if_neg c]
    · rintro σ H' ⟨v3, rfl, s1, h1⟩
      have kp : ∀ {H2 H3 : Hp}, Same H H2 → Keep [l] H2 H3 → Same H H3 := fun a b c u q => b c u (a c u q) (by simpa using nle q)
      refine ⟨_, rfl, _, rfl, e, CE, dx, _, _, rfl, s1 _ _ he, T.clE, T.nOs, ef_old _ _, _, rfl, _, _, rfl, rfl, l, _, _, _, rfl, h1, Nat.le_trans (bnd _) (by decide), fun H2 h2 k2 => ?_⟩
      refine ⟨_, rfl, hq H2 l (kp s1 k2) hl ?_⟩
      rw [h2, formAt_end, List.length_map, List.length_map]
end
/-! ### new_bytes, new_text -/
def spNew (C : Addr) : Sp := fun vs H Q _ => ∃ (e : Addr) (d : Dl.Delta), vs = [.ref e] ∧ EditAt C [] H e d ∧ Fits d ∧
  ∀ (H' : Hp) (l : Addr), Same H H' → H l = Option.none → H' l = some (.lst ((nums (Dl.newBytes d)).map V.int)) → Q (.ref l) H'
def spText (K : PySem.W.Frag) (C : Addr) : Sp := fun vs H Q _ => ∃ (e a : Addr) (d : Dl.Delta) (b : List Int), vs = [.ref e, .ref a] ∧ EditAt C [] H e d ∧ Fits d ∧ SqL K H a (b.map V.int) ∧ b.length = d.base ∧
  ∀ (H' : Hp) (l : Addr), Same H H' → H l = Option.none → H' l = some (.lst (((d.out.map enc).map (pick b)).map V.int)) → Q (.ref l) H'
section
variable {P : Program} {w : World} {K : PySem.W.Frag} {mg : Str → Option Value} {base : Heap} {CE CR : Addr}
theorem sc15 : FnScope ["edit", "origin"] ["edit"] (defScope (top 15)) := ⟨rfl, rfl, rfl, by decide +kernel, rfl, by decide +kernel, by decide +kernel⟩
theorem cal_new (T : Txt K mg CE CR) : Cal P w K mg base 2 "new_bytes" ["edit"] (spNew CE) := T.d15.cal fun f fd F => by
  refine F.ok sc15 (fun vs H Q E h => ?_) (fun cdv A outer s H vs Q E hr h => ?_)
  · obtain ⟨e, d, rfl, _⟩ := h
    rfl
  · obtain ⟨e, d, rfl, ⟨dx, o, he, ho, _, _⟩, hf, hq⟩ := h
    refine ⟨_, pss_one (ps_ret (pe_lc (own := [("origin", 1)]) rfl sc15.nd (pi_list (pe_fld (pv 0) rfl)) (blkOk_by (N := ["edit", "origin"]) (sc := defScope (top 15)) (by decide +kernel))
      (fun _ _ _ _ _ => pg_name (i := 1) sc15.nd rfl (Or.inl rfl))
      (fun _ _ _ _ _ => pts_one (pt_val (pe_fn (cal_is_new T) hr (by rfl) (pa_cons (pv 1) pa_nil))))
      (fun _ _ _ _ _ => pe_fn (cal_octet_of T) hr (by rfl) (pa_cons (pv 1) pa_nil)))), ?_⟩
    refine ⟨_, rfl, e, CE, dx, _, _, rfl, he, T.clE, T.nOr, ef_ori _ _, o, rfl, ⟨_, SqL.of ho⟩, fun D hD => ?_⟩
    refine lc_list (K := K) (a := o) (xs := (d.out.map enc).map V.int) (fun i H' => Same H H' ∧ H' D = some (.lst ((filtAt (d.out.map enc) i).map V.int))) ⟨same_upd hD, upd_same⟩ (fun i H' _ ⟨s1, _⟩ => SqL.of (s1 _ _ ho)) ?_ ?_
    · rintro i y H' hi ⟨s1, h1⟩
      obtain ⟨z, hz, rfl⟩ := map_get hi
      have ex := filtAt_succ hz
      refine ⟨rfl, _, rfl, z, rfl, _, rfl, ite2 (fun c => ?_) (fun c => ?_)⟩
      · have c : z < 0 := of_decide_eq_true c
        refine ⟨_, rfl, z, rfl, _, h1, lt_line ?_, fun b u q => ?_, ?_⟩
        · have := filtAt_len (d.out.map enc) i
          have h2 := hf.new
          rw [List.length_map] at this ⊢
          omega
        · rw [upd_ne (ne_of_none q hD)]
          exact s1 b u q
        · rw [upd_same, ex, if_pos c, List.map_append]
          rfl
      · have c : ¬ z < 0 := fun q => c (decide_eq_true q)
        refine ⟨s1, ?_⟩
        rw [ex, if_neg c]
        exact h1
    · rintro H' ⟨s1, h1⟩
      refine hq H' D s1 hD ?_
      rw [h1, newBytes_nums, filtAt_end _ (by rw [List.length_map])]
theorem sc16 : FnScope ["edit", "old_text", "origin"] ["edit", "old_text"] (defScope (top 16)) := ⟨rfl, rfl, rfl, by decide +kernel, rfl, by decide +kernel, by decide +kernel⟩
theorem cal_text (T : Txt K mg CE CR) : Cal P w K mg base 2 "new_text" ["edit", "old_text"] (spText K CE) := T.d16.cal fun f fd F => by
  refine F.ok sc16 (fun vs H Q E h => ?_) (fun cdv A outer s H vs Q E hr h => ?_)
  · obtain ⟨e, a, d, b, rfl, _⟩ := h
    rfl
  · obtain ⟨e, a, d, b, rfl, ⟨dx, o, he, ho, _, _⟩, hf, hs, hb, hq⟩ := h
    refine ⟨_, pss_one (ps_ret (pe_lc (own := [("origin", 2)]) rfl sc16.nd (pi_list (pe_fld (pv 0) rfl)) (blkOk_by (N := ["edit", "old_text", "origin"]) (sc := defScope (top 16)) (by decide +kernel))
      (fun _ _ _ _ _ => pg_name (i := 2) sc16.nd rfl (Or.inl rfl))
      (fun _ _ _ _ _ => pts_nil)
      (fun _ _ _ _ _ => pe_ifExp (pt_val (pe_fn (cal_is_new T) hr (by rfl) (pa_cons (pv 2) pa_nil))) (pe_fn (cal_octet_of T) hr (by rfl) (pa_cons (pv 2) pa_nil)) (pe_ix (ix_listK K) (pv 1) (pv 2) (fun _ _ => rfl))))), ?_⟩
    refine ⟨_, rfl, e, CE, dx, _, _, rfl, he, T.clE, T.nOr, ef_ori _ _, o, rfl, ⟨_, SqL.of ho⟩, fun D hD => ?_⟩
    refine lc_list (K := K) (a := o) (xs := (d.out.map enc).map V.int) (fun i H' => Same H H' ∧ H' D = some (.lst ((mapAt (pick b) (d.out.map enc) i).map V.int))) ⟨same_upd hD, upd_same⟩ (fun i H' _ ⟨s1, _⟩ => SqL.of (s1 _ _ ho)) ?_ ?_
    · rintro i y H' hi ⟨s1, h1⟩
      obtain ⟨x, hx, rfl⟩ := map2_get hi
      have ex := mapAt_succ (f := pick b) (show (d.out.map enc)[i]? = some (enc x) by rw [List.getElem?_map, hx]; rfl)
      have fin : ∀ v, v = V.int (pick b (enc x)) → ∃ acc, H' D = some (.lst acc) ∧ acc.length < sizeLine ∧ (Same H (upd H' D (.lst (acc ++ [v]))) ∧ (upd H' D (.lst (acc ++ [v]))) D = some (.lst ((mapAt (pick b) (d.out.map enc) (i + 1)).map V.int))) := by
        rintro v rfl
        refine ⟨_, h1, lt_line ?_, fun b u q => ?_, ?_⟩
        · have := mapAt_len (pick b) (d.out.map enc) i
          have h2 := hf.new
          rw [List.length_map] at this ⊢
          omega
        · rw [upd_ne (ne_of_none q hD)]
          exact s1 b u q
        · rw [upd_same, ex, List.map_append]
          rfl
      refine ⟨rfl, yes_of ?_⟩
      refine ⟨_, rfl, _, rfl, _, rfl, ite2 (fun c => ?_) (fun c => ?_)⟩
      · have c : enc x < 0 := of_decide_eq_true c
        refine ⟨_, rfl, _, rfl, fin _ ?_⟩
        unfold pick
        rw [if_pos c]
        rfl
      · have c : ¬ enc x < 0 := fun q => c (decide_eq_true q)
        cases x with
        | fresh c' => exact absurd (enc_neg.mpr rfl) c
        | old p =>
          have hp := (hf.up.mem (List.mem_of_getElem? hx)).2
          have hg : b[p]? = some (b[p]'(by omega)) := List.getElem?_eq_getElem _
          refine ⟨_, rfl, _, rfl, a, _, _, V.int (b[p]'(by omega)), rfl, rfl, s1.seq hs, at_of (j := p) rfl (by rw [List.getElem?_map, hg]; rfl), fin _ ?_⟩
          unfold pick
          rw [if_neg c]
          show V.int _ = V.int (b.getD (Int.toNat (p : Int)) 0)
          rw [Int.toNat_natCast, List.getD_eq_getElem?_getD, hg]
          rfl
    · rintro H' ⟨s1, h1⟩
      refine hq H' D s1 hD ?_
      rw [h1, mapAt_end _ _ (by rw [List.length_map])]
end
end Ed

set_option Elab.async false
set_option linter.all false
set_option maxRecDepth 100000
set_option maxHeartbeats 2000000
/-! edit_of, refusal_of_set, edit_in. -/
namespace Ed
open PySem PySem.Spec PyProof.Rows L2
theorem cut_nat {ns : List Int} {q n : Nat} (h : q + n ≤ ns.length) : cutV (ns.map V.int) (some (q : Int)) (some ((q : Int) + (n : Int))) = ((ns.drop q).take n).map V.int := by
  have hl : ((ns.drop q).take n).length = n := by
    rw [List.length_take, List.length_drop]
    omega
  have e := cut_row (ns := ns) (row := (ns.drop q).take n) (rest := (ns.drop q).drop n) (q := q) (List.take_append_drop n _).symm
  rw [hl] at e
  exact e
def spEditOf (K : PySem.W.Frag) (C : Addr) : Sp := fun vs H Q _ => ∃ (a bb : Addr) (l b : List Int) (m : Nat) (its : List Dl.Item), vs = [.ref a, .ref bb] ∧ SqL K H a (l.map V.int) ∧ SqL K H bb (b.map V.int) ∧ l.length = 2 * m ∧ m ≤ 20000 ∧ (∀ z ∈ l, 0 ≤ z) ∧
  DlNeutral.byteRow b = true ∧ Dl.itemsOf (Dl.rawsOf (DlNeutral.natsOf l)) (DlNeutral.bytesOf b) = some its ∧ Fits (Dl.deltaOf its) ∧
  ∀ (H' : Hp) (e : Addr), Same H H' → NewEdit C H H' e (Dl.deltaOf its) → Q (.ref e) H'
section
variable {P : Program} {w : World} {K : PySem.W.Frag} {mg : Str → Option Value} {base : Heap} {CE CR : Addr}
theorem sc12 : FnScope ["items", "octets", "origins", "old_at", "put_at", "at", "count", "octet"] ["items", "octets"] (defScope (top 12)) := ⟨rfl, rfl, rfl, by decide +kernel, rfl, by decide +kernel, by decide +kernel⟩
theorem cal_edit_of (T : Txt K mg CE CR) : Cal P w K mg base 3 "edit_of" ["items", "octets"] (spEditOf K CE) := T.d12.cal fun f fd F => by
  refine F.ok sc12 (fun vs H Q E h => ?_) (fun cdv A outer s H vs Q E hr h => ?_)
  · obtain ⟨a, bb, l, b, m, its, rfl, _⟩ := h
    rfl
  · obtain ⟨a, bb, l, b, m, its, rfl, hs, hsb, hl, hm, hp, hbr, hits, hf, hq⟩ := h
    have hr1 : Room 1 _ := hr.mono (by decide)
    refine ⟨_, pss_cons (ps_set (i := 2) sc12.nd rfl (Or.inl rfl) (pe_lst pa_nil))
      (pss_cons (ps_set (i := 3) sc12.nd rfl (Or.inl rfl) pe_int)
      (pss_cons (ps_set (i := 4) sc12.nd rfl (Or.inl rfl) pe_int)
      (pss_cons (ps_for PassesOwn.never rfl (pi_range3 (by rfl) T.nRange (pa_cons pe_int (pa_cons (pe_callB call_len_seq (by rfl) T.nLen PySem.boot_len (pa_cons (pv 0) pa_nil)) (pa_cons pe_int pa_nil)))) (pg_name (i := 5) sc12.nd rfl (Or.inl rfl))
        (pss_cons (ps_set (i := 6) sc12.nd rfl (Or.inl rfl) (pe_ix ix_list (pv 0) (pe_op op_add (pv 5) pe_int) (fun _ _ => rfl)))
        (pss_one (ps_if (pt_cmpR op_eq (pe_ix ix_list (pv 0) (pv 5) (fun _ _ => rfl)) (pe_top (by rfl) T.cP) (nomark _))
          (pss_cons (ps_expr (pe_bm PySem.F.plainAttrs_list PySem.F.slot_list_extend PySem.F.type_list_extend mt_extend (pv 2) (pa_cons
              (pe_lc (own := [("octet", 7)]) rfl sc12.nd (pi_list (pe_slice sl_list (pv 1) (po_some (pv 4)) (po_some (pe_op op_add (pv 4) (pv 6))))) (blkOk_by (N := ["items", "octets", "origins", "old_at", "put_at", "at", "count", "octet"]) (sc := defScope (top 12)) (by decide +kernel))
                (fun _ _ _ _ _ => pg_name (i := 7) sc12.nd rfl (Or.inl rfl)) (fun _ _ _ _ _ => pts_nil) (fun _ _ _ _ _ => pe_fn (cal_new_origin T) hr1 (by rfl) (pa_cons (pv 7) pa_nil))) pa_nil)))
            (pss_one (ps_aug (i := 4) sc12.nd rfl (Or.inl rfl) (pv 6) ip_add)))
          (pss_cons (ps_if (pt_cmpR op_eq (pe_ix ix_list (pv 0) (pv 5) (fun _ _ => rfl)) (pe_top (by rfl) T.cK) (nomark _))
              (pss_one (ps_expr (pe_bm PySem.F.plainAttrs_list PySem.F.slot_list_extend PySem.F.type_list_extend mt_extend (pv 2) (pa_cons
                (pe_callTy (call_list_rng rfl) (by rfl) T.nList (by decide +kernel) (pa_cons (pe_rng2 (by rfl) T.nRange (pa_cons (pv 3) (pa_cons (pe_op op_add (pv 3) (pv 6)) pa_nil))) pa_nil)) pa_nil))))
              pss_nil)
            (pss_one (ps_aug (i := 3) sc12.nd rfl (Or.inl rfl) (pv 6) ip_add)))))))
      (pss_one (ps_ret (pe_new (cal_edit T) hr (by rfl) (pa_cons (pv 3) (pa_cons (pv 2) pa_nil)))))))), ?_⟩
    have hrl : (Dl.rawsOf (DlNeutral.natsOf l)).length = m := raws_len hl
    have hnb : nums (DlNeutral.bytesOf b) = b := nums_bytesOf hbr
    have hall := editAt_all hnb hits
    rw [hrl] at hall
    have hbl := bytesOf_len b
    have upE : ∀ i, (editAt b (Dl.rawsOf (DlNeutral.natsOf l)) i).1.length ≤ 1024 ∧ (editAt b (Dl.rawsOf (DlNeutral.natsOf l)) i).2.1 ≤ 1024 ∧ (editAt b (Dl.rawsOf (DlNeutral.natsOf l)) i).2.2 ≤ b.length := fun i => by
      have h1 := editAt_up b (Dl.rawsOf (DlNeutral.natsOf l)) i
      rw [hrl, hall] at h1
      have h2 := hf.new
      have h3 := hf.old
      simp only [List.length_map] at h1
      omega
    refine ⟨Nat.zero_le _, fun lo hlo => ?_⟩
    have s0 : Same H (upd H lo (.lst [])) := same_upd hlo
    have fr : ∀ {b : Addr} {u : HO}, H b = some u → b ≠ lo := fun q => ne_of_none q hlo
    have hn : ((l.map V.int).length + 1) / 2 = m := by
      rw [List.length_map]
      omega
    refine ⟨_, rfl, a, _, rfl, .inl (s0.seq hs), 0, _, 2, _, rfl, RgC.two _ (by rw [List.length_map]; omega), ?_⟩
    rw [hn]
    refine for_rangeC (fun i σ H' => ∃ v5 v6 : Option V, σ = [some (.ref a), some (.ref bb), some (.ref lo), some (.int ((editAt b (Dl.rawsOf (DlNeutral.natsOf l)) i).2.1 : Nat)), some (.int ((editAt b (Dl.rawsOf (DlNeutral.natsOf l)) i).2.2 : Nat)), v5, v6, none] ∧
        Same H H' ∧ H' lo = some (.lst ((editAt b (Dl.rawsOf (DlNeutral.natsOf l)) i).1.map V.int))) ⟨none, none, rfl, s0, upd_same⟩ ?_ ?_
    · rintro i σ H' hi ⟨v5, v6, rfl, s1, h1⟩
      obtain ⟨x, y, g1, g2, g3, g4, g5⟩ := raws_at hl hp hi
      have ea : atI (l.map V.int) ((0 : Int) + (i : Nat) * 2) = some (V.int x) := at_of (j := 2 * i) (by omega) (by rw [List.getElem?_map, g1]; rfl)
      have eb : atI (l.map V.int) ((0 : Int) + (i : Nat) * 2 + 1) = some (V.int y) := at_of (j := 2 * i + 1) (by omega) (by rw [List.getElem?_map, g2]; rfl)
      have ex := editAt_succ (b := b) g3
      have u1 := upE (i + 1)
      have u0 := upE i
      generalize hst : editAt b (Dl.rawsOf (DlNeutral.natsOf l)) i = st at *
      generalize hst' : editAt b (Dl.rawsOf (DlNeutral.natsOf l)) (i + 1) = st' at *
      have ey : ((y.toNat : Nat) : Int) = y := Int.toNat_of_nonneg g5
      refine ⟨_, rfl, _, rfl, _, _, rfl, rfl, a, _, _, _, rfl, rfl, s1.seq hs, eb, ?_⟩
      refine ⟨_, rfl, _, rfl, a, _, _, _, rfl, rfl, s1.seq hs, ea, rfl, _, rfl, ite2 (fun c => ?_) (fun c => ?_)⟩
      · -- put
        have c : x = 2 := V.int.inj (of_decide_eq_true c)
        have hk : editStep b st ⟨x.toNat, y.toNat⟩ = (st.1 ++ ((b.drop st.2.2).take y.toNat).map (fun z => -1 - z), st.2.1, st.2.2 + y.toNat) := by
          unfold editStep
          rw [if_pos (show x.toNat = 2 by omega)]
        rw [hk] at ex
        subst ex
        simp only at u1
        have hcut : cutV (b.map V.int) (some ((st.2.2 : Nat) : Int)) (some (((st.2.2 : Nat) : Int) + y)) = ((b.drop st.2.2).take y.toNat).map V.int := by
          rw [← ey]
          exact cut_nat (by omega)
        refine ⟨_, rfl, .inl ⟨rfl, _, SqL.of h1⟩, ?_⟩
        refine ⟨_, rfl, _, rfl, _, rfl, _, rfl, _, rfl, _, _, rfl, rfl, _, rfl, bb, _, rfl, s1.seq hsb, fun sl hsl => ?_⟩
        rw [hcut]
        refine ⟨sl, rfl, ⟨_, SqL.of upd_same⟩, fun D hD => ?_⟩
        have s2 : Same H' (upd H' sl (.lst (((b.drop st.2.2).take y.toNat).map V.int))) := same_upd hsl
        refine lc_list (K := K) (a := sl) (xs := ((b.drop st.2.2).take y.toNat).map V.int) (fun j H2 => Same (upd H' sl (.lst (((b.drop st.2.2).take y.toNat).map V.int))) H2 ∧ H2 D = some (.lst ((mapAt (fun z => -1 - z) ((b.drop st.2.2).take y.toNat) j).map V.int)))
          ⟨same_upd hD, upd_same⟩ (fun j H2 _ ⟨s3, _⟩ => SqL.of (s3 _ _ upd_same)) ?_ ?_
        · rintro j v H2 hj ⟨s3, h3⟩
          obtain ⟨z, hz, rfl⟩ := map_get hj
          refine ⟨rfl, yes_of ?_⟩
          refine ⟨_, rfl, z, rfl, _, h3, lt_line ?_, fun b' u q => ?_, ?_⟩
          · have := mapAt_len (fun z : Int => -1 - z) ((b.drop st.2.2).take y.toNat) j
            have h2 := u1.1
            rw [List.length_append, List.length_map] at h2
            rw [List.length_map]
            omega
          · rw [upd_ne (ne_of_none q hD)]
            exact s3 b' u q
          · rw [upd_same, mapAt_succ hz, List.map_append]
            rfl
        · rintro H2 ⟨s3, h3⟩
          rw [mapAt_end _ _ (by rw [List.length_map])] at h3
          have s4 : Same H' H2 := s2.trans s3
          refine ⟨lo, D, _, _, rfl, rfl, s4 _ _ h1, h3, le_line ?_, ?_⟩
          · rw [List.length_map, List.length_map]
            have := u1.1
            rw [List.length_append] at this
            omega
          · refine ⟨_, rfl, _, rfl, _, _, rfl, rfl, some (.int (0 + (i : Int) * 2)), some (.int y), ?_, ?_, ?_⟩
            · show _ = [_, _, _, _, some (V.int ((st.2.2 + y.toNat : Nat) : Int)), _, _, _]
              rw [show ((st.2.2 + y.toNat : Nat) : Int) = ((st.2.2 : Nat) : Int) + y by omega]
              rfl
            · intro b' u q
              rw [upd_ne (fr q)]
              exact s4 b' u (s1 b' u q)
            · rw [upd_same, List.map_append]
      · have c : x ≠ 2 := fun e => c (decide_eq_true (congrArg V.int e))
        refine ⟨_, rfl, _, rfl, a, _, _, _, rfl, rfl, s1.seq hs, ea, rfl, _, rfl, ite2 (fun c2 => ?_) (fun c2 => ?_)⟩
        · have c2 : x = 0 := V.int.inj (of_decide_eq_true c2)
          have hk : editStep b st ⟨x.toNat, y.toNat⟩ = (st.1 ++ (List.range y.toNat).map (fun (k : Nat) => (st.2.1 : Int) + (k : Int)), st.2.1 + y.toNat, st.2.2) := by
            unfold editStep
            rw [if_neg (show ¬ x.toNat = 2 by omega), if_pos (show x.toNat = 0 by omega)]
          rw [hk] at ex
          subst ex
          simp only at u1
          refine ⟨_, rfl, .inl ⟨rfl, _, SqL.of h1⟩, ?_⟩
          refine ⟨_, rfl, _, rfl, _, rfl, _, _, rfl, rfl, _, _, rfl, fun p hp' => ?_⟩
          refine ⟨p, _, _, rfl, upd_same, ⟨by omega, by omega, by omega⟩, fun D hD => ?_⟩
          have s2 : Same H' (upd H' p (.rng ((st.2.1 : Nat) : Int) (((st.2.1 : Nat) : Int) + y))) := same_upd hp'
          have s3 := s2.trans (same_upd (u := HO.lst ((List.range ((((st.2.1 : Nat) : Int) + y) - ((st.2.1 : Nat) : Int)).toNat).map fun (k : Nat) => V.int (((st.2.1 : Nat) : Int) + (k : Int)))) hD)
          have e3 : (((st.2.1 : Nat) : Int) + y - ((st.2.1 : Nat) : Int)).toNat = y.toNat := by omega
          refine ⟨lo, D, _, _, rfl, rfl, s3 _ _ h1, upd_same, le_line ?_, ?_⟩
          · rw [List.length_map, List.length_map, List.length_range, e3]
            have := u1.1
            rw [List.length_append, List.length_map, List.length_range] at this
            omega
          · refine ⟨_, rfl, _, rfl, _, _, rfl, rfl, some (.int (0 + (i : Int) * 2)), some (.int y), ?_, ?_, ?_⟩
            · show _ = [_, _, _, some (V.int ((st.2.1 + y.toNat : Nat) : Int)), _, _, _, _]
              rw [show ((st.2.1 + y.toNat : Nat) : Int) = ((st.2.1 : Nat) : Int) + y by omega]
              rfl
            · intro b' u q
              rw [upd_ne (fr q)]
              exact s3 b' u (s1 b' u q)
            · rw [upd_same, List.map_append, List.map_map, e3]
              rfl
        · have c2 : x ≠ 0 := fun e => c2 (decide_eq_true (congrArg V.int e))
          have hk : editStep b st ⟨x.toNat, y.toNat⟩ = (st.1, st.2.1 + y.toNat, st.2.2) := by
            unfold editStep
            rw [if_neg (show ¬ x.toNat = 2 by omega), if_neg (show ¬ x.toNat = 0 by omega)]
          rw [hk] at ex
          subst ex
          refine ⟨_, rfl, _, rfl, _, _, rfl, rfl, some (.int (0 + (i : Int) * 2)), some (.int y), ?_, s1, h1⟩
          show _ = [_, _, _, some (V.int ((st.2.1 + y.toNat : Nat) : Int)), _, _, _, _]
          rw [show ((st.2.1 + y.toNat : Nat) : Int) = ((st.2.1 : Nat) : Int) + y by omega]
          rfl
    · rintro σ H' ⟨v5, v6, rfl, s1, h1⟩
      rw [hall] at h1
      refine ⟨_, rfl, _, rfl, ?_⟩
      intro x dx nx nd ne
      refine ⟨x, dx, _, _, rfl, upd_same, fun H2 q1 q2 => ⟨rfl, ?_⟩⟩
      rw [hall] at q1
      obtain ⟨n1, n2⟩ := made_edit (d := Dl.deltaOf its) s1 h1 hlo nx nd q1 q2
      exact hq H2 x n2 n1
end
/-! ### refusal_of_set -/
theorem ne_tt {x y : Int} : (!decide (V.int x = V.int y)) = true ↔ x ≠ y := by
  rw [Bool.not_eq_true', decide_eq_false_iff_not]
  exact ⟨fun h e => h (congrArg V.int e), fun h e => h (V.int.inj e)⟩
def spRefuse (K : PySem.W.Frag) : Sp := fun vs H Q _ => ∃ (k : Int) (a bb : Addr) (l b : List Int), vs = [.int k, .ref a, .ref bb] ∧ SqL K H a (l.map V.int) ∧ SqL K H bb (b.map V.int) ∧ l.length ≤ 30000 ∧ (∀ z ∈ l, 0 ≤ z) ∧
  ∀ H' : Hp, Same H H' → Q (.int (refuse k l b)) H'
section
variable {P : Program} {w : World} {K : PySem.W.Frag} {mg : Str → Option Value} {base : Heap} {CE CR : Addr}
theorem evens_raws {l : List Int} {m : Nat} (hl : l.length = 2 * m) (hp : ∀ z ∈ l, 0 ≤ z) : evens (l.map V.int) = (Dl.rawsOf (DlNeutral.natsOf l)).map fun x => V.int (x.kind : Int) := by
  have hrl : (Dl.rawsOf (DlNeutral.natsOf l)).length = m := raws_len hl
  have key : ∀ i, i ≤ m → (List.range i).filterMap (fun k => (l.map V.int)[2 * k]?) = ((Dl.rawsOf (DlNeutral.natsOf l)).take i).map fun x => V.int (x.kind : Int) := by
    intro i
    induction i with
    | zero => intro _; rfl
    | succ i ih =>
      intro hi
      obtain ⟨x, y, g1, g2, g3, g4, g5⟩ := raws_at hl hp (show i < m by omega)
      rw [List.range_succ, List.filterMap_append, ih (by omega), take_snoc g3, List.map_append]
      congr 1
      rw [List.filterMap_cons_some (f := fun k => (l.map V.int)[2 * k]?) (b := V.int x) (by rw [List.getElem?_map, g1]; rfl)]
      show [V.int x] = [V.int ((x.toNat : Nat) : Int)]
      rw [Int.toNat_of_nonneg g4]
  unfold evens
  rw [List.length_map, show (l.length + 1) / 2 = m by omega, key m (Nat.le_refl _), ← hrl, List.take_length]
theorem sc27 : FnScope ["k", "items", "octets", "put", "kept", "kind"] ["k", "items", "octets"] (defScope (top 27)) := ⟨rfl, rfl, rfl, by decide +kernel, rfl, by decide +kernel, by decide +kernel⟩
theorem cal_refuse (T : Txt K mg CE CR) : Cal P w K mg base 2 "refusal_of_set" ["k", "items", "octets"] (spRefuse K) := T.d27.cal fun f fd F => by
  refine F.ok sc27 (fun vs H Q E h => ?_) (fun cdv A outer s H vs Q E hr h => ?_)
  · obtain ⟨k, a, bb, l, b, rfl, _⟩ := h
    rfl
  · obtain ⟨k, a, bb, l, b, rfl, hs, hsb, hl, hp, hq⟩ := h
    refine ⟨_, pss_cons (ps_if (pw_or (pt_cmpR op_ge (pv 0) (pe_top (by rfl) T.cS) (nomark _)) (pw_or1 (pt_cmpR op_ne (pe_op op_mod (pe_callB call_len_seq (by rfl) T.nLen PySem.boot_len (pa_cons (pv 1) pa_nil)) pe_int) pe_int (nomark _)))).pt (pss_one (ps_ret (pe_un un_neg pe_int))) pss_nil)
      (pss_cons (ps_if (pw_or (pt_cmpR op_gt (pe_callB call_len_seq (by rfl) T.nLen PySem.boot_len (pa_cons (pv 1) pa_nil)) (pe_op op_mul pe_int (pe_top (by rfl) T.cM)) (nomark _)) (pw_or1 (pt_cmpR op_gt (pe_callB call_len_seq (by rfl) T.nLen PySem.boot_len (pa_cons (pv 2) pa_nil)) (pe_top (by rfl) T.cL) (nomark _)))).pt (pss_one (ps_ret (pe_un un_neg pe_int))) pss_nil)
      (pss_cons (ps_set (i := 3) sc27.nd rfl (Or.inl rfl) (pe_fn (cal_total T) hr (by rfl) (pa_cons (pv 1) (pa_cons (pe_top (by rfl) T.cP) pa_nil))))
      (pss_cons (ps_if (pw_or (pt_val (pe_callB (cr_any rfl) (by rfl) T.nAny (by decide +kernel) (pa_cons (pe_lc (own := [("kind", 5)]) rfl sc27.nd (pi_list (pe_evens (pv 1))) (blkOk_by (N := ["k", "items", "octets", "put", "kept", "kind"]) (sc := defScope (top 27)) (by decide +kernel))
          (fun _ _ _ _ _ => pg_name (i := 5) sc27.nd rfl (Or.inl rfl)) (fun _ _ _ _ _ => pts_nil) (fun _ _ _ _ _ => pe_cmpR op_gt (pv 5) (pe_top (by rfl) T.cP) (nomark _))) pa_nil)))
          (pw_or1 (pt_cmpR op_ne (pv 3) (pe_callB call_len_seq (by rfl) T.nLen PySem.boot_len (pa_cons (pv 2) pa_nil)) (nomark _)))).pt (pss_one (ps_ret (pe_un un_neg pe_int))) pss_nil)
      (pss_cons (ps_set (i := 4) sc27.nd rfl (Or.inl rfl) (pe_fn (cal_total T) hr (by rfl) (pa_cons (pv 1) (pa_cons (pe_top (by rfl) T.cK) pa_nil))))
      (pss_cons (ps_if (pw_or (pt_cmpR op_gt (pe_op op_add (pv 4) (pe_fn (cal_total T) hr (by rfl) (pa_cons (pv 1) (pa_cons (pe_top (by rfl) T.cD) pa_nil)))) (pe_top (by rfl) T.cL) (nomark _)) (pw_or1 (pt_cmpR op_gt (pe_op op_add (pv 4) (pv 3)) (pe_top (by rfl) T.cL) (nomark _)))).pt (pss_one (ps_ret (pe_un un_neg pe_int))) pss_nil)
      (pss_one (ps_ret pe_int))))))), ?_⟩
    unfold refuse at hq
    have lenL : (((l.map V.int).length : Nat) : Int) = (l.length : Int) := by rw [List.length_map]
    have lenB : (((b.map V.int).length : Nat) : Int) = (b.length : Int) := by rw [List.length_map]
    refine ⟨_, rfl, _, _, rfl, rfl, _, rfl, ite2 (fun c => iteT ?_) (fun c => ?_)⟩
    · have c : (8 : Int) ≤ k := of_decide_eq_true c
      rw [if_pos (.inl c)] at hq
      exact ⟨_, rfl, hq H (Same.refl H)⟩
    have c0 : ¬ (8 : Int) ≤ k := fun e => c (decide_eq_true e)
    clear c
    refine ⟨_, rfl, a, _, rfl, .inl hs, _, _, rfl, rfl, (by show (0 : Int) < 2; decide), rfl, _, rfl, ite2 (fun c => ?_) (fun c => ?_)⟩
    · have c : l.length % 2 ≠ 0 := by
        have := ne_tt.mp c
        omega
      rw [if_pos (.inr c)] at hq
      exact ⟨_, rfl, hq H (Same.refl H)⟩
    have c1 : l.length % 2 = 0 := Decidable.byContradiction fun e => c (ne_tt.mpr (by omega))
    clear c
    rw [if_neg (by omega)] at hq
    obtain ⟨m, hm⟩ : ∃ m, l.length = 2 * m := ⟨l.length / 2, by omega⟩
    refine ⟨_, rfl, a, _, rfl, .inl hs, _, _, rfl, rfl, .inl ⟨by decide, by decide⟩, _, _, rfl, rfl, _, rfl, ite2 (fun c => iteT ?_) (fun c => ?_)⟩
    · have c : 4098 < l.length := by
        have := of_decide_eq_true c
        omega
      rw [if_pos (.inl c)] at hq
      exact ⟨_, rfl, hq H (Same.refl H)⟩
    have c2 : ¬ 4098 < l.length := fun e => c (decide_eq_true (by omega))
    clear c
    refine ⟨_, rfl, bb, _, rfl, .inl hsb, _, _, rfl, rfl, _, rfl, ite2 (fun c => ?_) (fun c => ?_)⟩
    · have c : 1024 < b.length := by
        have := of_decide_eq_true c
        omega
      rw [if_pos (.inr c)] at hq
      exact ⟨_, rfl, hq H (Same.refl H)⟩
    have c3 : ¬ 1024 < b.length := fun e => c (decide_eq_true (by omega))
    clear c
    rw [if_neg (by omega)] at hq
    generalize hraws : Dl.rawsOf (DlNeutral.natsOf l) = raws at hq
    -- put = total(items, PUT)
    refine ⟨_, rfl, a, l, m, 2, rfl, hs, hm, (by omega), hp, fun H1 s1 => ?_⟩
    rw [hraws]
    -- any(..)
    refine ⟨_, rfl, a, _, rfl, s1.seq hs, fun ev hev => ?_⟩
    refine ⟨ev, rfl, ⟨_, SqL.of upd_same⟩, fun D hD => ?_⟩
    have eev := evens_raws hm hp
    rw [hraws] at eev
    have s2 : Same H (upd H1 ev (.lst (evens (l.map V.int)))) := s1.trans (same_upd hev)
    refine lc_list (K := K) (a := ev) (xs := evens (l.map V.int)) (fun j H2 => Same (upd H1 ev (.lst (evens (l.map V.int)))) H2 ∧ H2 D = some (.lst ((mapAt (fun x : Dl.Raw => decide ((2 : Int) < (x.kind : Int))) raws j).map V.bl)))
      ⟨same_upd hD, upd_same⟩ (fun j H2 _ ⟨s3, _⟩ => SqL.of (s3 _ _ upd_same)) ?_ ?_
    · rintro j v H2 hj ⟨s3, h3⟩
      rw [eev] at hj
      obtain ⟨x, hx, rfl⟩ := map_get hj
      refine ⟨rfl, yes_of ?_⟩
      refine ⟨_, rfl, _, _, rfl, rfl, _, h3, lt_line ?_, fun b' u q => ?_, ?_⟩
      · have := mapAt_len (fun x : Dl.Raw => decide ((2 : Int) < (x.kind : Int))) raws j
        have h4 := raws_len hm
        rw [hraws] at h4
        rw [List.length_map]
        omega
      · rw [upd_ne (ne_of_none q hD)]
        exact s3 b' u q
      · rw [upd_same, mapAt_succ hx, List.map_append]
        rfl
    · rintro H2 ⟨s3, h3⟩
      rw [mapAt_end _ _ (by rw [eev, List.length_map])] at h3
      have s4 : Same H H2 := s2.trans s3
      refine ⟨D, _, rfl, SqL.of h3, _, rfl, ite2 (fun c => iteT ?_) (fun c => ?_)⟩
      · have c := (any_kind raws).mp c
        rw [if_pos (.inl c)] at hq
        exact ⟨_, rfl, hq H2 s4⟩
      have c4 : ¬ ∃ x ∈ raws, 2 < x.kind := fun e => c ((any_kind raws).mpr e)
      clear c
      refine ⟨_, rfl, _, rfl, bb, _, rfl, .inl (s4.seq hsb), rfl, _, rfl, ite2 (fun c => ?_) (fun c => ?_)⟩
      · have c : tot raws 2 ≠ b.length := by
          have := ne_tt.mp c
          omega
        rw [if_pos (.inr c)] at hq
        exact ⟨_, rfl, hq H2 s4⟩
      have c5 : tot raws 2 = b.length := Decidable.byContradiction fun e => c (ne_tt.mpr (by omega))
      clear c
      rw [if_neg (fun z => z.elim c4 (fun e => e c5))] at hq
      refine ⟨_, rfl, a, l, m, 0, rfl, s4.seq hs, hm, (by omega), hp, fun H3 s5 => ?_⟩
      have s6 : Same H H3 := s4.trans s5
      rw [hraws]
      refine ⟨_, rfl, _, rfl, a, l, m, 1, rfl, s6.seq hs, hm, (by omega), hp, fun H4 s7 => ?_⟩
      have s8 : Same H H4 := s6.trans s7
      rw [hraws]
      refine ⟨_, _, rfl, rfl, _, _, rfl, rfl, _, rfl, ite2 (fun c => iteT ?_) (fun c => ?_)⟩
      · have c := of_decide_eq_true c
        rw [if_pos (.inl (by omega))] at hq
        exact ⟨_, rfl, hq H4 s8⟩
      have c6 : ¬ 1024 < tot raws 0 + tot raws 1 := fun e => c (decide_eq_true (by omega))
      clear c
      refine ⟨_, rfl, _, rfl, _, _, rfl, rfl, _, _, rfl, rfl, _, rfl, ite2 (fun c => ?_) (fun c => ?_)⟩
      · have c := of_decide_eq_true c
        rw [if_pos (.inr (by omega))] at hq
        exact ⟨_, rfl, hq H4 s8⟩
      have c7 : ¬ 1024 < tot raws 0 + tot raws 2 := fun e => c (decide_eq_true (by omega))
      rw [if_neg (by omega)] at hq
      exact hq H4 s8
end
end Ed

set_option Elab.async false
set_option linter.all false
set_option maxRecDepth 100000
set_option maxHeartbeats 2000000
/-! kept_places, new_places, one_then_other, taken_back, led_over, left_place, right_place, are_same. -/
namespace Ed
open PySem PySem.Spec PyProof.Rows L2
theorem ixN_nat {n j : Nat} (h : j < n) : ixN n (j : Int) = some j := by
  unfold ixN
  rw [if_pos (by omega), if_pos (by omega), Int.toNat_natCast]
def optV : Option Nat → V
  | none => .non
  | some q => .int (q : Int)
def natV (n : Nat) : V := .int (n : Int)
theorem not_tt {z : Int} : (!decide (z < 0)) = true ↔ ¬ z < 0 := by
  rw [Bool.not_eq_true', decide_eq_false_iff_not]
def spKept (C : Addr) : Sp := fun vs H Q _ => ∃ (e : Addr) (d : Dl.Delta), vs = [.ref e] ∧ EditAt C [] H e d ∧ Fits d ∧
  ∀ (H' : Hp) (l : Addr), Same H H' → H l = Option.none → H' l = some (.lst ((keptL d).map optV)) → Q (.ref l) H'
section
variable {P : Program} {w : World} {K : PySem.W.Frag} {mg : Str → Option Value} {base : Heap} {CE CR : Addr}
theorem sc17 : FnScope ["edit", "places", "at", "origin"] ["edit"] (defScope (top 17)) := ⟨rfl, rfl, rfl, by decide +kernel, rfl, by decide +kernel, by decide +kernel⟩
theorem cal_kept (T : Txt K mg CE CR) : Cal P w K mg base 2 "kept_places" ["edit"] (spKept CE) := T.d17.cal fun f fd F => by
  refine F.ok sc17 (fun vs H Q E h => ?_) (fun cdv A outer s H vs Q E hr h => ?_)
  · obtain ⟨e, d, rfl, _⟩ := h
    rfl
  · obtain ⟨e, d, rfl, ⟨dx, o, he, ho, _, _⟩, hf, hq⟩ := h
    refine ⟨_, pss_cons (ps_set (i := 1) sc17.nd rfl (Or.inl rfl) (pe_op op_rep (pe_lst (pa_cons pe_non pa_nil)) (pe_fld (pv 0) rfl)))
      (pss_cons (ps_for PassesOwn.never rfl (pi_enum (by rfl) T.nEnum (pa_cons (pe_fld (pv 0) rfl) pa_nil)) (pg_tup rfl (pgs_cons (pg_name (i := 2) sc17.nd rfl (Or.inl rfl)) (pgs_cons (pg_name (i := 3) sc17.nd rfl (Or.inl rfl)) pgs_nil)))
        (pss_one (ps_if (pt_not (pt_val (pe_fn (cal_is_new T) hr (by rfl) (pa_cons (pv 3) pa_nil)))) (pss_one (ps_asg (pv 2) (pg_sub (pv 1) (pv 3) set_list))) pss_nil)))
      (pss_one (ps_ret (pv 1)))), ?_⟩
    have hold := hf.old
    refine ⟨(by show 1 ≤ sizeLine; decide), fun l0 hl0 => ?_⟩
    have s0 : Same H (upd H l0 (.lst [.non])) := same_upd hl0
    refine ⟨_, rfl, e, CE, dx, _, _, rfl, s0 _ _ he, T.clE, T.nOs, ef_old _ _, l0, _, _, rfl, rfl, upd_same, (by omega), (by omega), le_line (by show 1 * Int.toNat (d.base : Int) ≤ _; omega), fun l hl => ?_⟩
    have s1 := s0.trans (same_upd (u := HO.lst (List.replicate (Int.toNat (d.base : Int)) [V.non]).flatten) hl)
    have hlH : H l = Option.none := s0.free hl
    refine ⟨_, rfl, e, CE, dx, _, _, rfl, s1 _ _ he, T.clE, T.nOr, ef_ori _ _, o, _, rfl, SqL.of (s1 _ _ ho), ?_⟩
    refine for_enum (K := K) (a := o) (xs := (d.out.map enc).map V.int) (fun i σ H' => ∃ v2 v3 : Option V, σ = [some (.ref e), some (.ref l), v2, v3] ∧ Same H H' ∧ H' l = some (.lst ((keptAt d i).map optV))) ⟨none, none, rfl, s1, ?_⟩ (fun i σ H' _ ⟨_, _, _, s5, _⟩ => SqL.of (s5 _ _ ho)) ?_ ?_
    · rw [upd_same, rep_non, keptAt_zero, List.map_replicate, Int.toNat_natCast]
      rfl
    · rintro i y σ H' T1 hi ⟨v2, v3, rfl, s2, h2⟩ hT1
      obtain ⟨x, hx, rfl⟩ := map2_get hi
      have s3 : Same H' (upd H' T1 (.tup [.int (i : Nat), V.int (enc x)])) := same_upd hT1
      refine ⟨_, rfl, _, rfl, _, rfl, ite2 (fun c => ?_) (fun c => ?_)⟩
      · have c := not_tt.mp c
        cases x with
        | fresh c' => exact absurd (enc_neg.mpr rfl) c
        | old p =>
          have hp := (hf.up.mem (List.mem_of_getElem? hx)).2
          refine ⟨_, rfl, _, rfl, _, rfl, l, _, _, p, rfl, rfl, s3 _ _ h2, ixN_nat (by rw [List.length_map, keptAt_len]; exact hp), ?_⟩
          refine ⟨_, _, rfl, fun b u q => ?_, ?_⟩
          · rw [upd_ne (ne_of_none q hlH)]
            exact s3 _ _ (s2 b u q)
          · rw [upd_same, keptAt_old hf.up hx, List.map_set]
            rfl
      · have c : enc x < 0 := Decidable.byContradiction fun e => c (not_tt.mpr e)
        cases x with
        | old p => exact absurd c (by simp only [enc]; omega)
        | fresh c' =>
          refine ⟨_, _, rfl, s2.trans s3, ?_⟩
          rw [keptAt_new hx]
          exact s3 _ _ h2
    · rintro σ H' ⟨v2, v3, rfl, s2, h2⟩
      refine ⟨_, rfl, hq H' l s2 hlH ?_⟩
      rw [h2, List.length_map, List.length_map, keptAt_end]
end
/-! ### new_places -/
structure Lists (H H' : Hp) (D : Addr) (as : List Addr) (f : Nat → List V) (n : Nat) : Prop where
  len : as.length = n
  nd : as.Nodup
  top : H' D = some (.lst (as.map V.ref))
  out : D ∉ as
  new : ∀ a ∈ as, H a = Option.none
  at_ : ∀ (g : Nat) (a : Addr), as[g]? = some a → H' a = some (.lst (f g))
def spPlaces (C : Addr) : Sp := fun vs H Q _ => ∃ (e : Addr) (d : Dl.Delta), vs = [.ref e] ∧ EditAt C [] H e d ∧ Fits d ∧
  ∀ (H' : Hp) (D : Addr) (as : List Addr), Same H H' → Lists H H' D as (fun g => (theirs d g).map natV) (d.base + 1) → Q (.ref D) H'
section
variable {P : Program} {w : World} {K : PySem.W.Frag} {mg : Str → Option Value} {base : Heap} {CE CR : Addr}
theorem sc18 : FnScope ["edit", "behind", "gap", "at", "origin", "p"] ["edit"] (defScope (top 18)) := ⟨rfl, rfl, rfl, by decide +kernel, rfl, by decide +kernel, by decide +kernel⟩
theorem cal_places (T : Txt K mg CE CR) : Cal P w K mg base 2 "new_places" ["edit"] (spPlaces CE) := T.d18.cal fun f fd F => by
  refine F.ok sc18 (fun vs H Q E h => ?_) (fun cdv A outer s H vs Q E hr h => ?_)
  · obtain ⟨e, d, rfl, _⟩ := h
    rfl
  · obtain ⟨e, d, rfl, ⟨dx, o, he, ho, _, _⟩, hf, hq⟩ := h
    refine ⟨_, pss_cons (ps_setLc (i := 1) (own := [("p", 5)]) rfl sc18.nd rfl rfl (sw_true rfl rfl rfl rfl) (pi_range1 (by rfl) T.nRange (pa_cons (pe_op op_add (pe_fld (pv 0) rfl) pe_int) pa_nil)) (blkOk_by (N := ["edit", "behind", "gap", "at", "origin", "p"]) (sc := defScope (top 18)) (by decide +kernel))
        (fun _ _ _ _ _ => pg_name (i := 5) sc18.nd rfl (Or.inl rfl)) (fun _ _ _ _ _ => pts_nil) (fun _ _ _ _ _ => pe_lst pa_nil))
      (pss_cons (ps_set (i := 2) sc18.nd rfl (Or.inl rfl) pe_int)
      (pss_cons (ps_for PassesOwn.never rfl (pi_enum (by rfl) T.nEnum (pa_cons (pe_fld (pv 0) rfl) pa_nil)) (pg_tup rfl (pgs_cons (pg_name (i := 3) sc18.nd rfl (Or.inl rfl)) (pgs_cons (pg_name (i := 4) sc18.nd rfl (Or.inl rfl)) pgs_nil)))
        (pss_one (ps_if (pt_val (pe_fn (cal_is_new T) hr (by rfl) (pa_cons (pv 4) pa_nil)))
          (pss_one (ps_expr (pe_bm PySem.F.plainAttrs_list PySem.F.slot_list_append PySem.F.type_list_append mt_append (pe_ix ix_list (pv 1) (pv 2) (fun _ _ => rfl)) (pa_cons (pv 3) pa_nil))))
          (pss_one (ps_set (i := 2) sc18.nd rfl (Or.inl rfl) (pe_op op_add (pv 4) pe_int))))))
      (pss_one (ps_ret (pv 1))))), ?_⟩
    have hold := hf.old
    have hnew := hf.new
    refine ⟨_, rfl, e, CE, dx, _, _, rfl, he, T.clE, T.nOs, ef_old _ _, _, _, rfl, rfl, _, rfl, (by omega), (by omega), fun D hD => ?_⟩
    have hn : Int.toNat ((d.base : Int) + 1) = d.base + 1 := by omega
    rw [hn]
    refine lc_range (fun i H' => Same H H' ∧ ∃ as, Lists H H' D as (fun _ => []) i) ⟨same_upd hD, [], rfl, List.nodup_nil, upd_same, by simp, by simp, by simp⟩ ?_ ?_
    · rintro i H' hi ⟨s1, as, L⟩
      refine ⟨rfl, yes_of ?_⟩
      refine ⟨Nat.zero_le _, fun l hl => ?_⟩
      have hDl : D ≠ l := ne_of_none L.top hl
      have s2 : Same H' (upd H' l (.lst [])) := same_upd hl
      refine ⟨_, s2 _ _ L.top, lt_line (by rw [List.length_map, L.len]; omega), ?_, as ++ [l], ?_⟩
      · intro b u q
        rw [upd_ne (ne_of_none q hD)]
        exact s2 _ _ (s1 b u q)
      · refine ⟨by rw [List.length_append, L.len]; rfl, ?_, ?_, ?_, ?_, ?_⟩
        · refine nd_snoc L.nd fun hm => ?_
          obtain ⟨g, hg⟩ := List.getElem?_of_mem hm
          have := L.at_ g l hg
          rw [hl] at this
          cases this
        · rw [upd_same, List.map_append]
          rfl
        · rw [List.mem_append]
          rintro (z | z)
          · exact L.out z
          · exact hDl (by simpa using z)
        · intro a ha
          rcases List.mem_append.mp ha with z | z
          · exact L.new a z
          · have : a = l := by simpa using z
            subst this
            exact s1.free hl
        · intro g a hg
          by_cases hgi : g < as.length
          · rw [List.getElem?_append_left hgi] at hg
            have hm : a ∈ as := List.mem_of_getElem? hg
            have hne : a ≠ D := fun q => L.out (q ▸ hm)
            rw [upd_ne hne]
            exact s2 _ _ (L.at_ g a hg)
          · rw [List.getElem?_append_right (by omega)] at hg
            have : a = l := by
              cases hk : g - as.length with
              | zero => rw [hk] at hg; exact (Option.some.inj hg).symm
              | succ n => rw [hk] at hg; cases hg
            subst this
            rw [upd_ne (Ne.symm hDl), upd_same]
    · rintro H' ⟨s1, as, L⟩
      -- gap = 0; for at, origin in enumerate(edit.origins)
      refine ⟨_, rfl, e, CE, dx, _, _, rfl, s1 _ _ he, T.clE, T.nOr, ef_ori _ _, o, _, rfl, SqL.of (s1 _ _ ho), ?_⟩
      refine for_enum (K := K) (a := o) (xs := (d.out.map enc).map V.int) (fun i σ H' => ∃ v3 v4 : Option V, σ = [some (.ref e), some (.ref D), some (natV (gapAt d i)), v3, v4, none] ∧ Same H H' ∧ Lists H H' D as (fun g => (behindAt d i g).map natV) (d.base + 1))
        ⟨none, none, rfl, s1, L⟩ (fun i σ H' _ ⟨_, _, _, s5, _⟩ => SqL.of (s5 _ _ ho)) ?_ ?_
      · rintro i y σ H2 T1 hi ⟨v3, v4, rfl, s2, L2⟩ hT1
        obtain ⟨x, hx, rfl⟩ := map2_get hi
        have s3 : Same H2 (upd H2 T1 (.tup [.int (i : Nat), V.int (enc x)])) := same_upd hT1
        have hg : gapAt d i < as.length := by
          have := gapAt_le hf.up i
          rw [L2.len]
          omega
        refine ⟨_, rfl, _, rfl, _, rfl, ite2 (fun c => ?_) (fun c => ?_)⟩
        · have c : enc x < 0 := of_decide_eq_true c
          cases x with
          | old p => exact absurd c (by simp only [enc]; omega)
          | fresh c' =>
            have ha : as[gapAt d i]? = some (as[gapAt d i]'hg) := List.getElem?_eq_getElem _
            generalize as[gapAt d i]'hg = a at ha
            have hma : a ∈ as := List.mem_of_getElem? ha
            have h2a := L2.at_ _ a ha
            refine ⟨_, rfl, _, rfl, D, _, _, V.ref a, rfl, rfl, SqL.of (s3 _ _ L2.top), at_of (j := gapAt d i) rfl (by rw [List.getElem?_map, ha]; rfl), .inl ⟨rfl, _, SqL.of (s3 _ _ h2a)⟩, _, rfl, a, _, _, rfl, rfl, s3 _ _ h2a, lt_line ?_, ?_⟩
            · have := behindAt_len d i (gapAt d i)
              rw [List.length_map]
              omega
            · have haD : D ≠ a := fun q => L2.out (q ▸ hma)
              refine ⟨some (.int (i : Nat)), some (.int (enc (.fresh c'))), ?_, fun b u q => ?_, ⟨L2.len, L2.nd, ?_, L2.out, L2.new, fun g a' hg' => ?_⟩⟩
              · rw [gapAt_new hx]
                rfl
              · have hb : b ≠ a := fun z => by
                  rw [z, L2.new a hma] at q
                  cases q
                rw [upd_ne hb]
                exact s3 _ _ (s2 b u q)
              · rw [upd_ne haD]
                exact s3 _ _ L2.top
              · rw [behindAt_new hx g]
                by_cases hgg : gapAt d i = g
                · subst hgg
                  have e1 : a' = a := Option.some.inj (hg'.symm.trans ha)
                  subst e1
                  rw [upd_same, if_pos rfl, List.map_append]
                  rfl
                · have hne : a' ≠ a := fun z => hgg (nd_ix L2.nd ha (z ▸ hg'))
                  rw [upd_ne hne, if_neg hgg]
                  exact s3 _ _ (L2.at_ g a' hg')
        · have c : ¬ enc x < 0 := fun q => c (decide_eq_true q)
          cases x with
          | fresh c' => exact absurd (enc_neg.mpr rfl) c
          | old p =>
            refine ⟨_, rfl, _, _, rfl, rfl, some (.int (i : Nat)), some (.int (enc (.old p))), ?_, s2.trans s3, ⟨L2.len, L2.nd, s3 _ _ L2.top, L2.out, L2.new, fun g a' hg' => ?_⟩⟩
            · rw [gapAt_old hx]
              rfl
            · rw [behindAt_old hx g]
              exact s3 _ _ (L2.at_ g a' hg')
      · rintro σ H2 ⟨v3, v4, rfl, s2, L2⟩
        refine ⟨_, rfl, hq H2 D as s2 ?_⟩
        rw [List.length_map, List.length_map] at L2
        have e : (fun g => (behindAt d d.out.length g).map natV) = fun g => (theirs d g).map natV := by
          funext g
          rw [behindAt_end hf.up]
        rw [e] at L2
        exact L2
end
/-! ### one_then_other, taken_back -/
def spThen (C : Addr) : Sp := fun vs H Q _ => ∃ (a b : Addr) (d e : Dl.Delta), vs = [.ref a, .ref b] ∧ EditAt C [] H a d ∧ EditAt C [] H b e ∧ Fits d ∧ Fits e ∧ d.out.length = e.base ∧
  ∀ (H' : Hp) (x : Addr), Same H H' → NewEdit C H H' x (Dl.after d e) → Q (.ref x) H'
def spBack (K : PySem.W.Frag) (C : Addr) : Sp := fun vs H Q _ => ∃ (a s : Addr) (d : Dl.Delta) (b : List Int), vs = [.ref a, .ref s] ∧ EditAt C [] H a d ∧ Fits d ∧ SqL K H s (b.map V.int) ∧ DlNeutral.byteRow b = true ∧ b.length = d.base ∧
  ∀ (H' : Hp) (x : Addr), Same H H' → NewEdit C H H' x (Dl.back d (DlNeutral.bytesOf b)) → Q (.ref x) H'
section
variable {P : Program} {w : World} {K : PySem.W.Frag} {mg : Str → Option Value} {base : Heap} {CE CR : Addr}
theorem sc19 : FnScope ["one", "other", "origin"] ["one", "other"] (defScope (top 19)) := ⟨rfl, rfl, rfl, by decide +kernel, rfl, by decide +kernel, by decide +kernel⟩
theorem cal_then (T : Txt K mg CE CR) : Cal P w K mg base 3 "one_then_other" ["one", "other"] (spThen CE) := T.d19.cal fun f fd F => by
  refine F.ok sc19 (fun vs H Q E h => ?_) (fun cdv A outer s H vs Q E hr h => ?_)
  · obtain ⟨a, b, d, e, rfl, _⟩ := h
    rfl
  · obtain ⟨a, b, d, e, rfl, ⟨dx, o, ha, ho, _, _⟩, ⟨dx2, o2, hb, ho2, _, _⟩, hd, he, hde, hq⟩ := h
    have hr1 : Room 1 _ := hr.mono (by decide)
    refine ⟨_, pss_one (ps_ret (pe_new (cal_edit T) hr (by rfl) (pa_cons (pe_fld (pv 0) rfl) (pa_cons (pe_lc (own := [("origin", 2)]) rfl sc19.nd (pi_list (pe_fld (pv 1) rfl)) (blkOk_by (N := ["one", "other", "origin"]) (sc := defScope (top 19)) (by decide +kernel))
      (fun _ _ _ _ _ => pg_name (i := 2) sc19.nd rfl (Or.inl rfl)) (fun _ _ _ _ _ => pts_nil)
      (fun _ _ _ _ _ => pe_ifExp (pt_val (pe_fn (cal_is_new T) hr1 (by rfl) (pa_cons (pv 2) pa_nil))) (pv 2) (pe_ix (ix_listK K) (pe_fldK K (pv 0) rfl) (pv 2) (fun _ _ => rfl)))) pa_nil)))), ?_⟩
    refine ⟨_, rfl, a, CE, dx, _, _, rfl, ha, T.clE, T.nOs, ef_old _ _, ?_⟩
    refine ⟨_, rfl, b, CE, dx2, _, _, rfl, hb, T.clE, T.nOr, ef_ori _ _, o2, rfl, ⟨_, SqL.of ho2⟩, fun D hD => ?_⟩
    refine lc_list (K := K) (a := o2) (xs := (e.out.map enc).map V.int) (fun i H' => Same H H' ∧ H' D = some (.lst ((mapAt (thenOf (d.out.map enc)) (e.out.map enc) i).map V.int))) ⟨same_upd hD, upd_same⟩ (fun i H' _ ⟨s1, _⟩ => SqL.of (s1 _ _ ho2)) ?_ ?_
    · rintro i y H' hi ⟨s1, h1⟩
      obtain ⟨x, hx, rfl⟩ := map2_get hi
      have ex := mapAt_succ (f := thenOf (d.out.map enc)) (show (e.out.map enc)[i]? = some (enc x) by rw [List.getElem?_map, hx]; rfl)
      have fin : ∀ v, v = V.int (thenOf (d.out.map enc) (enc x)) → ∃ acc, H' D = some (.lst acc) ∧ acc.length < sizeLine ∧ (Same H (upd H' D (.lst (acc ++ [v]))) ∧ (upd H' D (.lst (acc ++ [v]))) D = some (.lst ((mapAt (thenOf (d.out.map enc)) (e.out.map enc) (i + 1)).map V.int))) := by
        rintro v rfl
        refine ⟨_, h1, lt_line ?_, fun b u q => ?_, ?_⟩
        · have := mapAt_len (thenOf (d.out.map enc)) (e.out.map enc) i
          have h2 := he.new
          rw [List.length_map] at this ⊢
          omega
        · rw [upd_ne (ne_of_none q hD)]
          exact s1 b u q
        · rw [upd_same, ex, List.map_append]
          rfl
      refine ⟨rfl, yes_of ?_⟩
      refine ⟨_, rfl, _, rfl, _, rfl, ite2 (fun c => ?_) (fun c => ?_)⟩
      · have c : enc x < 0 := of_decide_eq_true c
        refine ⟨_, rfl, fin _ ?_⟩
        unfold thenOf
        rw [if_pos c]
      · have c : ¬ enc x < 0 := fun q => c (decide_eq_true q)
        cases x with
        | fresh c' => exact absurd (enc_neg.mpr rfl) c
        | old p =>
          have hp := (he.up.mem (List.mem_of_getElem? hx)).2
          have hg : (d.out.map enc)[p]? = some ((d.out.map enc)[p]'(by rw [List.length_map]; omega)) := List.getElem?_eq_getElem _
          refine ⟨_, rfl, a, CE, dx, _, _, rfl, s1 _ _ ha, T.clE, T.nOr, ef_ori _ _, _, rfl, o, _, _, V.int ((d.out.map enc)[p]'(by rw [List.length_map]; omega)), rfl, rfl, SqL.of (s1 _ _ ho), at_of (j := p) rfl (by rw [List.getElem?_map, hg]; rfl), fin _ ?_⟩
          unfold thenOf
          rw [if_neg c]
          show V.int _ = V.int ((d.out.map enc).getD (Int.toNat (p : Int)) 0)
          rw [Int.toNat_natCast, List.getD_eq_getElem?_getD, hg]
          rfl
    · rintro H' ⟨s1, h1⟩
      rw [mapAt_end _ _ (by rw [List.length_map])] at h1
      intro x dx nx nd ne
      refine ⟨x, dx, _, _, rfl, upd_same, fun H2 q1 q2 => ⟨rfl, ?_⟩⟩
      obtain ⟨n1, n2⟩ := made_edit (d := Dl.after d e) s1 (by rw [h1, after_enc he.up hde]) hD nx nd q1 q2
      exact hq H2 x n2 n1
theorem sc20 : FnScope ["edit", "old_text", "places", "origins", "octet", "place"] ["edit", "old_text"] (defScope (top 20)) := ⟨rfl, rfl, rfl, by decide +kernel, rfl, by decide +kernel, by decide +kernel⟩
theorem cal_back (T : Txt K mg CE CR) : Cal P w K mg base 3 "taken_back" ["edit", "old_text"] (spBack K CE) := T.d20.cal fun f fd F => by
  refine F.ok sc20 (fun vs H Q E h => ?_) (fun cdv A outer s H vs Q E hr h => ?_)
  · obtain ⟨a, s, d, b, rfl, _⟩ := h
    rfl
  · obtain ⟨a, sa, d, b, rfl, ⟨dx, o, ha, ho, h3, h4⟩, hd, hs, hbr, hb, hq⟩ := h
    have hr1 : Room 1 _ := hr.mono (by decide)
    refine ⟨_, pss_cons (ps_set (i := 2) sc20.nd rfl (Or.inl rfl) (pe_fn (cal_kept T) hr (by rfl) (pa_cons (pv 0) pa_nil)))
      (pss_cons (ps_setLc (i := 3) (own := [("octet", 4), ("place", 5)]) rfl sc20.nd rfl rfl (sw_true rfl rfl rfl rfl) (pi_zip (by rfl) T.nZip (pa_cons (pv 1) (pa_cons (pv 2) pa_nil))) (blkOk_by (N := ["edit", "old_text", "places", "origins", "octet", "place"]) (sc := defScope (top 20)) (by decide +kernel))
        (fun _ _ _ _ _ => pg_tupK K (n := 2) rfl (pgs_cons (pg_name (i := 4) sc20.nd rfl (Or.inl rfl)) (pgs_cons (pg_name (i := 5) sc20.nd rfl (Or.inl rfl)) pgs_nil)))
        (fun _ _ _ _ _ => pts_nil)
        (fun _ _ _ _ _ => pe_ifExp (pt_cmp (pc_isN (pv 5))) (pe_fn (cal_new_origin T) hr1 (by rfl) (pa_cons (pv 4) pa_nil)) (pv 5)))
      (pss_one (ps_ret (pe_new (cal_edit T) hr (by rfl) (pa_cons (pe_callB call_len_seq (by rfl) T.nLen PySem.boot_len (pa_cons (pe_fld (pv 0) rfl) pa_nil)) (pa_cons (pv 3) pa_nil)))))), ?_⟩
    have hold := hd.old
    refine ⟨_, rfl, a, d, rfl, ⟨dx, o, ha, ho, h3, h4⟩, hd, fun H1 l s1 hl h1 => ?_⟩
    refine ⟨_, rfl, _, rfl, sa, l, _, _, rfl, s1.seq hs, SqL.of h1, fun D hD => ?_⟩
    refine lc_zip (K := K) (a := sa) (b := l) (xs := b.map V.int) (ys := (keptL d).map optV) (by rw [List.length_map, List.length_map, keptL_len]; exact hb)
      (fun i H' => Same H1 H' ∧ H' D = some (.lst ((mapAt (fun z : Int × Option Nat => backOf z.1 z.2) (b.zip (keptL d)) i).map V.int))) ⟨same_upd hD, upd_same⟩ (fun i H' _ ⟨s2, _⟩ => ⟨s2.seq (s1.seq hs), SqL.of (s2 _ _ h1)⟩) (fun u v => rfl) ?_ ?_
    · rintro i x y H' T1 hx hy ⟨s2, h2⟩ hT1
      obtain ⟨z, hz, rfl⟩ := map_get hx
      obtain ⟨q, hq', rfl⟩ := map_get hy
      have s3 : Same H' (upd H' T1 (.tup [V.int z, optV q])) := same_upd hT1
      have ex := mapAt_succ (f := fun z : Int × Option Nat => backOf z.1 z.2) (show (b.zip (keptL d))[i]? = some (z, q) from List.getElem?_zip_eq_some.mpr ⟨hz, hq'⟩)
      have fin : ∀ v, v = V.int (backOf z q) → ∃ acc, (upd H' T1 (.tup [V.int z, optV q])) D = some (.lst acc) ∧ acc.length < sizeLine ∧ (Same H1 (upd (upd H' T1 (.tup [V.int z, optV q])) D (.lst (acc ++ [v]))) ∧ (upd (upd H' T1 (.tup [V.int z, optV q])) D (.lst (acc ++ [v]))) D = some (.lst ((mapAt (fun z : Int × Option Nat => backOf z.1 z.2) (b.zip (keptL d)) (i + 1)).map V.int))) := by
        rintro v rfl
        refine ⟨_, s3 _ _ h2, lt_line ?_, fun b' u q => ?_, ?_⟩
        · have := mapAt_len (fun z : Int × Option Nat => backOf z.1 z.2) (b.zip (keptL d)) i
          rw [List.length_zip, keptL_len] at this
          rw [List.length_map]
          omega
        · rw [upd_ne (ne_of_none q hD)]
          exact s3 _ _ (s2 b' u q)
        · rw [upd_same, ex, List.map_append]
          rfl
      cases q with
      | none => exact ⟨_, rfl, _, rfl, iteT ⟨_, rfl, z, rfl, fin _ rfl⟩⟩
      | some p => exact ⟨_, rfl, _, rfl, iteF ⟨_, rfl, fin _ rfl⟩⟩
    · rintro H' ⟨s2, h2⟩
      rw [mapAt_end _ _ (by rw [List.length_map, List.length_zip, keptL_len]; omega)] at h2
      have s3 : Same H H' := s1.trans s2
      refine ⟨_, rfl, a, CE, dx, _, _, rfl, s3 _ _ ha, T.clE, T.nOr, ef_ori _ _, o, _, rfl, .inl (SqL.of (s3 _ _ ho)), _, rfl, ?_⟩
      intro x dx' nx nd ne
      refine ⟨x, dx', _, _, rfl, upd_same, fun H2 q1 q2 => ⟨rfl, ?_⟩⟩
      obtain ⟨n1, n2⟩ := made_edit (d := Dl.back d (DlNeutral.bytesOf b)) s3 (by rw [h2, back_enc hbr hb]) (s1.free hD) nx nd (by rw [q1, List.length_map, List.length_map]; rfl) q2
      exact hq H2 x n2 n1
end
/-! ### left_place, right_place, are_same -/
def spLeft (C : Addr) : Sp := fun vs H Q _ => ∃ (a : Addr) (d : Dl.Delta) (g : Nat), vs = [.ref a, .int (g : Int)] ∧ EditAt C [] H a d ∧ Fits d ∧ ∀ H' : Hp, Same H H' → Q (.int (Dl.moved d g false : Int)) H'
def spRight (C : Addr) : Sp := fun vs H Q _ => ∃ (a : Addr) (d : Dl.Delta) (g : Nat), vs = [.ref a, .int (g : Int)] ∧ EditAt C [] H a d ∧ Fits d ∧ ∀ H' : Hp, Same H H' → Q (.int (Dl.moved d g true : Int)) H'
def spSame (C : Addr) : Sp := fun vs H Q _ => ∃ (a b : Addr) (d e : Dl.Delta), vs = [.ref a, .ref b] ∧ EditAt C [] H a d ∧ EditAt C [] H b e ∧ Q (.bl (decide (d = e))) H
section
variable {P : Program} {w : World} {K : PySem.W.Frag} {mg : Str → Option Value} {base : Heap} {CE CR : Addr}
theorem sc22 : FnScope ["edit", "g", "place", "at", "origin"] ["edit", "g"] (defScope (top 22)) := ⟨rfl, rfl, rfl, by decide +kernel, rfl, by decide +kernel, by decide +kernel⟩
theorem cal_left (T : Txt K mg CE CR) : Cal P w K mg base 2 "left_place" ["edit", "g"] (spLeft CE) := T.d22.cal fun f fd F => by
  refine F.ok sc22 (fun vs H Q E h => ?_) (fun cdv A outer s H vs Q E hr h => ?_)
  · obtain ⟨a, d, g, rfl, _⟩ := h
    rfl
  · obtain ⟨e, d, g, rfl, ⟨dx, o, he, ho, _, _⟩, hf, hq⟩ := h
    refine ⟨_, pss_cons (ps_set (i := 2) sc22.nd rfl (Or.inl rfl) pe_int)
      (pss_cons (ps_for PassesOwn.never rfl (pi_enum (by rfl) T.nEnum (pa_cons (pe_fld (pv 0) rfl) pa_nil)) (pg_tup rfl (pgs_cons (pg_name (i := 3) sc22.nd rfl (Or.inl rfl)) (pgs_cons (pg_name (i := 4) sc22.nd rfl (Or.inl rfl)) pgs_nil)))
        (pss_one (ps_if (pw_and (pt_not (pt_val (pe_fn (cal_is_new T) hr (by rfl) (pa_cons (pv 4) pa_nil)))) (pw_and1 (pt_cmpR op_lt (pv 4) (pv 1) (nomark _)))).pt (pss_one (ps_set (i := 2) sc22.nd rfl (Or.inl rfl) (pe_op op_add (pv 3) pe_int))) pss_nil)))
      (pss_one (ps_ret (pv 2)))), ?_⟩
    refine ⟨_, rfl, e, CE, dx, _, _, rfl, he, T.clE, T.nOr, ef_ori _ _, o, _, rfl, SqL.of ho, ?_⟩
    refine for_enum (K := K) (a := o) (xs := (d.out.map enc).map V.int) (fun i σ H' => ∃ v3 v4 : Option V, σ = [some (.ref e), some (.int (g : Int)), some (.int (leftAt d g i)), v3, v4] ∧ Same H H') ⟨none, none, rfl, Same.refl H⟩ (fun i σ H' _ ⟨_, _, _, s5⟩ => SqL.of (s5 _ _ ho)) ?_ ?_
    · rintro i y σ H' T1 hi ⟨v2, v3, rfl, s2⟩ hT1
      obtain ⟨x, hx, rfl⟩ := map2_get hi
      have s3 : Same H (upd H' T1 (.tup [.int (i : Nat), V.int (enc x)])) := s2.trans (same_upd hT1)
      have ex := leftAt_succ (g := (g : Int)) hx
      refine ⟨_, rfl, _, rfl, _, rfl, ite2 (fun c => ?_) (fun c => iteF ?_)⟩
      · have c := not_tt.mp c
        refine ⟨_, rfl, _, rfl, _, _, rfl, rfl, _, rfl, ite2 (fun c2 => ?_) (fun c2 => ?_)⟩
        · have c2 := of_decide_eq_true c2
          refine ⟨_, rfl, _, _, rfl, rfl, some (.int (i : Nat)), some (.int (enc x)), ?_, s3⟩
          rw [ex, if_pos ⟨by omega, c2⟩]
          rfl
        · have c2 : ¬ enc x < (g : Int) := fun q => c2 (decide_eq_true q)
          refine ⟨some (.int (i : Nat)), some (.int (enc x)), ?_, s3⟩
          rw [ex, if_neg (by omega)]
          rfl
      · have c : enc x < 0 := Decidable.byContradiction fun e => c (not_tt.mpr e)
        refine ⟨some (.int (i : Nat)), some (.int (enc x)), ?_, s3⟩
        rw [ex, if_neg (by omega)]
        rfl
    · rintro σ H' ⟨v3, v4, rfl, s2⟩
      refine ⟨_, rfl, ?_⟩
      rw [List.length_map, List.length_map, left_moved hf.up]
      exact hq H' s2
theorem sc23 : FnScope ["edit", "g", "at", "origin"] ["edit", "g"] (defScope (top 23)) := ⟨rfl, rfl, rfl, by decide +kernel, rfl, by decide +kernel, by decide +kernel⟩
theorem cal_right (T : Txt K mg CE CR) : Cal P w K mg base 2 "right_place" ["edit", "g"] (spRight CE) := T.d23.cal fun f fd F => by
  refine F.ok sc23 (fun vs H Q E h => ?_) (fun cdv A outer s H vs Q E hr h => ?_)
  · obtain ⟨a, d, g, rfl, _⟩ := h
    rfl
  · obtain ⟨e, d, g, rfl, ⟨dx, o, he, ho, _, _⟩, hf, hq⟩ := h
    refine ⟨_, pss_cons (ps_for PassesOwn.never rfl (pi_enum (by rfl) T.nEnum (pa_cons (pe_fld (pv 0) rfl) pa_nil)) (pg_tup rfl (pgs_cons (pg_name (i := 2) sc23.nd rfl (Or.inl rfl)) (pgs_cons (pg_name (i := 3) sc23.nd rfl (Or.inl rfl)) pgs_nil)))
        (pss_one (ps_if (pw_and (pt_not (pt_val (pe_fn (cal_is_new T) hr (by rfl) (pa_cons (pv 3) pa_nil)))) (pw_and1 (pt_cmpR op_ge (pv 3) (pv 1) (nomark _)))).pt (pss_one (ps_ret (pv 2))) pss_nil)))
      (pss_one (ps_ret (pe_callB call_len_seq (by rfl) T.nLen PySem.boot_len (pa_cons (pe_fld (pv 0) rfl) pa_nil)))), ?_⟩
    refine ⟨_, rfl, e, CE, dx, _, _, rfl, he, T.clE, T.nOr, ef_ori _ _, o, _, rfl, SqL.of ho, ?_⟩
    refine for_enum (K := K) (a := o) (xs := (d.out.map enc).map V.int) (fun i σ H' => ∃ v3 v4 : Option V, σ = [some (.ref e), some (.int (g : Int)), v3, v4] ∧ Same H H' ∧ ∀ j p' : Nat, j < i → d.out[j]? = some (Dl.Src.old p') → p' < g) ⟨none, none, rfl, Same.refl H, fun _ _ z => absurd z (Nat.not_lt_zero _)⟩ (fun i σ H' _ ⟨_, _, _, s5, _⟩ => SqL.of (s5 _ _ ho)) ?_ ?_
    · rintro i y σ H' T1 hi ⟨v2, v3, rfl, s2, hno⟩ hT1
      obtain ⟨x, hx, rfl⟩ := map2_get hi
      have s3 : Same H (upd H' T1 (.tup [.int (i : Nat), V.int (enc x)])) := s2.trans (same_upd hT1)
      refine ⟨_, rfl, _, rfl, _, rfl, ite2 (fun c => ?_) (fun c => iteF ?_)⟩
      · have c := not_tt.mp c
        cases x with
        | fresh c' => exact absurd (enc_neg.mpr rfl) c
        | old p =>
          refine ⟨_, rfl, _, rfl, _, _, rfl, rfl, _, rfl, ite2 (fun c2 => ?_) (fun c2 => ?_)⟩
          · have c2 : (g : Int) ≤ (p : Int) := of_decide_eq_true c2
            refine ⟨_, rfl, ?_⟩
            have h := hq _ s3
            rw [right_at hf.up hx (by omega) hno] at h
            exact h
          · have c2 : ¬ (g : Int) ≤ (p : Int) := fun q => c2 (decide_eq_true q)
            refine ⟨_, _, rfl, s3, fun j p' hj hp' => ?_⟩
            by_cases hji : j < i
            · exact hno j p' hji hp'
            · have : j = i := by omega
              subst this
              have e1 := hp'.symm.trans hx
              cases e1
              omega
      · have c : enc x < 0 := Decidable.byContradiction fun e => c (not_tt.mpr e)
        refine ⟨_, _, rfl, s3, fun j p' hj hp' => ?_⟩
        by_cases hji : j < i
        · exact hno j p' hji hp'
        · have : j = i := by omega
          subst this
          have e1 := hp'.symm.trans hx
          cases e1
          simp only [enc] at c
          omega
    · rintro σ H' ⟨v3, v4, rfl, s2, hno⟩
      refine ⟨_, rfl, e, CE, dx, _, _, rfl, s2 _ _ he, T.clE, T.nOr, ef_ori _ _, o, _, rfl, .inl (SqL.of (s2 _ _ ho)), ?_⟩
      rw [List.length_map, List.length_map] at hno ⊢
      have h := hq H' s2
      rw [right_none fun j p' hp' => hno j p' (List.getElem?_eq_some_iff.mp hp').1 hp'] at h
      exact h
theorem sc24 : FnScope ["one", "other"] ["one", "other"] (defScope (top 24)) := ⟨rfl, rfl, rfl, by decide +kernel, rfl, by decide +kernel, by decide +kernel⟩
theorem cal_same (T : Txt K mg CE CR) : Cal P w K mg base 1 "are_same" ["one", "other"] (spSame CE) := T.d24.cal fun f fd F => by
  refine F.ok sc24 (fun vs H Q E h => ?_) (fun cdv A outer s H vs Q E hr h => ?_)
  · obtain ⟨a, b, d, e, rfl, _⟩ := h
    rfl
  · obtain ⟨a, b, d, e, rfl, ⟨dx, o, ha, ho, _, _⟩, ⟨dx2, o2, hb, ho2, _, _⟩, hq⟩ := h
    refine ⟨_, pss_one (ps_ret (pe_and (pe_cmpR op_eq (pe_fld (pv 0) rfl) (pe_fld (pv 1) rfl) (nomark _)) (pe_one (pe_cmpR (op_eqInts hr.units) (pe_fld (pv 0) rfl) (pe_fld (pv 1) rfl) (nomark _))))), ?_⟩
    refine ⟨_, rfl, a, CE, dx, _, _, rfl, ha, T.clE, T.nOs, ef_old _ _, _, rfl, b, CE, dx2, _, _, rfl, hb, T.clE, T.nOs, ef_old _ _, rfl, _, rfl, ite2 (fun c => ?_) (fun c => ?_)⟩
    · have c : (d.base : Int) = (e.base : Int) := V.int.inj (of_decide_eq_true c)
      refine ⟨_, rfl, a, CE, dx, _, _, rfl, ha, T.clE, T.nOr, ef_ori _ _, _, rfl, b, CE, dx2, _, _, rfl, hb, T.clE, T.nOr, ef_ori _ _, o, o2, _, _, rfl, rfl, SqL.of ho, SqL.of ho2, ?_⟩
      have h : decide (d = e) = decide (d.out.map enc = e.out.map enc) := by
        rw [decide_eq_decide, same_iff]
        exact ⟨fun z => z.2, fun z => ⟨c, z⟩⟩
      rw [h] at hq
      exact hq
    · have c : ¬ (d.base : Int) = (e.base : Int) := fun q => c (decide_eq_true (congrArg V.int q))
      have h : decide (d = e) = false := decide_eq_false fun q => c ((same_iff d e).mp q).1
      rw [h] at hq
      exact hq
end
end Ed

set_option Elab.async false
set_option linter.all false
set_option maxRecDepth 100000
set_option maxHeartbeats 2000000
/-! led_over. -/
namespace Ed
open PySem PySem.Spec PyProof.Rows L2
theorem ps_imp {X : Cx} {st : Stmt} {t t' : TS} (h : PS X st t) (i : ∀ D σ H, t' D σ H → t D σ H) : PS X st t' := fun pins s σ H D I q => h pins s σ H D I (i D σ H q)
theorem natV_old (l : List Nat) : ((l.map Dl.Src.old).map enc).map V.int = l.map natV := by
  rw [List.map_map, List.map_map]
  rfl
theorem pre_zero (d e : Dl.Delta) : pre d e 0 = [] := rfl
theorem pre_some {d e : Dl.Delta} {g p q : Nat} (h1 : Dl.image d g = some p) (h2 : Dl.image e g = some q) (h : g < d.base) : pre d e (g + 1) = [Dl.Src.old q] := by
  show both d e g = _
  unfold both
  rw [h1, h2]
  exact if_pos h
theorem pre_none1 {d e : Dl.Delta} {g : Nat} (h1 : Dl.image d g = none) : pre d e (g + 1) = [] := by
  show both d e g = _
  unfold both
  rw [h1]
theorem pre_none2 {d e : Dl.Delta} {g : Nat} (h1 : Dl.image e g = none) : pre d e (g + 1) = [] := by
  show both d e g = _
  unfold both
  rw [h1]
  cases Dl.image d g <;> rfl
/-- the old byte, if both keep it -/
def tPre (K : PySem.W.Frag) (d e : Dl.Delta) : TS := fun D σ H => ∃ (l3 l4 lo : Addr) (i : Nat) (acc : List V), σ[3]? = some (some (.ref l3)) ∧ σ[4]? = some (some (.ref l4)) ∧ σ[7]? = some (some (.ref lo)) ∧ σ[8]? = some (some (.int (0 + (i : Int)))) ∧
  SqL K H l3 ((keptL d).map optV) ∧ SqL K H l4 ((keptL e).map optV) ∧ i ≤ d.base ∧ d.base = e.base ∧ H lo = some (.lst acc) ∧ acc.length ≤ 10000000 ∧ ∀ H' : Hp, Keep [lo] H H' → H' lo = some (.lst (acc ++ ((pre d e i).map enc).map V.int)) → D.nx σ H'
theorem notN_tt {v : V} : (!decide (v = V.non)) = true ↔ v ≠ V.non := by
  rw [Bool.not_eq_true', decide_eq_false_iff_not]
def spOver (C : Addr) : Sp := fun vs H Q _ => ∃ (a b : Addr) (d e : Dl.Delta) (f : Bool), vs = [.ref a, .ref b, .bl f] ∧ EditAt C [] H a d ∧ EditAt C [] H b e ∧ Fits d ∧ Fits e ∧ d.base = e.base ∧
  ∀ (H' : Hp) (x : Addr), Same H H' → NewEdit C H H' x (Dl.over d e f) → Q (.ref x) H'
section
variable {P : Program} {w : World} {K : PySem.W.Frag} {mg : Str → Option Value} {base : Heap} {CE CR : Addr}
theorem sc21 : FnScope ["edit", "other", "edit_first", "edit_kept", "other_kept", "edit_new", "other_new", "origins", "gap", "put", "at"] ["edit", "other", "edit_first"] (defScope (top 21)) := ⟨rfl, rfl, rfl, by decide +kernel, rfl, by decide +kernel, by decide +kernel⟩
theorem cal_over (T : Txt K mg CE CR) : Cal P w K mg base 3 "led_over" ["edit", "other", "edit_first"] (spOver CE) := T.d21.cal fun f fd F => by
  refine F.ok sc21 (fun vs H Q E h => ?_) (fun cdv A outer s H vs Q E hr h => ?_)
  · obtain ⟨a, b, d, e, f, rfl, _⟩ := h
    rfl
  · obtain ⟨a, b, d, e, f, rfl, EA, EB, hd, he, hde, hq⟩ := h
    refine ⟨_, pss_cons (ps_set (i := 3) sc21.nd rfl (Or.inl rfl) (pe_fn (cal_kept T) hr (by rfl) (pa_cons (pv 0) pa_nil)))
      (pss_cons (ps_set (i := 4) sc21.nd rfl (Or.inl rfl) (pe_fn (cal_kept T) hr (by rfl) (pa_cons (pv 1) pa_nil)))
      (pss_cons (ps_set (i := 5) sc21.nd rfl (Or.inl rfl) (pe_fn (cal_places T) hr (by rfl) (pa_cons (pv 0) pa_nil)))
      (pss_cons (ps_set (i := 6) sc21.nd rfl (Or.inl rfl) (pe_fn (cal_places T) hr (by rfl) (pa_cons (pv 1) pa_nil)))
      (pss_cons (ps_set (i := 7) sc21.nd rfl (Or.inl rfl) (pe_lst pa_nil))
      (pss_cons (ps_for PassesOwn.never rfl (pi_range1 (by rfl) T.nRange (pa_cons (pe_op op_add (pe_fld (pv 0) rfl) pe_int) pa_nil)) (pg_name (i := 8) sc21.nd rfl (Or.inl rfl))
        (pss_cons (ps_imp (t' := tPre K d e) (ps_if (pw_and (pt_cmpR op_gt (pv 8) pe_int (nomark _)) (pw_and (pt_cmp (pc_notN (pe_ix ix_list (pv 3) (pe_op op_sub (pv 8) pe_int) (fun _ _ => rfl)))) (pw_and1 (pt_cmp (pc_notN (pe_ix ix_list (pv 4) (pe_op op_sub (pv 8) pe_int) (fun _ _ => rfl))))))).pt
            (pss_one (ps_expr (pe_bm PySem.F.plainAttrs_list PySem.F.slot_list_append PySem.F.type_list_append mt_append (pv 7) (pa_cons (pe_ix ix_list (pv 4) (pe_op op_sub (pv 8) pe_int) (fun _ _ => rfl)) pa_nil)))) pss_nil) ?pre)
        (pss_cons (ps_setLc (i := 9) (own := [("at", 10)]) rfl sc21.nd rfl rfl (sw_true rfl rfl rfl rfl) (pi_list (pe_ix ix_list (pv 5) (pv 8) (fun _ _ => rfl))) (blkOk_by (N := ["edit", "other", "edit_first", "edit_kept", "other_kept", "edit_new", "other_new", "origins", "gap", "put", "at"]) (sc := defScope (top 21)) (by decide +kernel))
            (fun _ _ _ _ _ => pg_name (i := 10) sc21.nd rfl (Or.inl rfl)) (fun _ _ _ _ _ => pts_nil) (fun _ _ _ _ _ => pe_ix (ix_listK K) (pe_fldK K (pv 0) rfl) (pv 10) (fun _ _ => rfl)))
        (pss_one (ps_expr (pe_bm PySem.F.plainAttrs_list PySem.F.slot_list_extend PySem.F.type_list_extend mt_extend (pv 7) (pa_cons
            (pe_ifExp (pt_val (pv 2)) (pe_op op_cat (pv 9) (pe_ix ix_list (pv 6) (pv 8) (fun _ _ => rfl))) (pe_op op_cat (pe_ix ix_list (pv 6) (pv 8) (fun _ _ => rfl)) (pv 9))) pa_nil)))))))
      (pss_one (ps_ret (pe_new (cal_edit T) hr (by rfl) (pa_cons (pe_callB call_len_seq (by rfl) T.nLen PySem.boot_len (pa_cons (pe_fld (pv 1) rfl) pa_nil)) (pa_cons (pv 7) pa_nil)))))))))), ?main⟩
    case pre =>
      rintro D σ H ⟨l3, l4, lo, i, acc, e3, e4, e7, e8, q3, q4, hi, hb, ho, hl, k⟩
      have same : pre d e i = [] → D.nx σ H := fun hp => k H (fun _ _ q _ => q) (by rw [hp]; simpa using ho)
      refine ⟨_, e8, _, _, rfl, rfl, _, rfl, ite2 (fun c => ?_) (fun c => iteF ?_)⟩
      · have c := of_decide_eq_true c
        obtain ⟨g, rfl⟩ : ∃ g, i = g + 1 := ⟨i - 1, by omega⟩
        have a3 : atI ((keptL d).map optV) (0 + ((g + 1 : Nat) : Int) - 1) = some (optV (Dl.image d g)) := at_of (j := g) (by omega) (by rw [List.getElem?_map, keptL_get (by omega)]; rfl)
        have a4 : atI ((keptL e).map optV) (0 + ((g + 1 : Nat) : Int) - 1) = some (optV (Dl.image e g)) := at_of (j := g) (by omega) (by rw [List.getElem?_map, keptL_get (by omega)]; rfl)
        refine ⟨_, e3, _, e8, _, _, rfl, rfl, l3, _, _, _, rfl, rfl, q3, a3, _, rfl, ?_⟩
        cases h1 : Dl.image d g with
        | none => exact iteF (iteF (same (pre_none1 h1)))
        | some p1 =>
          refine iteT ⟨_, e4, _, e8, _, _, rfl, rfl, l4, _, _, _, rfl, rfl, q4, a4, _, rfl, ?_⟩
          cases h2 : Dl.image e g with
          | none => exact iteF (same (pre_none2 h2))
          | some p2 =>
            rw [h2] at a4
            refine iteT ⟨_, e7, .inl ⟨rfl, _, SqL.of ho⟩, _, e4, _, e8, _, _, rfl, rfl, l4, _, _, _, rfl, rfl, q4, a4, lo, _, _, rfl, rfl, ho, lt_line (by omega), ?_⟩
            refine k _ (fun b u q hb => ?_) ?_
            · rw [upd_ne (by simpa using hb)]
              exact q
            · rw [upd_same, pre_some h1 h2 (by omega)]
              rfl
      · refine same ?_
        have c : ¬ (0 : Int) < 0 + (i : Int) := fun z => c (decide_eq_true z)
        have : i = 0 := by omega
        subst this
        rfl
    case main =>
      have hold := hd.old
      have hnd := hd.new
      have hne := he.new
      refine ⟨_, rfl, a, d, rfl, EA, hd, fun H1 l3 s1 _ k3 => ?_⟩
      refine ⟨_, rfl, b, e, rfl, EB.same s1, he, fun H2 l4 s2 _ k4 => ?_⟩
      refine ⟨_, rfl, a, d, rfl, EA.same (s1.trans s2), hd, fun H3 D5 as5 s3 L5 => ?_⟩
      refine ⟨_, rfl, b, e, rfl, EB.same ((s1.trans s2).trans s3), he, fun H4 D6 as6 s4 L6 => ?_⟩
      have s14 : Same H H4 := ((s1.trans s2).trans s3).trans s4
      have k3' : H4 l3 = some (.lst ((keptL d).map optV)) := s4 _ _ (s3 _ _ (s2 _ _ k3))
      have k4' : H4 l4 = some (.lst ((keptL e).map optV)) := s4 _ _ (s3 _ _ k4)
      have t5 : H4 D5 = some (.lst (as5.map V.ref)) := s4 _ _ L5.top
      have EA4 := EA.same s14
      have EB4 := EB.same s14
      obtain ⟨dx, o, ha, ho, _, _⟩ := EA4
      obtain ⟨dx2, o2, hb, ho2, _, _⟩ := EB4
      refine ⟨Nat.zero_le _, fun lo hlo => ?_⟩
      have s5 : Same H4 (upd H4 lo (.lst [])) := same_upd hlo
      have nlo : ∀ {c : Addr} {u : HO}, H4 c = some u → c ≠ lo := fun q => ne_of_none q hlo
      refine ⟨_, rfl, a, CE, dx, _, _, rfl, s5 _ _ ha, T.clE, T.nOs, ef_old _ _, _, _, rfl, rfl, _, rfl, (by omega), (by omega), ?_⟩
      have hn : Int.toNat ((d.base : Int) + 1) = d.base + 1 := by omega
      rw [hn]
      refine for_range (fun i σ H' => ∃ v8 v9 : Option V, σ = [some (.ref a), some (.ref b), some (.bl f), some (.ref l3), some (.ref l4), some (.ref D5), some (.ref D6), some (.ref lo), v8, v9, none] ∧ Same H4 H' ∧ H' lo = some (.lst (((overAt d e f i).map enc).map V.int)))
        ⟨none, none, rfl, s5, upd_same⟩ ?_ ?_
      · rintro i σ H' hi ⟨v8, v9, rfl, s6, h6⟩
        have hlen := overAt_len hd he f i
        have hlen2 : 2049 * i ≤ 2049 * 1024 := Nat.mul_le_mul_left _ (by omega)
        refine ⟨l3, l4, lo, i, _, rfl, rfl, rfl, rfl, SqL.of (s6 _ _ k3'), SqL.of (s6 _ _ k4'), by omega, hde, h6, ?_, fun H7 k7 h7 => ?_⟩
        · rw [List.length_map, List.length_map]
          omega
        have s7 : Same H4 H7 := fun c u q => k7 c u (s6 c u q) (by simpa using nlo q)
        -- put = [..]
        have h5i : as5[i]? = some (as5[i]'(by rw [L5.len]; exact hi)) := List.getElem?_eq_getElem _
        generalize as5[i]'(by rw [L5.len]; exact hi) = a5 at h5i
        have h6i : as6[i]? = some (as6[i]'(by rw [L6.len, ← hde]; exact hi)) := List.getElem?_eq_getElem _
        generalize as6[i]'(by rw [L6.len, ← hde]; exact hi) = a6 at h6i
        have c5 : H4 a5 = some (.lst ((theirs d i).map natV)) := s4 _ _ (L5.at_ i a5 h5i)
        have c6 : H4 a6 = some (.lst ((theirs e i).map natV)) := L6.at_ i a6 h6i
        have ia5 : atI (as5.map V.ref) (0 + (i : Int)) = some (V.ref a5) := at_of (j := i) (by omega) (by rw [List.getElem?_map, h5i]; rfl)
        have ia6 : atI (as6.map V.ref) (0 + (i : Int)) = some (V.ref a6) := at_of (j := i) (by omega) (by rw [List.getElem?_map, h6i]; rfl)
        refine ⟨_, rfl, _, rfl, D5, _, _, _, rfl, rfl, SqL.of (s7 _ _ t5), ia5, a5, rfl, ⟨_, SqL.of (s7 _ _ c5)⟩, fun D hD => ?_⟩
        refine lc_list (K := K) (a := a5) (xs := (theirs d i).map natV) (fun j H8 => Same H7 H8 ∧ H8 D = some (.lst ((mapAt (fun t => (d.out.map enc).getD t 0) (theirs d i) j).map V.int))) ⟨same_upd hD, upd_same⟩ (fun j H8 _ ⟨s8, _⟩ => SqL.of (s8 _ _ (s7 _ _ c5))) ?_ ?_
        · rintro j y H8 hj ⟨s8, h8⟩
          obtain ⟨t, ht, rfl⟩ := map_get hj
          have htl : t < d.out.length := theirs_lt (List.mem_of_getElem? ht)
          have hg : (d.out.map enc)[t]? = some ((d.out.map enc).getD t 0) := by
            rw [List.getD_eq_getElem?_getD, List.getElem?_eq_getElem (by rw [List.length_map]; exact htl)]
            rfl
          have s9 : Same H4 H8 := s7.trans s8
          refine ⟨rfl, yes_of ?_⟩
          refine ⟨_, rfl, a, CE, dx, _, _, rfl, s9 _ _ ha, T.clE, T.nOr, ef_ori _ _, _, rfl, o, _, _, V.int ((d.out.map enc).getD t 0), rfl, rfl, SqL.of (s9 _ _ ho), at_of (j := t) rfl (by rw [List.getElem?_map, hg]; rfl), _, h8, lt_line ?_, fun c u q => ?_, ?_⟩
          · have h1 := mapAt_len (fun t => (d.out.map enc).getD t 0) (theirs d i) j
            have h2 := newAt_len d i
            rw [theirs_len] at h1
            rw [List.length_map]
            omega
          · rw [upd_ne (ne_of_none q hD)]
            exact s8 c u q
          · rw [upd_same, mapAt_succ ht, List.map_append]
            rfl
        · rintro H8 ⟨s8, h8⟩
          rw [mapAt_end _ _ (by rw [List.length_map]), theirs_map] at h8
          have s9 : Same H4 H8 := s7.trans s8
          have h8lo : H8 lo = some (.lst (((overAt d e f i).map enc).map V.int ++ ((pre d e i).map enc).map V.int)) := s8 _ _ h7
          have ln := news_len hd he f i
          have lp := pre_len d e i
          have hna := newAt_len d i
          have hnb := newAt_len e i
          have htb := theirs_len e i
          have fin : ∀ (p : Addr) (zs : List V), H8 p = Option.none → zs = ((news d e f i).map enc).map V.int → (upd H8 p (.lst zs)) lo = some (.lst (((overAt d e f i).map enc).map V.int ++ ((pre d e i).map enc).map V.int)) ∧
              (((overAt d e f i).map enc).map V.int ++ ((pre d e i).map enc).map V.int).length + zs.length ≤ sizeLine ∧ Same H4 (upd (upd H8 p (.lst zs)) lo (.lst ((((overAt d e f i).map enc).map V.int ++ ((pre d e i).map enc).map V.int) ++ zs))) ∧
              (upd (upd H8 p (.lst zs)) lo (.lst ((((overAt d e f i).map enc).map V.int ++ ((pre d e i).map enc).map V.int) ++ zs))) lo = some (.lst (((overAt d e f (i + 1)).map enc).map V.int)) := by
            rintro p zs hp rfl
            have nlp : lo ≠ p := ne_of_none h8lo hp
            refine ⟨by rw [upd_ne nlp]; exact h8lo, le_line ?_, fun c u q => ?_, ?_⟩
            · simp only [List.length_append, List.length_map]
              omega
            · rw [upd_ne (nlo q), upd_ne (ne_of_none (s9 c u q) hp)]
              exact s9 c u q
            · rw [upd_same, overAt_succ]
              simp only [List.map_append, List.append_assoc]
          refine ⟨_, rfl, .inl ⟨rfl, _, SqL.of h8lo⟩, _, rfl, _, rfl, ite2 (fun c => ?_) (fun c => ?_)⟩
          · refine ⟨_, rfl, _, rfl, _, rfl, D6, _, _, _, rfl, rfl, SqL.of (s9 _ _ L6.top), ia6, D, a6, _, _, rfl, rfl, h8, s9 _ _ c6, le_line ?_, fun p hp => ?_⟩
            · simp only [List.length_map]
              omega
            · obtain ⟨f1, f3, f4, f5⟩ := fin p _ hp (by
                unfold news
                rw [if_pos c, List.map_append, List.map_append, natV_old])
              exact ⟨lo, p, _, _, rfl, rfl, f1, upd_same, f3, _, _, rfl, f4, f5⟩
          · refine ⟨_, rfl, _, rfl, D6, _, _, _, rfl, rfl, SqL.of (s9 _ _ L6.top), ia6, _, rfl, a6, D, _, _, rfl, rfl, s9 _ _ c6, h8, le_line ?_, fun p hp => ?_⟩
            · simp only [List.length_map]
              omega
            · obtain ⟨f1, f3, f4, f5⟩ := fin p _ hp (by
                unfold news
                rw [if_neg c, List.map_append, List.map_append, natV_old])
              exact ⟨lo, p, _, _, rfl, rfl, f1, upd_same, f3, _, _, rfl, f4, f5⟩
      · rintro σ H' ⟨v8, v9, rfl, s6, h6⟩
        rw [overAt_end] at h6
        have s7 : Same H H' := s14.trans s6
        refine ⟨_, rfl, b, CE, dx2, _, _, rfl, s6 _ _ hb, T.clE, T.nOr, ef_ori _ _, o2, _, rfl, .inl (SqL.of (s6 _ _ ho2)), _, rfl, ?_⟩
        intro x dx' nx nd ne
        refine ⟨x, dx', _, _, rfl, upd_same, fun H2 q1 q2 => ⟨rfl, ?_⟩⟩
        obtain ⟨n1, n2⟩ := made_edit (d := Dl.over d e f) s7 h6 (s14.free hlo) nx nd (by rw [q1, List.length_map, List.length_map]; rfl) q2
        exact hq H2 x n2 n1
end
end Ed

set_option Elab.async false
set_option linter.all false
set_option maxRecDepth 100000
set_option maxHeartbeats 2000000
/-! The slots and the calls. -/
namespace Ed
open PySem PySem.Spec PyProof.Rows L2
def SlotV (C : Addr) (M : List Addr) (H : Hp) (v : V) : Option Dl.Delta → Prop
  | none => v = .non
  | some d => ∃ e, v = .ref e ∧ EditAt C M H e d
theorem SlotV.keep {C : Addr} {M : List Addr} {H H' : Hp} {v : V} {o : Option Dl.Delta} (h : SlotV C M H v o) (k : Keep M H H') : SlotV C M H' v o := by
  cases o with
  | none => exact h
  | some d =>
    obtain ⟨e, h1, h2⟩ := h
    exact ⟨e, h1, h2.keep k⟩
structure St8 (K : PySem.W.Frag) (CE CR : Addr) (M : List Addr) (H : Hp) (sl r a : Addr) (ns : List Int) (x : Dl.State) (p : Nat) : Prop where
  good : Good x
  slots : ∃ vs, H sl = some (.lst vs) ∧ vs.length = 8 ∧ ∀ (i : Nat) (o : Option Dl.Delta), x[i]? = some o → ∃ v, vs[i]? = some v ∧ SlotV CE M H v o
  rd : RdAt CR H r a p
  lst : LstAt K M H a (ns.map V.int)
  sM : sl ∈ M
  rM : r ∈ M
  tr : ∀ m ∈ M, H m ≠ Option.none
section
variable {K : PySem.W.Frag} {CE CR : Addr} {M : List Addr} {H H' : Hp} {sl r a : Addr} {ns : List Int} {x : Dl.State} {p : Nat}
theorem St8.ne (S : St8 K CE CR M H sl r a ns x p) : sl ≠ r := by
  obtain ⟨vs, h1, _⟩ := S.slots
  obtain ⟨dx, h2⟩ := S.rd
  exact ne_of h1 h2 (by intro z; cases z)
theorem St8.num (S : St8 K CE CR M H sl r a ns x p) {p' : Nat} (h : RdAt CR H' r a p') (k : Keep [r] H H') : St8 K CE CR M H' sl r a ns x p' := by
  have kM : Keep M H H' := k.mono (by simp; exact S.rM)
  obtain ⟨vs, h1, h2, h3⟩ := S.slots
  refine ⟨S.good, ⟨vs, k _ _ h1 (by simpa using S.ne), h2, fun i o hi => ?_⟩, h, S.lst.keep kM, S.sM, S.rM, fun m hm => ?_⟩
  · obtain ⟨v, hv, hs⟩ := h3 i o hi
    exact ⟨v, hv, hs.keep kM⟩
  · by_cases e : m = r
    · subst e
      obtain ⟨dx, hd⟩ := h
      rw [hd]
      simp
    · cases q : H m with
      | none => exact absurd q (S.tr m hm)
      | some u =>
        rw [k m u q (by simpa using e)]
        simp
theorem St8.same (S : St8 K CE CR M H sl r a ns x p) (s : Same H H') : St8 K CE CR M H' sl r a ns x p := by
  obtain ⟨dx, h⟩ := S.rd
  exact S.num ⟨dx, s _ _ h⟩ (keep_same s)
theorem St8.put (S : St8 K CE CR M H sl r a ns x p) {k : Nat} {d : Dl.Delta} {e : Addr} (hk : k < 8) (f : Fits d) (he : EditAt CE M H e d) {vs : List V} (hv : H sl = some (.lst vs)) :
    St8 K CE CR M (upd H sl (.lst (vs.set k (.ref e)))) sl r a ns (x.set k (some d)) p := by
  have kS : Keep [sl] H (upd H sl (.lst (vs.set k (.ref e)))) := fun b u q hb => by
    rw [upd_ne (by simpa using hb)]
    exact q
  have kM : Keep M H (upd H sl (.lst (vs.set k (.ref e)))) := kS.mono (by simp; exact S.sM)
  obtain ⟨vs', h1, h2, h3⟩ := S.slots
  have ev : vs' = vs := by
    rw [hv] at h1
    cases h1
    rfl
  subst ev
  obtain ⟨dx, hd⟩ := S.rd
  refine ⟨S.good.set f k, ⟨_, upd_same, by rw [List.length_set]; exact h2, fun i o hi => ?_⟩, ⟨dx, kS _ _ hd (by simpa using S.ne.symm)⟩, S.lst.keep kM, S.sM, S.rM, fun m hm => ?_⟩
  · rw [List.getElem?_set] at hi ⊢
    by_cases c : k = i
    · rw [if_pos c] at hi ⊢
      rw [S.good.len] at hi
      rw [if_pos (by omega)] at hi
      cases hi
      exact ⟨.ref e, by rw [if_pos (by omega)], e, rfl, he.keep kM⟩
    · rw [if_neg c] at hi ⊢
      obtain ⟨v, hv', hs⟩ := h3 i o hi
      exact ⟨v, hv', hs.keep kM⟩
  · by_cases c : m = sl
    · subst c
      rw [upd_same]
      simp
    · rw [upd_ne c]
      exact S.tr m hm
theorem St8.slot (S : St8 K CE CR M H sl r a ns x p) (i : Nat) (h : i < 8) : ∃ vs v, H sl = some (.lst vs) ∧ vs[i]? = some v ∧ SlotV CE M H v (Dl.slot x i) := by
  obtain ⟨vs, h1, h2, h3⟩ := S.slots
  have hx : x[i]? = some (x[i]'(by rw [S.good.len]; exact h)) := List.getElem?_eq_getElem _
  obtain ⟨v, hv, hs⟩ := h3 i _ hx
  refine ⟨vs, v, h1, hv, ?_⟩
  have : Dl.slot x i = x[i]'(by rw [S.good.len]; exact h) := by
    unfold Dl.slot
    rw [hx]
    rfl
  rw [this]
  exact hs
end
def spIn (K : PySem.W.Frag) (CE CR : Addr) : Sp := fun vs H Q _ => ∃ (M : List Addr) (sl r a : Addr) (ns : List Int) (x : Dl.State) (p : Nat) (i : Int), vs = [.ref sl, .int i] ∧ 0 ≤ i ∧ St8 K CE CR M H sl r a ns x p ∧ ∀ v, SlotV CE M H v (Dl.slot x i.toNat) → Q v H
section
variable {P : Program} {w : World} {K : PySem.W.Frag} {mg : Str → Option Value} {base : Heap} {CE CR : Addr}
theorem sc26 : FnScope ["slots", "i"] ["slots", "i"] (defScope (top 26)) := ⟨rfl, rfl, rfl, by decide +kernel, rfl, by decide +kernel, by decide +kernel⟩
theorem cal_in (T : Txt K mg CE CR) : Cal P w K mg base 1 "edit_in" ["slots", "i"] (spIn K CE CR) := T.d26.cal fun f fd F => by
  refine F.ok sc26 (fun vs H Q E h => ?_) (fun cdv A outer s H vs Q E hr h => ?_)
  · obtain ⟨M, sl, r, a, ns, x, p, i, rfl, _⟩ := h
    rfl
  · obtain ⟨M, sl, r, a, ns, x, p, i, rfl, hi, S, hq⟩ := h
    refine ⟨_, pss_one (ps_ret (pe_ifExp (pt_cmpR op_lt (pv 1) (pe_top (by rfl) T.cS) (nomark _)) (pe_ix ix_list (pv 0) (pv 1) (fun _ _ => rfl)) pe_non)), ?_⟩
    refine ⟨_, rfl, _, _, rfl, rfl, _, rfl, ite2 (fun c => ?_) (fun c => ?_)⟩
    · have c : i < 8 := of_decide_eq_true c
      obtain ⟨vs, v, h1, h2, h3⟩ := S.slot i.toNat (by omega)
      exact ⟨_, rfl, _, rfl, sl, _, _, v, rfl, rfl, SqL.of h1, at_of (j := i.toNat) (by omega) h2, hq v h3⟩
    · have c : ¬ i < 8 := fun q => c (decide_eq_true q)
      refine hq .non ?_
      rw [S.good.big (by omega)]
      rfl
end
/-! ### reading a line -/
theorem drop_cons {ns l : List Int} {p : Nat} {z : Int} (h : ns.drop p = z :: l) : ns[p]? = some z ∧ ns.drop (p + 1) = l := by
  constructor
  · have := congrArg (fun l => l[0]?) h
    simpa [List.getElem?_drop] using this
  · have := congrArg (List.drop 1) h
    rw [List.drop_drop] at this
    exact this
theorem drop_row {ns row rest : List Int} {p : Nat} (h : ns.drop p = (row.length : Int) :: (row ++ rest)) : ns.drop (p + 1 + row.length) = rest := by
  have h2 := (drop_cons h).2
  have := congrArg (List.drop row.length) h2
  rw [List.drop_drop, List.drop_left] at this
  exact this
/-- what is known ahead of a call, and what is wanted behind it -/
structure Ahead (K : PySem.W.Frag) (CE CR : Addr) (n : Int) (H : Hp) (Q : VK) (M : List Addr) (sl r a : Addr) (ns : List Int) (x : Dl.State) (p : Nat) (t : List Int) (rs : List (List Int)) (rest : List Int) : Prop where
  st : St8 K CE CR M H sl r a ns x p
  nn : ∀ z ∈ ns, 0 ≤ z
  few : ns.length ≤ 30000
  shape : PyWqakan.shape n = some (t.length, rs.length)
  asked : DlNeutral.asked1 ((n :: t) :: rs) = true
  drop : ns.drop p = t ++ (PyFlat.putRows rs ++ rest)
  ends : ∀ (H' : Hp) (l : Addr) (p' : Nat), ns.drop p' = rest → St8 K CE CR M H' sl r a ns (DlNeutral.step x ((n :: t) :: rs)).1 p' → Keep [sl, r] H H' → H l = Option.none → H' l = some (.lst ((DlNeutral.step x ((n :: t) :: rs)).2.map V.int)) → Q (.ref l) H'
def spCall (K : PySem.W.Frag) (CE CR : Addr) (n : Int) : Sp := fun vs H Q _ => ∃ (M : List Addr) (sl r a : Addr) (ns : List Int) (x : Dl.State) (p : Nat) (t : List Int) (rs : List (List Int)) (rest : List Int), vs = [.ref sl, .ref r] ∧ Ahead K CE CR n H Q M sl r a ns x p t rs rest
section
variable {K : PySem.W.Frag} {CE CR : Addr} {n : Int} {M : List Addr} {H H1 : Hp} {Q : VK} {sl r a : Addr} {ns : List Int} {x : Dl.State} {p p' : Nat} {t : List Int} {rs : List (List Int)} {rest : List Int}
theorem Ahead.fin (h : Ahead K CE CR n H Q M sl r a ns x p t rs rest) {X : Dl.State} {A : List Int} (e : DlNeutral.step x ((n :: t) :: rs) = (X, A)) (S : St8 K CE CR M H1 sl r a ns X p') (hd : ns.drop p' = rest) (k : Keep [sl, r] H H1) {l : Addr} (hl : H1 l = Option.none) {xs : List V} (hx : xs = A.map V.int) : Q (.ref l) (upd H1 l (.lst xs)) := by
  subst hx
  have q := h.ends (upd H1 l (.lst (A.map V.int))) l p' hd
  rw [e] at q
  refine q (S.same (same_upd hl)) (k.trans (keep_same (same_upd hl))) (keep_free k ?_ hl) upd_same
  intro m hm
  have : m = sl ∨ m = r := by simpa using hm
  rcases this with rfl | rfl
  · exact S.tr _ S.sM
  · exact S.tr _ S.rM
theorem keep_two1 (k : Keep [r] H H1) : Keep [sl, r] H H1 := k.mono (by simp)
theorem ite_ref {A B : Prop} {e : Addr} (h : B) : if (decide (V.ref e = V.non)) = true then A else B := by
  rw [if_neg (by simp)]
  exact h
theorem ite_non {A B : Prop} (h : A) : if (decide (V.non = V.non)) = true then A else B := by
  rw [if_pos (by simp)]
  exact h
end
theorem whole_nn {z : Int} (h : DlNeutral.whole32 z = true) : 0 ≤ z := by
  unfold DlNeutral.whole32 at h
  rw [Bool.and_eq_true, decide_eq_true_eq] at h
  exact h.1
section
variable {P : Program} {w : World} {K : PySem.W.Frag} {mg : Str → Option Value} {base : Heap} {CE CR : Addr}
abbrev Ans (P : Program) (w : World) (K : PySem.W.Frag) (mg : Str → Option Value) (base : Heap) (CE CR : Addr) (k : Nat) (n : Int) : Prop := ∀ f fd, Fun K (nameOf n) (nameOf n) (top (27 + n.toNat)) f fd → FnOk P w K mg base CX0 k f fd ["slots", "reader"] (spCall K CE CR n)
theorem call_len {K : PySem.W.Frag} {CE CR : Addr} {n : Int} : ∀ vs H Q E, spCall K CE CR n vs H Q E → vs.length = (["slots", "reader"] : List Str).length := fun vs H Q E h => by
  obtain ⟨M, sl, r, a, ns, x, p, t, rs, rest, rfl, _⟩ := h
  rfl
/-! ### reading numbers, rows, slots -/
theorem sh_eq {a b c d : Nat} (h : some (a, b) = some (c, d)) : c = a ∧ d = b := by
  have h := Prod.mk.inj (Option.some.inj h)
  exact ⟨h.1.symm, h.2.symm⟩
theorem len_1 {α : Type} {t : List α} (h : t.length = 1) : ∃ i, t = [i] := List.length_eq_one_iff.mp h
theorem len_2 {α : Type} {t : List α} (h : t.length = 2) : ∃ i j, t = [i, j] := by
  match t, h with
  | [i, j], _ => exact ⟨i, j, rfl⟩
theorem len_3 {α : Type} {t : List α} (h : t.length = 3) : ∃ i j k, t = [i, j, k] := by
  match t, h with
  | [i, j, k], _ => exact ⟨i, j, k, rfl⟩
theorem len_4 {α : Type} {t : List α} (h : t.length = 4) : ∃ i j k l, t = [i, j, k, l] := by
  match t, h with
  | [i, j, k, l], _ => exact ⟨i, j, k, l, rfl⟩
theorem len_0 {α : Type} {t : List α} (h : t.length = 0) : t = [] := List.length_eq_zero_iff.mp h
section
variable {M : List Addr} {H : Hp} {Q : VK} {sl r a : Addr} {ns l : List Int} {x : Dl.State} {p : Nat} {σ : L2.St} {i : Int}
theorem num_rd (h1 : σ[1]? = some (some (.ref r))) (S : St8 K CE CR M H sl r a ns x p) (hd : ns.drop p = i :: l) (k : ∀ H1, St8 K CE CR M H1 sl r a ns x (p + 1) → Keep [r] H H1 → ns.drop (p + 1) = l → Q (.int i) H1) :
    tMeth CR "number" (spNum K CR) [] E0 (tVar 1) tNil σ H Q := by
  obtain ⟨dx, hrd⟩ := S.rd
  obtain ⟨d1, d2⟩ := drop_cons hd
  exact ⟨_, h1, r, dx, _, rfl, hrd, rf_no _ _ (by decide +kernel) (by decide +kernel), r, a, p, ns, i, rfl, S.rd, S.lst.mono (by simp; exact S.rM), d1, fun H1 r1 k1 => k H1 (S.num r1 k1) k1 d2⟩
theorem row_rd {row : List Int} (h1 : σ[1]? = some (some (.ref r))) (S : St8 K CE CR M H sl r a ns x p) (hd : ns.drop p = (row.length : Int) :: (row ++ l))
    (k : ∀ H1 lr, St8 K CE CR M H1 sl r a ns x (p + 1 + row.length) → Keep [r] H H1 → ns.drop (p + 1 + row.length) = l → H1 lr = some (.lst (row.map V.int)) → H lr = Option.none → Q (.ref lr) H1) :
    tMeth CR "row" (spRow K CR) [] E0 (tVar 1) tNil σ H Q := by
  obtain ⟨dx, hrd⟩ := S.rd
  exact ⟨_, h1, r, dx, _, rfl, hrd, rf_no _ _ (by decide +kernel) (by decide +kernel), r, a, p, ns, row, l, rfl, S.rd, S.lst.mono (by simp; exact S.rM), hd, fun H1 lr r1 k1 e1 n1 => k H1 lr (S.num r1 k1) k1 (drop_row hd) e1 n1⟩
theorem in_num (h0 : σ[0]? = some (some (.ref sl))) (h1 : σ[1]? = some (some (.ref r))) (S : St8 K CE CR M H sl r a ns x p) (hd : ns.drop p = i :: l) (hi : 0 ≤ i)
    (k : ∀ H1 v, St8 K CE CR M H1 sl r a ns x (p + 1) → Keep [r] H H1 → ns.drop (p + 1) = l → SlotV CE M H1 v (Dl.slot x i.toNat) → Q v H1) :
    tCall (spIn K CE CR) [] E0 (tCons (tVar 0) (tCons (tMeth CR "number" (spNum K CR) [] E0 (tVar 1) tNil) tNil)) σ H Q :=
  ⟨_, h0, num_rd h1 S hd fun H1 S1 k1 d1 => ⟨M, sl, r, a, ns, x, p + 1, i, rfl, hi, S1, fun v hv => k H1 v S1 k1 d1 hv⟩⟩
end
/-! ### look -/
theorem sc29 : FnScope ["slots", "reader", "edit", "new_size"] ["slots", "reader"] (defScope (top 29)) := ⟨rfl, rfl, rfl, by decide +kernel, rfl, by decide +kernel, by decide +kernel⟩
theorem ans_look (T : Txt K mg CE CR) : Ans P w K mg base CE CR 3 2 := fun f fd F => by
  refine Fun.ok (st := top 29) F sc29 call_len (fun cdv A outer s H vs Q E hr h => ?_)
  obtain ⟨M, sl, r, a, ns, x, p, t, rs, rest, rfl, h⟩ := h
  have hr1 : Room 1 _ := hr.mono (by decide)
  refine ⟨_, pss_cons (ps_set (i := 2) sc29.nd rfl (Or.inl rfl) (pe_fn (cal_in T) hr1 (by rfl) (pa_cons (pv 0) (pa_cons (pe_mth (pv 1) T.clR (cal_num T) hr1) pa_nil))))
    (pss_cons (ps_if (pt_cmp (pc_isN (pv 2))) (pss_one (ps_ret (pe_lst (pa_cons (pe_un un_neg pe_int) pa_nil)))) pss_nil)
    (pss_cons (ps_set (i := 3) sc29.nd rfl (Or.inl rfl) (pe_callB call_len_seq (by rfl) T.nLen PySem.boot_len (pa_cons (pe_fld (pv 2) rfl) pa_nil)))
    (pss_one (ps_ret (pe_lst (pa_cons pe_int (pa_cons (pe_fld (pv 2) rfl) (pa_cons (pv 3) (pa_cons (pe_op op_sub (pv 3) (pe_callB call_len_seq (by rfl) T.nLen PySem.boot_len (pa_cons (pe_fn (cal_new T) hr (by rfl) (pa_cons (pv 2) pa_nil)) pa_nil))) pa_nil))))))))), ?_⟩
  obtain ⟨e1, e2⟩ := sh_eq (show some (1, 0) = some (t.length, rs.length) from h.shape)
  obtain ⟨i, rfl⟩ := len_1 e1
  obtain rfl := len_0 e2
  have hi : 0 ≤ i := whole_nn h.asked
  have hd : ns.drop p = i :: rest := h.drop
  have es := step_look x i
  refine in_num rfl rfl h.st hd hi fun H1 v S1 k1 d2 hv => ?_
  cases hsl : Dl.slot x i.toNat with
  | none =>
    rw [hsl] at hv es
    cases hv
    refine ⟨_, rfl, _, rfl, ite_non ?_⟩
    exact ⟨_, rfl, (by show 1 ≤ sizeLine; decide), fun l hl => h.fin es S1 d2 (keep_two1 k1) hl rfl⟩
  | some d =>
    rw [hsl] at hv es
    obtain ⟨e, rfl, E1⟩ := hv
    have fd := h.st.good.slot hsl
    refine ⟨_, rfl, _, rfl, ite_ref ?_⟩
    have E1' := E1
    obtain ⟨dx2, o, he, ho, _, _⟩ := E1'
    refine ⟨_, rfl, e, CE, dx2, _, _, rfl, he, T.clE, T.nOr, ef_ori _ _, o, _, rfl, .inl (SqL.of ho), ?_⟩
    refine ⟨_, rfl, e, CE, dx2, _, _, rfl, he, T.clE, T.nOs, ef_old _ _, _, rfl, _, rfl, _, rfl, e, d, rfl, E1.bare, fd, fun H2 lb s2 nb hb => ?_⟩
    refine ⟨lb, _, rfl, .inl (SqL.of hb), _, _, rfl, rfl, (by show 4 ≤ sizeLine; decide), fun l hl => ?_⟩
    refine h.fin es (S1.same s2) d2 ((keep_two1 k1).trans (keep_same s2)) hl ?_
    have hk := kept_len d
    have hn : ((nums (Dl.newBytes d)).map V.int).length = (Dl.newBytes d).length := by simp [nums]
    rw [hn, List.length_map, List.length_map]
    show [V.int 0, V.int (d.base : Int), V.int (d.out.length : Int), V.int ((d.out.length : Int) - ((Dl.newBytes d).length : Int))] = [V.int 0, V.int (d.base : Int), V.int (d.out.length : Int), V.int ((Dl.kept d).length : Int)]
    rw [show (d.out.length : Int) - ((Dl.newBytes d).length : Int) = ((Dl.kept d).length : Int) by omega]
/-! ### items -/
theorem sc30 : FnScope ["slots", "reader", "edit", "items"] ["slots", "reader"] (defScope (top 30)) := ⟨rfl, rfl, rfl, by decide +kernel, rfl, by decide +kernel, by decide +kernel⟩
theorem ans_items (T : Txt K mg CE CR) : Ans P w K mg base CE CR 3 3 := fun f fd F => by
  refine Fun.ok (st := top 30) F sc30 call_len (fun cdv A outer s H vs Q E hr h => ?_)
  obtain ⟨M, sl, r, a, ns, x, p, t, rs, rest, rfl, h⟩ := h
  have hr1 : Room 1 _ := hr.mono (by decide)
  refine ⟨_, pss_cons (ps_set (i := 2) sc30.nd rfl (Or.inl rfl) (pe_fn (cal_in T) hr1 (by rfl) (pa_cons (pv 0) (pa_cons (pe_mth (pv 1) T.clR (cal_num T) hr1) pa_nil))))
    (pss_cons (ps_if (pt_cmp (pc_isN (pv 2))) (pss_one (ps_ret (pe_lst (pa_cons (pe_un un_neg pe_int) pa_nil)))) pss_nil)
    (pss_cons (ps_set (i := 3) sc30.nd rfl (Or.inl rfl) (pe_fn (cal_form T) hr (by rfl) (pa_cons (pv 2) pa_nil)))
    (pss_one (ps_ret (pe_op op_cat (pe_lst (pa_cons (pe_op op_fdiv (pe_callB call_len_seq (by rfl) T.nLen PySem.boot_len (pa_cons (pv 3) pa_nil)) pe_int) pa_nil)) (pv 3)))))), ?_⟩
  obtain ⟨e1, e2⟩ := sh_eq (show some (1, 0) = some (t.length, rs.length) from h.shape)
  obtain ⟨i, rfl⟩ := len_1 e1
  obtain rfl := len_0 e2
  have hi : 0 ≤ i := whole_nn h.asked
  have hd : ns.drop p = i :: rest := h.drop
  have es := step_items x i
  refine in_num rfl rfl h.st hd hi fun H1 v S1 k1 d2 hv => ?_
  cases hsl : Dl.slot x i.toNat with
  | none =>
    rw [hsl] at hv es
    cases hv
    refine ⟨_, rfl, _, rfl, ite_non ?_⟩
    exact ⟨_, rfl, (by show 1 ≤ sizeLine; decide), fun l hl => h.fin es S1 d2 (keep_two1 k1) hl rfl⟩
  | some d =>
    rw [hsl] at hv es
    obtain ⟨e, rfl, E1⟩ := hv
    have fd := h.st.good.slot hsl
    obtain ⟨f1, f2⟩ := flat_form fd.up
    have f3 := items_len fd
    have f4 := flatR_len (formR d)
    refine ⟨_, rfl, _, rfl, ite_ref ?_⟩
    refine ⟨_, rfl, e, d, rfl, E1.bare, fd, fun H2 lb s2 nb hb => ?_⟩
    refine ⟨_, rfl, lb, _, rfl, .inl (SqL.of hb), _, _, rfl, rfl, ⟨by decide, by decide⟩, (by show 1 ≤ sizeLine; decide), fun l1 hl1 => ?_⟩
    have n1 : lb ≠ l1 := ne_of_none hb hl1
    refine ⟨_, rfl, l1, lb, _, _, rfl, rfl, upd_same, (by rw [upd_ne n1]; exact hb), le_line ?_, fun l hl => ?_⟩
    · show 1 + ((flatR (formR d)).map V.int).length ≤ _
      rw [List.length_map]
      omega
    · have s3 := s2.trans (same_upd (u := HO.lst [V.int ((((flatR (formR d)).map V.int).length : Int) / 2)]) hl1)
      refine h.fin es (S1.same s3) d2 ((keep_two1 k1).trans (keep_same s3)) hl ?_
      show V.int ((((flatR (formR d)).map V.int).length : Int) / 2) :: (flatR (formR d)).map V.int = V.int ((Dl.itemsIn d).length : Int) :: (DlNeutral.ints _).map V.int
      rw [← f1, List.length_map, show ((flatR (formR d)).length : Int) / 2 = ((Dl.itemsIn d).length : Int) by omega]
/-! ### bytes -/
theorem sc31 : FnScope ["slots", "reader", "edit", "octets"] ["slots", "reader"] (defScope (top 31)) := ⟨rfl, rfl, rfl, by decide +kernel, rfl, by decide +kernel, by decide +kernel⟩
theorem ans_bytes (T : Txt K mg CE CR) : Ans P w K mg base CE CR 3 4 := fun f fd F => by
  refine Fun.ok (st := top 31) F sc31 call_len (fun cdv A outer s H vs Q E hr h => ?_)
  obtain ⟨M, sl, r, a, ns, x, p, t, rs, rest, rfl, h⟩ := h
  have hr1 : Room 1 _ := hr.mono (by decide)
  refine ⟨_, pss_cons (ps_set (i := 2) sc31.nd rfl (Or.inl rfl) (pe_fn (cal_in T) hr1 (by rfl) (pa_cons (pv 0) (pa_cons (pe_mth (pv 1) T.clR (cal_num T) hr1) pa_nil))))
    (pss_cons (ps_if (pt_cmp (pc_isN (pv 2))) (pss_one (ps_ret (pe_lst (pa_cons (pe_un un_neg pe_int) pa_nil)))) pss_nil)
    (pss_cons (ps_set (i := 3) sc31.nd rfl (Or.inl rfl) (pe_fn (cal_new T) hr (by rfl) (pa_cons (pv 2) pa_nil)))
    (pss_one (ps_ret (pe_op op_cat (pe_lst (pa_cons pe_int (pa_cons (pe_callB call_len_seq (by rfl) T.nLen PySem.boot_len (pa_cons (pv 3) pa_nil)) pa_nil))) (pv 3)))))), ?_⟩
  obtain ⟨e1, e2⟩ := sh_eq (show some (1, 0) = some (t.length, rs.length) from h.shape)
  obtain ⟨i, rfl⟩ := len_1 e1
  obtain rfl := len_0 e2
  have hi : 0 ≤ i := whole_nn h.asked
  have hd : ns.drop p = i :: rest := h.drop
  have es := step_bytes x i
  refine in_num rfl rfl h.st hd hi fun H1 v S1 k1 d2 hv => ?_
  cases hsl : Dl.slot x i.toNat with
  | none =>
    rw [hsl] at hv es
    cases hv
    refine ⟨_, rfl, _, rfl, ite_non ?_⟩
    exact ⟨_, rfl, (by show 1 ≤ sizeLine; decide), fun l hl => h.fin es S1 d2 (keep_two1 k1) hl rfl⟩
  | some d =>
    rw [hsl] at hv es
    obtain ⟨e, rfl, E1⟩ := hv
    have fd := h.st.good.slot hsl
    have f3 := kept_len d
    have f4 := fd.new
    have f5 : (nums (Dl.newBytes d)).length = (Dl.newBytes d).length := by simp [nums]
    refine ⟨_, rfl, _, rfl, ite_ref ?_⟩
    refine ⟨_, rfl, e, d, rfl, E1.bare, fd, fun H2 lb s2 nb hb => ?_⟩
    refine ⟨_, rfl, lb, _, rfl, .inl (SqL.of hb), (by show 2 ≤ sizeLine; decide), fun l1 hl1 => ?_⟩
    have n1 : lb ≠ l1 := ne_of_none hb hl1
    refine ⟨_, rfl, l1, lb, _, _, rfl, rfl, upd_same, (by rw [upd_ne n1]; exact hb), le_line ?_, fun l hl => ?_⟩
    · show 2 + ((nums (Dl.newBytes d)).map V.int).length ≤ _
      rw [List.length_map]
      omega
    · have s3 := s2.trans (same_upd (u := HO.lst [V.int 0, V.int (((nums (Dl.newBytes d)).map V.int).length : Int)]) hl1)
      refine h.fin es (S1.same s3) d2 ((keep_two1 k1).trans (keep_same s3)) hl ?_
      show V.int 0 :: V.int ((((nums (Dl.newBytes d)).map V.int).length : Nat) : Int) :: (nums (Dl.newBytes d)).map V.int = V.int 0 :: V.int ((Dl.newBytes d).length : Int) :: (nums (Dl.newBytes d)).map V.int
      rw [List.length_map, f5]
end
end Ed

set_option Elab.async false
set_option linter.all false
set_option maxRecDepth 100000
set_option maxHeartbeats 2000000
/-! The calls apply, set, then, back, over, place, same. -/
namespace Ed
open PySem PySem.Spec PyProof.Rows L2
theorem put_one (b rest : List Int) : PyFlat.putRows [b] ++ rest = (b.length : Int) :: (b ++ rest) := by
  simp [PyFlat.putRows, PyFlat.putRow]
theorem put_two (l b rest : List Int) : PyFlat.putRows [l, b] ++ rest = (l.length : Int) :: (l ++ ((b.length : Int) :: (b ++ rest))) := by
  simp [PyFlat.putRows, PyFlat.putRow]
theorem ixN_int {n : Nat} {k : Int} (h0 : 0 ≤ k) (h : k < n) : ixN n k = some k.toNat := by
  unfold ixN
  rw [if_pos h0, if_pos h]
theorem keep_two2 {sl r : Addr} {H H1 : Hp} (k : Keep [sl] H H1) : Keep [sl, r] H H1 := k.mono (by simp)
theorem keep_upd {H : Hp} {l : Addr} {u : HO} : Keep [l] H (upd H l u) := fun b o q hb => by
  rw [upd_ne (by simpa using hb)]
  exact q
theorem refuse_zero {k : Int} {l b : List Int} (h : refuse k l b = 0) : l.length % 2 = 0 ∧ l.length ≤ 4098 := by
  unfold refuse at h
  by_cases c1 : 8 ≤ k ∨ l.length % 2 ≠ 0
  · rw [if_pos c1] at h
    cases h
  · rw [if_neg c1] at h
    by_cases c2 : 4098 < l.length ∨ 1024 < b.length
    · rw [if_pos c2] at h
      cases h
    · omega
section
variable {P : Program} {w : World} {K : PySem.W.Frag} {mg : Str → Option Value} {base : Heap} {CE CR : Addr}
/-! ### apply -/
theorem sc32 : FnScope ["slots", "reader", "edit", "old_text", "text"] ["slots", "reader"] (defScope (top 32)) := ⟨rfl, rfl, rfl, by decide +kernel, rfl, by decide +kernel, by decide +kernel⟩
theorem ans_apply (T : Txt K mg CE CR) : Ans P w K mg base CE CR 3 5 := fun f fd F => by
  refine Fun.ok (st := top 32) F sc32 call_len (fun cdv A outer s H vs Q E hr h => ?_)
  obtain ⟨M, sl, r, a, ns, x, p, t, rs, rest, rfl, h⟩ := h
  have hr1 : Room 1 _ := hr.mono (by decide)
  refine ⟨_, pss_cons (ps_set (i := 2) sc32.nd rfl (Or.inl rfl) (pe_fn (cal_in T) hr1 (by rfl) (pa_cons (pv 0) (pa_cons (pe_mth (pv 1) T.clR (cal_num T) hr1) pa_nil))))
    (pss_cons (ps_set (i := 3) sc32.nd rfl (Or.inl rfl) (pe_mth (pv 1) T.clR (cal_row T) hr))
    (pss_cons (ps_if (pt_cmp (pc_isN (pv 2))) (pss_one (ps_ret (pe_lst (pa_cons (pe_un un_neg pe_int) pa_nil)))) pss_nil)
    (pss_cons (ps_if (pt_cmpR op_ne (pe_callB call_len_seq (by rfl) T.nLen PySem.boot_len (pa_cons (pv 3) pa_nil)) (pe_fld (pv 2) rfl) (nomark _)) (pss_one (ps_ret (pe_lst (pa_cons (pe_un un_neg pe_int) pa_nil)))) pss_nil)
    (pss_cons (ps_set (i := 4) sc32.nd rfl (Or.inl rfl) (pe_fn (cal_text T) hr (by rfl) (pa_cons (pv 2) (pa_cons (pv 3) pa_nil))))
    (pss_one (ps_ret (pe_op op_cat (pe_lst (pa_cons pe_int (pa_cons (pe_callB call_len_seq (by rfl) T.nLen PySem.boot_len (pa_cons (pv 4) pa_nil)) pa_nil))) (pv 4)))))))), ?_⟩
  obtain ⟨e1, e2⟩ := sh_eq (show some (1, 1) = some (t.length, rs.length) from h.shape)
  obtain ⟨i, rfl⟩ := len_1 e1
  obtain ⟨b, rfl⟩ := len_1 e2
  have hask : (DlNeutral.whole32 i && DlNeutral.byteRow b) = true := h.asked
  rw [Bool.and_eq_true] at hask
  have hi : 0 ≤ i := whole_nn hask.1
  have hd : ns.drop p = i :: ((b.length : Int) :: (b ++ rest)) := h.drop.trans (congrArg (i :: ·) (put_one b rest))
  have es := step_apply x i b
  refine in_num rfl rfl h.st hd hi fun H1 v S1 k1 d1 hv => ?_
  refine row_rd rfl S1 d1 fun H2 lr S2 k2 d2 hlr _ => ?_
  have hv := hv.keep (k2.mono (by simp; exact S1.rM))
  have k12 : Keep [sl, r] H H2 := keep_two1 (k1.trans k2)
  cases hsl : Dl.slot x i.toNat with
  | none =>
    rw [hsl] at hv es
    cases hv
    refine ⟨_, rfl, _, rfl, ite_non ?_⟩
    exact ⟨_, rfl, (by show 1 ≤ sizeLine; decide), fun l hl => h.fin es S2 d2 k12 hl rfl⟩
  | some d =>
    rw [hsl] at hv es
    obtain ⟨e, rfl, E1⟩ := hv
    have fd := h.st.good.slot hsl
    refine ⟨_, rfl, _, rfl, ite_ref ?_⟩
    have E1' := E1
    obtain ⟨dx2, o, he, ho, _, _⟩ := E1'
    refine ⟨_, rfl, lr, _, rfl, .inl (SqL.of hlr), _, rfl, e, CE, dx2, _, _, rfl, he, T.clE, T.nOs, ef_old _ _, rfl, _, rfl, ite2 (fun c => ?_) (fun c => ?_)⟩
    · have c := ne_tt.mp c
      rw [List.length_map] at c
      have c : b.length ≠ d.base := by omega
      dsimp only at es
      rw [if_pos c] at es
      exact ⟨_, rfl, (by show 1 ≤ sizeLine; decide), fun l hl => h.fin es S2 d2 k12 hl rfl⟩
    · have c : ¬ b.length ≠ d.base := fun q => c (ne_tt.mpr (by rw [List.length_map]; omega))
      dsimp only at es
      rw [if_neg c] at es
      have c : b.length = d.base := Decidable.not_not.mp c
      have f4 := fd.new
      refine ⟨_, rfl, _, rfl, e, lr, d, b, rfl, E1.bare, fd, SqL.of hlr, c, fun H3 lt s3 _ ht => ?_⟩
      refine ⟨_, rfl, lt, _, rfl, .inl (SqL.of ht), (by show 2 ≤ sizeLine; decide), fun l1 hl1 => ?_⟩
      have n1 : lt ≠ l1 := ne_of_none ht hl1
      refine ⟨_, rfl, l1, lt, _, _, rfl, rfl, upd_same, (by rw [upd_ne n1]; exact ht), le_line ?_, fun l hl => ?_⟩
      · show 2 + (((d.out.map enc).map (pick b)).map V.int).length ≤ _
        simp only [List.length_map]
        omega
      · have s4 := s3.trans (same_upd (u := HO.lst [V.int 0, V.int ((((d.out.map enc).map (pick b)).map V.int).length : Int)]) hl1)
        refine h.fin es (S2.same s4) d2 (k12.trans (keep_same s4)) hl ?_
        rw [done_nums, nums_bytesOf hask.2]
        show V.int 0 :: V.int (((((d.out.map enc).map (pick b)).map V.int).length : Nat) : Int) :: ((d.out.map enc).map (pick b)).map V.int = V.int 0 :: V.int ((Dl.done d (DlNeutral.bytesOf b)).length : Int) :: ((d.out.map enc).map (pick b)).map V.int
        unfold Dl.done
        simp only [List.length_map]
/-! ### set -/
theorem sc28 : FnScope ["slots", "reader", "k", "items", "octets", "refusal"] ["slots", "reader"] (defScope (top 28)) := ⟨rfl, rfl, rfl, by decide +kernel, rfl, by decide +kernel, by decide +kernel⟩
theorem ans_set (T : Txt K mg CE CR) : Ans P w K mg base CE CR 4 1 := fun f fd F => by
  refine Fun.ok (st := top 28) F sc28 call_len (fun cdv A outer s H vs Q E hr h => ?_)
  obtain ⟨M, sl, r, a, ns, x, p, t, rs, rest, rfl, h⟩ := h
  have hr1 : Room 1 _ := hr.mono (by decide)
  have hr2 : Room 2 _ := hr.mono (by decide)
  refine ⟨_, pss_cons (ps_set (i := 2) sc28.nd rfl (Or.inl rfl) (pe_mth (pv 1) T.clR (cal_num T) hr1))
    (pss_cons (ps_set (i := 3) sc28.nd rfl (Or.inl rfl) (pe_mth (pv 1) T.clR (cal_row T) hr2))
    (pss_cons (ps_set (i := 4) sc28.nd rfl (Or.inl rfl) (pe_mth (pv 1) T.clR (cal_row T) hr2))
    (pss_cons (ps_set (i := 5) sc28.nd rfl (Or.inl rfl) (pe_fn (cal_refuse T) hr2 (by rfl) (pa_cons (pv 2) (pa_cons (pv 3) (pa_cons (pv 4) pa_nil)))))
    (pss_cons (ps_if (pt_cmpR op_eq (pv 5) pe_int (nomark _)) (pss_one (ps_asg (pe_fn (cal_edit_of T) hr (by rfl) (pa_cons (pv 3) (pa_cons (pv 4) pa_nil))) (pg_sub (pv 0) (pv 2) set_list))) pss_nil)
    (pss_one (ps_ret (pe_lst (pa_cons (pv 5) pa_nil)))))))), ?_⟩
  obtain ⟨e1, e2⟩ := sh_eq (show some (1, 2) = some (t.length, rs.length) from h.shape)
  obtain ⟨k, rfl⟩ := len_1 e1
  obtain ⟨l, b, rfl⟩ := len_2 e2
  have hask : (DlNeutral.whole32 k && (l.all DlNeutral.whole32 && DlNeutral.byteRow b)) = true := h.asked
  rw [Bool.and_eq_true, Bool.and_eq_true] at hask
  have hk : 0 ≤ k := whole_nn hask.1
  have hp : ∀ z ∈ l, 0 ≤ z := fun z hz => whole_nn (List.all_eq_true.mp hask.2.1 z hz)
  have hd : ns.drop p = k :: ((l.length : Int) :: (l ++ ((b.length : Int) :: (b ++ rest)))) := h.drop.trans (congrArg (k :: ·) (put_two l b rest))
  have hll : l.length ≤ 30000 := by
    have h1 := congrArg List.length hd
    have h2 := h.few
    simp only [List.length_drop, List.length_cons, List.length_append] at h1
    omega
  refine num_rd rfl h.st hd fun H1 S1 k1 d1 => ?_
  refine row_rd rfl S1 d1 fun H2 li S2 k2 d2 hli _ => ?_
  refine row_rd rfl S2 d2 fun H3 lb S3 k3 d3 hlb _ => ?_
  have hli3 : H3 li = some (.lst (l.map V.int)) := k3 _ _ hli (by
    obtain ⟨dx, q⟩ := S2.rd
    simpa using ne_of hli q (by intro z; cases z))
  have k13 : Keep [sl, r] H H3 := keep_two1 ((k1.trans k2).trans k3)
  refine ⟨_, rfl, _, rfl, _, rfl, k, li, lb, l, b, rfl, SqL.of hli3, SqL.of hlb, hll, hp, fun H4 s4 => ?_⟩
  have S4 := S3.same s4
  have k14 : Keep [sl, r] H H4 := k13.trans (keep_same s4)
  rcases step_set (x := x) (l := l) (b := b) hk with ⟨hz, es⟩ | ⟨hz, hk8, its, hits, hf, es⟩
  · refine ⟨_, rfl, rfl, _, rfl, ite2 (fun c => absurd (V.int.inj (of_decide_eq_true c)) hz) (fun _ => ?_)⟩
    exact ⟨_, rfl, (by show 1 ≤ sizeLine; decide), fun l hl => h.fin es S4 d3 k14 hl rfl⟩
  · refine ⟨_, rfl, rfl, _, rfl, ite2 (fun _ => ?_) (fun c => absurd (decide_eq_true (congrArg V.int hz)) c)⟩
    obtain ⟨z1, z2⟩ := refuse_zero hz
    refine ⟨_, rfl, _, rfl, li, lb, l, b, l.length / 2, its, rfl, SqL.of (s4 _ _ hli3), SqL.of (s4 _ _ hlb), (by omega), (by omega), hp, hask.2.2, hits, hf, fun H5 e s5 ne => ?_⟩
    have S5 := S4.same s5
    have E5 : EditAt CE M H5 e (Dl.deltaOf its) := ne.at_ S4.tr
    obtain ⟨vs, hvs, hv8, _⟩ := S5.slots
    refine ⟨_, rfl, _, rfl, sl, _, _, k.toNat, rfl, rfl, hvs, ixN_int hk (by rw [hv8]; exact hk8), ?_⟩
    have S6 := S5.put (k := k.toNat) (by omega) hf E5 hvs
    refine ⟨_, rfl, (by show 1 ≤ sizeLine; decide), fun l hl => h.fin es S6 d3 ((k14.trans (keep_same s5)).trans (keep_two2 keep_upd)) hl ?_⟩
    show [V.int (refuse k _ b)] = [V.int 0]
    rw [hz]
/-! ### then -/
theorem sc33 : FnScope ["slots", "reader", "one", "other", "k"] ["slots", "reader"] (defScope (top 33)) := ⟨rfl, rfl, rfl, by decide +kernel, rfl, by decide +kernel, by decide +kernel⟩
theorem ans_then (T : Txt K mg CE CR) : Ans P w K mg base CE CR 4 6 := fun f fd F => by
  refine Fun.ok (st := top 33) F sc33 call_len (fun cdv A outer s H vs Q E hr h => ?_)
  obtain ⟨M, sl, r, a, ns, x, p, t, rs, rest, rfl, h⟩ := h
  have hr1 : Room 1 _ := hr.mono (by decide)
  refine ⟨_, pss_cons (ps_set (i := 2) sc33.nd rfl (Or.inl rfl) (pe_fn (cal_in T) hr1 (by rfl) (pa_cons (pv 0) (pa_cons (pe_mth (pv 1) T.clR (cal_num T) hr1) pa_nil))))
    (pss_cons (ps_set (i := 3) sc33.nd rfl (Or.inl rfl) (pe_fn (cal_in T) hr1 (by rfl) (pa_cons (pv 0) (pa_cons (pe_mth (pv 1) T.clR (cal_num T) hr1) pa_nil))))
    (pss_cons (ps_set (i := 4) sc33.nd rfl (Or.inl rfl) (pe_mth (pv 1) T.clR (cal_num T) hr1))
    (pss_cons (ps_if (pw_or (pt_cmp (pc_isN (pv 2))) (pw_or (pt_cmp (pc_isN (pv 3))) (pw_or1 (pt_cmpR op_ge (pv 4) (pe_top (by rfl) T.cS) (nomark _))))).pt (pss_one (ps_ret (pe_lst (pa_cons (pe_un un_neg pe_int) pa_nil)))) pss_nil)
    (pss_cons (ps_if (pt_cmpR op_ne (pe_callB call_len_seq (by rfl) T.nLen PySem.boot_len (pa_cons (pe_fld (pv 2) rfl) pa_nil)) (pe_fld (pv 3) rfl) (nomark _)) (pss_one (ps_ret (pe_lst (pa_cons (pe_un un_neg pe_int) pa_nil)))) pss_nil)
    (pss_cons (ps_asg (pe_fn (cal_then T) hr (by rfl) (pa_cons (pv 2) (pa_cons (pv 3) pa_nil))) (pg_sub (pv 0) (pv 4) set_list))
    (pss_one (ps_ret (pe_lst (pa_cons pe_int pa_nil))))))))), ?_⟩
  obtain ⟨e1, e2⟩ := sh_eq (show some (3, 0) = some (t.length, rs.length) from h.shape)
  obtain ⟨i, j, k, rfl⟩ := len_3 e1
  obtain rfl := len_0 e2
  have hask : (DlNeutral.whole32 i && (DlNeutral.whole32 j && DlNeutral.whole32 k)) = true := h.asked
  rw [Bool.and_eq_true, Bool.and_eq_true] at hask
  have hk : 0 ≤ k := whole_nn hask.2.2
  have hd : ns.drop p = i :: (j :: (k :: rest)) := h.drop
  have es := step_then x i j k
  refine in_num rfl rfl h.st hd (whole_nn hask.1) fun H1 v1 S1 k1 d1 hv1 => ?_
  refine in_num rfl rfl S1 d1 (whole_nn hask.2.1) fun H2 v2 S2 k2 d2 hv2 => ?_
  refine num_rd rfl S2 d2 fun H3 S3 k3 d3 => ?_
  have hv1 := hv1.keep ((k2.trans k3).mono (by simp; exact S1.rM))
  have hv2 := hv2.keep (k3.mono (by simp; exact S1.rM))
  have k13 : Keep [sl, r] H H3 := keep_two1 ((k1.trans k2).trans k3)
  cases hsl : Dl.slot x i.toNat with
  | none =>
    rw [hsl] at hv1 es
    cases hv1
    exact ⟨_, rfl, _, rfl, ite_non (iteT ⟨_, rfl, (by show 1 ≤ sizeLine; decide), fun l hl => h.fin (es.trans rfl) S3 d3 k13 hl rfl⟩)⟩
  | some d =>
    rw [hsl] at hv1 es
    obtain ⟨ed, rfl, E1⟩ := hv1
    cases hsj : Dl.slot x j.toNat with
    | none =>
      rw [hsj] at hv2 es
      cases hv2
      exact ⟨_, rfl, _, rfl, ite_ref ⟨_, rfl, _, rfl, ite_non (iteT ⟨_, rfl, (by show 1 ≤ sizeLine; decide), fun l hl => h.fin (es.trans rfl) S3 d3 k13 hl rfl⟩)⟩⟩
    | some e =>
      rw [hsj] at hv2 es
      obtain ⟨ee, rfl, E2⟩ := hv2
      dsimp only at es
      have fd := h.st.good.slot hsl
      have fe := h.st.good.slot hsj
      refine ⟨_, rfl, _, rfl, ite_ref ⟨_, rfl, _, rfl, ite_ref ⟨_, rfl, _, _, rfl, rfl, _, rfl, ite2 (fun c => ?_) (fun c => ?_)⟩⟩⟩
      · have c : (8 : Int) ≤ k := of_decide_eq_true c
        rw [if_pos (show 8 ≤ k.toNat by omega)] at es
        exact ⟨_, rfl, (by show 1 ≤ sizeLine; decide), fun l hl => h.fin es S3 d3 k13 hl rfl⟩
      · have c : ¬ (8 : Int) ≤ k := fun q => c (decide_eq_true q)
        rw [if_neg (show ¬ 8 ≤ k.toNat by omega)] at es
        have E1' := E1
        have E2' := E2
        obtain ⟨dx1, o1, he1, ho1, _, _⟩ := E1'
        obtain ⟨dx2, o2, he2, ho2, _, _⟩ := E2'
        refine ⟨_, rfl, ed, CE, dx1, _, _, rfl, he1, T.clE, T.nOr, ef_ori _ _, o1, _, rfl, .inl (SqL.of ho1), _, rfl, ee, CE, dx2, _, _, rfl, he2, T.clE, T.nOs, ef_old _ _, rfl, _, rfl, ite2 (fun c2 => ?_) (fun c2 => ?_)⟩
        · have c2 := ne_tt.mp c2
          rw [List.length_map, List.length_map] at c2
          rw [if_pos (show d.out.length ≠ e.base by omega)] at es
          exact ⟨_, rfl, (by show 1 ≤ sizeLine; decide), fun l hl => h.fin es S3 d3 k13 hl rfl⟩
        · have c2 : d.out.length = e.base := Decidable.byContradiction fun q => c2 (ne_tt.mpr (by rw [List.length_map, List.length_map]; omega))
          rw [if_neg (by omega)] at es
          have hf := fits_after fd fe c2
          rw [into_ok hf] at es
          refine ⟨_, rfl, _, rfl, ed, ee, d, e, rfl, E1.bare, E2.bare, fd, fe, c2, fun H5 en s5 ne => ?_⟩
          have S5 := S3.same s5
          have E5 : EditAt CE M H5 en (Dl.after d e) := ne.at_ S3.tr
          obtain ⟨vs, hvs, hv8, _⟩ := S5.slots
          refine ⟨_, rfl, _, rfl, sl, _, _, k.toNat, rfl, rfl, hvs, ixN_int hk (by rw [hv8]; omega), ?_⟩
          have S6 := S5.put (k := k.toNat) (by omega) hf E5 hvs
          exact ⟨(by show 1 ≤ sizeLine; decide), fun l hl => h.fin es S6 d3 ((k13.trans (keep_same s5)).trans (keep_two2 keep_upd)) hl rfl⟩
/-! ### back -/
theorem sc34 : FnScope ["slots", "reader", "edit", "k", "old_text"] ["slots", "reader"] (defScope (top 34)) := ⟨rfl, rfl, rfl, by decide +kernel, rfl, by decide +kernel, by decide +kernel⟩
theorem ans_back (T : Txt K mg CE CR) : Ans P w K mg base CE CR 4 7 := fun f fd F => by
  refine Fun.ok (st := top 34) F sc34 call_len (fun cdv A outer s H vs Q E hr h => ?_)
  obtain ⟨M, sl, r, a, ns, x, p, t, rs, rest, rfl, h⟩ := h
  have hr1 : Room 1 _ := hr.mono (by decide)
  have hr2 : Room 2 _ := hr.mono (by decide)
  refine ⟨_, pss_cons (ps_set (i := 2) sc34.nd rfl (Or.inl rfl) (pe_fn (cal_in T) hr1 (by rfl) (pa_cons (pv 0) (pa_cons (pe_mth (pv 1) T.clR (cal_num T) hr1) pa_nil))))
    (pss_cons (ps_set (i := 3) sc34.nd rfl (Or.inl rfl) (pe_mth (pv 1) T.clR (cal_num T) hr1))
    (pss_cons (ps_set (i := 4) sc34.nd rfl (Or.inl rfl) (pe_mth (pv 1) T.clR (cal_row T) hr2))
    (pss_cons (ps_if (pw_or (pt_cmp (pc_isN (pv 2))) (pw_or1 (pt_cmpR op_ge (pv 3) (pe_top (by rfl) T.cS) (nomark _)))).pt (pss_one (ps_ret (pe_lst (pa_cons (pe_un un_neg pe_int) pa_nil)))) pss_nil)
    (pss_cons (ps_if (pt_cmpR op_ne (pe_callB call_len_seq (by rfl) T.nLen PySem.boot_len (pa_cons (pv 4) pa_nil)) (pe_fld (pv 2) rfl) (nomark _)) (pss_one (ps_ret (pe_lst (pa_cons (pe_un un_neg pe_int) pa_nil)))) pss_nil)
    (pss_cons (ps_asg (pe_fn (cal_back T) hr (by rfl) (pa_cons (pv 2) (pa_cons (pv 4) pa_nil))) (pg_sub (pv 0) (pv 3) set_list))
    (pss_one (ps_ret (pe_lst (pa_cons pe_int pa_nil))))))))), ?_⟩
  obtain ⟨e1, e2⟩ := sh_eq (show some (2, 1) = some (t.length, rs.length) from h.shape)
  obtain ⟨i, k, rfl⟩ := len_2 e1
  obtain ⟨b, rfl⟩ := len_1 e2
  have hask : (DlNeutral.whole32 i && (DlNeutral.whole32 k && DlNeutral.byteRow b)) = true := h.asked
  rw [Bool.and_eq_true, Bool.and_eq_true] at hask
  have hk : 0 ≤ k := whole_nn hask.2.1
  have hd : ns.drop p = i :: (k :: ((b.length : Int) :: (b ++ rest))) := h.drop.trans (congrArg (fun z => i :: k :: z) (put_one b rest))
  have es := step_back x i k b
  refine in_num rfl rfl h.st hd (whole_nn hask.1) fun H1 v1 S1 k1 d1 hv1 => ?_
  refine num_rd rfl S1 d1 fun H2 S2 k2 d2 => ?_
  refine row_rd rfl S2 d2 fun H3 lr S3 k3 d3 hlr _ => ?_
  have hv1 := hv1.keep ((k2.trans k3).mono (by simp; exact S1.rM))
  have k13 : Keep [sl, r] H H3 := keep_two1 ((k1.trans k2).trans k3)
  cases hsl : Dl.slot x i.toNat with
  | none =>
    rw [hsl] at hv1 es
    cases hv1
    exact ⟨_, rfl, _, rfl, ite_non (iteT ⟨_, rfl, (by show 1 ≤ sizeLine; decide), fun l hl => h.fin (es.trans rfl) S3 d3 k13 hl rfl⟩)⟩
  | some d =>
    rw [hsl] at hv1 es
    obtain ⟨ed, rfl, E1⟩ := hv1
    dsimp only at es
    have fd := h.st.good.slot hsl
    refine ⟨_, rfl, _, rfl, ite_ref ⟨_, rfl, _, _, rfl, rfl, _, rfl, ite2 (fun c => ?_) (fun c => ?_)⟩⟩
    · have c : (8 : Int) ≤ k := of_decide_eq_true c
      rw [if_pos (show 8 ≤ k.toNat by omega)] at es
      exact ⟨_, rfl, (by show 1 ≤ sizeLine; decide), fun l hl => h.fin es S3 d3 k13 hl rfl⟩
    · have c : ¬ (8 : Int) ≤ k := fun q => c (decide_eq_true q)
      rw [if_neg (show ¬ 8 ≤ k.toNat by omega)] at es
      have E1' := E1
      obtain ⟨dx1, o1, he1, ho1, _, _⟩ := E1'
      refine ⟨_, rfl, lr, _, rfl, .inl (SqL.of hlr), _, rfl, ed, CE, dx1, _, _, rfl, he1, T.clE, T.nOs, ef_old _ _, rfl, _, rfl, ite2 (fun c2 => ?_) (fun c2 => ?_)⟩
      · have c2 := ne_tt.mp c2
        rw [List.length_map] at c2
        rw [if_pos (show b.length ≠ d.base by omega)] at es
        exact ⟨_, rfl, (by show 1 ≤ sizeLine; decide), fun l hl => h.fin es S3 d3 k13 hl rfl⟩
      · have c2 : b.length = d.base := Decidable.byContradiction fun q => c2 (ne_tt.mpr (by rw [List.length_map]; omega))
        rw [if_neg (by omega)] at es
        have hf := fits_back fd (DlNeutral.bytesOf b)
        rw [into_ok hf] at es
        refine ⟨_, rfl, _, rfl, ed, lr, d, b, rfl, E1.bare, fd, SqL.of hlr, hask.2.2, c2, fun H5 en s5 ne => ?_⟩
        have S5 := S3.same s5
        have E5 : EditAt CE M H5 en (Dl.back d (DlNeutral.bytesOf b)) := ne.at_ S3.tr
        obtain ⟨vs, hvs, hv8, _⟩ := S5.slots
        refine ⟨_, rfl, _, rfl, sl, _, _, k.toNat, rfl, rfl, hvs, ixN_int hk (by rw [hv8]; omega), ?_⟩
        have S6 := S5.put (k := k.toNat) (by omega) hf E5 hvs
        exact ⟨(by show 1 ≤ sizeLine; decide), fun l hl => h.fin es S6 d3 ((k13.trans (keep_same s5)).trans (keep_two2 keep_upd)) hl rfl⟩
/-! ### over -/
theorem sc35 : FnScope ["slots", "reader", "edit", "other", "first", "k", "led"] ["slots", "reader"] (defScope (top 35)) := ⟨rfl, rfl, rfl, by decide +kernel, rfl, by decide +kernel, by decide +kernel⟩
theorem first_b {f : Int} (h : 0 ≤ f) : (!decide (V.int f = V.int 0)) = (f.toNat != 0) := by
  by_cases c : f = 0
  · subst c
    simp
  · have e1 : (!decide (V.int f = V.int 0)) = true := ne_tt.mpr c
    rw [e1]
    symm
    simp
    omega
theorem ans_over (T : Txt K mg CE CR) : Ans P w K mg base CE CR 4 8 := fun f fd F => by
  refine Fun.ok (st := top 35) F sc35 call_len (fun cdv A outer s H vs Q E hr h => ?_)
  obtain ⟨M, sl, r, a, ns, x, p, t, rs, rest, rfl, h⟩ := h
  have hr1 : Room 1 _ := hr.mono (by decide)
  refine ⟨_, pss_cons (ps_set (i := 2) sc35.nd rfl (Or.inl rfl) (pe_fn (cal_in T) hr1 (by rfl) (pa_cons (pv 0) (pa_cons (pe_mth (pv 1) T.clR (cal_num T) hr1) pa_nil))))
    (pss_cons (ps_set (i := 3) sc35.nd rfl (Or.inl rfl) (pe_fn (cal_in T) hr1 (by rfl) (pa_cons (pv 0) (pa_cons (pe_mth (pv 1) T.clR (cal_num T) hr1) pa_nil))))
    (pss_cons (ps_set (i := 4) sc35.nd rfl (Or.inl rfl) (pe_mth (pv 1) T.clR (cal_num T) hr1))
    (pss_cons (ps_set (i := 5) sc35.nd rfl (Or.inl rfl) (pe_mth (pv 1) T.clR (cal_num T) hr1))
    (pss_cons (ps_if (pw_or (pt_cmp (pc_isN (pv 2))) (pw_or (pt_cmp (pc_isN (pv 3))) (pw_or1 (pt_cmpR op_ge (pv 5) (pe_top (by rfl) T.cS) (nomark _))))).pt (pss_one (ps_ret (pe_lst (pa_cons (pe_un un_neg pe_int) pa_nil)))) pss_nil)
    (pss_cons (ps_if (pt_cmpR op_ne (pe_fld (pv 2) rfl) (pe_fld (pv 3) rfl) (nomark _)) (pss_one (ps_ret (pe_lst (pa_cons (pe_un un_neg pe_int) pa_nil)))) pss_nil)
    (pss_cons (ps_set (i := 6) sc35.nd rfl (Or.inl rfl) (pe_fn (cal_over T) hr (by rfl) (pa_cons (pv 2) (pa_cons (pv 3) (pa_cons (pe_cmpR op_ne (pv 4) pe_int (nomark _)) pa_nil)))))
    (pss_cons (ps_if (pt_cmpR op_gt (pe_callB call_len_seq (by rfl) T.nLen PySem.boot_len (pa_cons (pe_fld (pv 6) rfl) pa_nil)) (pe_top (by rfl) T.cL) (nomark _)) (pss_one (ps_ret (pe_lst (pa_cons (pe_un un_neg pe_int) pa_nil)))) pss_nil)
    (pss_cons (ps_asg (pv 6) (pg_sub (pv 0) (pv 5) set_list))
    (pss_one (ps_ret (pe_lst (pa_cons pe_int pa_nil)))))))))))), ?_⟩
  obtain ⟨e1, e2⟩ := sh_eq (show some (4, 0) = some (t.length, rs.length) from h.shape)
  obtain ⟨i, j, g, k, rfl⟩ := len_4 e1
  obtain rfl := len_0 e2
  have hask : (DlNeutral.whole32 i && (DlNeutral.whole32 j && (DlNeutral.whole32 g && DlNeutral.whole32 k))) = true := h.asked
  rw [Bool.and_eq_true, Bool.and_eq_true, Bool.and_eq_true] at hask
  have hk : 0 ≤ k := whole_nn hask.2.2.2
  have hg : 0 ≤ g := whole_nn hask.2.2.1
  have hd : ns.drop p = i :: (j :: (g :: (k :: rest))) := h.drop
  have es := step_over x i j g k
  refine in_num rfl rfl h.st hd (whole_nn hask.1) fun H1 v1 S1 k1 d1 hv1 => ?_
  refine in_num rfl rfl S1 d1 (whole_nn hask.2.1) fun H2 v2 S2 k2 d2 hv2 => ?_
  refine num_rd rfl S2 d2 fun H3 S3 k3 d3 => ?_
  refine num_rd rfl S3 d3 fun H4 S4 k4 d4 => ?_
  have hv1 := hv1.keep (((k2.trans k3).trans k4).mono (by simp; exact S1.rM))
  have hv2 := hv2.keep ((k3.trans k4).mono (by simp; exact S1.rM))
  have k14 : Keep [sl, r] H H4 := keep_two1 (((k1.trans k2).trans k3).trans k4)
  cases hsl : Dl.slot x i.toNat with
  | none =>
    rw [hsl] at hv1 es
    cases hv1
    exact ⟨_, rfl, _, rfl, ite_non (iteT ⟨_, rfl, (by show 1 ≤ sizeLine; decide), fun l hl => h.fin (es.trans rfl) S4 d4 k14 hl rfl⟩)⟩
  | some d =>
    rw [hsl] at hv1 es
    obtain ⟨ed, rfl, E1⟩ := hv1
    cases hsj : Dl.slot x j.toNat with
    | none =>
      rw [hsj] at hv2 es
      cases hv2
      exact ⟨_, rfl, _, rfl, ite_ref ⟨_, rfl, _, rfl, ite_non (iteT ⟨_, rfl, (by show 1 ≤ sizeLine; decide), fun l hl => h.fin (es.trans rfl) S4 d4 k14 hl rfl⟩)⟩⟩
    | some e =>
      rw [hsj] at hv2 es
      obtain ⟨ee, rfl, E2⟩ := hv2
      dsimp only at es
      have fd := h.st.good.slot hsl
      have fe := h.st.good.slot hsj
      refine ⟨_, rfl, _, rfl, ite_ref ⟨_, rfl, _, rfl, ite_ref ⟨_, rfl, _, _, rfl, rfl, _, rfl, ite2 (fun c => ?_) (fun c => ?_)⟩⟩⟩
      · have c : (8 : Int) ≤ k := of_decide_eq_true c
        rw [if_pos (show 8 ≤ k.toNat by omega)] at es
        exact ⟨_, rfl, (by show 1 ≤ sizeLine; decide), fun l hl => h.fin es S4 d4 k14 hl rfl⟩
      · have c : ¬ (8 : Int) ≤ k := fun q => c (decide_eq_true q)
        rw [if_neg (show ¬ 8 ≤ k.toNat by omega)] at es
        have E1' := E1
        have E2' := E2
        obtain ⟨dx1, o1, he1, ho1, _, _⟩ := E1'
        obtain ⟨dx2, o2, he2, ho2, _, _⟩ := E2'
        refine ⟨_, rfl, ed, CE, dx1, _, _, rfl, he1, T.clE, T.nOs, ef_old _ _, _, rfl, ee, CE, dx2, _, _, rfl, he2, T.clE, T.nOs, ef_old _ _, rfl, _, rfl, ite2 (fun c2 => ?_) (fun c2 => ?_)⟩
        · have c2 := ne_tt.mp c2
          rw [if_pos (show d.base ≠ e.base by omega)] at es
          exact ⟨_, rfl, (by show 1 ≤ sizeLine; decide), fun l hl => h.fin es S4 d4 k14 hl rfl⟩
        · have c2 : d.base = e.base := Decidable.byContradiction fun q => c2 (ne_tt.mpr (by omega))
          rw [if_neg (by omega)] at es
          have eb := first_b hg
          refine ⟨_, rfl, _, rfl, _, rfl, rfl, ed, ee, d, e, _, rfl, E1.bare, E2.bare, fd, fe, c2, fun H5 en s5 ne => ?_⟩
          rw [eb] at ne
          have S5 := S4.same s5
          have E5 : EditAt CE M H5 en (Dl.over d e (g.toNat != 0)) := ne.at_ S4.tr
          have E5' := E5
          obtain ⟨dx5, o5, he5, ho5, _, _⟩ := E5'
          have k15 := k14.trans (keep_same (M := [sl, r]) s5)
          refine ⟨_, rfl, en, CE, dx5, _, _, rfl, he5, T.clE, T.nOr, ef_ori _ _, o5, _, rfl, .inl (SqL.of ho5), _, _, rfl, rfl, _, rfl, ite2 (fun c3 => ?_) (fun c3 => ?_)⟩
          · have c3 := of_decide_eq_true c3
            rw [List.length_map, List.length_map] at c3
            rw [into_bad (by omega)] at es
            exact ⟨_, rfl, (by show 1 ≤ sizeLine; decide), fun l hl => h.fin es S5 d4 k15 hl rfl⟩
          · have c3 : ¬ 1024 < (Dl.over d e (g.toNat != 0)).out.length := fun q => c3 (decide_eq_true (by rw [List.length_map, List.length_map]; omega))
            have hf : Fits (Dl.over d e (g.toNat != 0)) := ⟨up_over fe.up _, fe.new, by omega⟩
            rw [into_ok hf] at es
            obtain ⟨vs, hvs, hv8, _⟩ := S5.slots
            refine ⟨_, rfl, _, rfl, _, rfl, sl, _, _, k.toNat, rfl, rfl, hvs, ixN_int hk (by rw [hv8]; omega), ?_⟩
            have S6 := S5.put (k := k.toNat) (by omega) hf E5 hvs
            exact ⟨(by show 1 ≤ sizeLine; decide), fun l hl => h.fin es S6 d4 (k15.trans (keep_two2 keep_upd)) hl rfl⟩
/-! ### place -/
theorem sc36 : FnScope ["slots", "reader", "edit", "g", "right"] ["slots", "reader"] (defScope (top 36)) := ⟨rfl, rfl, rfl, by decide +kernel, rfl, by decide +kernel, by decide +kernel⟩
theorem ans_place (T : Txt K mg CE CR) : Ans P w K mg base CE CR 3 9 := fun f fd F => by
  refine Fun.ok (st := top 36) F sc36 call_len (fun cdv A outer s H vs Q E hr h => ?_)
  obtain ⟨M, sl, r, a, ns, x, p, t, rs, rest, rfl, h⟩ := h
  have hr1 : Room 1 _ := hr.mono (by decide)
  refine ⟨_, pss_cons (ps_set (i := 2) sc36.nd rfl (Or.inl rfl) (pe_fn (cal_in T) hr1 (by rfl) (pa_cons (pv 0) (pa_cons (pe_mth (pv 1) T.clR (cal_num T) hr1) pa_nil))))
    (pss_cons (ps_set (i := 3) sc36.nd rfl (Or.inl rfl) (pe_mth (pv 1) T.clR (cal_num T) hr1))
    (pss_cons (ps_set (i := 4) sc36.nd rfl (Or.inl rfl) (pe_mth (pv 1) T.clR (cal_num T) hr1))
    (pss_cons (ps_if (pt_cmp (pc_isN (pv 2))) (pss_one (ps_ret (pe_lst (pa_cons (pe_un un_neg pe_int) pa_nil)))) pss_nil)
    (pss_cons (ps_if (pt_cmpR op_gt (pv 3) (pe_fld (pv 2) rfl) (nomark _)) (pss_one (ps_ret (pe_lst (pa_cons (pe_un un_neg pe_int) pa_nil)))) pss_nil)
    (pss_one (ps_ret (pe_lst (pa_cons pe_int (pa_cons (pe_ifExp (pt_cmpR op_ne (pv 4) pe_int (nomark _)) (pe_fn (cal_right T) hr (by rfl) (pa_cons (pv 2) (pa_cons (pv 3) pa_nil))) (pe_fn (cal_left T) hr (by rfl) (pa_cons (pv 2) (pa_cons (pv 3) pa_nil)))) pa_nil))))))))), ?_⟩
  obtain ⟨e1, e2⟩ := sh_eq (show some (3, 0) = some (t.length, rs.length) from h.shape)
  obtain ⟨i, g, q, rfl⟩ := len_3 e1
  obtain rfl := len_0 e2
  have hask : (DlNeutral.whole32 i && (DlNeutral.whole32 g && DlNeutral.whole32 q)) = true := h.asked
  rw [Bool.and_eq_true, Bool.and_eq_true] at hask
  have hg : 0 ≤ g := whole_nn hask.2.1
  have hq : 0 ≤ q := whole_nn hask.2.2
  have hd : ns.drop p = i :: (g :: (q :: rest)) := h.drop
  have es := step_place x i g q
  refine in_num rfl rfl h.st hd (whole_nn hask.1) fun H1 v1 S1 k1 d1 hv1 => ?_
  refine num_rd rfl S1 d1 fun H2 S2 k2 d2 => ?_
  refine num_rd rfl S2 d2 fun H3 S3 k3 d3 => ?_
  have hv1 := hv1.keep ((k2.trans k3).mono (by simp; exact S1.rM))
  have k13 : Keep [sl, r] H H3 := keep_two1 ((k1.trans k2).trans k3)
  cases hsl : Dl.slot x i.toNat with
  | none =>
    rw [hsl] at hv1 es
    cases hv1
    exact ⟨_, rfl, _, rfl, ite_non ⟨_, rfl, (by show 1 ≤ sizeLine; decide), fun l hl => h.fin (es.trans rfl) S3 d3 k13 hl rfl⟩⟩
  | some d =>
    rw [hsl] at hv1 es
    obtain ⟨ed, rfl, E1⟩ := hv1
    dsimp only at es
    have fd := h.st.good.slot hsl
    have E1' := E1
    obtain ⟨dx1, o1, he1, ho1, _, _⟩ := E1'
    refine ⟨_, rfl, _, rfl, ite_ref ⟨_, rfl, _, rfl, ed, CE, dx1, _, _, rfl, he1, T.clE, T.nOs, ef_old _ _, _, _, rfl, rfl, _, rfl, ite2 (fun c => ?_) (fun c => ?_)⟩⟩
    · have c := of_decide_eq_true c
      rw [if_pos (show d.base < g.toNat by omega)] at es
      exact ⟨_, rfl, (by show 1 ≤ sizeLine; decide), fun l hl => h.fin es S3 d3 k13 hl rfl⟩
    · have c : ¬ (d.base : Int) < g := fun z => c (decide_eq_true z)
      rw [if_neg (show ¬ d.base < g.toNat by omega)] at es
      have eg : V.int g = V.int ((g.toNat : Nat) : Int) := by rw [Int.toNat_of_nonneg hg]
      have eb := first_b hq
      refine ⟨_, rfl, rfl, _, rfl, ite2 (fun c2 => ?_) (fun c2 => ?_)⟩
      · rw [eb] at c2
        rw [c2] at es
        refine ⟨_, rfl, _, rfl, ed, d, g.toNat, (by rw [← eg]; rfl), E1.bare, fd, fun H4 s4 => ?_⟩
        exact ⟨(by show 2 ≤ sizeLine; decide), fun l hl => h.fin es (S3.same s4) d3 (k13.trans (keep_same s4)) hl rfl⟩
      · have c2 : (q.toNat != 0) = false := by
          rw [← eb]
          exact Bool.eq_false_iff.mpr c2
        rw [c2] at es
        refine ⟨_, rfl, _, rfl, ed, d, g.toNat, (by rw [← eg]; rfl), E1.bare, fd, fun H4 s4 => ?_⟩
        exact ⟨(by show 2 ≤ sizeLine; decide), fun l hl => h.fin es (S3.same s4) d3 (k13.trans (keep_same s4)) hl rfl⟩
/-! ### same -/
theorem sc37 : FnScope ["slots", "reader", "one", "other"] ["slots", "reader"] (defScope (top 37)) := ⟨rfl, rfl, rfl, by decide +kernel, rfl, by decide +kernel, by decide +kernel⟩
theorem ans_same (T : Txt K mg CE CR) : Ans P w K mg base CE CR 2 10 := fun f fd F => by
  refine Fun.ok (st := top 37) F sc37 call_len (fun cdv A outer s H vs Q E hr h => ?_)
  obtain ⟨M, sl, r, a, ns, x, p, t, rs, rest, rfl, h⟩ := h
  refine ⟨_, pss_cons (ps_set (i := 2) sc37.nd rfl (Or.inl rfl) (pe_fn (cal_in T) hr (by rfl) (pa_cons (pv 0) (pa_cons (pe_mth (pv 1) T.clR (cal_num T) hr) pa_nil))))
    (pss_cons (ps_set (i := 3) sc37.nd rfl (Or.inl rfl) (pe_fn (cal_in T) hr (by rfl) (pa_cons (pv 0) (pa_cons (pe_mth (pv 1) T.clR (cal_num T) hr) pa_nil))))
    (pss_cons (ps_if (pw_or (pt_cmp (pc_isN (pv 2))) (pw_or1 (pt_cmp (pc_isN (pv 3))))).pt (pss_one (ps_ret (pe_lst (pa_cons (pe_un un_neg pe_int) pa_nil)))) pss_nil)
    (pss_one (ps_ret (pe_lst (pa_cons (pe_ifExp (pt_val (pe_fn (cal_same T) hr (by rfl) (pa_cons (pv 2) (pa_cons (pv 3) pa_nil)))) pe_int pe_int) pa_nil)))))), ?_⟩
  obtain ⟨e1, e2⟩ := sh_eq (show some (2, 0) = some (t.length, rs.length) from h.shape)
  obtain ⟨i, j, rfl⟩ := len_2 e1
  obtain rfl := len_0 e2
  have hask : (DlNeutral.whole32 i && DlNeutral.whole32 j) = true := h.asked
  rw [Bool.and_eq_true] at hask
  have hd : ns.drop p = i :: (j :: rest) := h.drop
  have es := step_same x i j
  refine in_num rfl rfl h.st hd (whole_nn hask.1) fun H1 v1 S1 k1 d1 hv1 => ?_
  refine in_num rfl rfl S1 d1 (whole_nn hask.2) fun H2 v2 S2 k2 d2 hv2 => ?_
  have hv1 := hv1.keep (k2.mono (by simp; exact S1.rM))
  have k12 : Keep [sl, r] H H2 := keep_two1 (k1.trans k2)
  cases hsl : Dl.slot x i.toNat with
  | none =>
    rw [hsl] at hv1 es
    cases hv1
    exact ⟨_, rfl, _, rfl, ite_non (iteT ⟨_, rfl, (by show 1 ≤ sizeLine; decide), fun l hl => h.fin (es.trans rfl) S2 d2 k12 hl rfl⟩)⟩
  | some d =>
    rw [hsl] at hv1 es
    obtain ⟨ed, rfl, E1⟩ := hv1
    cases hsj : Dl.slot x j.toNat with
    | none =>
      rw [hsj] at hv2 es
      cases hv2
      exact ⟨_, rfl, _, rfl, ite_ref ⟨_, rfl, _, rfl, ite_non ⟨_, rfl, (by show 1 ≤ sizeLine; decide), fun l hl => h.fin (es.trans rfl) S2 d2 k12 hl rfl⟩⟩⟩
    | some e =>
      rw [hsj] at hv2 es
      obtain ⟨ee, rfl, E2⟩ := hv2
      dsimp only at es
      refine ⟨_, rfl, _, rfl, ite_ref ⟨_, rfl, _, rfl, ite_ref ⟨_, rfl, _, rfl, ed, ee, d, e, rfl, E1.bare, E2.bare, _, rfl, ite2 (fun c => ?_) (fun c => ?_)⟩⟩⟩
      · have c : d = e := of_decide_eq_true c
        rw [if_pos c] at es
        exact ⟨(by show 1 ≤ sizeLine; decide), fun l hl => h.fin es S2 d2 k12 hl rfl⟩
      · have c : ¬ d = e := fun z => c (decide_eq_true z)
        rw [if_neg c] at es
        exact ⟨(by show 1 ≤ sizeLine; decide), fun l hl => h.fin es S2 d2 k12 hl rfl⟩
end
end Ed

set_option Elab.async false
set_option linter.all false
set_option maxRecDepth 100000
set_option maxHeartbeats 2000000
/-! answers: the line of calls. -/
namespace Ed
open PySem PySem.Spec PyProof.Rows L2
section
variable {K : PySem.W.Frag} {CE CR : Addr} {M : List Addr} {H H' : Hp} {sl r a an : Addr} {ns : List Int} {x : Dl.State} {p : Nat}
theorem St8.other (S : St8 K CE CR M H sl r a ns x p) (k : Keep [an] H H') (h1 : an ≠ sl) (h2 : an ≠ r) (hM : an ∈ M) (hn : H' an ≠ Option.none) : St8 K CE CR M H' sl r a ns x p := by
  have kM : Keep M H H' := k.mono (by simp; exact hM)
  obtain ⟨vs, g1, g2, g3⟩ := S.slots
  obtain ⟨dx, hd⟩ := S.rd
  refine ⟨S.good, ⟨vs, k _ _ g1 (by simpa using h1.symm), g2, fun i o hi => ?_⟩, ⟨dx, k _ _ hd (by simpa using h2.symm)⟩, S.lst.keep kM, S.sM, S.rM, fun m hm => ?_⟩
  · obtain ⟨v, hv, hs⟩ := g3 i o hi
    exact ⟨v, hv, hs.keep kM⟩
  · by_cases e : m = an
    · subst e
      exact hn
    · cases q : H m with
      | none => exact absurd q (S.tr m hm)
      | some u =>
        rw [k m u q (by simpa using e)]
        simp
theorem lst_at {xs : List V} (h : SqL K H a xs) (hm : ∀ m ∈ M, H m = Option.none) (s : Same H H') : LstAt K M H' a xs := fun H2 k => by
  rcases h with (h | ⟨o, h⟩) | h
  · exact .inl (.inl (k _ _ (s _ _ h) fun z => by rw [hm a z] at h; cases h))
  · exact .inl (.inr ⟨o, k _ _ (s _ _ h) fun z => by rw [hm a z] at h; cases h⟩)
  · exact .inr h
end
theorem shape_range {n : Int} {t : List Int} {rs : List (List Int)} (h : PyWqakan.shape n = some (t.length, rs.length)) : 1 ≤ n ∧ n ≤ 10 := by
  obtain ⟨n2, t2, rs2, e, b1, b2⟩ := call_head (c := (n :: t) :: rs) ⟨n, t, rs, rfl, h⟩
  have e1 := (List.cons.inj (List.cons.inj e).1).1
  omega
def spAns (K : PySem.W.Frag) : Sp := fun vs H Q _ => ∃ (a : Addr) (ns : List Int), vs = [.ref a] ∧ SqL K H a (ns.map V.int) ∧ ns.length ≤ 30000 ∧ (∀ z ∈ ns, 0 ≤ z) ∧ PyWqakan.answers_asked ns = true ∧
  ∀ (H' : Hp) (p : Addr), H' p = some (.lst ((PyWqakan.answers ns).map V.int)) → Q (.ref p) H'
def Loop8 (K : PySem.W.Frag) (CE CR : Addr) (a r sl an : Addr) (ns : List Int) (m : Nat) (σ : L2.St) (H : Hp) : Prop := ∃ (cs : List (List (List Int))) (x : Dl.State) (p : Nat) (v4 : Option V) (done : List Int), m = cs.length ∧
  σ = [some (.ref a), some (.ref r), some (.ref sl), some (.ref an), v4] ∧ St8 K CE CR [sl, r, an] H sl r a ns x p ∧ ns.drop p = PyFlat.put cs ∧ (∀ c ∈ cs, DlNeutral.asked1 c = true ∧ PyFlat.okCall PyWqakan.shape c) ∧
  H an = some (.lst (done.map V.int)) ∧ done ++ PyFlat.told (PyFlat.played DlNeutral.step x cs) = PyWqakan.answers ns ∧ done.length + 5001 * cs.length ≤ 5001 * 400
section
variable {P : Program} {w : World} {K : PySem.W.Frag} {mg : Str → Option Value} {base : Heap} {CE CR : Addr}
theorem ans_all (T : Txt K mg CE CR) {n : Int} {f : Addr} {fd : FuncData} (h : 1 ≤ n ∧ n ≤ 10) (F : Fun K (nameOf n) (nameOf n) (top (27 + n.toNat)) f fd) : FnOk P w K mg base CX0 4 f fd ["slots", "reader"] (spCall K CE CR n) := by
  have c : n = 1 ∨ n = 2 ∨ n = 3 ∨ n = 4 ∨ n = 5 ∨ n = 6 ∨ n = 7 ∨ n = 8 ∨ n = 9 ∨ n = 10 := by omega
  rcases c with rfl | rfl | rfl | rfl | rfl | rfl | rfl | rfl | rfl | rfl
  · exact (ans_set T f fd F).mono (by decide)
  · exact (ans_look T f fd F).mono (by decide)
  · exact (ans_items T f fd F).mono (by decide)
  · exact (ans_bytes T f fd F).mono (by decide)
  · exact (ans_apply T f fd F).mono (by decide)
  · exact (ans_then T f fd F).mono (by decide)
  · exact (ans_back T f fd F).mono (by decide)
  · exact (ans_over T f fd F).mono (by decide)
  · exact (ans_place T f fd F).mono (by decide)
  · exact (ans_same T f fd F).mono (by decide)
theorem sc39 : FnScope ["calls", "reader", "slots", "answered", "answer"] ["calls"] (defScope (top 39)) := ⟨rfl, rfl, rfl, by decide +kernel, rfl, by decide +kernel, by decide +kernel⟩
theorem ok_answers (T : Txt K mg CE CR) {f : Addr} {fd : FuncData} (F : Fun K "answers" "answers" (top 39) f fd) : FnOk P w K mg base CX0 5 f fd ["calls"] (spAns K) := by
  refine F.ok sc39 (fun vs H Q E h => ?_) (fun cdv A outer s H vs Q E hr h => ?_)
  · obtain ⟨a, ns, rfl, _⟩ := h
    rfl
  · obtain ⟨a, ns, rfl, hs, hfew, hnn, hask, hq⟩ := h
    obtain ⟨cs, hput, hne, h400, hasked, hok, hans⟩ := line_of hask
    obtain ⟨dT, fs, hmT, TB, hall, hfs⟩ := T.tab
    have hr1 : Room 1 _ := hr.mono (by decide)
    have hr2 : Room 2 _ := hr.mono (by decide)
    refine ⟨_, pss_cons (ps_set (i := 1) sc39.nd rfl (Or.inl rfl) (pe_new (cal_reader T) hr2 (by rfl) (pa_cons (pv 0) pa_nil)))
      (pss_cons (ps_set (i := 2) sc39.nd rfl (Or.inl rfl) (pe_op op_rep (pe_lst (pa_cons pe_non pa_nil)) (pe_top (by rfl) T.cS)))
      (pss_cons (ps_set (i := 3) sc39.nd rfl (Or.inl rfl) (pe_lst pa_nil))
      (pss_cons (ps_while PassesOwn.never (pt_not (pt_val (pe_mth (pv 1) T.clR (cal_end T) hr1)))
        (pss_cons (ps_set (i := 4) sc39.nd rfl (Or.inl rfl) (pe_tabcall (sp := spCall K CE CR) (k := 4) (ps := ["slots", "reader"]) TB (by rfl) hmT (pe_mth (pv 1) T.clR (cal_num T) hr1) (fun _ _ => rfl)
            (fun n f hf => by
              obtain ⟨hn, fd, F, b⟩ := hfs n f hf
              exact ⟨fd, ans_all T hn F, F.kp, b⟩) hr pass0 (pa_cons (pv 2) (pa_cons (pv 1) pa_nil))))
        (pss_cons (ps_expr (pe_bm PySem.F.plainAttrs_list PySem.F.slot_list_append PySem.F.type_list_append mt_append (pv 3) (pa_cons (pe_callB call_len_seq (by rfl) T.nLen PySem.boot_len (pa_cons (pv 4) pa_nil)) pa_nil)))
        (pss_one (ps_expr (pe_bm PySem.F.plainAttrs_list PySem.F.slot_list_extend PySem.F.type_list_extend mt_extend (pv 3) (pa_cons (pv 4) pa_nil)))))))
      (pss_one (ps_ret (pv 3)))))), ?_⟩
    refine ⟨_, rfl, ?_⟩
    intro r dx nr nd ne
    refine ⟨r, dx, a, rfl, upd_same, fun H1 q1 q2 => ⟨rfl, ?_⟩⟩
    have s1 : Same H H1 := Same.made nr nd q2
    obtain ⟨dxr, q1⟩ := q1
    refine ⟨(by show 1 ≤ sizeLine; decide), fun l0 hl0 => ?_⟩
    have s2 : Same H1 (upd H1 l0 (.lst [.non])) := same_upd hl0
    refine ⟨l0, _, _, rfl, rfl, upd_same, (by decide), (by decide), (by decide), fun sl hsl => ?_⟩
    have s3 := same_upd (u := HO.lst (List.replicate (Int.toNat 8) [V.non]).flatten) hsl
    have r3 := s3 _ _ (s2 _ _ q1)
    have nrs : sl ≠ r := (ne_of_none (s2 _ _ q1) hsl).symm
    refine ⟨Nat.zero_le _, fun an han => ?_⟩
    have s4 := same_upd (u := HO.lst []) han
    have nra : an ≠ r := (ne_of_none r3 han).symm
    have nsa : an ≠ sl := (ne_of_none upd_same han).symm
    have fsl : H sl = Option.none := (s1.trans s2).free hsl
    have fan : H an = Option.none := ((s1.trans s2).trans s3).free han
    have s14 := ((s1.trans s2).trans s3).trans s4
    refine ⟨Loop8 K CE CR a r sl an ns, ⟨_, cs, Dl.start, 0, none, [], rfl, rfl, ?_, ?_, fun c hc => ⟨hasked c hc, hok c hc⟩, upd_same, ?_, ?_⟩, ?_⟩
    · refine ⟨good_start, ⟨_, s4 _ _ upd_same, ?_, fun i o hi => ?_⟩, ⟨dxr, s4 _ _ r3⟩, lst_at hs (fun m hm => ?_) s14, by simp, by simp, fun m hm => ?_⟩
      · rw [rep_non, List.length_replicate]
        rfl
      · rw [rep_non]
        unfold Dl.start at hi
        rw [List.getElem?_replicate] at hi ⊢
        by_cases c : i < Dl.SLOTS
        · rw [if_pos c] at hi
          cases hi
          exact ⟨.non, if_pos c, rfl⟩
        · rw [if_neg c] at hi
          cases hi
      · have : m = sl ∨ m = r ∨ m = an := by simpa using hm
        rcases this with rfl | rfl | rfl
        · exact fsl
        · exact nr
        · exact fan
      · have : m = sl ∨ m = r ∨ m = an := by simpa using hm
        rcases this with rfl | rfl | rfl
        · rw [s4 _ _ upd_same]
          simp
        · rw [s4 _ _ r3]
          simp
        · rw [upd_same]
          simp
    · rw [List.drop_zero]
      exact hput
    · rw [hans]
      rfl
    · show 0 + 5001 * cs.length ≤ _
      omega
    rintro m σ H' ⟨cs', x, p, v4, dn, rfl, rfl, S, hdrop, hcs, han', heq, hlen⟩
    have hrd := S.rd
    obtain ⟨dx', hrd⟩ := hrd
    refine ⟨_, rfl, r, dx', _, rfl, hrd, rf_no _ _ (by decide +kernel) (by decide +kernel), r, a, p, ns, rfl, S.rd, S.lst.sq, _, rfl, ?_⟩
    cases cs' with
    | nil =>
      have hp : ns.length ≤ p := by
        have := congrArg List.length hdrop
        rw [List.length_drop] at this
        have : ns.length - p = 0 := this
        omega
      rw [decide_eq_true hp]
      refine iteF ⟨_, rfl, hq H' an ?_⟩
      rw [han', ← heq]
      show _ = some (HO.lst ((dn ++ []).map V.int))
      rw [List.append_nil]
    | cons c cs2 =>
      obtain ⟨hc1, n, t, rs, rfl, hsh⟩ := hcs c (List.mem_cons_self ..)
      rw [put_head] at hdrop
      have hp : ¬ ns.length ≤ p := fun z => by
        rw [List.drop_eq_nil_iff.mpr z] at hdrop
        cases hdrop
      rw [decide_eq_false hp]
      have hn := shape_range hsh
      obtain ⟨fn, hfn⟩ := hall n hn.1 hn.2
      refine iteT ⟨Loop8 K CE CR a r sl an ns cs2.length, fun σ' H'' h => ⟨_, by simp, h⟩, ?_⟩
      refine num_rd rfl S hdrop fun H1' S1 k1 d1 => ?_
      refine ⟨n, fn, rfl, hfn, _, rfl, _, rfl, [sl, r, an], sl, r, a, ns, x, p + 1, t, rs, PyFlat.put cs2, rfl, S1, hnn, hfew, hsh, hc1, d1, fun H2 l p2 hd2 S2 k2 nl hl => ?_⟩
      have han1 : H1' an = some (.lst (dn.map V.int)) := k1 _ _ han' (by simpa using nra)
      have han2 : H2 an = some (.lst (dn.map V.int)) := k2 _ _ han1 (by simp; exact ⟨nsa, nra⟩)
      have nla : l ≠ an := (ne_of_none han1 nl).symm
      have la := ans_len S.good ((n :: t) :: rs)
      have hlen' : dn.length + 5001 * (cs2.length + 1) ≤ 5001 * 400 := hlen
      generalize hA : (DlNeutral.step x ((n :: t) :: rs)).2 = ans at *
      refine ⟨_, rfl, .inl ⟨rfl, _, SqL.of han2⟩, _, rfl, l, _, rfl, .inl (SqL.of hl), an, _, _, rfl, rfl, han2, lt_line (by rw [List.length_map]; omega), ?_⟩
      refine ⟨_, rfl, .inl ⟨rfl, _, SqL.of upd_same⟩, _, rfl, an, l, _, _, rfl, rfl, upd_same, (by rw [upd_ne nla]; exact hl), le_line (by simp only [List.length_append, List.length_map, List.length_singleton]; omega), ?_⟩
      refine ⟨cs2, (DlNeutral.step x ((n :: t) :: rs)).1, p2, _, dn ++ ((ans.length : Int) :: ans), rfl, rfl, ?_, hd2, fun c hc => hcs c (List.mem_cons_of_mem _ hc), ?_, ?_, ?_⟩
      · refine St8.other (an := an) S2 (fun b u q hb => ?_) nsa nra (by simp) (by rw [upd_same]; simp)
        rw [upd_ne (by simpa using hb), upd_ne (by simpa using hb)]
        exact q
      · rw [upd_same, List.map_append, List.length_map, List.append_assoc]
        rfl
      · rw [← heq, played_cons, told_cons, hA, List.append_assoc]
        rfl
      · rw [List.length_append, List.length_cons]
        omega
end
end Ed

set_option Elab.async false
set_option linter.all false
set_option maxRecDepth 100000
set_option maxHeartbeats 2000000
/-! What the top has written, and the row's head. -/
namespace Ed
open PySem PySem.Spec PyProof.Rows L2
theorem const_mk {K : PySem.W.Frag} {h : Heap} {mg : Str → Option Value} (X : K.In h) (G : h.Ns mainGlobals mg) {x : Str} {z : Int} {t : Tok} (a : PySem.W.nsIn K mainGlobals x = some (some (.int z t))) : ∃ u, mg x = some u ∧ RelV (.int z) u := ⟨_, PySem.W.mg_of X G a, t, rfl⟩
theorem tab_mk {K : PySem.W.Frag} {d : Addr} {es : List DictEntry} {ep : Nat} {fs : List (Int × Addr)} (l : K.lookup d = some ⟨.type "dict", none, .dict es.toArray ep, #[]⟩) (h : ∀ e ∈ es, ∃ k t, e.key = .int k t ∧ e.hash = hashInt k) (g : ∀ n f, fs.lookup n = some f → findBy Value.isInt es.toArray n = some (.ref f)) : Tab K d fs :=
  ⟨es.toArray, ep, l, fun e he => h e (by simpa using he), g⟩
theorem look_ten {n : Int} {f a1 a2 a3 a4 a5 a6 a7 a8 a9 a10 : Addr} (h : ([((1 : Int), a1), (2, a2), (3, a3), (4, a4), (5, a5), (6, a6), (7, a7), (8, a8), (9, a9), (10, a10)] : List (Int × Addr)).lookup n = some f) : n = 1 ∨ n = 2 ∨ n = 3 ∨ n = 4 ∨ n = 5 ∨ n = 6 ∨ n = 7 ∨ n = 8 ∨ n = 9 ∨ n = 10 := by
  refine Classical.byContradiction fun q => ?_
  have e : ∀ m : Int, n ≠ m → (n == m) = false := fun m z => beq_eq_false_iff_ne.mpr z
  simp only [not_or] at q
  obtain ⟨q1, q2, q3, q4, q5, q6, q7, q8, q9, q10⟩ := q
  simp only [List.lookup, e _ q1, e _ q2, e _ q3, e _ q4, e _ q5, e _ q6, e _ q7, e _ q8, e _ q9, e _ q10] at h
  cases h
theorem all_mk {P : Program} {w : World} {K : PySem.W.Frag} {h : Heap} {mg : Str → Option Value} {fa CE CR dT : Addr} (X : K.In h) (G : h.Ns mainGlobals mg) (hfa : mg "answers" = some (.ref fa))
    {f8 f9 f10 f11 f12 f13 f14 f15 f16 f17 f18 f19 f20 f21 f22 f23 f24 f26 f27 f28 f29 f30 f31 f32 f33 f34 f35 f36 f37 f39 fE0 fR0 fR1 fR2 fR3 : Addr} {od8 od9 od10 od11 od12 od13 od14 od15 od16 od17 od18 od19 od20 od21 od22 od23 od24 od26 od27 od28 od29 od30 od31 od32 od33 od34 od35 od36 od37 od39 odE0 odR0 odR1 odR2 odR3 an8 an9 an10 an11 an12 an13 an14 an15 an16 an17 an18 an19 an20 an21 an22 an23 an24 an26 an27 an28 an29 an30 an31 an32 an33 an34 an35 an36 an37 an39 anE0 anR0 anR1 anR2 anR3 : Option Addr} {sl8 sl9 sl10 sl11 sl12 sl13 sl14 sl15 sl16 sl17 sl18 sl19 sl20 sl21 sl22 sl23 sl24 sl26 sl27 sl28 sl29 sl30 sl31 sl32 sl33 sl34 sl35 sl36 sl37 sl39 slE0 slR0 slR1 slR2 slR3 : Array (Option Value)}
    {oc8 kV8 dc8 pm8 cd8 ct8 oc9 kV9 dc9 pm9 cd9 ct9 oc10 kV10 dc10 pm10 cd10 ct10 oc11 kV11 dc11 pm11 cd11 ct11 oc12 kV12 dc12 pm12 cd12 ct12 oc13 kV13 dc13 pm13 cd13 ct13 oc14 kV14 dc14 pm14 cd14 ct14 oc15 kV15 dc15 pm15 cd15 ct15 oc16 kV16 dc16 pm16 cd16 ct16 oc17 kV17 dc17 pm17 cd17 ct17 oc18 kV18 dc18 pm18 cd18 ct18 oc19 kV19 dc19 pm19 cd19 ct19 oc20 kV20 dc20 pm20 cd20 ct20 oc21 kV21 dc21 pm21 cd21 ct21 oc22 kV22 dc22 pm22 cd22 ct22 oc23 kV23 dc23 pm23 cd23 ct23 oc24 kV24 dc24 pm24 cd24 ct24 oc26 kV26 dc26 pm26 cd26 ct26 oc27 kV27 dc27 pm27 cd27 ct27 oc28 kV28 dc28 pm28 cd28 ct28 oc29 kV29 dc29 pm29 cd29 ct29 oc30 kV30 dc30 pm30 cd30 ct30 oc31 kV31 dc31 pm31 cd31 ct31 oc32 kV32 dc32 pm32 cd32 ct32 oc33 kV33 dc33 pm33 cd33 ct33 oc34 kV34 dc34 pm34 cd34 ct34 oc35 kV35 dc35 pm35 cd35 ct35 oc36 kV36 dc36 pm36 cd36 ct36 oc37 kV37 dc37 pm37 cd37 ct37 oc39 kV39 dc39 pm39 cd39 ct39 ocE0 kVE0 dcE0 pmE0 cdE0 ctE0 ocR0 kVR0 dcR0 pmR0 cdR0 ctR0 ocR1 kVR1 dcR1 pmR1 cdR1 ctR1 ocR2 kVR2 dcR2 pmR2 cdR2 ctR2 ocR3 kVR3 dcR3 pmR3 cdR3 ctR3 : Value}
    {tcS tcL tcM tcK tcD tcP tt1 tt2 tt3 tt4 tt5 tt6 tt7 tt8 tt9 tt10 : Tok} {hh1 hh2 hh3 hh4 hh5 hh6 hh7 hh8 hh9 hh10 : Int} {epT : Nat}
    (aCE : PySem.W.nsIn K mainGlobals "Edit" = some (some (.ref CE)))
    (pgE : PySem.W.plainGet K CE Str.empty = true)
    (hdE : PySem.W.hasDictIn K CE = true)
    (poE : PySem.W.plainOver K CE = true)
    (saE : PySem.W.findIn K (.ref CE) "__setattr__" = some (some (.builtin "object.__setattr__")))
    (mkE : PySem.W.makesIn K CE = true)
    (kcE : PySem.W.keepIn K (.ref CE) = true)
    (aCR : PySem.W.nsIn K mainGlobals "Reader" = some (some (.ref CR)))
    (pgR : PySem.W.plainGet K CR Str.empty = true)
    (hdR : PySem.W.hasDictIn K CR = true)
    (poR : PySem.W.plainOver K CR = true)
    (saR : PySem.W.findIn K (.ref CR) "__setattr__" = some (some (.builtin "object.__setattr__")))
    (mkR : PySem.W.makesIn K CR = true)
    (kcR : PySem.W.keepIn K (.ref CR) = true)
    (nOs : PySem.W.findIn K (.ref CE) "old_size" = some none)
    (nOr : PySem.W.findIn K (.ref CE) "origins" = some none)
    (nCa : PySem.W.findIn K (.ref CR) "calls" = some none)
    (nPo : PySem.W.findIn K (.ref CR) "position" = some none)
    (aE0 : PySem.W.findIn K (.ref CE) "__init__" = some (some (.ref fE0)))
    (iE0 : PySem.W.isFn K (.ref fE0) = true)
    (lE0 : K.lookup fE0 = some ⟨ocE0, odE0, .func (PySem.W.fnOf "__init__" "Edit.__init__" (defArgs sEdit) (defBody sEdit) (defScope sEdit) .none kVE0 dcE0 pmE0 anE0 cdE0 ctE0), slE0⟩)
    (cE0 : PySem.W.codeIn K cdE0 "Edit.__init__" = true)
    (kE0 : PySem.W.keepIn K (.ref fE0) = true)
    (aR0 : PySem.W.findIn K (.ref CR) "__init__" = some (some (.ref fR0)))
    (iR0 : PySem.W.isFn K (.ref fR0) = true)
    (lR0 : K.lookup fR0 = some ⟨ocR0, odR0, .func (PySem.W.fnOf "__init__" "Reader.__init__" (defArgs sRdI) (defBody sRdI) (defScope sRdI) .none kVR0 dcR0 pmR0 anR0 cdR0 ctR0), slR0⟩)
    (cR0 : PySem.W.codeIn K cdR0 "Reader.__init__" = true)
    (kR0 : PySem.W.keepIn K (.ref fR0) = true)
    (aR1 : PySem.W.findIn K (.ref CR) "at_end" = some (some (.ref fR1)))
    (iR1 : PySem.W.isFn K (.ref fR1) = true)
    (lR1 : K.lookup fR1 = some ⟨ocR1, odR1, .func (PySem.W.fnOf "at_end" "Reader.at_end" (defArgs sEnd) (defBody sEnd) (defScope sEnd) .none kVR1 dcR1 pmR1 anR1 cdR1 ctR1), slR1⟩)
    (cR1 : PySem.W.codeIn K cdR1 "Reader.at_end" = true)
    (kR1 : PySem.W.keepIn K (.ref fR1) = true)
    (aR2 : PySem.W.findIn K (.ref CR) "number" = some (some (.ref fR2)))
    (iR2 : PySem.W.isFn K (.ref fR2) = true)
    (lR2 : K.lookup fR2 = some ⟨ocR2, odR2, .func (PySem.W.fnOf "number" "Reader.number" (defArgs sNum) (defBody sNum) (defScope sNum) .none kVR2 dcR2 pmR2 anR2 cdR2 ctR2), slR2⟩)
    (cR2 : PySem.W.codeIn K cdR2 "Reader.number" = true)
    (kR2 : PySem.W.keepIn K (.ref fR2) = true)
    (aR3 : PySem.W.findIn K (.ref CR) "row" = some (some (.ref fR3)))
    (iR3 : PySem.W.isFn K (.ref fR3) = true)
    (lR3 : K.lookup fR3 = some ⟨ocR3, odR3, .func (PySem.W.fnOf "row" "Reader.row" (defArgs sRow) (defBody sRow) (defScope sRow) .none kVR3 dcR3 pmR3 anR3 cdR3 ctR3), slR3⟩)
    (cR3 : PySem.W.codeIn K cdR3 "Reader.row" = true)
    (kR3 : PySem.W.keepIn K (.ref fR3) = true)
    (a8 : PySem.W.nsIn K mainGlobals "new_origin" = some (some (.ref f8)))
    (l8 : K.lookup f8 = some ⟨oc8, od8, .func (PySem.W.fnOf "new_origin" "new_origin" (defArgs (top 8)) (defBody (top 8)) (defScope (top 8)) .none kV8 dc8 pm8 an8 cd8 ct8), sl8⟩)
    (c8 : PySem.W.codeIn K cd8 "new_origin" = true)
    (k8 : PySem.W.keepIn K (.ref f8) = true)
    (a9 : PySem.W.nsIn K mainGlobals "octet_of" = some (some (.ref f9)))
    (l9 : K.lookup f9 = some ⟨oc9, od9, .func (PySem.W.fnOf "octet_of" "octet_of" (defArgs (top 9)) (defBody (top 9)) (defScope (top 9)) .none kV9 dc9 pm9 an9 cd9 ct9), sl9⟩)
    (c9 : PySem.W.codeIn K cd9 "octet_of" = true)
    (k9 : PySem.W.keepIn K (.ref f9) = true)
    (a10 : PySem.W.nsIn K mainGlobals "is_new" = some (some (.ref f10)))
    (l10 : K.lookup f10 = some ⟨oc10, od10, .func (PySem.W.fnOf "is_new" "is_new" (defArgs (top 10)) (defBody (top 10)) (defScope (top 10)) .none kV10 dc10 pm10 an10 cd10 ct10), sl10⟩)
    (c10 : PySem.W.codeIn K cd10 "is_new" = true)
    (k10 : PySem.W.keepIn K (.ref f10) = true)
    (a11 : PySem.W.nsIn K mainGlobals "total" = some (some (.ref f11)))
    (l11 : K.lookup f11 = some ⟨oc11, od11, .func (PySem.W.fnOf "total" "total" (defArgs (top 11)) (defBody (top 11)) (defScope (top 11)) .none kV11 dc11 pm11 an11 cd11 ct11), sl11⟩)
    (c11 : PySem.W.codeIn K cd11 "total" = true)
    (k11 : PySem.W.keepIn K (.ref f11) = true)
    (a12 : PySem.W.nsIn K mainGlobals "edit_of" = some (some (.ref f12)))
    (l12 : K.lookup f12 = some ⟨oc12, od12, .func (PySem.W.fnOf "edit_of" "edit_of" (defArgs (top 12)) (defBody (top 12)) (defScope (top 12)) .none kV12 dc12 pm12 an12 cd12 ct12), sl12⟩)
    (c12 : PySem.W.codeIn K cd12 "edit_of" = true)
    (k12 : PySem.W.keepIn K (.ref f12) = true)
    (a13 : PySem.W.nsIn K mainGlobals "add_item" = some (some (.ref f13)))
    (l13 : K.lookup f13 = some ⟨oc13, od13, .func (PySem.W.fnOf "add_item" "add_item" (defArgs (top 13)) (defBody (top 13)) (defScope (top 13)) .none kV13 dc13 pm13 an13 cd13 ct13), sl13⟩)
    (c13 : PySem.W.codeIn K cd13 "add_item" = true)
    (k13 : PySem.W.keepIn K (.ref f13) = true)
    (a14 : PySem.W.nsIn K mainGlobals "one_form" = some (some (.ref f14)))
    (l14 : K.lookup f14 = some ⟨oc14, od14, .func (PySem.W.fnOf "one_form" "one_form" (defArgs (top 14)) (defBody (top 14)) (defScope (top 14)) .none kV14 dc14 pm14 an14 cd14 ct14), sl14⟩)
    (c14 : PySem.W.codeIn K cd14 "one_form" = true)
    (k14 : PySem.W.keepIn K (.ref f14) = true)
    (a15 : PySem.W.nsIn K mainGlobals "new_bytes" = some (some (.ref f15)))
    (l15 : K.lookup f15 = some ⟨oc15, od15, .func (PySem.W.fnOf "new_bytes" "new_bytes" (defArgs (top 15)) (defBody (top 15)) (defScope (top 15)) .none kV15 dc15 pm15 an15 cd15 ct15), sl15⟩)
    (c15 : PySem.W.codeIn K cd15 "new_bytes" = true)
    (k15 : PySem.W.keepIn K (.ref f15) = true)
    (a16 : PySem.W.nsIn K mainGlobals "new_text" = some (some (.ref f16)))
    (l16 : K.lookup f16 = some ⟨oc16, od16, .func (PySem.W.fnOf "new_text" "new_text" (defArgs (top 16)) (defBody (top 16)) (defScope (top 16)) .none kV16 dc16 pm16 an16 cd16 ct16), sl16⟩)
    (c16 : PySem.W.codeIn K cd16 "new_text" = true)
    (k16 : PySem.W.keepIn K (.ref f16) = true)
    (a17 : PySem.W.nsIn K mainGlobals "kept_places" = some (some (.ref f17)))
    (l17 : K.lookup f17 = some ⟨oc17, od17, .func (PySem.W.fnOf "kept_places" "kept_places" (defArgs (top 17)) (defBody (top 17)) (defScope (top 17)) .none kV17 dc17 pm17 an17 cd17 ct17), sl17⟩)
    (c17 : PySem.W.codeIn K cd17 "kept_places" = true)
    (k17 : PySem.W.keepIn K (.ref f17) = true)
    (a18 : PySem.W.nsIn K mainGlobals "new_places" = some (some (.ref f18)))
    (l18 : K.lookup f18 = some ⟨oc18, od18, .func (PySem.W.fnOf "new_places" "new_places" (defArgs (top 18)) (defBody (top 18)) (defScope (top 18)) .none kV18 dc18 pm18 an18 cd18 ct18), sl18⟩)
    (c18 : PySem.W.codeIn K cd18 "new_places" = true)
    (k18 : PySem.W.keepIn K (.ref f18) = true)
    (a19 : PySem.W.nsIn K mainGlobals "one_then_other" = some (some (.ref f19)))
    (l19 : K.lookup f19 = some ⟨oc19, od19, .func (PySem.W.fnOf "one_then_other" "one_then_other" (defArgs (top 19)) (defBody (top 19)) (defScope (top 19)) .none kV19 dc19 pm19 an19 cd19 ct19), sl19⟩)
    (c19 : PySem.W.codeIn K cd19 "one_then_other" = true)
    (k19 : PySem.W.keepIn K (.ref f19) = true)
    (a20 : PySem.W.nsIn K mainGlobals "taken_back" = some (some (.ref f20)))
    (l20 : K.lookup f20 = some ⟨oc20, od20, .func (PySem.W.fnOf "taken_back" "taken_back" (defArgs (top 20)) (defBody (top 20)) (defScope (top 20)) .none kV20 dc20 pm20 an20 cd20 ct20), sl20⟩)
    (c20 : PySem.W.codeIn K cd20 "taken_back" = true)
    (k20 : PySem.W.keepIn K (.ref f20) = true)
    (a21 : PySem.W.nsIn K mainGlobals "led_over" = some (some (.ref f21)))
    (l21 : K.lookup f21 = some ⟨oc21, od21, .func (PySem.W.fnOf "led_over" "led_over" (defArgs (top 21)) (defBody (top 21)) (defScope (top 21)) .none kV21 dc21 pm21 an21 cd21 ct21), sl21⟩)
    (c21 : PySem.W.codeIn K cd21 "led_over" = true)
    (k21 : PySem.W.keepIn K (.ref f21) = true)
    (a22 : PySem.W.nsIn K mainGlobals "left_place" = some (some (.ref f22)))
    (l22 : K.lookup f22 = some ⟨oc22, od22, .func (PySem.W.fnOf "left_place" "left_place" (defArgs (top 22)) (defBody (top 22)) (defScope (top 22)) .none kV22 dc22 pm22 an22 cd22 ct22), sl22⟩)
    (c22 : PySem.W.codeIn K cd22 "left_place" = true)
    (k22 : PySem.W.keepIn K (.ref f22) = true)
    (a23 : PySem.W.nsIn K mainGlobals "right_place" = some (some (.ref f23)))
    (l23 : K.lookup f23 = some ⟨oc23, od23, .func (PySem.W.fnOf "right_place" "right_place" (defArgs (top 23)) (defBody (top 23)) (defScope (top 23)) .none kV23 dc23 pm23 an23 cd23 ct23), sl23⟩)
    (c23 : PySem.W.codeIn K cd23 "right_place" = true)
    (k23 : PySem.W.keepIn K (.ref f23) = true)
    (a24 : PySem.W.nsIn K mainGlobals "are_same" = some (some (.ref f24)))
    (l24 : K.lookup f24 = some ⟨oc24, od24, .func (PySem.W.fnOf "are_same" "are_same" (defArgs (top 24)) (defBody (top 24)) (defScope (top 24)) .none kV24 dc24 pm24 an24 cd24 ct24), sl24⟩)
    (c24 : PySem.W.codeIn K cd24 "are_same" = true)
    (k24 : PySem.W.keepIn K (.ref f24) = true)
    (a26 : PySem.W.nsIn K mainGlobals "edit_in" = some (some (.ref f26)))
    (l26 : K.lookup f26 = some ⟨oc26, od26, .func (PySem.W.fnOf "edit_in" "edit_in" (defArgs (top 26)) (defBody (top 26)) (defScope (top 26)) .none kV26 dc26 pm26 an26 cd26 ct26), sl26⟩)
    (c26 : PySem.W.codeIn K cd26 "edit_in" = true)
    (k26 : PySem.W.keepIn K (.ref f26) = true)
    (a27 : PySem.W.nsIn K mainGlobals "refusal_of_set" = some (some (.ref f27)))
    (l27 : K.lookup f27 = some ⟨oc27, od27, .func (PySem.W.fnOf "refusal_of_set" "refusal_of_set" (defArgs (top 27)) (defBody (top 27)) (defScope (top 27)) .none kV27 dc27 pm27 an27 cd27 ct27), sl27⟩)
    (c27 : PySem.W.codeIn K cd27 "refusal_of_set" = true)
    (k27 : PySem.W.keepIn K (.ref f27) = true)
    (a28 : PySem.W.nsIn K mainGlobals "answer_set" = some (some (.ref f28)))
    (l28 : K.lookup f28 = some ⟨oc28, od28, .func (PySem.W.fnOf "answer_set" "answer_set" (defArgs (top 28)) (defBody (top 28)) (defScope (top 28)) .none kV28 dc28 pm28 an28 cd28 ct28), sl28⟩)
    (c28 : PySem.W.codeIn K cd28 "answer_set" = true)
    (k28 : PySem.W.keepIn K (.ref f28) = true)
    (a29 : PySem.W.nsIn K mainGlobals "answer_look" = some (some (.ref f29)))
    (l29 : K.lookup f29 = some ⟨oc29, od29, .func (PySem.W.fnOf "answer_look" "answer_look" (defArgs (top 29)) (defBody (top 29)) (defScope (top 29)) .none kV29 dc29 pm29 an29 cd29 ct29), sl29⟩)
    (c29 : PySem.W.codeIn K cd29 "answer_look" = true)
    (k29 : PySem.W.keepIn K (.ref f29) = true)
    (a30 : PySem.W.nsIn K mainGlobals "answer_items" = some (some (.ref f30)))
    (l30 : K.lookup f30 = some ⟨oc30, od30, .func (PySem.W.fnOf "answer_items" "answer_items" (defArgs (top 30)) (defBody (top 30)) (defScope (top 30)) .none kV30 dc30 pm30 an30 cd30 ct30), sl30⟩)
    (c30 : PySem.W.codeIn K cd30 "answer_items" = true)
    (k30 : PySem.W.keepIn K (.ref f30) = true)
    (a31 : PySem.W.nsIn K mainGlobals "answer_bytes" = some (some (.ref f31)))
    (l31 : K.lookup f31 = some ⟨oc31, od31, .func (PySem.W.fnOf "answer_bytes" "answer_bytes" (defArgs (top 31)) (defBody (top 31)) (defScope (top 31)) .none kV31 dc31 pm31 an31 cd31 ct31), sl31⟩)
    (c31 : PySem.W.codeIn K cd31 "answer_bytes" = true)
    (k31 : PySem.W.keepIn K (.ref f31) = true)
    (a32 : PySem.W.nsIn K mainGlobals "answer_apply" = some (some (.ref f32)))
    (l32 : K.lookup f32 = some ⟨oc32, od32, .func (PySem.W.fnOf "answer_apply" "answer_apply" (defArgs (top 32)) (defBody (top 32)) (defScope (top 32)) .none kV32 dc32 pm32 an32 cd32 ct32), sl32⟩)
    (c32 : PySem.W.codeIn K cd32 "answer_apply" = true)
    (k32 : PySem.W.keepIn K (.ref f32) = true)
    (a33 : PySem.W.nsIn K mainGlobals "answer_then" = some (some (.ref f33)))
    (l33 : K.lookup f33 = some ⟨oc33, od33, .func (PySem.W.fnOf "answer_then" "answer_then" (defArgs (top 33)) (defBody (top 33)) (defScope (top 33)) .none kV33 dc33 pm33 an33 cd33 ct33), sl33⟩)
    (c33 : PySem.W.codeIn K cd33 "answer_then" = true)
    (k33 : PySem.W.keepIn K (.ref f33) = true)
    (a34 : PySem.W.nsIn K mainGlobals "answer_back" = some (some (.ref f34)))
    (l34 : K.lookup f34 = some ⟨oc34, od34, .func (PySem.W.fnOf "answer_back" "answer_back" (defArgs (top 34)) (defBody (top 34)) (defScope (top 34)) .none kV34 dc34 pm34 an34 cd34 ct34), sl34⟩)
    (c34 : PySem.W.codeIn K cd34 "answer_back" = true)
    (k34 : PySem.W.keepIn K (.ref f34) = true)
    (a35 : PySem.W.nsIn K mainGlobals "answer_over" = some (some (.ref f35)))
    (l35 : K.lookup f35 = some ⟨oc35, od35, .func (PySem.W.fnOf "answer_over" "answer_over" (defArgs (top 35)) (defBody (top 35)) (defScope (top 35)) .none kV35 dc35 pm35 an35 cd35 ct35), sl35⟩)
    (c35 : PySem.W.codeIn K cd35 "answer_over" = true)
    (k35 : PySem.W.keepIn K (.ref f35) = true)
    (a36 : PySem.W.nsIn K mainGlobals "answer_place" = some (some (.ref f36)))
    (l36 : K.lookup f36 = some ⟨oc36, od36, .func (PySem.W.fnOf "answer_place" "answer_place" (defArgs (top 36)) (defBody (top 36)) (defScope (top 36)) .none kV36 dc36 pm36 an36 cd36 ct36), sl36⟩)
    (c36 : PySem.W.codeIn K cd36 "answer_place" = true)
    (k36 : PySem.W.keepIn K (.ref f36) = true)
    (a37 : PySem.W.nsIn K mainGlobals "answer_same" = some (some (.ref f37)))
    (l37 : K.lookup f37 = some ⟨oc37, od37, .func (PySem.W.fnOf "answer_same" "answer_same" (defArgs (top 37)) (defBody (top 37)) (defScope (top 37)) .none kV37 dc37 pm37 an37 cd37 ct37), sl37⟩)
    (c37 : PySem.W.codeIn K cd37 "answer_same" = true)
    (k37 : PySem.W.keepIn K (.ref f37) = true)
    (a39 : PySem.W.nsIn K mainGlobals "answers" = some (some (.ref f39)))
    (l39 : K.lookup f39 = some ⟨oc39, od39, .func (PySem.W.fnOf "answers" "answers" (defArgs (top 39)) (defBody (top 39)) (defScope (top 39)) .none kV39 dc39 pm39 an39 cd39 ct39), sl39⟩)
    (c39 : PySem.W.codeIn K cd39 "answers" = true)
    (k39 : PySem.W.keepIn K (.ref f39) = true)
    (cS : PySem.W.nsIn K mainGlobals "SLOT_COUNT" = some (some (.int 8 tcS)))
    (cL : PySem.W.nsIn K mainGlobals "LONGEST_TEXT" = some (some (.int 1024 tcL)))
    (cM : PySem.W.nsIn K mainGlobals "MOST_ITEMS" = some (some (.int 2049 tcM)))
    (cK : PySem.W.nsIn K mainGlobals "KEEP" = some (some (.int 0 tcK)))
    (cD : PySem.W.nsIn K mainGlobals "DROP" = some (some (.int 1 tcD)))
    (cP : PySem.W.nsIn K mainGlobals "PUT" = some (some (.int 2 tcP)))
    (nLen : PySem.W.nsIn K mainGlobals "len" = some none)
    (nSum : PySem.W.nsIn K mainGlobals "sum" = some none)
    (nRange : PySem.W.nsIn K mainGlobals "range" = some none)
    (nAny : PySem.W.nsIn K mainGlobals "any" = some none)
    (nList : PySem.W.nsIn K mainGlobals "list" = some none)
    (nEnum : PySem.W.nsIn K mainGlobals "enumerate" = some none)
    (nZip : PySem.W.nsIn K mainGlobals "zip" = some none)
    (aT : PySem.W.nsIn K mainGlobals "ANSWERS_OF_CALLS" = some (some (.ref dT)))
    (lT : K.lookup dT = some ⟨.type "dict", none, .dict #[⟨hh1, .int 1 tt1, .ref f28⟩, ⟨hh2, .int 2 tt2, .ref f29⟩, ⟨hh3, .int 3 tt3, .ref f30⟩, ⟨hh4, .int 4 tt4, .ref f31⟩, ⟨hh5, .int 5 tt5, .ref f32⟩, ⟨hh6, .int 6 tt6, .ref f33⟩, ⟨hh7, .int 7 tt7, .ref f34⟩, ⟨hh8, .int 8 tt8, .ref f35⟩, ⟨hh9, .int 9 tt9, .ref f36⟩, ⟨hh10, .int 10 tt10, .ref f37⟩] epT, #[]⟩)
    (hT : hh1 = hashInt 1 ∧ hh2 = hashInt 2 ∧ hh3 = hashInt 3 ∧ hh4 = hashInt 4 ∧ hh5 = hashInt 5 ∧ hh6 = hashInt 6 ∧ hh7 = hashInt 7 ∧ hh8 = hashInt 8 ∧ hh9 = hashInt 9 ∧ hh10 = hashInt 10)
    : ∃ fd : FuncData, (∀ (s : Shared) (us : List Value), us.length = (["calls"] : List Str).length → BindsTo s fd ⟨us, []⟩ ((["calls"] : List Str).zip us)) ∧ ∀ base : Heap, K.In base → base.Ns mainGlobals mg → FnOk P w K mg base CX0 5 fa fd ["calls"] (spAns K) := by
  have e := hfa.symm.trans (PySem.W.mg_of X G a39)
  cases e
  have FE0 := fun_mk (st := sEdit) lE0 cE0 kE0
  have FR0 := fun_mk (st := sRdI) lR0 cR0 kR0
  have FR1 := fun_mk (st := sEnd) lR1 cR1 kR1
  have FR2 := fun_mk (st := sNum) lR2 cR2 kR2
  have FR3 := fun_mk (st := sRow) lR3 cR3 kR3
  have F8 := fun_mk (st := top 8) l8 c8 k8
  have F9 := fun_mk (st := top 9) l9 c9 k9
  have F10 := fun_mk (st := top 10) l10 c10 k10
  have F11 := fun_mk (st := top 11) l11 c11 k11
  have F12 := fun_mk (st := top 12) l12 c12 k12
  have F13 := fun_mk (st := top 13) l13 c13 k13
  have F14 := fun_mk (st := top 14) l14 c14 k14
  have F15 := fun_mk (st := top 15) l15 c15 k15
  have F16 := fun_mk (st := top 16) l16 c16 k16
  have F17 := fun_mk (st := top 17) l17 c17 k17
  have F18 := fun_mk (st := top 18) l18 c18 k18
  have F19 := fun_mk (st := top 19) l19 c19 k19
  have F20 := fun_mk (st := top 20) l20 c20 k20
  have F21 := fun_mk (st := top 21) l21 c21 k21
  have F22 := fun_mk (st := top 22) l22 c22 k22
  have F23 := fun_mk (st := top 23) l23 c23 k23
  have F24 := fun_mk (st := top 24) l24 c24 k24
  have F26 := fun_mk (st := top 26) l26 c26 k26
  have F27 := fun_mk (st := top 27) l27 c27 k27
  have F28 := fun_mk (st := top 28) l28 c28 k28
  have F29 := fun_mk (st := top 29) l29 c29 k29
  have F30 := fun_mk (st := top 30) l30 c30 k30
  have F31 := fun_mk (st := top 31) l31 c31 k31
  have F32 := fun_mk (st := top 32) l32 c32 k32
  have F33 := fun_mk (st := top 33) l33 c33 k33
  have F34 := fun_mk (st := top 34) l34 c34 k34
  have F35 := fun_mk (st := top 35) l35 c35 k35
  have F36 := fun_mk (st := top 36) l36 c36 k36
  have F37 := fun_mk (st := top 37) l37 c37 k37
  have F39 := fun_mk (st := top 39) l39 c39 k39
  have bE0 := FE0.binds (ps := ["self", "old_size", "origins"]) fun _ _ _ _ _ _ us hl => match us, hl with | [_, _, _], _ => rfl
  have bR0 := FR0.binds (ps := ["self", "calls"]) fun _ _ _ _ _ _ us hl => match us, hl with | [_, _], _ => rfl
  have bR1 := FR1.binds (ps := ["self"]) fun _ _ _ _ _ _ us hl => match us, hl with | [_], _ => rfl
  have bR2 := FR2.binds (ps := ["self"]) fun _ _ _ _ _ _ us hl => match us, hl with | [_], _ => rfl
  have bR3 := FR3.binds (ps := ["self"]) fun _ _ _ _ _ _ us hl => match us, hl with | [_], _ => rfl
  have b8 := F8.binds (ps := ["octet"]) fun _ _ _ _ _ _ us hl => match us, hl with | [_], _ => rfl
  have b9 := F9.binds (ps := ["origin"]) fun _ _ _ _ _ _ us hl => match us, hl with | [_], _ => rfl
  have b10 := F10.binds (ps := ["origin"]) fun _ _ _ _ _ _ us hl => match us, hl with | [_], _ => rfl
  have b11 := F11.binds (ps := ["items", "kind"]) fun _ _ _ _ _ _ us hl => match us, hl with | [_, _], _ => rfl
  have b12 := F12.binds (ps := ["items", "octets"]) fun _ _ _ _ _ _ us hl => match us, hl with | [_, _], _ => rfl
  have b13 := F13.binds (ps := ["items", "kind", "count"]) fun _ _ _ _ _ _ us hl => match us, hl with | [_, _, _], _ => rfl
  have b14 := F14.binds (ps := ["edit"]) fun _ _ _ _ _ _ us hl => match us, hl with | [_], _ => rfl
  have b15 := F15.binds (ps := ["edit"]) fun _ _ _ _ _ _ us hl => match us, hl with | [_], _ => rfl
  have b16 := F16.binds (ps := ["edit", "old_text"]) fun _ _ _ _ _ _ us hl => match us, hl with | [_, _], _ => rfl
  have b17 := F17.binds (ps := ["edit"]) fun _ _ _ _ _ _ us hl => match us, hl with | [_], _ => rfl
  have b18 := F18.binds (ps := ["edit"]) fun _ _ _ _ _ _ us hl => match us, hl with | [_], _ => rfl
  have b19 := F19.binds (ps := ["one", "other"]) fun _ _ _ _ _ _ us hl => match us, hl with | [_, _], _ => rfl
  have b20 := F20.binds (ps := ["edit", "old_text"]) fun _ _ _ _ _ _ us hl => match us, hl with | [_, _], _ => rfl
  have b21 := F21.binds (ps := ["edit", "other", "edit_first"]) fun _ _ _ _ _ _ us hl => match us, hl with | [_, _, _], _ => rfl
  have b22 := F22.binds (ps := ["edit", "g"]) fun _ _ _ _ _ _ us hl => match us, hl with | [_, _], _ => rfl
  have b23 := F23.binds (ps := ["edit", "g"]) fun _ _ _ _ _ _ us hl => match us, hl with | [_, _], _ => rfl
  have b24 := F24.binds (ps := ["one", "other"]) fun _ _ _ _ _ _ us hl => match us, hl with | [_, _], _ => rfl
  have b26 := F26.binds (ps := ["slots", "i"]) fun _ _ _ _ _ _ us hl => match us, hl with | [_, _], _ => rfl
  have b27 := F27.binds (ps := ["k", "items", "octets"]) fun _ _ _ _ _ _ us hl => match us, hl with | [_, _, _], _ => rfl
  have b28 := F28.binds (ps := ["slots", "reader"]) fun _ _ _ _ _ _ us hl => match us, hl with | [_, _], _ => rfl
  have b29 := F29.binds (ps := ["slots", "reader"]) fun _ _ _ _ _ _ us hl => match us, hl with | [_, _], _ => rfl
  have b30 := F30.binds (ps := ["slots", "reader"]) fun _ _ _ _ _ _ us hl => match us, hl with | [_, _], _ => rfl
  have b31 := F31.binds (ps := ["slots", "reader"]) fun _ _ _ _ _ _ us hl => match us, hl with | [_, _], _ => rfl
  have b32 := F32.binds (ps := ["slots", "reader"]) fun _ _ _ _ _ _ us hl => match us, hl with | [_, _], _ => rfl
  have b33 := F33.binds (ps := ["slots", "reader"]) fun _ _ _ _ _ _ us hl => match us, hl with | [_, _], _ => rfl
  have b34 := F34.binds (ps := ["slots", "reader"]) fun _ _ _ _ _ _ us hl => match us, hl with | [_, _], _ => rfl
  have b35 := F35.binds (ps := ["slots", "reader"]) fun _ _ _ _ _ _ us hl => match us, hl with | [_, _], _ => rfl
  have b36 := F36.binds (ps := ["slots", "reader"]) fun _ _ _ _ _ _ us hl => match us, hl with | [_, _], _ => rfl
  have b37 := F37.binds (ps := ["slots", "reader"]) fun _ _ _ _ _ _ us hl => match us, hl with | [_, _], _ => rfl
  have b39 := F39.binds (ps := ["calls"]) fun _ _ _ _ _ _ us hl => match us, hl with | [_], _ => rfl
  obtain ⟨e1, e2, e3, e4, e5, e6, e7, e8, e9, e10⟩ := hT
  have TB : Tab K dT [((1 : Int), f28), ((2 : Int), f29), ((3 : Int), f30), ((4 : Int), f31), ((5 : Int), f32), ((6 : Int), f33), ((7 : Int), f34), ((8 : Int), f35), ((9 : Int), f36), ((10 : Int), f37)] := by
    refine tab_mk lT (fun e he => ?_) (fun n f hf => ?_)
    · simp only [List.mem_cons, List.not_mem_nil, or_false] at he
      rcases he with rfl | rfl | rfl | rfl | rfl | rfl | rfl | rfl | rfl | rfl
      · exact ⟨_, _, rfl, e1⟩
      · exact ⟨_, _, rfl, e2⟩
      · exact ⟨_, _, rfl, e3⟩
      · exact ⟨_, _, rfl, e4⟩
      · exact ⟨_, _, rfl, e5⟩
      · exact ⟨_, _, rfl, e6⟩
      · exact ⟨_, _, rfl, e7⟩
      · exact ⟨_, _, rfl, e8⟩
      · exact ⟨_, _, rfl, e9⟩
      · exact ⟨_, _, rfl, e10⟩
    · have hn : n = 1 ∨ n = 2 ∨ n = 3 ∨ n = 4 ∨ n = 5 ∨ n = 6 ∨ n = 7 ∨ n = 8 ∨ n = 9 ∨ n = 10 := look_ten hf
      rcases hn with rfl | rfl | rfl | rfl | rfl | rfl | rfl | rfl | rfl | rfl <;> (cases hf; rfl)
  have hall : ∀ n : Int, 1 ≤ n → n ≤ 10 → ∃ f, ([((1 : Int), f28), ((2 : Int), f29), ((3 : Int), f30), ((4 : Int), f31), ((5 : Int), f32), ((6 : Int), f33), ((7 : Int), f34), ((8 : Int), f35), ((9 : Int), f36), ((10 : Int), f37)] : List (Int × Addr)).lookup n = some f := fun n h1 h2 => by
    have hn : n = 1 ∨ n = 2 ∨ n = 3 ∨ n = 4 ∨ n = 5 ∨ n = 6 ∨ n = 7 ∨ n = 8 ∨ n = 9 ∨ n = 10 := by omega
    rcases hn with rfl | rfl | rfl | rfl | rfl | rfl | rfl | rfl | rfl | rfl <;> exact ⟨_, rfl⟩
  have hfs : ∀ (n : Int) (f : Addr), ([((1 : Int), f28), ((2 : Int), f29), ((3 : Int), f30), ((4 : Int), f31), ((5 : Int), f32), ((6 : Int), f33), ((7 : Int), f34), ((8 : Int), f35), ((9 : Int), f36), ((10 : Int), f37)] : List (Int × Addr)).lookup n = some f → (1 ≤ n ∧ n ≤ 10) ∧ ∃ fd, Fun K (nameOf n) (nameOf n) (top (27 + n.toNat)) f fd ∧ Binds K fd ["slots", "reader"] [] := fun n f hf => by
    have hn : n = 1 ∨ n = 2 ∨ n = 3 ∨ n = 4 ∨ n = 5 ∨ n = 6 ∨ n = 7 ∨ n = 8 ∨ n = 9 ∨ n = 10 := look_ten hf
    refine ⟨by omega, ?_⟩
    rcases hn with rfl | rfl | rfl | rfl | rfl | rfl | rfl | rfl | rfl | rfl
    · cases hf
      exact ⟨_, F28, b28⟩
    · cases hf
      exact ⟨_, F29, b29⟩
    · cases hf
      exact ⟨_, F30, b30⟩
    · cases hf
      exact ⟨_, F31, b31⟩
    · cases hf
      exact ⟨_, F32, b32⟩
    · cases hf
      exact ⟨_, F33, b33⟩
    · cases hf
      exact ⟨_, F34, b34⟩
    · cases hf
      exact ⟨_, F35, b35⟩
    · cases hf
      exact ⟨_, F36, b36⟩
    · cases hf
      exact ⟨_, F37, b37⟩
  have T : Txt K mg CE CR := ⟨⟨pgE, hdE, poE, saE⟩, ⟨pgR, hdR, poR, saR⟩, nOs, nOr, nCa, nPo, ⟨fE0, _, FE0, ⟨mkE, aE0, iE0, kcE⟩, PySem.W.mg_of X G aCE, bE0⟩, ⟨fR0, _, FR0, ⟨mkR, aR0, iR0, kcR⟩, PySem.W.mg_of X G aCR, bR0⟩, ⟨fR1, _, FR1, ⟨aR1, iR1, kR1⟩, bR1⟩, ⟨fR2, _, FR2, ⟨aR2, iR2, kR2⟩, bR2⟩, ⟨fR3, _, FR3, ⟨aR3, iR3, kR3⟩, bR3⟩, ⟨f8, _, F8, PySem.W.mg_of X G a8, b8⟩, ⟨f9, _, F9, PySem.W.mg_of X G a9, b9⟩, ⟨f10, _, F10, PySem.W.mg_of X G a10, b10⟩, ⟨f11, _, F11, PySem.W.mg_of X G a11, b11⟩, ⟨f12, _, F12, PySem.W.mg_of X G a12, b12⟩, ⟨f13, _, F13, PySem.W.mg_of X G a13, b13⟩, ⟨f14, _, F14, PySem.W.mg_of X G a14, b14⟩, ⟨f15, _, F15, PySem.W.mg_of X G a15, b15⟩, ⟨f16, _, F16, PySem.W.mg_of X G a16, b16⟩, ⟨f17, _, F17, PySem.W.mg_of X G a17, b17⟩, ⟨f18, _, F18, PySem.W.mg_of X G a18, b18⟩, ⟨f19, _, F19, PySem.W.mg_of X G a19, b19⟩, ⟨f20, _, F20, PySem.W.mg_of X G a20, b20⟩, ⟨f21, _, F21, PySem.W.mg_of X G a21, b21⟩, ⟨f22, _, F22, PySem.W.mg_of X G a22, b22⟩, ⟨f23, _, F23, PySem.W.mg_of X G a23, b23⟩, ⟨f24, _, F24, PySem.W.mg_of X G a24, b24⟩, ⟨f26, _, F26, PySem.W.mg_of X G a26, b26⟩, ⟨f27, _, F27, PySem.W.mg_of X G a27, b27⟩, const_mk X G cS, const_mk X G cL, const_mk X G cM, const_mk X G cK, const_mk X G cD, const_mk X G cP, PySem.W.mg_none_of X G nLen, PySem.W.mg_none_of X G nSum, PySem.W.mg_none_of X G nRange, PySem.W.mg_none_of X G nAny, PySem.W.mg_none_of X G nList, PySem.W.mg_none_of X G nEnum, PySem.W.mg_none_of X G nZip, ⟨dT, _, PySem.W.mg_of X G aT, TB, hall, hfs⟩⟩
  exact ⟨_, fun s us hu => match us, hu with | [_], _ => .of_eq rfl, fun base _ _ => ok_answers T F39⟩
end Ed
open PySem PySem.W PyProof.Rows
set_option maxRecDepth 100000 in
set_option maxHeartbeats 0 in
theorem PySem.Challenge.cw_editslots_s01_answers_holds : PySem.Challenge.rw_editslots_s01_answers.Holds := by
  w_on; k_headS; (case hw => exact ⟨[.list [.int 2, .int 0]], by decide +kernel, by decide +kernel⟩)
  k_fillS
  refine L2.walk_specK (r := PySem.Challenge.rw_editslots_s01_answers) (k := 5) (CX := L2.CX0) (ps := ["calls"]) (sp := Ed.spAns) (by decide +kernel) rfl rfl ⟨rfl, by decide, by decide⟩ (fun w h Y => PySem.W.kIn_of Y) ?F ?S (fun _ _ _ _ z => z)
  case F =>
    intro w mg fa h Y KX G hmg
    refine' Ed.all_mk KX G hmg ?aCE ?pgE ?hdE ?poE ?saE ?mkE ?kcE ?aCR ?pgR ?hdR ?poR ?saR ?mkR ?kcR ?nOs ?nOr ?nCa ?nPo ?aE0 ?iE0 ?lE0 ?cE0 ?kE0 ?aR0 ?iR0 ?lR0 ?cR0 ?kR0 ?aR1 ?iR1 ?lR1 ?cR1 ?kR1 ?aR2 ?iR2 ?lR2 ?cR2 ?kR2 ?aR3 ?iR3 ?lR3 ?cR3 ?kR3 ?a8 ?l8 ?c8 ?k8 ?a9 ?l9 ?c9 ?k9 ?a10 ?l10 ?c10 ?k10 ?a11 ?l11 ?c11 ?k11 ?a12 ?l12 ?c12 ?k12 ?a13 ?l13 ?c13 ?k13 ?a14 ?l14 ?c14 ?k14 ?a15 ?l15 ?c15 ?k15 ?a16 ?l16 ?c16 ?k16 ?a17 ?l17 ?c17 ?k17 ?a18 ?l18 ?c18 ?k18 ?a19 ?l19 ?c19 ?k19 ?a20 ?l20 ?c20 ?k20 ?a21 ?l21 ?c21 ?k21 ?a22 ?l22 ?c22 ?k22 ?a23 ?l23 ?c23 ?k23 ?a24 ?l24 ?c24 ?k24 ?a26 ?l26 ?c26 ?k26 ?a27 ?l27 ?c27 ?k27 ?a28 ?l28 ?c28 ?k28 ?a29 ?l29 ?c29 ?k29 ?a30 ?l30 ?c30 ?k30 ?a31 ?l31 ?c31 ?k31 ?a32 ?l32 ?c32 ?k32 ?a33 ?l33 ?c33 ?k33 ?a34 ?l34 ?c34 ?k34 ?a35 ?l35 ?c35 ?k35 ?a36 ?l36 ?c36 ?k36 ?a37 ?l37 ?c37 ?k37 ?a39 ?l39 ?c39 ?k39 ?cS ?cL ?cM ?cK ?cD ?cP ?nLen ?nSum ?nRange ?nAny ?nList ?nEnum ?nZip ?aT ?lT ?hT
    (case aCE => k_is)
    (case pgE => k_is)
    (case hdE => k_is)
    (case poE => k_is)
    (case saE => k_is)
    (case mkE => k_is)
    (case kcE => k_is)
    (case aCR => k_is)
    (case pgR => k_is)
    (case hdR => k_is)
    (case poR => k_is)
    (case saR => k_is)
    (case mkR => k_is)
    (case kcR => k_is)
    (case nOs => k_is)
    (case nOr => k_is)
    (case nCa => k_is)
    (case nPo => k_is)
    (case aE0 => k_is)
    (case iE0 => k_is)
    (case lE0 => k_is)
    (case cE0 => k_is)
    (case kE0 => k_is)
    (case aR0 => k_is)
    (case iR0 => k_is)
    (case lR0 => k_is)
    (case cR0 => k_is)
    (case kR0 => k_is)
    (case aR1 => k_is)
    (case iR1 => k_is)
    (case lR1 => k_is)
    (case cR1 => k_is)
    (case kR1 => k_is)
    (case aR2 => k_is)
    (case iR2 => k_is)
    (case lR2 => k_is)
    (case cR2 => k_is)
    (case kR2 => k_is)
    (case aR3 => k_is)
    (case iR3 => k_is)
    (case lR3 => k_is)
    (case cR3 => k_is)
    (case kR3 => k_is)
    (case a8 => k_is)
    (case l8 => k_is)
    (case c8 => k_is)
    (case k8 => k_is)
    (case a9 => k_is)
    (case l9 => k_is)
    (case c9 => k_is)
    (case k9 => k_is)
    (case a10 => k_is)
    (case l10 => k_is)
    (case c10 => k_is)
    (case k10 => k_is)
    (case a11 => k_is)
    (case l11 => k_is)
    (case c11 => k_is)
    (case k11 => k_is)
    (case a12 => k_is)
    (case l12 => k_is)
    (case c12 => k_is)
    (case k12 => k_is)
    (case a13 => k_is)
    (case l13 => k_is)
    (case c13 => k_is)
    (case k13 => k_is)
    (case a14 => k_is)
    (case l14 => k_is)
    (case c14 => k_is)
    (case k14 => k_is)
    (case a15 => k_is)
    (case l15 => k_is)
    (case c15 => k_is)
    (case k15 => k_is)
    (case a16 => k_is)
    (case l16 => k_is)
    (case c16 => k_is)
    (case k16 => k_is)
    (case a17 => k_is)
    (case l17 => k_is)
    (case c17 => k_is)
    (case k17 => k_is)
    (case a18 => k_is)
    (case l18 => k_is)
    (case c18 => k_is)
    (case k18 => k_is)
    (case a19 => k_is)
    (case l19 => k_is)
    (case c19 => k_is)
    (case k19 => k_is)
    (case a20 => k_is)
    (case l20 => k_is)
    (case c20 => k_is)
    (case k20 => k_is)
    (case a21 => k_is)
    (case l21 => k_is)
    (case c21 => k_is)
    (case k21 => k_is)
    (case a22 => k_is)
    (case l22 => k_is)
    (case c22 => k_is)
    (case k22 => k_is)
    (case a23 => k_is)
    (case l23 => k_is)
    (case c23 => k_is)
    (case k23 => k_is)
    (case a24 => k_is)
    (case l24 => k_is)
    (case c24 => k_is)
    (case k24 => k_is)
    (case a26 => k_is)
    (case l26 => k_is)
    (case c26 => k_is)
    (case k26 => k_is)
    (case a27 => k_is)
    (case l27 => k_is)
    (case c27 => k_is)
    (case k27 => k_is)
    (case a28 => k_is)
    (case l28 => k_is)
    (case c28 => k_is)
    (case k28 => k_is)
    (case a29 => k_is)
    (case l29 => k_is)
    (case c29 => k_is)
    (case k29 => k_is)
    (case a30 => k_is)
    (case l30 => k_is)
    (case c30 => k_is)
    (case k30 => k_is)
    (case a31 => k_is)
    (case l31 => k_is)
    (case c31 => k_is)
    (case k31 => k_is)
    (case a32 => k_is)
    (case l32 => k_is)
    (case c32 => k_is)
    (case k32 => k_is)
    (case a33 => k_is)
    (case l33 => k_is)
    (case c33 => k_is)
    (case k33 => k_is)
    (case a34 => k_is)
    (case l34 => k_is)
    (case c34 => k_is)
    (case k34 => k_is)
    (case a35 => k_is)
    (case l35 => k_is)
    (case c35 => k_is)
    (case k35 => k_is)
    (case a36 => k_is)
    (case l36 => k_is)
    (case c36 => k_is)
    (case k36 => k_is)
    (case a37 => k_is)
    (case l37 => k_is)
    (case c37 => k_is)
    (case k37 => k_is)
    (case a39 => k_is)
    (case l39 => k_is)
    (case c39 => k_is)
    (case k39 => k_is)
    (case cS => k_is)
    (case cL => k_is)
    (case cM => k_is)
    (case cK => k_is)
    (case cD => k_is)
    (case cP => k_is)
    (case nLen => k_is)
    (case nSum => k_is)
    (case nRange => k_is)
    (case nAny => k_is)
    (case nList => k_is)
    (case nEnum => k_is)
    (case nZip => k_is)
    (case aT => k_is)
    (case lT => k_is)
    (case hT => exact ⟨by decide, by decide, by decide, by decide, by decide, by decide, by decide, by decide, by decide, by decide⟩)
  case S =>
    intro K H xs a hO hwi hask hx
    cases hx with
    | cons h1 h2 =>
      cases h2
      cases h1 with
      | lst hs ha =>
        have e := L2.ints_dw a.1 _ ha
        subst e
        have q : ((Codec.inLen 0 30000 a.1 && a.1.all (Codec.inInt 0 4294967295)) && true) = true := hwi
        rw [Bool.and_eq_true, Bool.and_eq_true] at q
        exact ⟨_, a.1, rfl, hs, (Codec.inNat_iff.mp q.1.1).2, fun z hz => (Codec.inInt_iff.mp (List.all_eq_true.mp q.1.2 z hz)).1, hask, fun H' p hp => .lst (L2.SqL.of hp) (L2.dw_ints _)⟩
#print axioms PySem.Challenge.cw_editslots_s01_answers_holds
