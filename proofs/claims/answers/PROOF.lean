import PyProof.Rows.All
import Wide.All
import OpenK.AllK
import Wide.FinOn
import Open.SpecLaws
import KE.OsGo
import HandS.ForMost
import HandS.ForSpec
import HandS.Strs
import HandS.Deep
import HandS.TupSets
import HandS.SortInts
import HandS.Zip
import HandS.TupLen
import HandS.Walk
import KE.KDictKeyed
import HandS.SetFor
import HandS.Iter
import KE.KDictCopyH
import KE.KDictSum
import PyProof.Rows.ChunkEnd
import HandS.Head4
import HandS.HeadHook2
import HandS.Spec
import PySem.Challenge.RW_linegrafts_s01_answers
set_option Elab.async false
set_option linter.all false
set_option maxRecDepth 100000
set_option maxHeartbeats 0
/-! The mathematics, first part: sorted numbers, what is reached, ranks. -/
namespace Lg
open Gf11
/-! ### sorted lists of numbers -/
theorem mem_insertNat {x y : Nat} : ∀ {l : List Nat}, y ∈ insertNat x l ↔ y = x ∨ y ∈ l
  | [] => by simp [insertNat]
  | z :: l => by
    unfold insertNat
    by_cases h1 : x = z
    · subst h1
      simp
    · rw [if_neg h1]
      by_cases h2 : x < z
      · rw [if_pos h2]
        simp
      · rw [if_neg h2]
        simp only [List.mem_cons, mem_insertNat (l := l)]
        constructor
        · rintro (h | h | h)
          · exact .inr (.inl h)
          · exact .inl h
          · exact .inr (.inr h)
        · rintro (h | h | h)
          · exact .inr (.inl h)
          · exact .inl h
          · exact .inr (.inr h)
abbrev Up (l : List Nat) : Prop := l.Pairwise (· < ·)
theorem up_insertNat {x : Nat} : ∀ {l : List Nat}, Up l → Up (insertNat x l)
  | [], _ => by simp [insertNat, Up]
  | z :: l, h => by
    unfold insertNat
    by_cases h1 : x = z
    · rw [if_pos h1]
      exact h
    · rw [if_neg h1]
      obtain ⟨ha, hb⟩ := List.pairwise_cons.mp h
      by_cases h2 : x < z
      · rw [if_pos h2]
        refine List.pairwise_cons.mpr ⟨fun a m => ?_, h⟩
        rcases List.mem_cons.mp m with rfl | m
        · exact h2
        · exact Nat.lt_trans h2 (ha a m)
      · rw [if_neg h2]
        refine List.pairwise_cons.mpr ⟨fun a m => ?_, up_insertNat hb⟩
        rcases mem_insertNat.mp m with rfl | m
        · omega
        · exact ha a m
theorem mem_fold_insert {y : Nat} : ∀ {l s : List Nat}, y ∈ l.foldl (fun s x => insertNat x s) s ↔ y ∈ l ∨ y ∈ s
  | [], s => by simp
  | x :: l, s => by
    rw [List.foldl_cons, mem_fold_insert, mem_insertNat]
    simp only [List.mem_cons]
    constructor
    · rintro (h | h | h)
      · exact .inl (.inr h)
      · exact .inl (.inl h)
      · exact .inr h
    · rintro ((h | h) | h)
      · exact .inr (.inl h)
      · exact .inl h
      · exact .inr (.inr h)
theorem up_fold_insert : ∀ {l s : List Nat}, Up s → Up (l.foldl (fun s x => insertNat x s) s)
  | [], _, h => h
  | x :: l, s, h => up_fold_insert (l := l) (up_insertNat h)
theorem mem_sortNumbers {y : Nat} {l : List Nat} : y ∈ sortNumbers l ↔ y ∈ l := by
  unfold sortNumbers
  rw [mem_fold_insert]
  simp
theorem up_sortNumbers (l : List Nat) : Up (sortNumbers l) := up_fold_insert List.Pairwise.nil
/-- rising lists with the same members are the same -/
theorem up_ext : ∀ {l m : List Nat}, Up l → Up m → (∀ x, x ∈ l ↔ x ∈ m) → l = m
  | [], [], _, _, _ => rfl
  | [], y :: m, _, _, h => by have := (h y).mpr List.mem_cons_self; cases this
  | x :: l, [], _, _, h => by have := (h x).mp List.mem_cons_self; cases this
  | x :: l, y :: m, hl, hm, h => by
    obtain ⟨a1, a2⟩ := List.pairwise_cons.mp hl
    obtain ⟨b1, b2⟩ := List.pairwise_cons.mp hm
    have e : x = y := by
      rcases List.mem_cons.mp ((h x).mp List.mem_cons_self) with e | e
      · exact e
      · rcases List.mem_cons.mp ((h y).mpr List.mem_cons_self) with e' | e'
        · exact e'.symm
        · have := b1 _ e
          have := a1 _ e'
          omega
    subst e
    congr 1
    refine up_ext a2 b2 fun z => ⟨fun hz => ?_, fun hz => ?_⟩
    · rcases List.mem_cons.mp ((h z).mp (List.mem_cons_of_mem _ hz)) with e | e
      · subst e
        exact absurd (a1 _ hz) (Nat.lt_irrefl _)
      · exact e
    · rcases List.mem_cons.mp ((h z).mpr (List.mem_cons_of_mem _ hz)) with e | e
      · subst e
        exact absurd (b1 _ hz) (Nat.lt_irrefl _)
      · exact e
theorem up_filter {p : Nat → Bool} {l : List Nat} (h : Up l) : Up (l.filter p) := List.Pairwise.filter p h
theorem up_nodup {l : List Nat} (h : Up l) : l.Nodup := List.Pairwise.imp (fun h => Nat.ne_of_lt h) h
/-- a number above all goes behind -/
theorem insertNat_last {x : Nat} : ∀ {l : List Nat}, (∀ y ∈ l, y < x) → insertNat x l = l ++ [x]
  | [], _ => rfl
  | z :: l, h => by
    have hz := h z List.mem_cons_self
    unfold insertNat
    rw [if_neg (by omega), if_neg (by omega), insertNat_last fun y m => h y (List.mem_cons_of_mem _ m)]
    rfl
theorem up_snoc {x : Nat} {l : List Nat} (h : Up l) (hx : ∀ y ∈ l, y < x) : Up (l ++ [x]) := by
  rw [← insertNat_last hx]
  exact up_insertNat h
/-- rising numbers below n are at most n -/
theorem up_len : ∀ (n : Nat) {l : List Nat}, Up l → (∀ x ∈ l, x < n) → l.length ≤ n := by
  intro n
  induction n with
  | zero =>
    intro l _ hx
    cases l with
    | nil => exact Nat.le_refl _
    | cons a l => exact absurd (hx a List.mem_cons_self) (Nat.not_lt_zero _)
  | succ n ih =>
    intro l h hx
    have h2 : l.length ≤ (l.filter fun x => x != n).length + 1 := by
      clear ih hx
      induction l with
      | nil => exact Nat.zero_le _
      | cons a l ihl =>
        obtain ⟨h1, h2⟩ := List.pairwise_cons.mp h
        by_cases e : a = n
        · subst e
          have : (l.filter fun x => x != a) = l := List.filter_eq_self.mpr fun x m => by
            have := h1 x m
            simp
            omega
          rw [List.filter_cons]
          simp [this]
        · have := ihl h2
          rw [List.filter_cons]
          simp [e]
          omega
    have h3 := ih (up_filter (p := fun x => x != n) h) fun x m => by
      have m' := List.mem_filter.mp m
      have := hx x m'.1
      have : x ≠ n := by simpa using m'.2
      omega
    omega
/-! ### what is reached -/
abbrev Edges := List (Position × Position)
inductive Path (es : Edges) : Position → Position → Prop
  | one {x y} : (x, y) ∈ es → Path es x y
  | more {x y z} : Path es x y → (y, z) ∈ es → Path es x z
theorem Path.trans {es : Edges} {x y : Position} (h : Path es x y) : ∀ {z}, Path es y z → Path es x z := by
  intro z k
  induction k with
  | one e => exact .more h e
  | more _ e ih => exact .more ih e
theorem Path.mono {es fs : Edges} (s : ∀ e ∈ es, e ∈ fs) {x y : Position} (h : Path es x y) : Path fs x y := by
  induction h with
  | one e => exact .one (s _ e)
  | more _ e ih => exact .more ih (s _ e)
theorem mem_eraseDups {α : Type} [BEq α] [LawfulBEq α] {x : α} {l : List α} : x ∈ l.eraseDups ↔ x ∈ l := List.mem_eraseDups
theorem reached_sub (es : Edges) : ∀ (f : Nat) (l : List Position) (y : Position), y ∈ l → y ∈ reachableFrom es f l
  | 0, _, _, h => h
  | f + 1, l, y, h => by
    unfold reachableFrom
    dsimp only
    split
    · exact h
    · exact reached_sub es f _ y (List.mem_append_left _ h)
theorem reached_sound (es : Edges) (x : Position) : ∀ (f : Nat) (l : List Position), (∀ y ∈ l, y = x ∨ Path es x y) → ∀ y ∈ reachableFrom es f l, y = x ∨ Path es x y
  | 0, _, h => h
  | f + 1, l, h => by
    unfold reachableFrom
    dsimp only
    split
    · exact h
    · refine reached_sound es x f _ fun y hy => ?_
      rcases List.mem_append.mp hy with hy | hy
      · exact h y hy
      · rw [mem_eraseDups, List.mem_map] at hy
        obtain ⟨e, he, rfl⟩ := hy
        have q := List.mem_filter.mp he
        have q2 : e.1 ∈ l := by
          have := (Bool.and_eq_true_iff.mp q.2).1
          exact List.contains_iff_mem.mp this
        rcases h e.1 q2 with r | r
        · exact .inr (.one (by rw [← r]; exact q.1))
        · exact .inr (.more r q.1)
/-- how many edges lead out of l -/
def outs (es : Edges) (l : List Position) : Nat := (es.filter fun e => !l.contains e.2).length
theorem outs_le (es : Edges) (l : List Position) : outs es l ≤ es.length := List.length_filter_le _ _
theorem mem_consecutive {e : Position × Position} : ∀ {l : List Position}, e ∈ consecutive l → e.1 ∈ l ∧ e.2 ∈ l
  | [], h => by cases h
  | [_], h => by cases h
  | a :: b :: l, h => by
    have h' : e ∈ (a, b) :: consecutive (b :: l) := h
    rcases List.mem_cons.mp h' with rfl | m
    · exact ⟨List.mem_cons_self, List.mem_cons_of_mem _ List.mem_cons_self⟩
    · obtain ⟨x, y⟩ := mem_consecutive m
      exact ⟨List.mem_cons_of_mem _ x, List.mem_cons_of_mem _ y⟩
theorem filter_len_le {α : Type} {p q : α → Bool} : ∀ (l : List α), (∀ x ∈ l, q x = true → p x = true) → (l.filter q).length ≤ (l.filter p).length
  | [], _ => Nat.le_refl _
  | x :: l, h => by
    have ih := filter_len_le l fun y m => h y (List.mem_cons_of_mem _ m)
    have hx := h x List.mem_cons_self
    rw [List.filter_cons, List.filter_cons]
    by_cases c : q x = true
    · rw [if_pos c, if_pos (hx c)]
      exact Nat.succ_le_succ ih
    · rw [if_neg c]
      by_cases d : p x = true
      · rw [if_pos d]
        exact Nat.le_succ_of_le ih
      · rw [if_neg d]
        exact ih
theorem filter_len_lt {α : Type} {p q : α → Bool} {a : α} (hp : p a = true) (hq : q a = false) : ∀ (l : List α), (∀ x ∈ l, q x = true → p x = true) → a ∈ l → (l.filter q).length < (l.filter p).length
  | [], _, m => by cases m
  | x :: l, h, m => by
    have hl : ∀ y ∈ l, q y = true → p y = true := fun y m => h y (List.mem_cons_of_mem _ m)
    rw [List.filter_cons, List.filter_cons]
    rcases List.mem_cons.mp m with e | m
    · subst e
      rw [if_pos hp, if_neg (by rw [hq]; exact Bool.false_ne_true)]
      exact Nat.lt_succ_of_le (filter_len_le l hl)
    · have ih := filter_len_lt hp hq l hl m
      have hx := h x List.mem_cons_self
      by_cases c : q x = true
      · rw [if_pos c, if_pos (hx c)]
        exact Nat.succ_lt_succ ih
      · rw [if_neg c]
        by_cases d : p x = true
        · rw [if_pos d]
          exact Nat.lt_succ_of_lt ih
        · rw [if_neg d]
          exact ih
theorem outs_lt {es : Edges} {l m : List Position} {e : Position × Position} (h0 : e ∈ es) (h1 : l.contains e.2 = false) (h2 : e.2 ∈ m) : outs es (l ++ m) < outs es l := by
  refine filter_len_lt (a := e) (by rw [h1]; rfl) ?_ es (fun x _ hx => ?_) h0
  · have : (l ++ m).contains e.2 = true := List.contains_iff_mem.mpr (List.mem_append_right _ h2)
    rw [this]
    rfl
  · have hx' : (l ++ m).contains x.2 = false := by simpa using hx
    have : ¬ x.2 ∈ l := fun k => by
      have := List.contains_iff_mem.mpr (List.mem_append_left m k)
      rw [this] at hx'
      cases hx'
    simpa using this
theorem reached_closed (es : Edges) : ∀ (f : Nat) (l : List Position), outs es l < f → ∀ e ∈ es, e.1 ∈ reachableFrom es f l → e.2 ∈ reachableFrom es f l
  | 0, _, h => absurd h (Nat.not_lt_zero _)
  | f + 1, l, h => by
    unfold reachableFrom
    dsimp only
    by_cases c : ((es.filter fun e => l.contains e.1 && !l.contains e.2).map fun e => e.2).isEmpty = true
    · rw [if_pos c]
      intro e he h1
      have c2 : (es.filter fun e => l.contains e.1 && !l.contains e.2) = [] := by
        have := List.isEmpty_iff.mp c
        exact List.map_eq_nil_iff.mp this
      by_cases k : l.contains e.2 = true
      · exact List.contains_iff_mem.mp k
      · have : e ∈ es.filter fun e => l.contains e.1 && !l.contains e.2 := List.mem_filter.mpr ⟨he, by
          rw [List.contains_iff_mem.mpr h1]
          simpa using k⟩
        rw [c2] at this
        cases this
    · rw [if_neg c]
      refine reached_closed es f _ ?_
      obtain ⟨e0, he0⟩ : ∃ e, e ∈ es.filter fun e => l.contains e.1 && !l.contains e.2 := by
        refine List.exists_mem_of_ne_nil _ fun hq => ?_
        rw [hq] at c
        exact absurd rfl c
      have q := List.mem_filter.mp he0
      have q2 : l.contains e0.2 = false := by simpa using (Bool.and_eq_true_iff.mp q.2).2
      have := outs_lt (m := ((es.filter fun e => l.contains e.1 && !l.contains e.2).map fun e => e.2).eraseDups) q.1 q2 (by
        rw [mem_eraseDups]
        exact List.mem_map_of_mem he0)
      omega
/-- what the specification reaches from x: x, and what a way leads to -/
theorem reached_iff (es : Edges) (x y : Position) : y ∈ reachableFrom es (es.length + 1) [x] ↔ y = x ∨ Path es x y := by
  constructor
  · exact reached_sound es x _ _ (fun z hz => .inl (List.mem_singleton.mp hz)) y
  · have base : x ∈ reachableFrom es (es.length + 1) [x] := reached_sub es _ _ x List.mem_cons_self
    rintro (rfl | h)
    · exact base
    · have cl := reached_closed es (es.length + 1) [x] (Nat.lt_succ_of_le (outs_le es [x]))
      induction h with
      | one e => exact cl _ e base
      | more _ e ih => exact cl _ e ih
/-- whether one position stands before another -/
theorem find_key {es : Edges} {x : Position} : ∀ {l : List (Position × Line)}, x ∈ l.map (·.1) → ((orderTable es l).find? fun z => z.1 == x) = some (x, reachableFrom es (es.length + 1) [x])
  | [], h => by cases h
  | a :: l, h => by
    show (List.find? (fun z => z.1 == x) ((a.1, reachableFrom es (es.length + 1) [a.1]) :: orderTable es l)) = _
    rw [List.find?_cons]
    by_cases e : a.1 = x
    · subst e
      simp
    · have : (a.1 == x) = false := by simpa using e
      simp only [this]
      refine find_key ?_
      rcases List.mem_cons.mp h with e' | m
      · exact absurd e'.symm e
      · exact m
theorem isBefore_iff {es : Edges} {l : List (Position × Line)} {x y : Position} (h : x ∈ l.map (·.1)) : isBefore (orderTable es l) x y = true ↔ x ≠ y ∧ Path es x y := by
  unfold isBefore
  rw [find_key h]
  simp only [Option.map_some, Option.getD_some, Bool.and_eq_true, bne_iff_ne, ne_eq, List.contains_iff_mem, reached_iff]
  constructor
  · rintro ⟨a, b | b⟩
    · exact absurd b.symm a
    · exact ⟨a, b⟩
  · rintro ⟨a, b⟩
    exact ⟨a, .inr b⟩
/-! ### ranks: each edge rises -/
abbrev Rank := Position → Int
def Rises (r : Rank) (es : Edges) : Prop := ∀ e ∈ es, r e.1 < r e.2
theorem Rises.path {r : Rank} {es : Edges} (h : Rises r es) {x y : Position} (p : Path es x y) : r x < r y := by
  induction p with
  | one e => exact h _ e
  | more _ e ih => exact Int.lt_trans ih (h _ e)
theorem Rises.irrefl {r : Rank} {es : Edges} (h : Rises r es) (x : Position) : ¬ Path es x x := fun p => Int.lt_irrefl _ (h.path p)
structure Bounded (r : Rank) : Prop where
  ends : r .start < r .end_
  lo : ∀ p i, r .start < r (.line p i)
  hi : ∀ p i, r (.line p i) < r .end_
theorem Bounded.start_le {r : Rank} (h : Bounded r) : ∀ x, r .start ≤ r x
  | .start => Int.le_refl _
  | .end_ => Int.le_of_lt h.ends
  | .line p i => Int.le_of_lt (h.lo p i)
theorem Bounded.le_end {r : Rank} (h : Bounded r) : ∀ x, r x ≤ r .end_
  | .start => Int.le_of_lt h.ends
  | .end_ => Int.le_refl _
  | .line p i => Int.le_of_lt (h.hi p i)
/-- what stood in an order stays in it, but for the new positions -/
def Keeps (r r' : Rank) (N : Position → Prop) : Prop := ∀ x y, ¬ N x → ¬ N y → r x < r y → r' x < r' y
def between (r : Rank) (u v n : Position) : Rank := fun x => if x = n then r u + r v else 2 * r x
theorem between_ok {r : Rank} {u v : Position} {p i : Nat} (b : Bounded r) (h : r u < r v) (hu : u ≠ .line p i) (hv : v ≠ .line p i) :
    Bounded (between r u v (.line p i)) ∧ Keeps r (between r u v (.line p i)) (fun x => x = .line p i) ∧
      between r u v (.line p i) u < between r u v (.line p i) (.line p i) ∧ between r u v (.line p i) (.line p i) < between r u v (.line p i) v := by
  have b1 := b.start_le u
  have b2 := b.le_end v
  have b3 := b.le_end u
  have b4 := b.start_le v
  have b5 := b.ends
  have eu : between r u v (.line p i) u = 2 * r u := if_neg hu
  have ev : between r u v (.line p i) v = 2 * r v := if_neg hv
  have en : between r u v (.line p i) (.line p i) = r u + r v := if_pos rfl
  have es : between r u v (.line p i) .start = 2 * r .start := if_neg (by intro h; cases h)
  have ee : between r u v (.line p i) .end_ = 2 * r .end_ := if_neg (by intro h; cases h)
  refine ⟨⟨by omega, fun q j => ?_, fun q j => ?_⟩, fun x y hx hy k => ?_, by omega, by omega⟩
  · have := b.lo q j
    have e : between r u v (.line p i) (.line q j) = if Position.line q j = .line p i then r u + r v else 2 * r (.line q j) := rfl
    rw [es, e]
    split <;> omega
  · have := b.hi q j
    have e : between r u v (.line p i) (.line q j) = if Position.line q j = .line p i then r u + r v else 2 * r (.line q j) := rfl
    rw [ee, e]
    split <;> omega
  · have ex : between r u v (.line p i) x = 2 * r x := if_neg hx
    have ey : between r u v (.line p i) y = 2 * r y := if_neg hy
    omega
/-- the lines of change p from k on, n of them, between two positions -/
def newLines (p k n : Nat) : List Position := (List.range n).map fun i => Position.line p (k + i)
theorem newLines_succ (p k n : Nat) : newLines p k (n + 1) = Position.line p k :: newLines p (k + 1) n := by
  unfold newLines
  rw [List.range_succ_eq_map, List.map_cons, List.map_map]
  congr 1
  refine List.map_congr_left fun i _ => ?_
  show Position.line p (k + (i + 1)) = Position.line p (k + 1 + i)
  congr 1
  omega
theorem mem_newLines {p k n : Nat} {x : Position} : x ∈ newLines p k n ↔ ∃ i, k ≤ i ∧ i < k + n ∧ x = .line p i := by
  unfold newLines
  rw [List.mem_map]
  constructor
  · rintro ⟨i, hi, rfl⟩
    have := List.mem_range.mp hi
    exact ⟨k + i, by omega, by omega, rfl⟩
  · rintro ⟨i, h1, h2, rfl⟩
    exact ⟨i - k, List.mem_range.mpr (by omega), by congr 1; omega⟩
theorem chain_rank {p : Nat} {v : Position} : ∀ (n k : Nat) (u : Position) (r : Rank), Bounded r → r u < r v → (∀ i, k ≤ i → u ≠ .line p i) → (∀ i, k ≤ i → v ≠ .line p i) →
    ∃ r', Bounded r' ∧ Keeps r r' (fun x => x ∈ newLines p k n) ∧ Rises r' (consecutive (u :: (newLines p k n ++ [v])))
  | 0, k, u, r, b, h, _, _ => ⟨r, b, fun _ _ _ _ h => h, fun e he => by
    have : e = (u, v) := by
      have he' : e ∈ [(u, v)] := he
      exact List.mem_singleton.mp he'
    subst this
    exact h⟩
  | n + 1, k, u, r, b, h, hu, hv => by
    obtain ⟨b1, k1, l1, l2⟩ := between_ok b h (hu k (Nat.le_refl _)) (hv k (Nat.le_refl _))
    obtain ⟨r', b', k', s'⟩ := chain_rank n (k + 1) (.line p k) _ b1 l2 (fun i hi e => by injection e with _ e; omega) (fun i hi => hv i (by omega))
    refine ⟨r', b', fun x y hx hy hl => ?_, ?_⟩
    · rw [newLines_succ] at hx hy
      refine k' x y (fun m => hx (List.mem_cons_of_mem _ m)) (fun m => hy (List.mem_cons_of_mem _ m)) (k1 x y (fun e => hx (by rw [e]; exact List.mem_cons_self)) (fun e => hy (by rw [e]; exact List.mem_cons_self)) hl)
    · rw [newLines_succ]
      intro e he
      have he' : e ∈ (u, Position.line p k) :: consecutive (Position.line p k :: (newLines p (k + 1) n ++ [v])) := he
      rcases List.mem_cons.mp he' with rfl | m
      · refine k' _ _ (fun m => ?_) (fun m => ?_) l1
        · obtain ⟨i, h1, _, e⟩ := mem_newLines.mp m
          exact hu i (by omega) e
        · obtain ⟨i, h1, _, e⟩ := mem_newLines.mp m
          injection e with _ e
          omega
      · exact s' e m
/-- the hunks of a change between positions that rise: all its edges rise, and what rose goes on -/
theorem hunks_rank {p : Nat} : ∀ (hs : List Hunk) (k : Nat) (r : Rank), Bounded r → (∀ h ∈ hs, r h.before < r h.after ∧ (∀ i, h.before ≠ .line p i) ∧ (∀ i, h.after ≠ .line p i)) →
    ∃ r', Bounded r' ∧ Keeps r r' (fun x => ∃ i, k ≤ i ∧ x = .line p i) ∧ Rises r' (hunkEdges p k hs)
  | [], k, r, b, _ => ⟨r, b, fun _ _ _ _ h => h, fun e he => by cases he⟩
  | h :: hs, k, r, b, H => by
    obtain ⟨l1, l2, l3⟩ := H h List.mem_cons_self
    obtain ⟨r1, b1, k1, s1⟩ := chain_rank (v := h.after) h.lines.length k h.before r b l1 (fun i _ => l2 i) (fun i _ => l3 i)
    have out1 : ∀ x, (∀ i, x ≠ Position.line p i) → ¬ x ∈ newLines p k h.lines.length := fun x hx m => by
      obtain ⟨i, _, _, e⟩ := mem_newLines.mp m
      exact hx i e
    obtain ⟨r2, b2, k2, s2⟩ := hunks_rank hs (k + h.lines.length) r1 b1 fun g hg => by
      obtain ⟨m1, m2, m3⟩ := H g (List.mem_cons_of_mem _ hg)
      exact ⟨k1 _ _ (out1 _ m2) (out1 _ m3) m1, m2, m3⟩
    have out2 : ∀ x, (∀ i, k + h.lines.length ≤ i → x ≠ Position.line p i) → ¬ ∃ i, k + h.lines.length ≤ i ∧ x = Position.line p i := fun x hx ⟨i, a, e⟩ => hx i a e
    refine ⟨r2, b2, fun x y hx hy hl => ?_, fun e he => ?_⟩
    · refine k2 x y (fun ⟨i, a, e⟩ => hx ⟨i, by omega, e⟩) (fun ⟨i, a, e⟩ => hy ⟨i, by omega, e⟩) (k1 x y (fun m => ?_) (fun m => ?_) hl)
      · obtain ⟨i, a, _, e⟩ := mem_newLines.mp m
        exact hx ⟨i, a, e⟩
      · obtain ⟨i, a, _, e⟩ := mem_newLines.mp m
        exact hy ⟨i, a, e⟩
    · have he' : e ∈ consecutive (h.before :: (newLines p k h.lines.length ++ [h.after])) ++ hunkEdges p (k + h.lines.length) hs := he
      rcases List.mem_append.mp he' with m | m
      · have ends : ∀ z, z ∈ h.before :: (newLines p k h.lines.length ++ [h.after]) → ¬ ∃ i, k + h.lines.length ≤ i ∧ z = Position.line p i := fun z hz => by
          rcases List.mem_cons.mp hz with rfl | hz
          · exact out2 _ fun i _ => l2 i
          · rcases List.mem_append.mp hz with hz | hz
            · obtain ⟨i, a, c, rfl⟩ := mem_newLines.mp hz
              refine out2 _ fun j hj e => ?_
              injection e with _ e
              omega
            · rw [List.mem_singleton.mp hz]
              exact out2 _ fun i _ => l3 i
        have q := mem_consecutive m
        exact k2 _ _ (ends _ q.1) (ends _ q.2) (s1 e m)
      · exact s2 e m
end Lg
/-! The mathematics, second part: the order of the visible lines, the change between two texts, what holds of every state. -/
namespace Lg
open Gf11
/-! ### the order -/
theorem least_rank {α : Type} (r : α → Int) : ∀ (l : List α), l ≠ [] → ∃ x ∈ l, ∀ y ∈ l, r x ≤ r y
  | [], h => absurd rfl h
  | [x], _ => ⟨x, List.mem_cons_self, fun y m => by rw [List.mem_singleton.mp m]; exact Int.le_refl _⟩
  | x :: y :: l, _ => by
    obtain ⟨z, hz, h⟩ := least_rank r (y :: l) (by intro h; cases h)
    by_cases c : r x ≤ r z
    · refine ⟨x, List.mem_cons_self, fun w m => ?_⟩
      rcases List.mem_cons.mp m with rfl | m
      · exact Int.le_refl _
      · exact Int.le_trans c (h w m)
    · refine ⟨z, List.mem_cons_of_mem _ hz, fun w m => ?_⟩
      rcases List.mem_cons.mp m with rfl | m
      · omega
      · exact h w m
section
variable {es : Edges} {l0 : List (Position × Line)} {r : Rank}
theorem before_rank (R : Rises r es) {x y : Position} (hx : x ∈ l0.map (·.1)) (h : isBefore (orderTable es l0) x y = true) : r x < r y := R.path ((isBefore_iff hx).mp h).2
theorem first_some (R : Rises r es) {l : List (Position × Line)} (hs : ∀ x ∈ l, x ∈ l0) (h : l ≠ []) : ∃ x, firstMinimal (orderTable es l0) l = some x := by
  obtain ⟨x, hx, hm⟩ := least_rank (fun x : Position × Line => r x.1) l h
  have : (firstMinimal (orderTable es l0) l).isSome = true := by
    unfold firstMinimal
    rw [List.find?_isSome]
    refine ⟨x, hx, List.all_eq_true.mpr fun y hy => ?_⟩
    cases c : isBefore (orderTable es l0) y.1 x.1 with
    | false => rfl
    | true =>
      have := before_rank R (List.mem_map_of_mem (hs y hy)) c
      have := hm y hy
      omega
  exact Option.isSome_iff_exists.mp this
theorem first_spec {t : OrderTable} {l : List (Position × Line)} {x : Position × Line} (h : firstMinimal t l = some x) : x ∈ l ∧ ∀ y ∈ l, isBefore t y.1 x.1 = false := by
  unfold firstMinimal at h
  have h1 := List.find?_some h
  refine ⟨List.mem_of_find?_eq_some h, fun y hy => ?_⟩
  have := List.all_eq_true.mp h1 y hy
  simpa using this
/-- without the one at a place, in a list without doubles -/
theorem filter_perm {l : List (Position × Line)} (hn : (l.map (·.1)).Nodup) {x : Position × Line} (hx : x ∈ l) : List.Perm (x :: l.filter fun y => y.1 != x.1) l := by
  induction l with
  | nil => cases hx
  | cons a l ih =>
    obtain ⟨h1, h2⟩ := List.nodup_cons.mp hn
    rw [List.filter_cons]
    rcases List.mem_cons.mp hx with rfl | m
    · have : (l.filter fun y => y.1 != x.1) = l := List.filter_eq_self.mpr fun y hy => by
        have : y.1 ≠ x.1 := fun e => h1 (show x.1 ∈ _ from by rw [← e]; exact List.mem_map_of_mem hy)
        simpa using this
      simp [this]
    · have ne : a.1 ≠ x.1 := fun e => h1 (show a.1 ∈ _ from by rw [e]; exact List.mem_map_of_mem m)
      have : (a.1 != x.1) = true := by simpa using ne
      rw [if_pos this]
      exact (List.Perm.swap a x _).trans (List.Perm.cons a (ih h2 m))
theorem lin_perm (R : Rises r es) : ∀ (f : Nat) (l : List (Position × Line)), l.length = f → (∀ x ∈ l, x ∈ l0) → (l.map (·.1)).Nodup → (linearize (orderTable es l0) f l).Perm l
  | 0, l, h, _, _ => by
    rw [List.length_eq_zero_iff.mp h]
    exact List.Perm.refl _
  | f + 1, l, h, hs, hn => by
    obtain ⟨x, hx⟩ := first_some R hs (by intro e; rw [e] at h; cases h)
    have hm := (first_spec hx).1
    have hp := filter_perm hn hm
    have hl : (l.filter fun y => y.1 != x.1).length = f := by
      have := hp.length_eq
      rw [List.length_cons] at this
      omega
    have ih := lin_perm R f _ hl (fun y hy => hs y (List.mem_filter.mp hy).1) (List.Nodup.sublist (List.Sublist.map _ List.filter_sublist) hn)
    have e : linearize (orderTable es l0) (f + 1) l = x :: linearize (orderTable es l0) f (l.filter fun y => y.1 != x.1) := by
      show (match firstMinimal (orderTable es l0) l with
        | none => []
        | some x => x :: linearize (orderTable es l0) f (l.filter fun y => y.1 != x.1)) = _
      rw [hx]
    rw [e]
    exact (List.Perm.cons x ih).trans hp
theorem lin_sub (t : OrderTable) : ∀ (f : Nat) (l : List (Position × Line)) (x : Position × Line), x ∈ linearize t f l → x ∈ l
  | 0, _, _, h => by cases h
  | f + 1, l, x, h => by
    have e : linearize t (f + 1) l = match firstMinimal t l with
        | none => []
        | some x => x :: linearize t f (l.filter fun y => y.1 != x.1) := rfl
    rw [e] at h
    cases c : firstMinimal t l with
    | none =>
      rw [c] at h
      cases h
    | some z =>
      rw [c] at h
      rcases List.mem_cons.mp h with rfl | m
      · exact (first_spec c).1
      · exact (List.mem_filter.mp (lin_sub t f _ x m)).1
theorem lin_order (t : OrderTable) : ∀ (f : Nat) (l : List (Position × Line)), (linearize t f l).Pairwise fun a b => isBefore t b.1 a.1 = false
  | 0, _ => List.Pairwise.nil
  | f + 1, l => by
    have e : linearize t (f + 1) l = match firstMinimal t l with
        | none => []
        | some x => x :: linearize t f (l.filter fun y => y.1 != x.1) := rfl
    rw [e]
    cases c : firstMinimal t l with
    | none => exact List.Pairwise.nil
    | some z => exact List.pairwise_cons.mpr ⟨fun a m => (first_spec c).2 a (List.mem_filter.mp (lin_sub t f _ a m)).1, lin_order t f _⟩
theorem pairs_none {A : Type} {p : A × A → Bool} {R : A → A → Prop} : ∀ {l : List A}, (pairs l).filter p = [] → l.Pairwise (fun a b => p (a, b) = false)
  | [], _ => List.Pairwise.nil
  | x :: l, h => by
    have h' : (l.map (fun y => (x, y)) ++ pairs l).filter p = [] := h
    rw [List.filter_append, List.append_eq_nil_iff] at h'
    refine List.pairwise_cons.mpr ⟨fun a m => ?_, pairs_none (R := R) h'.2⟩
    have := List.filter_eq_nil_iff.mp h'.1 (x, a) (List.mem_map_of_mem m)
    simpa using this
end
/-! ### the lines of a branch -/
theorem mem_allLines {cs : List Change} {b : List Nat} {x : Position × Line} (h : x ∈ allLines cs b) : ∃ p ∈ b, ∃ c i, cs[p]? = some c ∧ x = (.line p i, x.2) ∧ (insertedLines c)[i]? = some x.2 := by
  unfold allLines at h
  obtain ⟨p, hp, h⟩ := List.mem_flatMap.mp h
  cases e : cs[p]? with
  | none =>
    rw [e] at h
    cases h
  | some c =>
    rw [e] at h
    obtain ⟨y, hy, rfl⟩ := List.mem_map.mp h
    have := List.mem_zipIdx' hy
    exact ⟨p, hp, c, y.2, e, rfl, by rw [List.getElem?_eq_getElem this.1, ← this.2]⟩
theorem nodup_lines (p : Nat) (ls : List Line) (k : Nat) : (((ls.zipIdx k).map fun x => (Position.line p x.2, x.1)).map (·.1)).Nodup := by
  induction ls generalizing k with
  | nil => exact List.nodup_nil
  | cons a ls ih =>
    rw [List.zipIdx_cons, List.map_cons, List.map_cons]
    refine List.nodup_cons.mpr ⟨fun m => ?_, ih (k + 1)⟩
    rw [List.map_map] at m
    obtain ⟨y, hy, e⟩ := List.mem_map.mp m
    have := List.mem_zipIdx hy
    injection e with _ e
    have h1 : y.2 = k := e
    omega
theorem nodup_allLines {cs : List Change} : ∀ {b : List Nat}, b.Nodup → ((allLines cs b).map (·.1)).Nodup
  | [], _ => List.nodup_nil
  | p :: b, h => by
    obtain ⟨h1, h2⟩ := List.nodup_cons.mp h
    have e : allLines cs (p :: b) = (match cs[p]? with
      | none => []
      | some c => (insertedLines c).zipIdx.map fun x => (Position.line p x.2, x.1)) ++ allLines cs b := rfl
    rw [e, List.map_append]
    refine List.nodup_append.mpr ⟨?_, nodup_allLines h2, fun a ha b' hb e => ?_⟩
    · cases cs[p]? with
      | none => exact List.nodup_nil
      | some c => exact nodup_lines p _ 0
    · subst e
      obtain ⟨y, hy, ey⟩ := List.mem_map.mp hb
      obtain ⟨q, hq, c, i, _, e2, _⟩ := mem_allLines hy
      have ea : a = .line q i := by rw [← ey, e2]
      cases k : cs[p]? with
      | none =>
        rw [k] at ha
        cases ha
      | some c' =>
        rw [k] at ha
        obtain ⟨z, hz, ez⟩ := List.mem_map.mp ha
        obtain ⟨u, _, rfl⟩ := List.mem_map.mp hz
        have : Position.line p u.2 = .line q i := ez.trans ea
        injection this with e3 _
        subst e3
        exact h1 hq
theorem nodup_visible {cs : List Change} {b : List Nat} (h : b.Nodup) : ((visibleLines cs b).map (·.1)).Nodup := List.Nodup.sublist (List.Sublist.map _ List.filter_sublist) (nodup_allLines h)
theorem mem_visible {cs : List Change} {b : List Nat} {x : Position × Line} (h : x ∈ visibleLines cs b) : ∃ p ∈ b, ∃ c i, cs[p]? = some c ∧ x = (.line p i, x.2) ∧ (insertedLines c)[i]? = some x.2 := mem_allLines (List.mem_filter.mp h).1
theorem len_allLines {cs : List Change} (hc : ∀ (p : Nat) (c : Change), cs[p]? = some c → (insertedLines c).length ≤ 8) : ∀ (b : List Nat), (allLines cs b).length ≤ 8 * b.length
  | [] => Nat.zero_le _
  | p :: b => by
    have e : allLines cs (p :: b) = (match cs[p]? with
      | none => []
      | some c => (insertedLines c).zipIdx.map fun x => (Position.line p x.2, x.1)) ++ allLines cs b := rfl
    have ih := len_allLines hc b
    rw [e, List.length_append, List.length_cons]
    cases k : cs[p]? with
    | none =>
      show 0 + _ ≤ _
      omega
    | some c =>
      have := hc p c k
      have e2 : ((insertedLines c).zipIdx.map fun x => (Position.line p x.2, x.1)).length = (insertedLines c).length := by
        rw [List.length_map, List.length_zipIdx]
      show ((insertedLines c).zipIdx.map fun x => (Position.line p x.2, x.1)).length + _ ≤ _
      omega
theorem mem_edges {cs : List Change} {b : List Nat} {e : Position × Position} (h : e ∈ edges cs b) : ∃ p ∈ b, ∃ c, cs[p]? = some c ∧ e ∈ hunkEdges p 0 c.hunks := by
  unfold edges at h
  obtain ⟨p, hp, h⟩ := List.mem_flatMap.mp h
  cases k : cs[p]? with
  | none =>
    rw [k] at h
    cases h
  | some c =>
    rw [k] at h
    exact ⟨p, hp, c, k, h⟩
/-- the edges of all changes rise -/
def RisesAll (r : Rank) (cs : List Change) : Prop := ∀ (p : Nat) (c : Change), cs[p]? = some c → Rises r (hunkEdges p 0 c.hunks)
theorem RisesAll.edges {r : Rank} {cs : List Change} (h : RisesAll r cs) (b : List Nat) : Rises r (edges cs b) := fun e he => by
  obtain ⟨p, _, c, k, m⟩ := mem_edges he
  exact h p c k e m
section
variable {r : Rank} {cs : List Change} {b : List Nat}
theorem content_perm (R : RisesAll r cs) (hb : b.Nodup) : (content cs b).1.Perm (visibleLines cs b) := lin_perm (R.edges b) _ _ rfl (fun _ h => h) (nodup_visible hb)
theorem content_nodup (R : RisesAll r cs) (hb : b.Nodup) : ((content cs b).1.map (·.1)).Nodup := ((content_perm R hb).map _).nodup_iff.mpr (nodup_visible hb)
/-- without conflicts the lines of the text rise -/
theorem text_rises (R : RisesAll r cs) (hb : b.Nodup) (hc : (content cs b).2 = []) : ((content cs b).1.map (·.1)).Pairwise fun x y => r x < r y := by
  have h1 : (content cs b).1.Pairwise fun a c => isBefore (orderTable (edges cs b) (visibleLines cs b)) c.1 a.1 = false := lin_order _ _ _
  have h2 := pairs_none (R := fun _ _ => True) (show ((pairs ((content cs b).1.map fun x => x.1)).filter fun x => !(isBefore (orderTable (edges cs b) (visibleLines cs b)) x.1 x.2 || isBefore (orderTable (edges cs b) (visibleLines cs b)) x.2 x.1)) = [] from hc)
  have h3 : ((content cs b).1.map (·.1)).Pairwise fun a c => isBefore (orderTable (edges cs b) (visibleLines cs b)) c a = false := List.pairwise_map.mpr h1
  refine List.Pairwise.imp_of_mem (R := fun x y => isBefore (orderTable (edges cs b) (visibleLines cs b)) y x = false ∧ (!(isBefore (orderTable (edges cs b) (visibleLines cs b)) x y || isBefore (orderTable (edges cs b) (visibleLines cs b)) y x)) = false) (fun {x y} hx hy h => ?_) (List.Pairwise.and h3 h2)
  obtain ⟨a1, a2⟩ := h
  rw [a1] at a2
  have : isBefore (orderTable (edges cs b) (visibleLines cs b)) x y = true := by simpa using a2
  refine before_rank (R.edges b) ?_ this
  exact ((content_perm R hb).map _).mem_iff.mp hx
end
end Lg
/-! The mathematics, third part: edit steps, and what holds of every state. -/
namespace Lg
open Gf11
/-! ### edit steps -/
def used : List Edit → Nat
  | [] => 0
  | .insert _ :: es => used es
  | .keep :: es => used es + 1
  | .delete :: es => used es + 1
def putIn : List Edit → List Line
  | [] => []
  | .insert l :: es => l :: putIn es
  | .keep :: es => putIn es
  | .delete :: es => putIn es
theorem used_ins : ∀ r : List Line, used (r.map Edit.insert) = 0
  | [] => rfl
  | _ :: r => used_ins r
theorem putIn_ins : ∀ r : List Line, putIn (r.map Edit.insert) = r
  | [] => rfl
  | x :: r => congrArg (x :: ·) (putIn_ins r)
theorem used_del : ∀ l : List Line, used (l.map fun _ => Edit.delete) = l.length
  | [] => rfl
  | _ :: l => congrArg (· + 1) (used_del l)
theorem putIn_del : ∀ l : List Line, putIn (l.map fun _ => Edit.delete) = []
  | [] => rfl
  | _ :: l => putIn_del l
theorem used_diff : ∀ (f : Nat) (l r : List Line), used (diff f l r) ≤ l.length
  | 0, _, _ => Nat.zero_le _
  | f + 1, [], r => by
    show used (r.map Edit.insert) ≤ 0
    rw [used_ins]
    exact Nat.le_refl _
  | f + 1, x :: l, [] => by
    show used ((x :: l).map fun _ => Edit.delete) ≤ _
    rw [used_del]
    exact Nat.le_refl _
  | f + 1, x :: l, y :: r => by
    show used (if x = y then .keep :: diff f l r else if lcsLength (x :: l) r ≤ lcsLength l (y :: r) then .delete :: diff f l (y :: r) else .insert y :: diff f (x :: l) r) ≤ _
    split
    · exact Nat.succ_le_succ (used_diff f l r)
    · split
      · exact Nat.succ_le_succ (used_diff f l _)
      · exact used_diff f (x :: l) r
theorem putIn_diff : ∀ (f : Nat) (l r : List Line), (putIn (diff f l r)).Sublist r
  | 0, _, _ => List.nil_sublist _
  | f + 1, [], r => by
    show (putIn (r.map Edit.insert)).Sublist r
    rw [putIn_ins]
    exact List.Sublist.refl _
  | f + 1, x :: l, [] => by
    show (putIn ((x :: l).map fun _ => Edit.delete)).Sublist _
    rw [putIn_del]
    exact List.Sublist.refl _
  | f + 1, x :: l, y :: r => by
    show (putIn (if x = y then .keep :: diff f l r else if lcsLength (x :: l) r ≤ lcsLength l (y :: r) then .delete :: diff f l (y :: r) else .insert y :: diff f (x :: l) r)).Sublist _
    split
    · exact List.Sublist.cons _ (putIn_diff f l r)
    · split
      · exact putIn_diff f l (y :: r)
      · exact List.Sublist.cons_cons _ (putIn_diff f (x :: l) r)
structure EditsOk (r : Rank) (before : Position) (old : List Position) (ins : List Line) (c : Change) : Prop where
  hunk : ∀ h ∈ c.hunks, r h.before < r h.after ∧ h.before ∈ before :: old ∧ h.after ∈ old ++ [Position.end_] ∧ h.lines ≠ []
  del : ∀ x ∈ c.deleted, x ∈ old
  ndel : c.deleted.length ≤ old.length
  ins : insertedLines c = ins
theorem lines_of_cons (h : Option Hunk) (hs : List Hunk) (d : List Position) : True := trivial
theorem insLines_mk (new : List Line) (u v : Position) (hs : List Hunk) (d : List Position) : insertedLines ⟨(if new.isEmpty = true then [] else [⟨u, v, new⟩]) ++ hs, d⟩ = new ++ hs.flatMap fun h => h.lines := by
  cases new with
  | nil => rfl
  | cons a new => rfl
theorem mem_mk {new : List Line} {u v : Position} {hs : List Hunk} {h : Hunk} (m : h ∈ (if new.isEmpty = true then [] else [⟨u, v, new⟩]) ++ hs) : (h = ⟨u, v, new⟩ ∧ new ≠ []) ∨ h ∈ hs := by
  rcases List.mem_append.mp m with m | m
  · cases new with
    | nil => cases m
    | cons a new => exact .inl ⟨List.mem_singleton.mp m, by intro h; cases h⟩
  · exact .inr m
theorem edits_ok {r : Rank} : ∀ (es : List Edit) (before : Position) (old : List Position) (new : List Line), (before :: (old ++ [Position.end_])).Pairwise (fun x y => r x < r y) → used es ≤ old.length →
    EditsOk r before old (new ++ putIn es) (changeFromEdits before old es new)
  | [], before, old, new, P, _ => by
    have h1 := (List.pairwise_cons.mp P).1
    refine ⟨fun h m => ?_, fun x m => (by cases m), Nat.zero_le _, ?_⟩
    · have m' : h ∈ (if new.isEmpty = true then [] else [⟨before, old.headD .end_, new⟩]) ++ ([] : List Hunk) := by
        rw [List.append_nil]
        exact m
      rcases mem_mk m' with ⟨rfl, hn⟩ | m
      · have hm : old.headD .end_ ∈ old ++ [Position.end_] := by
          cases old with
          | nil => exact List.mem_cons_self
          | cons a old => exact List.mem_cons_self
        exact ⟨h1 _ hm, List.mem_cons_self, hm, hn⟩
      · cases m
    · have := insLines_mk new before (old.headD .end_) [] []
      rw [List.append_nil] at this
      exact this
  | .insert l :: es, before, old, new, P, hu => by
    have e : (new ++ [l]) ++ putIn es = new ++ putIn (.insert l :: es) := by
      rw [List.append_assoc]
      rfl
    rw [← e]
    exact edits_ok es before old (new ++ [l]) P hu
  | .keep :: es, before, [], new, P, hu => absurd hu (Nat.not_succ_le_zero _)
  | .delete :: es, before, [], new, P, hu => absurd hu (Nat.not_succ_le_zero _)
  | .keep :: es, before, a :: old, new, P, hu => by
    obtain ⟨h1, h2⟩ := List.pairwise_cons.mp P
    have ih := edits_ok es a old [] h2 (Nat.le_of_succ_le_succ hu)
    have e : changeFromEdits before (a :: old) (.keep :: es) new = ⟨(if new.isEmpty = true then [] else [⟨before, a, new⟩]) ++ (changeFromEdits a old es []).hunks, (changeFromEdits a old es []).deleted⟩ := rfl
    rw [e]
    refine ⟨fun h m => ?_, fun x m => List.mem_cons_of_mem _ (ih.del x m), Nat.le_succ_of_le ih.ndel, ?_⟩
    · rcases mem_mk m with ⟨rfl, hn⟩ | m
      · exact ⟨h1 _ List.mem_cons_self, List.mem_cons_self, List.mem_cons_self, hn⟩
      · obtain ⟨a1, a2, a3, a4⟩ := ih.hunk h m
        exact ⟨a1, List.mem_cons_of_mem _ a2, List.mem_cons_of_mem _ a3, a4⟩
    · rw [insLines_mk]
      exact congrArg (new ++ ·) ih.ins
  | .delete :: es, before, a :: old, new, P, hu => by
    obtain ⟨h1, h2⟩ := List.pairwise_cons.mp P
    have ih := edits_ok es a old [] h2 (Nat.le_of_succ_le_succ hu)
    have e : changeFromEdits before (a :: old) (.delete :: es) new = ⟨(if new.isEmpty = true then [] else [⟨before, a, new⟩]) ++ (changeFromEdits a old es []).hunks, a :: (changeFromEdits a old es []).deleted⟩ := rfl
    rw [e]
    refine ⟨fun h m => ?_, fun x m => ?_, Nat.succ_le_succ ih.ndel, ?_⟩
    · rcases mem_mk m with ⟨rfl, hn⟩ | m
      · exact ⟨h1 _ List.mem_cons_self, List.mem_cons_self, List.mem_cons_self, hn⟩
      · obtain ⟨a1, a2, a3, a4⟩ := ih.hunk h m
        exact ⟨a1, List.mem_cons_of_mem _ a2, List.mem_cons_of_mem _ a3, a4⟩
    · rcases List.mem_cons.mp m with rfl | m
      · exact List.mem_cons_self
      · exact List.mem_cons_of_mem _ (ih.del x m)
    · rw [insLines_mk]
      exact congrArg (new ++ ·) ih.ins
/-! ### what holds of every state -/
/-- a position of a change before p, or an end -/
def Old (p : Nat) (x : Position) : Prop := ∀ q i, x = .line q i → q < p
structure ChangeOk (p : Nat) (c : Change) : Prop where
  hunk : ∀ h ∈ c.hunks, Old p h.before ∧ Old p h.after ∧ h.lines ≠ []
  del : ∀ x ∈ c.deleted, ∃ q i, x = .line q i ∧ q < p
  lines : (insertedLines c).length ≤ 8
  width : ∀ l ∈ insertedLines c, l.length ≤ 12
  ndel : c.deleted.length ≤ 96
structure Good (s : State) : Prop where
  few : s.changes.length ≤ 12
  some : 1 ≤ s.branches.length
  brs : s.branches.length ≤ 5
  up : ∀ l ∈ s.branches, Up l ∧ ∀ x ∈ l, x < s.changes.length
  chg : ∀ (p : Nat) (c : Change), s.changes[p]? = Option.some c → ChangeOk p c
  rank : ∃ r, Bounded r ∧ RisesAll r s.changes
theorem nhunks {c : Change} (h : ∀ x ∈ c.hunks, x.lines ≠ []) : c.hunks.length ≤ (insertedLines c).length := by
  unfold insertedLines
  generalize c.hunks = hs at h ⊢
  induction hs with
  | nil => exact Nat.le_refl _
  | cons a hs ih =>
    have h1 := ih fun x m => h x (List.mem_cons_of_mem _ m)
    have h2 : 0 < a.lines.length := List.length_pos_iff.mpr (h a List.mem_cons_self)
    rw [List.flatMap_cons, List.length_append, List.length_cons]
    omega
theorem ChangeOk.few {p : Nat} {c : Change} (h : ChangeOk p c) : c.hunks.length ≤ 8 := Nat.le_trans (nhunks fun x m => (h.hunk x m).2.2) h.lines
theorem good_init : Good init where
  few := Nat.zero_le _
  some := Nat.le_refl _
  brs := by decide
  up := fun l m => by
    have : l = [] := List.mem_singleton.mp m
    subst this
    exact ⟨List.Pairwise.nil, fun x m => by cases m⟩
  chg := fun p c h => by cases h
  rank := ⟨fun | .start => 0 | .end_ => 2 | .line _ _ => 1, ⟨by decide, fun _ _ => by show (0 : Int) < 1; decide, fun _ _ => by show (1 : Int) < 2; decide⟩, fun p c h => by cases h⟩
theorem mem_set {α : Type} {l : List α} {i : Nat} {x y : α} (h : y ∈ l.set i x) : y = x ∨ y ∈ l := by
  rcases List.mem_or_eq_of_mem_set h with h | h
  · exact .inr h
  · exact .inl h
/-- a branch's changes are others -/
theorem Good.setBranch {s : State} (h : Good s) (b : Nat) {l : List Nat} (hl : Up l) (hx : ∀ x ∈ l, x < s.changes.length) : Good { s with branches := s.branches.set b l } where
  few := h.few
  some := by
    show 1 ≤ (s.branches.set b l).length
    rw [List.length_set]
    exact h.some
  brs := by
    show (s.branches.set b l).length ≤ 5
    rw [List.length_set]
    exact h.brs
  up := fun m hm => by
    rcases mem_set hm with rfl | hm
    · exact ⟨hl, hx⟩
    · exact h.up m hm
  chg := h.chg
  rank := h.rank
theorem Good.addBranch {s : State} (h : Good s) {l : List Nat} (hm : l ∈ s.branches) (hn : s.branches.length < 5) : Good { s with branches := s.branches ++ [l] } where
  few := h.few
  some := by
    show 1 ≤ (s.branches ++ [l]).length
    rw [List.length_append]
    exact Nat.le_add_right_of_le h.some
  brs := by
    show (s.branches ++ [l]).length ≤ 5
    rw [List.length_append]
    exact hn
  up := fun m hm' => by
    rcases List.mem_append.mp hm' with hm' | hm'
    · exact h.up m hm'
    · rw [List.mem_singleton.mp hm']
      exact h.up l hm
  chg := h.chg
  rank := h.rank
theorem get_append {α : Type} {l : List α} {x y : α} {i : Nat} (h : (l ++ [x])[i]? = some y) : l[i]? = some y ∨ (i = l.length ∧ y = x) := by
  by_cases c : i < l.length
  · rw [List.getElem?_append_left c] at h
    exact .inl h
  · rw [List.getElem?_append_right (Nat.not_lt.mp c)] at h
    have : i - l.length = 0 := by
      cases e : i - l.length with
      | zero => rfl
      | succ k =>
        rw [e] at h
        cases h
    rw [this] at h
    exact .inr ⟨by omega, (Option.some.inj h).symm⟩
theorem Old.not_line {p : Nat} {x : Position} (h : Old p x) : ∀ i, x ≠ .line p i := fun i e => Nat.lt_irrefl _ (h p i e)
theorem edge_old {p : Nat} : ∀ {hs : List Hunk} {k : Nat}, (∀ h ∈ hs, Old p h.before ∧ Old p h.after ∧ h.lines ≠ []) → ∀ e ∈ hunkEdges p k hs, Old (p + 1) e.1 ∧ Old (p + 1) e.2
  | [], _, _, e, m => by cases m
  | h :: hs, k, H, e, m => by
    have m' : e ∈ consecutive (h.before :: (newLines p k h.lines.length ++ [h.after])) ++ hunkEdges p (k + h.lines.length) hs := m
    have a := H h List.mem_cons_self
    have key : ∀ z ∈ h.before :: (newLines p k h.lines.length ++ [h.after]), Old (p + 1) z := fun z hz q i ez => by
      rcases List.mem_cons.mp hz with rfl | hz
      · exact Nat.lt_succ_of_lt (a.1 q i ez)
      · rcases List.mem_append.mp hz with hz | hz
        · obtain ⟨j, _, _, e⟩ := mem_newLines.mp hz
          rw [ez] at e
          injection e with e _
          omega
        · rw [List.mem_singleton.mp hz] at ez
          exact Nat.lt_succ_of_lt (a.2.1 q i ez)
    rcases List.mem_append.mp m' with m | m
    · have q := mem_consecutive m
      exact ⟨key _ q.1, key _ q.2⟩
    · exact edge_old (fun g hg => H g (List.mem_cons_of_mem _ hg)) e m
/-- a new change whose hunks stand between rising positions -/
theorem Good.record {s : State} (h : Good s) (b : Nat) {l : List Nat} {c : Change} (hn : s.changes.length < 12) (hl : Up l) (hx : ∀ x ∈ l, x < s.changes.length) (hc : ChangeOk s.changes.length c)
    (hr : ∀ r, Bounded r → RisesAll r s.changes → ∀ g ∈ c.hunks, r g.before < r g.after) :
    Good ⟨s.changes ++ [c], s.branches.set b (l ++ [s.changes.length])⟩ where
  few := by
    show (s.changes ++ [c]).length ≤ 12
    rw [List.length_append]
    exact hn
  some := by
    show 1 ≤ (s.branches.set b _).length
    rw [List.length_set]
    exact h.some
  brs := by
    show (s.branches.set b _).length ≤ 5
    rw [List.length_set]
    exact h.brs
  up := fun m hm => by
    have e : (s.changes ++ [c]).length = s.changes.length + 1 := List.length_append
    rcases mem_set hm with rfl | hm
    · refine ⟨up_snoc hl hx, fun x m => ?_⟩
      rw [e]
      rcases List.mem_append.mp m with m | m
      · exact Nat.lt_succ_of_lt (hx x m)
      · rw [List.mem_singleton.mp m]
        exact Nat.lt_succ_self _
    · obtain ⟨a1, a2⟩ := h.up m hm
      refine ⟨a1, fun x m => ?_⟩
      rw [e]
      exact Nat.lt_succ_of_lt (a2 x m)
  chg := fun p d k => by
    rcases get_append k with k | ⟨rfl, rfl⟩
    · exact h.chg p d k
    · exact hc
  rank := by
    obtain ⟨r, b, R⟩ := h.rank
    obtain ⟨r', b', k', s'⟩ := hunks_rank (p := s.changes.length) c.hunks 0 r b fun g hg => ⟨hr r b R g hg, (hc.hunk g hg).1.not_line, (hc.hunk g hg).2.1.not_line⟩
    refine ⟨r', b', fun p d k => ?_⟩
    rcases get_append k with k | ⟨rfl, rfl⟩
    · intro e he
      have hp : p < s.changes.length := (List.getElem?_eq_some_iff.mp k).1
      obtain ⟨o1, o2⟩ := edge_old (fun g hg => (h.chg p d k).hunk g hg) e he
      refine k' _ _ (fun ⟨i, _, ei⟩ => ?_) (fun ⟨i, _, ei⟩ => ?_) (R p d k e he)
      · have := o1 _ _ ei
        omega
      · have := o2 _ _ ei
        omega
    · exact s'
theorem nodup_len {α : Type} [DecidableEq α] : ∀ {l m : List α}, l.Nodup → (∀ x ∈ l, x ∈ m) → l.length ≤ m.length
  | [], _, _, _ => Nat.zero_le _
  | x :: l, m, hn, hs => by
    obtain ⟨h1, h2⟩ := List.nodup_cons.mp hn
    have hx := hs x List.mem_cons_self
    have ih := nodup_len (l := l) (m := m.erase x) h2 fun y hy => (List.mem_erase_of_ne (fun e : y = x => h1 (e ▸ hy))).mpr (hs y (List.mem_cons_of_mem _ hy))
    have := List.length_erase_of_mem hx
    have := List.length_pos_of_mem hx
    rw [List.length_cons]
    omega
theorem Good.members {s : State} (h : Good s) {b : Nat} {l : List Nat} (e : s.branches[b]? = Option.some l) : Up l ∧ (∀ x ∈ l, x < s.changes.length) ∧ l.length ≤ s.changes.length := by
  obtain ⟨a1, a2⟩ := h.up l (List.mem_of_getElem? e)
  exact ⟨a1, a2, up_len _ a1 a2⟩
theorem Good.visible {s : State} (h : Good s) {b : Nat} {l : List Nat} (e : s.branches[b]? = Option.some l) : (visibleLines s.changes l).length ≤ 96 := by
  have h1 := h.members e
  have h2 : (visibleLines s.changes l).length ≤ (allLines s.changes l).length := List.length_filter_le _ _
  have h3 := len_allLines (fun p c k => (h.chg p c k).lines) l
  have := h.few
  omega
/-- what write records -/
theorem write_ok {s : State} (h : Good s) {b : Nat} {l : List Nat} (e : s.branches[b]? = Option.some l) {t : List Line} (h8 : t.length ≤ 8) (h12 : ∀ x ∈ t, x.length ≤ 12) (hc : (content s.changes l).2 = []) :
    ChangeOk s.changes.length (changeBetween (content s.changes l).1 t) ∧ ∀ r, Bounded r → RisesAll r s.changes → ∀ g ∈ (changeBetween (content s.changes l).1 t).hunks, r g.before < r g.after := by
  obtain ⟨m1, m2, m3⟩ := h.members e
  have nd := up_nodup m1
  have key : ∀ r, Bounded r → RisesAll r s.changes → EditsOk r .start ((content s.changes l).1.map (·.1)) ([] ++ putIn (diff ((content s.changes l).1.length + t.length + 1) ((content s.changes l).1.map fun x => x.2) t)) (changeBetween (content s.changes l).1 t) := fun r bd R => by
    refine edits_ok _ _ _ _ ?_ ?_
    · have p1 := text_rises R nd hc
      have lines : ∀ x ∈ (content s.changes l).1.map (·.1), ∃ p i, x = Position.line p i := fun x hx => by
        obtain ⟨y, hy, rfl⟩ := List.mem_map.mp hx
        obtain ⟨p, _, _, i, _, ex, _⟩ := mem_visible ((content_perm R nd).mem_iff.mp hy)
        exact ⟨p, i, by rw [ex]⟩
      refine List.pairwise_cons.mpr ⟨fun x hx => ?_, List.pairwise_append.mpr ⟨p1, List.pairwise_singleton _ _, fun x hx y hy => ?_⟩⟩
      · rcases List.mem_append.mp hx with hx | hx
        · obtain ⟨p, i, rfl⟩ := lines x hx
          exact bd.lo p i
        · rw [List.mem_singleton.mp hx]
          exact bd.ends
      · rw [List.mem_singleton.mp hy]
        obtain ⟨p, i, rfl⟩ := lines x hx
        exact bd.hi p i
    · have := used_diff ((content s.changes l).1.length + t.length + 1) ((content s.changes l).1.map fun x => x.2) t
      rw [List.length_map] at this ⊢
      exact this
  obtain ⟨r0, bd0, R0⟩ := h.rank
  have k0 := key r0 bd0 R0
  have vis : ∀ x ∈ (content s.changes l).1.map (·.1), ∃ q i, x = Position.line q i ∧ q < s.changes.length := fun x hx => by
    obtain ⟨y, hy, rfl⟩ := List.mem_map.mp hx
    obtain ⟨p, hp, _, i, _, ex, _⟩ := mem_visible ((content_perm R0 nd).mem_iff.mp hy)
    exact ⟨p, i, by rw [ex], m2 p hp⟩
  have sub := putIn_diff ((content s.changes l).1.length + t.length + 1) ((content s.changes l).1.map fun x => x.2) t
  refine ⟨⟨fun g hg => ?_, fun x hx => vis x (k0.del x hx), ?_, fun x hx => ?_, ?_⟩, fun r bd R g hg => ((key r bd R).hunk g hg).1⟩
  · obtain ⟨_, a2, a3, a4⟩ := k0.hunk g hg
    refine ⟨fun q i eq => ?_, fun q i eq => ?_, a4⟩
    · rcases List.mem_cons.mp a2 with a2 | a2
      · rw [eq] at a2
        cases a2
      · obtain ⟨q', i', e', lt⟩ := vis _ a2
        rw [eq] at e'
        injection e' with e' _
        omega
    · rcases List.mem_append.mp a3 with a3 | a3
      · obtain ⟨q', i', e', lt⟩ := vis _ a3
        rw [eq] at e'
        injection e' with e' _
        omega
      · rw [eq] at a3
        cases List.mem_singleton.mp a3
  · rw [k0.ins]
    exact Nat.le_trans sub.length_le h8
  · rw [k0.ins] at hx
    exact h12 x (sub.subset hx)
  · refine Nat.le_trans k0.ndel ?_
    rw [List.length_map]
    have := (content_perm R0 nd).length_eq
    have := h.visible e
    omega
theorem eraseDups_len : ∀ {l : List Position}, l.eraseDups.length = l.length ↔ l.Nodup := by
  intro l
  have key : ∀ (n : Nat) (l : List Position), l.length = n → (l.eraseDups.length ≤ l.length ∧ (l.eraseDups.length = l.length ↔ l.Nodup)) := by
    intro n
    induction n using Nat.strongRecOn with
    | ind n ih =>
      intro l hl
      cases l with
      | nil => simp
      | cons a l =>
        rw [List.eraseDups_cons]
        have hf : (l.filter fun b => !b == a).length ≤ l.length := List.length_filter_le _ _
        obtain ⟨i1, i2⟩ := ih (l.filter fun b => !b == a).length (by rw [List.length_cons] at hl; omega) _ rfl
        refine ⟨by rw [List.length_cons, List.length_cons]; omega, ?_⟩
        rw [List.length_cons, List.length_cons, List.nodup_cons]
        constructor
        · intro h
          have e1 : (l.filter fun b => !b == a).length = l.length := by omega
          have e2 : (l.filter fun b => !b == a) = l := List.Sublist.eq_of_length List.filter_sublist e1
          rw [e2] at i2 h
          refine ⟨fun m => ?_, i2.mp (by omega)⟩
          have := List.filter_eq_self.mp e2 a m
          simp at this
        · rintro ⟨h1, h2⟩
          have e2 : (l.filter fun b => !b == a) = l := List.filter_eq_self.mpr fun b m => by
            have : b ≠ a := fun e => h1 (e ▸ m)
            simpa using this
          rw [e2] at i2 ⊢
          rw [i2.mpr h2]
  exact (key _ l rfl).2
theorem delete_ok {s : State} (h : Good s) {b : Nat} {l : List Nat} (e : s.branches[b]? = Option.some l) {rs : List Position} (h1 : rs.eraseDups.length = rs.length) (h2 : ∀ x ∈ rs, ∃ y ∈ visibleLines s.changes l, y.1 = x) :
    ChangeOk s.changes.length ⟨[], rs⟩ := by
  obtain ⟨m1, m2, m3⟩ := h.members e
  refine ⟨fun g hg => (by cases hg), fun x hx => ?_, Nat.zero_le _, fun x hx => (by cases hx), ?_⟩
  · obtain ⟨y, hy, rfl⟩ := h2 x hx
    obtain ⟨p, hp, _, i, _, ex, _⟩ := mem_visible hy
    exact ⟨p, i, by rw [ex], m2 p hp⟩
  · have := nodup_len (l := rs) (m := (visibleLines s.changes l).map (·.1)) (eraseDups_len.mp h1) fun x hx => by
      obtain ⟨y, hy, rfl⟩ := h2 x hx
      exact List.mem_map_of_mem hy
    rw [List.length_map] at this
    exact Nat.le_trans this (h.visible e)
end Lg
/-! The mathematics, fourth part: each call keeps what holds of every state. -/
namespace Lg
open Gf11
theorem branch_mem {s : State} {b : Nat} {l : List Nat} (e : s.branches[b]? = Option.some l) : l ∈ s.branches := List.mem_of_getElem? e
theorem dep_mem {p : Nat} {c : Change} (h : ChangeOk p c) : ∀ q ∈ dependencies c, q < p := fun q hq => by
  unfold dependencies at hq
  rw [mem_sortNumbers] at hq
  have one : ∀ x, Old p x → q ∈ changeOf x → q < p := fun x o m => by
    cases x with
    | line a i =>
      have : q = a := List.mem_singleton.mp m
      exact this ▸ o a i rfl
    | start => cases m
    | end_ => cases m
  rcases List.mem_append.mp hq with m | m
  · obtain ⟨g, hg, m⟩ := List.mem_flatMap.mp m
    rcases List.mem_append.mp m with m | m
    · exact one _ (h.hunk g hg).1 m
    · exact one _ (h.hunk g hg).2.1 m
  · obtain ⟨x, hx, m⟩ := List.mem_flatMap.mp m
    obtain ⟨a, i, rfl, lt⟩ := h.del x hx
    have : q = a := List.mem_singleton.mp m
    exact this ▸ lt
theorem deps_lt {s : State} (h : Good s) {p q : Nat} (m : q ∈ Gf13.dependenciesOf s p) : q < p := by
  unfold Gf13.dependenciesOf at m
  cases e : s.changes[p]? with
  | none =>
    rw [e] at m
    cases m
  | some c =>
    rw [e] at m
    exact dep_mem (h.chg p c e) q m
theorem closure_lt {s : State} (h : Good s) (n : Nat) : ∀ (f : Nat) (l : List Nat), Up l → (∀ x ∈ l, x < n) → Up (Gf13.closure s f l) ∧ ∀ x ∈ Gf13.closure s f l, x < n
  | 0, l, hu, hx => ⟨hu, hx⟩
  | f + 1, l, hu, hx => by
    refine closure_lt h n f _ (up_fold_insert hu) fun x m => ?_
    rcases mem_fold_insert.mp m with m | m
    · obtain ⟨y, hy, m⟩ := List.mem_flatMap.mp m
      exact Nat.lt_trans (deps_lt h m) (hx y hy)
    · exact hx x m
theorem all_lt {s : State} (h : Good s) {p : Nat} : Up (Gf13.allDependencies s p) ∧ ∀ x ∈ Gf13.allDependencies s p, x < p + 1 :=
  closure_lt h (p + 1) _ _ (List.pairwise_singleton _ _) fun x m => by rw [List.mem_singleton.mp m]; exact Nat.lt_succ_self p
theorem good_record {s : State} (h : Good s) {b : Nat} {l : List Nat} (e : s.branches[b]? = some l) {c : Change} (hc : ChangeOk s.changes.length c)
    (hr : ∀ r, Bounded r → RisesAll r s.changes → ∀ g ∈ c.hunks, r g.before < r g.after) : Good (Gf11.record s b l c).1 := by
  unfold Gf11.record
  by_cases k : MAX_CHANGES ≤ s.changes.length
  · rw [if_pos k]
    exact h
  · rw [if_neg k]
    obtain ⟨m1, m2, _⟩ := h.members e
    exact h.record b (Nat.lt_of_not_le k) m1 m2 hc hr
theorem good_with {s : State} (h : Good s) (b : Nat) {f : List Nat → State × Result} (hf : ∀ l, s.branches[b]? = some l → Good (f l).1) : Good (withBranch s b f).1 := by
  unfold withBranch
  cases e : s.branches[b]? with
  | none => exact h
  | some l => exact hf l e
theorem good_step11 {s : State} (h : Good s) (c : Gf11.Call) : Good (Gf11.step s c).1 := by
  cases c with
  | branch b =>
    refine good_with h b fun l e => ?_
    try dsimp only
    split
    · exact h
    · next k =>
      exact h.addBranch (branch_mem e) (Nat.lt_of_not_le k)
  | write b t =>
    refine good_with h b fun l e => ?_
    dsimp only
    split
    · exact h
    · next k1 =>
      split
      · exact h
      · next k2 =>
        split
        · exact h
        · have h8 : t.length ≤ 8 := Nat.le_of_not_lt fun z => k1 (.inl z)
          have h12 : ∀ x ∈ t, x.length ≤ 12 := fun x m => Nat.le_of_not_lt fun z => k1 (.inr (List.any_eq_true.mpr ⟨x, m, decide_eq_true z⟩))
          have hc : (content s.changes l).2 = [] := by
            cases q : (content s.changes l).2 with
            | nil => rfl
            | cons a r =>
              rw [q] at k2
              exact absurd rfl k2
          obtain ⟨a1, a2⟩ := write_ok h e h8 h12 hc
          exact good_record h e a1 a2
  | delete b rs =>
    refine good_with h b fun l e => ?_
    try dsimp only
    split
    · exact h
    · next k =>
      have k2 : rs.eraseDups.length = rs.length := Decidable.byContradiction fun z => k (.inr (.inl z))
      refine good_record h e (delete_ok h e k2 fun x m => ?_) fun r _ _ g hg => by cases hg
      have k3 : (visibleLines s.changes l).any (fun y => y.1 == x) = true := by
        cases q : (visibleLines s.changes l).any (fun y => y.1 == x) with
        | true => rfl
        | false => exact absurd (.inr (.inr (List.any_eq_true.mpr ⟨x, m, by rw [q]; rfl⟩))) k
      obtain ⟨y, hy, ey⟩ := List.any_eq_true.mp k3
      exact ⟨y, hy, by simpa using ey⟩
  | apply b p =>
    refine good_with h b fun l e => ?_
    dsimp only
    obtain ⟨m1, m2, _⟩ := h.members e
    split
    · exact h
    · next k =>
      split
      · exact h
      · split
        · exact h
        · refine h.setBranch b (up_insertNat m1) fun x m => ?_
          rcases mem_insertNat.mp m with rfl | m
          · exact Nat.lt_of_not_le k
          · exact m2 x m
  | merge b c =>
    refine good_with h b fun l e => good_with h c fun r e2 => ?_
    obtain ⟨m1, m2, _⟩ := h.members e
    obtain ⟨_, n2, _⟩ := h.members e2
    refine h.setBranch b (up_fold_insert m1) fun x m => ?_
    rcases mem_fold_insert.mp m with m | m
    · exact n2 x m
    · exact m2 x m
  | revert b p =>
    refine good_with h b fun l e => ?_
    dsimp only
    obtain ⟨m1, m2, _⟩ := h.members e
    split
    · exact h
    · split
      · exact h
      · exact h.setBranch b (up_filter m1) fun x m => m2 x (List.mem_filter.mp m).1
  | show_ b => exact good_with h b fun l e => h
  | lines b => exact good_with h b fun l e => h
  | change p => exact h
theorem good_with13 {s : State} (h : Good s) (b : Nat) {f : List Nat → State × Result} (hf : ∀ l, s.branches[b]? = some l → Good (f l).1) : Good (Gf13.withBranch s b f).1 := by
  unfold Gf13.withBranch
  cases e : s.branches[b]? with
  | none => exact h
  | some l => exact hf l e
theorem good_step {s : State} (h : Good s) (c : Gf13.Call) : Good (Gf13.step s c).1 := by
  cases c with
  | base c => exact good_step11 h c
  | requirements p => exact h
  | applyWithDependencies b p =>
    refine good_with13 h b fun l e => ?_
    dsimp only
    obtain ⟨m1, m2, _⟩ := h.members e
    split
    · exact h
    · next k =>
      split
      · exact h
      · refine h.setBranch b (up_fold_insert m1) fun x m => ?_
        rcases mem_fold_insert.mp m with m | m
        · have := (all_lt h).2 x (List.mem_filter.mp m).1
          omega
        · exact m2 x m
  | revertWithDependents b p =>
    refine good_with13 h b fun l e => ?_
    dsimp only
    obtain ⟨m1, m2, _⟩ := h.members e
    split
    · exact h
    · exact h.setBranch b (up_filter m1) fun x m => m2 x (List.mem_filter.mp m).1
  | explain b p i => exact good_with13 h b fun l e => h
  | blame b => exact good_with13 h b fun l e => h
end Lg
namespace Lg
open PySem PySem.Spec PyProof.Rows L2
/-! ### the data in the heap -/
def top (i : Nat) : Stmt := PySem.Challenge.pw_linegrafts_s01_answers.main.body.getD i (.Pass ⟨0, 0, 0, 0⟩)
/-- a list of things that stand in the heap -/
def LstAt {α : Type} (R : Hp → V → α → Prop) (H : Hp) (v : V) (xs : List α) : Prop := ∃ a vs, v = .ref a ∧ H a = some (.lst vs) ∧ Paired (R H) vs xs
def PosAt (H : Hp) (v : V) (x : Gf11.Position) : Prop := ∃ a, v = .ref a ∧ H a = some (.tup ((Gf11.encodePosition x).map V.int))
def LineAt (H : Hp) (v : V) (l : List Nat) : Prop := ∃ a, v = .ref a ∧ H a = some (.lst ((Gf11.toInts l).map V.int))
def hkF (b f l : V) : List (Str × V) := [("before", b), ("after", f), ("inserted", l)]
def HunkAt (C : Addr) (H : Hp) (v : V) (h : Gf11.Hunk) : Prop := ∃ a dx b f l, v = .ref a ∧ H a = some (.ins C dx (hkF b f l)) ∧ PosAt H b h.before ∧ PosAt H f h.after ∧ LstAt LineAt H l h.lines
def chF (h d : V) : List (Str × V) := [("hunks", h), ("deleted", d)]
def ChangeAt (CH CC : Addr) (H : Hp) (v : V) (c : Gf11.Change) : Prop := ∃ a dx h d, v = .ref a ∧ H a = some (.ins CC dx (chF h d)) ∧ LstAt (HunkAt CH) H h c.hunks ∧ LstAt PosAt H d c.deleted
theorem Paired.imp {α β : Type} {F G : α → β → Prop} (k : ∀ a b, F a b → G a b) : ∀ {l : List α} {m : List β}, Paired F l m → Paired G l m
  | _, _, .nil => .nil
  | _, _, .cons h t => .cons (k _ _ h) (Paired.imp k t)
theorem LstAt.mono {α : Type} {R : Hp → V → α → Prop} (k : ∀ {H H' : Hp}, Same H H' → ∀ v x, R H v x → R H' v x) {H H' : Hp} (s : Same H H') {v : V} {xs : List α} (h : LstAt R H v xs) : LstAt R H' v xs := by
  obtain ⟨a, vs, e, ha, p⟩ := h
  exact ⟨a, vs, e, s _ _ ha, Paired.imp (k s) p⟩
theorem PosAt.mono {H H' : Hp} (s : Same H H') (v : V) (x : Gf11.Position) (h : PosAt H v x) : PosAt H' v x := by
  obtain ⟨a, e, ha⟩ := h
  exact ⟨a, e, s _ _ ha⟩
theorem LineAt.mono {H H' : Hp} (s : Same H H') (v : V) (x : List Nat) (h : LineAt H v x) : LineAt H' v x := by
  obtain ⟨a, e, ha⟩ := h
  exact ⟨a, e, s _ _ ha⟩
theorem HunkAt.mono {C : Addr} {H H' : Hp} (s : Same H H') (v : V) (x : Gf11.Hunk) (h : HunkAt C H v x) : HunkAt C H' v x := by
  obtain ⟨a, dx, b, f, l, e, ha, p, q, r⟩ := h
  exact ⟨a, dx, b, f, l, e, s _ _ ha, p.mono s, q.mono s, r.mono (fun s => LineAt.mono s) s⟩
theorem ChangeAt.mono {CH CC : Addr} {H H' : Hp} (s : Same H H') (v : V) (x : Gf11.Change) (h : ChangeAt CH CC H v x) : ChangeAt CH CC H' v x := by
  obtain ⟨a, dx, h, d, e, ha, p, q⟩ := h
  exact ⟨a, dx, h, d, e, s _ _ ha, p.mono (fun s => HunkAt.mono s) s, q.mono (fun s => PosAt.mono s) s⟩
theorem lk_here {k : Str} {v : V} {r : List (Str × V)} : List.lookup k ((k, v) :: r) = some v := by
  have e : (k == k) = true := beq_self_eq_true k
  simp only [List.lookup, e]
theorem lk_past {k g : Str} {v : V} {r : List (Str × V)} (h : (k == g) = false) : List.lookup k ((g, v) :: r) = List.lookup k r := by
  simp only [List.lookup, h]
theorem put_here {f : Str} {v x : V} {r : List (Str × V)} : putF f v ((f, x) :: r) = (f, v) :: r := if_pos rfl
theorem put_past {f g : Str} {v x : V} {r : List (Str × V)} (h : ¬ g = f) : putF f v ((g, x) :: r) = (g, x) :: putF f v r := if_neg h
theorem hk_before (b f l : V) : (hkF b f l).lookup ("before" : Str) = some b := lk_here
theorem hk_after (b f l : V) : (hkF b f l).lookup ("after" : Str) = some f := (lk_past (by decide +kernel)).trans lk_here
theorem hk_inserted (b f l : V) : (hkF b f l).lookup ("inserted" : Str) = some l := (lk_past (by decide +kernel)).trans ((lk_past (by decide +kernel)).trans lk_here)
theorem ch_hunks (h d : V) : (chF h d).lookup ("hunks" : Str) = some h := lk_here
theorem ch_deleted (h d : V) : (chF h d).lookup ("deleted" : Str) = some d := (lk_past (by decide +kernel)).trans lk_here
def coF (o c : V) : List (Str × V) := [("order", o), ("conflicts", c)]
theorem co_order (o c : V) : (coF o c).lookup ("order" : Str) = some o := lk_here
theorem co_conflicts (o c : V) : (coF o c).lookup ("conflicts" : Str) = some c := (lk_past (by decide +kernel)).trans lk_here
theorem Paired.get {α β : Type} {F : α → β → Prop} : ∀ {l : List α} {m : List β} {i : Nat} {a : α}, Paired F l m → l[i]? = some a → ∃ b, m[i]? = some b ∧ F a b
  | _, _, _, _, .nil, h => by simp at h
  | _, _, 0, _, .cons h t, e => ⟨_, rfl, by cases Option.some.inj e; exact h⟩
  | _, _, i + 1, _, .cons h t, e => Paired.get (i := i) t e
theorem Paired.len {α β : Type} {F : α → β → Prop} : ∀ {l : List α} {m : List β}, Paired F l m → l.length = m.length
  | _, _, .nil => rfl
  | _, _, .cons _ t => congrArg (· + 1) (Paired.len t)
theorem Paired.app {α β : Type} {F : α → β → Prop} : ∀ {l l' : List α} {m m' : List β}, Paired F l m → Paired F l' m' → Paired F (l ++ l') (m ++ m')
  | _, _, _, _, .nil, h => h
  | _, _, _, _, .cons h t, k => .cons h (Paired.app t k)
theorem Paired.one {α β : Type} {F : α → β → Prop} {a : α} {b : β} (h : F a b) : Paired F [a] [b] := .cons h .nil
theorem take_more {α : Type} : ∀ {l : List α} {i : Nat} {x : α}, l[i]? = some x → l.take (i + 1) = l.take i ++ [x]
  | [], i, x, h => by simp at h
  | a :: l, 0, x, h => by
    have e : a = x := Option.some.inj h
    subst e
    rfl
  | a :: l, i + 1, x, h => by
    have ih := take_more (l := l) (i := i) (x := x) h
    show a :: l.take (i + 1) = a :: l.take i ++ [x]
    rw [ih]
    rfl
/-- F: what is to stand as it is (the frozen part) of the heap H; behind a call F' and H': nothing frozen has changed, all that stood stands, and what F' has more was not there -/
structure Ext (F H F' H' : Hp) : Prop where
  ff : Same F F'
  fh : Same F' H'
  hh : Same H H'
  nw : ∀ b o, F' b = some o → F b = some o ∨ H b = none
section
variable {F H F1 H1 F2 H2 : Hp} {q : Addr} {o : HO}
theorem Ext.refl (h : Same F H) : Ext F H F H := ⟨Same.refl F, h, Same.refl H, fun _ _ e => .inl e⟩
theorem Ext.trans (a : Ext F H F1 H1) (b : Ext F1 H1 F2 H2) : Ext F H F2 H2 where
  ff := a.ff.trans b.ff
  fh := b.fh
  hh := a.hh.trans b.hh
  nw := fun c u e => by
    rcases b.nw c u e with e | e
    · exact a.nw c u e
    · exact .inr (a.hh.free e)
theorem same_new (s : Same H H1) (n : H1 q = none) : Same H (upd H1 q o) := fun b u e => by
  have h := s b u e
  rw [upd_ne (ne_of_none h n)]
  exact h
theorem same_put (s : Same H H1) (n : H q = none) : Same H (upd H1 q o) := fun b u e => by
  rw [upd_ne (ne_of_none e n)]
  exact s b u e
theorem same_both (s : Same H H1) : Same (upd H q o) (upd H1 q o) := fun b u e => by
  by_cases c : b = q
  · subst c
    rw [upd_same] at e ⊢
    exact e
  · rw [upd_ne c] at e ⊢
    exact s b u e
/-- a new object that stays as it is -/
theorem Ext.new (a : Ext F H F1 H1) (n : H1 q = none) : Ext F H (upd F1 q o) (upd H1 q o) where
  ff := same_new a.ff (a.fh.free n)
  fh := same_both a.fh
  hh := same_new a.hh n
  nw := fun b u e => by
    by_cases c : b = q
    · subst c
      exact .inr (a.hh.free n)
    · rw [upd_ne c] at e
      exact a.nw b u e
/-- a new object that will be changed -/
theorem Ext.tmp (a : Ext F H F1 H1) (n : H1 q = none) : Ext F H F1 (upd H1 q o) where
  ff := a.ff
  fh := same_new a.fh n
  hh := same_new a.hh n
  nw := a.nw
/-- it changes -/
theorem Ext.put (a : Ext F H F1 H1) (n : F1 q = none) (m : H q = none) : Ext F H F1 (upd H1 q o) where
  ff := a.ff
  fh := same_put a.fh n
  hh := same_put a.hh m
  nw := a.nw
/-- it changes no more -/
theorem Ext.freeze (a : Ext F H F1 H1) (e : H1 q = some o) (n : F1 q = none) (m : H q = none) : Ext F H (upd F1 q o) H1 where
  ff := same_new a.ff n
  fh := fun b u k => by
    by_cases c : b = q
    · subst c
      rw [upd_same] at k
      rw [← k]
      exact e
    · rw [upd_ne c] at k
      exact a.fh b u k
  hh := a.hh
  nw := fun b u k => by
    by_cases c : b = q
    · subst c
      exact .inr m
    · rw [upd_ne c] at k
      exact a.nw b u k
end
/-- what is not frozen stays so through a call -/
theorem Ext.out {F H F1 H1 : Hp} {q : Addr} {o : HO} (a : Ext F H F1 H1) (n : F q = none) (e : H q = some o) : F1 q = none := by
  cases c : F1 q with
  | none => rfl
  | some u =>
    rcases a.nw q u c with k | k
    · rw [n] at k
      cases k
    · rw [e] at k
      cases k
/-- a new instance, made by its class's __init__ -/
theorem Ext.made {F H F1 H1 H2 : Hp} {x dx C : Addr} {o : HO} (a : Ext F H F1 H1) (nx : H1 x = none) (nd : H1 dx = none) (e : H2 x = some o) (k : ∀ b u, (upd (upd H1 dx (.own x)) x (.ins C dx [])) b = some u → b ≠ x → H2 b = some u) : Ext F H (upd F1 x o) H2 ∧ Same H1 H2 := by
  have s : Same H1 H2 := fun b u q => by
    have n1 := ne_of_none q nx
    exact k b u (by rw [upd_ne n1, upd_ne (ne_of_none q nd)]; exact q) n1
  refine ⟨⟨same_new a.ff (a.fh.free nx), fun b u q => ?_, a.hh.trans s, fun b u q => ?_⟩, s⟩
  · by_cases c : b = x
    · subst c
      rw [upd_same] at q
      rw [← q]
      exact e
    · rw [upd_ne c] at q
      exact s b u (a.fh b u q)
  · by_cases c : b = x
    · subst c
      exact .inr (a.hh.free nx)
    · rw [upd_ne c] at q
      exact a.nw b u q
/-- .. that is yet to be changed -/
theorem Ext.madeTmp {F H F1 H1 H2 : Hp} {x dx C : Addr} (a : Ext F H F1 H1) (nx : H1 x = none) (nd : H1 dx = none) (k : ∀ b u, (upd (upd H1 dx (.own x)) x (.ins C dx [])) b = some u → b ≠ x → H2 b = some u) : Ext F H F1 H2 ∧ Same H1 H2 := by
  have s : Same H1 H2 := fun b u q => by
    have n1 := ne_of_none q nx
    exact k b u (by rw [upd_ne n1, upd_ne (ne_of_none q nd)]; exact q) n1
  exact ⟨⟨a.ff, a.fh.trans s, a.hh.trans s, a.nw⟩, s⟩
theorem ne_new {H : Hp} {a b : Addr} {o : HO} (h : H a = some o) (n : H b = none) : a ≠ b := ne_of_none h n
/-- an if whose test is known -/
theorem ifT {c : Bool} {A B : Prop} (hc : c = true) (h : A) : if c = true then A else B := by
  rw [if_pos hc]
  exact h
theorem ifF {c : Bool} {A B : Prop} (hc : c = false) (h : B) : if c = true then A else B := by
  rw [hc, if_neg Bool.false_ne_true]
  exact h
/-- what the top has written of the classes -/
structure Txt (K : PySem.W.Frag) (mg : Str → Option Value) (CH CC CO CL CS : Addr) : Prop where
  clH : Cls K CH
  clO : Cls K CO
  nOrder : NoAttr K CO "order"
  nConflicts : NoAttr K CO "conflicts"
  gO : mg "Content" = some (.ref CO)
  clC : Cls K CC
  nBefore : NoAttr K CH "before"
  nAfter : NoAttr K CH "after"
  nInserted : NoAttr K CH "inserted"
  nHunks : NoAttr K CC "hunks"
  nDeleted : NoAttr K CC "deleted"
  gH : mg "Hunk" = some (.ref CH)
  gC : mg "Change" = some (.ref CC)
  len : mg "len" = none
  range : mg "range" = none
  list : mg "list" = none
  sorted : mg "sorted" = none
  set : mg "set" = none
  any : mg "any" = none
  all : mg "all" = none
  max : mg "max" = none
end Lg
namespace Lg
open PySem PySem.Spec PyProof.Rows L2
section
variable {P : Program} {w : World} {K : PySem.W.Frag} {mg : Str → Option Value} {base : Heap} {CH CC CO CL CS : Addr}
/-! ### inserted_lines -/
abbrev sIns : Stmt := top 24
def spIns (CH CC : Addr) : Sp := fun vs H Q _ => ∃ (F : Hp) (v : V) (c : Gf11.Change), Same F H ∧ vs = [v] ∧ ChangeAt CH CC F v c ∧ (Gf11.insertedLines c).length ≤ 1000 ∧
  ∀ (F' H' : Hp) (r : V), Ext F H F' H' → LstAt LineAt F' r (Gf11.insertedLines c) → Q r H'
def nmIns : List Str := ["change", "lines", "hunk"]
theorem scIns : FnScope ["change", "lines", "hunk"] ["change"] (defScope sIns) := ⟨rfl, rfl, rfl, by decide +kernel, rfl, by decide +kernel, by decide +kernel⟩
theorem flat_take {hs : List Gf11.Hunk} {i : Nat} {h : Gf11.Hunk} (e : hs[i]? = some h) : (hs.take (i + 1)).flatMap (fun h => h.lines) = (hs.take i).flatMap (fun h => h.lines) ++ h.lines := by
  rw [take_more e, List.flatMap_append]
  simp
theorem flat_take_le (hs : List Gf11.Hunk) (i : Nat) : ((hs.take i).flatMap (fun h => h.lines)).length ≤ (hs.flatMap (fun h => h.lines)).length := by
  have e : hs.flatMap (fun h => h.lines) = (hs.take i).flatMap (fun h => h.lines) ++ (hs.drop i).flatMap (fun h => h.lines) := by
    rw [← List.flatMap_append, List.take_append_drop]
  rw [e, List.length_append]
  exact Nat.le_add_right _ _
theorem ok_ins {f : Addr} {fd : FuncData} (F : Fun K "inserted_lines" "inserted_lines" sIns f fd) (T : Txt K mg CH CC CO CL CS) : FnOk P w K mg base CX0 1 f fd ["change"] (spIns CH CC) := by
  refine F.ok scIns (fun vs H Q E h => ?_) (fun cdv A outer s H vs Q E hr h => ⟨_, pss_cons (ps_set (i := 1) scIns.nd rfl (Or.inl rfl) (pe_lst pa_nil))
    (pss_cons (ps_for PassesOwn.never rfl (pi_list (pe_fld (pv 0) rfl)) (pg_name (i := 2) scIns.nd rfl (Or.inl rfl))
      (pss_one (ps_expr (pe_bm PySem.F.plainAttrs_list PySem.F.slot_list_extend PySem.F.type_list_extend mt_extend (pv 1) (pa_cons (pe_fld (pv 2) rfl) pa_nil)))))
    (pss_one (ps_ret (pv 1)))), ?_⟩)
  · obtain ⟨F0, v, c, _, rfl, _⟩ := h
    rfl
  · obtain ⟨F0, v, c, hF, rfl, ⟨a, dx, hk, d, rfl, ha, ⟨b, hvs, rfl, hb, hp⟩, hd⟩, hlen, k⟩ := h
    refine ⟨by show 0 ≤ sizeLine; decide, fun p np => ?_⟩
    have X0 := (Ext.refl hF).tmp np (o := .lst [])
    refine ⟨_, rfl, a, CC, dx, _, _, rfl, X0.fh _ _ ha, T.clC, T.nHunks, ch_hunks _ _, b, rfl, ⟨hvs, SqL.of (X0.fh _ _ hb)⟩, ?_⟩
    refine for_list (K := K) (a := b) (xs := hvs) (fun i σ H' => ∃ u us, σ = [some (.ref a), some (.ref p), u] ∧ Ext F0 H F0 H' ∧ H' p = some (.lst us) ∧ Paired (LineAt F0) us ((c.hunks.take i).flatMap fun h => h.lines))
      ⟨none, [], rfl, X0, upd_same, .nil⟩ (fun i σ H' _ ⟨_, _, _, X, _, _⟩ => SqL.of (X.fh _ _ hb)) ?_ ?_
    · rintro i x σ H' hi ⟨u, us, rfl, X, hp', pr⟩
      obtain ⟨h, eh, hh⟩ := Paired.get hp hi
      obtain ⟨a2, dx2, bb, ff, ll, rfl, ha2, _, _, a3, vs3, rfl, ha3, pr3⟩ := hh
      have bound : us.length + vs3.length ≤ 1000 := by
        have h1 := Paired.len pr
        have h2 := Paired.len pr3
        have h3 := flat_take_le c.hunks (i + 1)
        rw [flat_take eh, List.length_append] at h3
        have h4 : (Gf11.insertedLines c).length = (c.hunks.flatMap fun h => h.lines).length := rfl
        omega
      refine ⟨_, rfl, Or.inl ⟨rfl, _, SqL.of hp'⟩, _, rfl, a2, CH, dx2, _, _, rfl, X.fh _ _ ha2, T.clH, T.nInserted, hk_inserted _ _ _, p, a3, us, vs3, rfl, rfl, hp', X.fh _ _ ha3, Nat.le_trans bound (by decide), ?_⟩
      refine ⟨_, us ++ vs3, rfl, X.put (hF.free np) np, upd_same, ?_⟩
      rw [flat_take eh]
      exact Paired.app pr pr3
    · rintro σ H' ⟨u, us, rfl, X, hp', pr⟩
      rw [Paired.len hp, List.take_length] at pr
      have Z := X.freeze hp' (hF.free np) np
      exact ⟨_, rfl, k _ H' _ Z ⟨p, us, rfl, upd_same, Paired.imp (fun v x => LineAt.mono Z.ff v x) pr⟩⟩
/-! ### chains -/
abbrev sCha : Stmt := top 25
def chainsOf (p : Nat) : Nat → List Gf11.Hunk → List (List Gf11.Position)
  | _, [] => []
  | k, h :: l => (h.before :: (newLines p k h.lines.length ++ [h.after])) :: chainsOf p (k + h.lines.length) l
def spCha (CH CC : Addr) : Sp := fun vs H Q _ => ∃ (F : Hp) (n : Nat) (v : V) (c : Gf11.Change), Same F H ∧ vs = [.int n, v] ∧ ChangeAt CH CC F v c ∧ (Gf11.insertedLines c).length ≤ 1000 ∧ c.hunks.length ≤ 1000 ∧
  ∀ (F' H' : Hp) (r : V), Ext F H F' H' → LstAt (LstAt PosAt) F' r (chainsOf n 0 c.hunks) → Q r H'
theorem scCha : FnScope ["number", "change", "found", "first", "hunk", "behind", "lines", "place"] ["number", "change"] (defScope sCha) := ⟨rfl, rfl, rfl, by decide +kernel, rfl, by decide +kernel, by decide +kernel⟩
def linesIn (hs : List Gf11.Hunk) : Nat := (hs.flatMap fun h => h.lines).length
theorem chains_snoc (p : Nat) (h : Gf11.Hunk) : ∀ (hs : List Gf11.Hunk) (k : Nat), chainsOf p k (hs ++ [h]) = chainsOf p k hs ++ [h.before :: (newLines p (k + linesIn hs) h.lines.length ++ [h.after])]
  | [], k => rfl
  | g :: hs, k => by
    show _ :: chainsOf p (k + g.lines.length) (hs ++ [h]) = _ :: (chainsOf p (k + g.lines.length) hs ++ _)
    rw [chains_snoc p h hs]
    have : linesIn (g :: hs) = g.lines.length + linesIn hs := by
      show ((g :: hs).flatMap fun h => h.lines).length = _
      rw [List.flatMap_cons, List.length_append]
      rfl
    rw [this, Nat.add_assoc]
theorem len_chainsOf (p : Nat) : ∀ (hs : List Gf11.Hunk) (k : Nat), (chainsOf p k hs).length = hs.length
  | [], _ => rfl
  | _ :: hs, k => congrArg (· + 1) (len_chainsOf p hs _)
theorem newLines_snoc (p k n : Nat) : newLines p k (n + 1) = newLines p k n ++ [Gf11.Position.line p (k + n)] := by
  unfold newLines
  rw [List.range_succ, List.map_append]
  rfl
theorem len_newLines (p k n : Nat) : (newLines p k n).length = n := by
  unfold newLines
  rw [List.length_map, List.length_range]
theorem pos_line {p i : Nat} : (Gf11.encodePosition (.line p i)).map V.int = [V.int p, V.int i] := rfl
theorem ok_cha {f : Addr} {fd : FuncData} (F : Fun K "chains" "chains" sCha f fd) (T : Txt K mg CH CC CO CL CS) : FnOk P w K mg base CX0 1 f fd ["number", "change"] (spCha CH CC) := by
  refine F.ok scCha (fun vs H Q E h => ?_) (fun cdv A outer s H vs Q E hr h => ⟨_, pss_cons (ps_set (i := 2) scCha.nd rfl (Or.inl rfl) (pe_lst pa_nil))
    (pss_cons (ps_set (i := 3) scCha.nd rfl (Or.inl rfl) pe_int)
    (pss_cons (ps_for PassesOwn.never rfl (pi_list (pe_fld (pv 1) rfl)) (pg_name (i := 4) scCha.nd rfl (Or.inl rfl))
      (pss_cons (ps_set (i := 5) scCha.nd rfl (Or.inl rfl) (pe_op op_add (pv 3) (pe_callB call_len (by rfl) T.len PySem.boot_len (pa_cons (pe_fld (pv 4) rfl) pa_nil))))
      (pss_cons (ps_setLc (i := 6) (own := [("place", 7)]) (g := gName 7) (tt := tYes) rfl scCha.nd rfl rfl (sw_true rfl rfl rfl (by decide +kernel)) (pi_range2 (by rfl) T.range (pa_cons (pv 3) (pa_cons (pv 5) pa_nil)))
        (blkOk_by (N := ["number", "change", "found", "first", "hunk", "behind", "lines", "place"]) (sc := defScope sCha) (by decide +kernel)) (fun _ _ _ _ _ => pg_name (i := 7) scCha.nd rfl (Or.inl rfl)) (fun _ _ _ _ _ => pts_nil) (fun _ _ _ _ _ => pe_tup (pa_cons (pv 0) (pa_cons (pv 7) pa_nil))))
      (pss_cons (ps_expr (pe_bm PySem.F.plainAttrs_list PySem.F.slot_list_append PySem.F.type_list_append mt_append (pv 2) (pa_cons
        (pe_op op_cat (pe_op op_cat (pe_lst (pa_cons (pe_fld (pv 4) rfl) pa_nil)) (pv 6)) (pe_lst (pa_cons (pe_fld (pv 4) rfl) pa_nil))) pa_nil)))
      (pss_one (ps_set (i := 3) scCha.nd rfl (Or.inl rfl) (pv 5)))))))
    (pss_one (ps_ret (pv 2))))), ?_⟩)
  · obtain ⟨F0, n, v, c, _, rfl, _⟩ := h
    rfl
  · obtain ⟨F0, n, v, c, hF, rfl, ⟨a, dx, hk, d, rfl, ha, ⟨b, hvs, rfl, hb, hp⟩, hd⟩, hlen, hhun, k⟩ := h
    refine ⟨by show 0 ≤ sizeLine; decide, fun p np => ?_⟩
    have X0 := (Ext.refl hF).tmp np (o := .lst [])
    refine ⟨_, rfl, a, CC, dx, _, _, rfl, X0.fh _ _ ha, T.clC, T.nHunks, ch_hunks _ _, b, rfl, ⟨hvs, SqL.of (X0.fh _ _ hb)⟩, ?_⟩
    refine for_list (K := K) (a := b) (xs := hvs) (fun i σ H' => ∃ F' u u5 u6 us, σ = [some (.int n), some (.ref a), some (.ref p), some (.int (linesIn (c.hunks.take i))), u, u5, u6, none] ∧ Ext F0 H F' H' ∧ F' p = none ∧ H' p = some (.lst us) ∧ Paired (LstAt PosAt F') us (chainsOf n 0 (c.hunks.take i)))
      ⟨F0, none, none, none, [], rfl, X0, hF.free np, upd_same, .nil⟩ (fun i σ H' _ ⟨_, _, _, _, _, _, X, _, _, _⟩ => SqL.of (X.fh _ _ (X.ff _ _ hb))) ?_ ?_
    · rintro i x σ H' hi ⟨F', u, u5, u6, us, rfl, X, fp, hp', pr⟩
      obtain ⟨h, eh, hh⟩ := Paired.get hp hi
      have hh' := hh.mono X.ff
      obtain ⟨a2, dx2, bb, ff, ll, rfl, ha2, pb, pf, a3, vs3, rfl, ha3, pr3⟩ := hh'
      have el : vs3.length = h.lines.length := Paired.len pr3
      have hx := chains_snoc n h (c.hunks.take i) 0
      rw [← take_more eh, Nat.zero_add] at hx
      have hl1 : linesIn (c.hunks.take (i + 1)) = linesIn (c.hunks.take i) + h.lines.length := by
        unfold linesIn
        rw [flat_take eh, List.length_append]
      have hl2 : linesIn (c.hunks.take (i + 1)) ≤ 1000 := Nat.le_trans (flat_take_le c.hunks (i + 1)) hlen
      have hl3 : us.length ≤ 1000 := by
        rw [Paired.len pr, len_chainsOf, List.length_take]
        omega
      -- behind = first + len(hunk.inserted)
      refine ⟨_, rfl, _, rfl, a2, CH, dx2, _, _, rfl, X.fh _ _ ha2, T.clH, T.nInserted, hk_inserted _ _ _, _, vs3.length, rfl, Or.inl ⟨_, SqL.of (X.fh _ _ ha3), rfl⟩, _, _, rfl, rfl, ?_⟩
      -- lines = [..]
      refine ⟨_, rfl, _, rfl, _, _, rfl, (by refine ⟨?_, ?_, ?_, ?_⟩ <;> omega), fun D nD => ?_⟩
      have XD := X.tmp nD (o := .lst [])
      have pD : p ≠ D := ne_of_none hp' nD
      have fD : F' D = none := X.fh.free nD
      have hD0 : H D = none := X.hh.free nD
      refine lc_range (lo := (linesIn (c.hunks.take i) : Int)) (n := ((linesIn (c.hunks.take i) : Int) + (vs3.length : Int) - (linesIn (c.hunks.take i) : Int)).toNat)
        (fun j H2 => ∃ F2 ws, Ext F' H' F2 H2 ∧ F2 p = none ∧ F2 D = none ∧ H2 D = some (.lst ws) ∧ Paired (PosAt F2) ws (newLines n (linesIn (c.hunks.take i)) j)) ?_ ?_ ?_
      · exact ⟨F', [], (Ext.refl X.fh).tmp nD, fp, fD, upd_same, .nil⟩
      · rintro j H2 hj ⟨F2, ws, Y, fp2, fD2, hD2, pw⟩
        refine ⟨rfl, _, rfl, _, rfl, (by show 2 ≤ sizeLine; decide), fun t nt => ?_⟩
        have Y2 := Y.new nt (o := .tup [.int n, .int ((linesIn (c.hunks.take i) : Int) + (j : Int))])
        have tD : D ≠ t := ne_of_none hD2 nt
        have tp : p ≠ t := fun e => by
          have := Y.hh _ _ hp'
          rw [e, nt] at this
          cases this
        have lw : ws.length < sizeLine := by
          rw [Paired.len pw, len_newLines]
          refine Nat.lt_of_lt_of_le (m := 1001) ?_ (by decide)
          omega
        refine ⟨ws, by rw [upd_ne tD]; exact hD2, lw, _, ws ++ [.ref t], Y2.put (by rw [upd_ne tD]; exact fD2) nD, by rw [upd_ne tp]; exact fp2, by rw [upd_ne tD]; exact fD2, upd_same, ?_⟩
        rw [newLines_snoc]
        refine Paired.app (Paired.imp (fun v x => PosAt.mono (same_new (Same.refl F2) (Y.fh.free nt)) v x) pw) (Paired.one ⟨t, rfl, ?_⟩)
        rw [upd_same, pos_line]
        congr 4
      · rintro H2 ⟨F2, ws, Y, fp2, fD2, hD2, pw⟩
        have X2 := X.trans Y
        have hn : ((linesIn (c.hunks.take i) : Int) + (vs3.length : Int) - (linesIn (c.hunks.take i) : Int)).toNat = h.lines.length := by omega
        rw [hn] at pw
        have lw : ws.length = h.lines.length := by rw [Paired.len pw, len_newLines]
        have hp2 : H2 p = some (.lst us) := Y.hh _ _ hp'
        have hhb := X2.fh _ _ (Y.ff _ _ ha2)
        -- found.append(..)
        refine ⟨_, rfl, Or.inl ⟨rfl, _, SqL.of hp2⟩, _, rfl, a2, CH, dx2, _, _, rfl, Y.hh _ _ (X.fh _ _ ha2), T.clH, T.nBefore, hk_before _ _ _, (by show 1 ≤ sizeLine; decide), fun l1 n1 => ?_⟩
        have Z1 := X2.tmp n1 (o := .lst [bb])
        have hD1 : upd H2 l1 (.lst [bb]) D = some (.lst ws) := same_new (Same.refl H2) n1 _ _ hD2
        have bw : [bb].length + ws.length ≤ sizeLine := Nat.le_trans (show 1 + ws.length ≤ 1001 by omega) (by decide)
        refine ⟨_, rfl, l1, D, [bb], ws, rfl, rfl, upd_same, hD1, bw, fun l2 n2 => ?_⟩
        have Z2 := Z1.tmp n2 (o := .lst ([bb] ++ ws))
        refine ⟨_, rfl, a2, CH, dx2, _, _, rfl, Z2.fh _ _ (Y.ff _ _ ha2), T.clH, T.nAfter, hk_after _ _ _, (by show 1 ≤ sizeLine; decide), fun l3 n3 => ?_⟩
        have Z3 := Z2.tmp n3 (o := .lst [ff])
        have bw2 : ([bb] ++ ws).length + [ff].length ≤ sizeLine := by
          rw [List.length_append]
          exact Nat.le_trans (show 1 + ws.length + 1 ≤ 1002 by omega) (by decide)
        refine ⟨l2, l3, [bb] ++ ws, [ff], rfl, rfl, same_new (Same.refl _) n3 _ _ upd_same, upd_same, bw2, fun l4 n4 => ?_⟩
        have Z4 := Z3.new n4 (o := .lst ([bb] ++ ws ++ [ff]))
        have p4 : p ≠ l4 := fun e => by
          have h1 := same_new (o := HO.lst [ff]) (same_new (o := HO.lst ([bb] ++ ws)) (same_new (o := HO.lst [bb]) (Same.refl H2) n1) n2) n3 _ _ hp2
          rw [e, n4] at h1
          cases h1
        have hp4 := same_new (o := HO.lst ([bb] ++ ws ++ [ff])) (same_new (o := HO.lst [ff]) (same_new (o := HO.lst ([bb] ++ ws)) (same_new (o := HO.lst [bb]) (Same.refl H2) n1) n2) n3) n4 _ _ hp2
        refine ⟨p, us, _, rfl, rfl, hp4, Nat.lt_of_le_of_lt hl3 (by decide), ?_⟩
        have fp4 : upd F2 l4 (.lst ([bb] ++ ws ++ [ff])) p = none := by
          rw [upd_ne p4]
          exact fp2
        have F4 : Same F2 (upd F2 l4 (.lst ([bb] ++ ws ++ [ff]))) := same_new (Same.refl F2) (Z3.fh.free n4)
        have F5 := Y.ff.trans F4
        refine ⟨_, rfl, _, some (.ref a2), some (.int ((linesIn (c.hunks.take i) : Int) + (vs3.length : Int))), some (.ref D), us ++ [.ref l4], ?_, Z4.put fp4 np, fp4, upd_same, ?_⟩
        · rw [hl1, ← el]
          rfl
        · rw [hx]
          refine Paired.app (Paired.imp (fun v x h => h.mono (fun s => PosAt.mono s) F5) pr) (Paired.one ⟨l4, _, rfl, upd_same, ?_⟩)
          exact .cons (PosAt.mono F5 _ _ pb) (Paired.app (Paired.imp (fun v x => PosAt.mono F4 v x) pw) (Paired.one (PosAt.mono F5 _ _ pf)))
    · rintro σ H' ⟨F', u, u5, u6, us, rfl, X, fp, hp', pr⟩
      rw [Paired.len hp, List.take_length] at pr
      have Z := X.freeze hp' fp np
      exact ⟨_, rfl, k _ H' _ Z ⟨p, us, rfl, upd_same, Paired.imp (fun v x h => h.mono (fun s => PosAt.mono s) (same_new (Same.refl F') fp)) pr⟩⟩
end
end Lg
/-! set(xs) of a list: the shell around the loop that adds, then of ints -/
namespace Lg
open PySem PySem.Spec PyProof.Rows L2
abbrev setObj0 (w : World) : Obj := { cls := .type "set", dict := none, data := .set #[] 0 (.fresh 0 0 (!w.params.followText "set-order")) }
abbrev litObj (l : Addr) : Obj := { cls := .type "list_iterator", data := .fields #[.ref l, .int 0 0] }
section
variable {P : Program} {w : World} {A : Around} {E : Value → Shared → Prop} {s : Shared}
/-- the heap with the empty set and the list's iterator -/
abbrev setHeap (w : World) (s : Shared) (l : Addr) : Heap := (s.heap.push (setObj0 w)).push (litObj l)
theorem set_shell {l : Addr} {items : Array Value} {Q : Value → Shared → Prop} (Gd : Heap → Prop) (hh : A.handled = none) (hl : s.heap.IsList l items)
    (loop : ∀ (A' : Around) (R : Result → Shared → Prop), A'.handled = none → A'.units ≤ A.units + 8 →
      (∀ s' : Shared, Moved [s.heap.objs.size, s.heap.objs.size + 1] (fun a b => b = a) { s with heap := setHeap w s l } s' → Gd s'.heap → R (.ok (.ret .none)) s') →
      codeAny (model P w) A' (.builtin "set.update.loop" ⟨[.ref s.heap.objs.size, .ref (s.heap.objs.size + 1)], []⟩) R { s with heap := setHeap w s l })
    (h : ∀ (h' : Heap) (tk : Nat), Gd h' → (∀ b o, s.heap.get? b = some o → h'.get? b = some o) → Q (.ref s.heap.objs.size) { s with heap := h', toks := tk }) :
    wpAny (model P w) A (call (.type "set") [.ref l]) Q E s := by
  have ⟨c0, tl0, hmro0⟩ := PySem.F.called_set.mro
  have made0 := PySem.F.called_set.made; have sub0 := PySem.F.called_set.sub; have nt0 := PySem.F.called_set.notType
  have cc0 := PySem.F.called_set.canCreate; have tc0 := PySem.F.typeCall_set_1 (.ref l)
  refine wpAny_call (codeAny_of_tree (show wpAny _ _ (callAny (.type "set") _) _ _ _ from wpAny_pure ⟨Code.quiet_builtin _ (by decide +kernel), codeAny_builtin PySem.F.entry_type_call ?_⟩))
  rw [Around.under_plain (weight_type_call_type "set" [.ref l] []) rfl]
  repeat (any_goals (first | assumption | wp_step))
  refine codeAny_mono (code_set_led1 (.ref l) (E := E) (Q₁ := fun obj s1 => obj = .ref s.heap.objs.size ∧ s1 = { s with heap := s.heap.push (setObj0 w) }) ⟨rfl, rfl⟩) fun r s1 hr => ?_
  match r, hr with
  | .error e, hr => exact hr
  | .ok (.ret obj), hr =>
    obtain ⟨rfl, rfl⟩ := hr
    have gS : (s.heap.push (setObj0 w)).get? s.heap.objs.size = some (setObj0 w) := Heap.get?_push_size _ rfl
    have tS : Shared.TypeIs { s with heap := s.heap.push (setObj0 w) } (.ref s.heap.objs.size) "set" := ⟨_, gS, rfl⟩
    have li0 := PySem.F.called_set.init.lookup; have bi0 := PySem.F.called_set.init.bind (.ref s.heap.objs.size)
    repeat (any_goals (first | assumption | wp_step))
    refine codeAny_mono (codeAny_call_builtin (R := wants (fun r s2 => r = .none ∧ ∃ h' tk, s2 = { s with heap := h', toks := tk } ∧ Gd h' ∧ (∀ b o, s.heap.get? b = some o → h'.get? b = some o)) E)
      PySem.F.called_set.init.plain PySem.F.entry_set_init (check_set_init_1 tS ?_)) fun r2 s2 hr2 => ?_
    · obtain ⟨⟨ocl, odc, oda, osl⟩, hol, hcl, nl, hdl⟩ := hl
      simp only at hcl hdl
      subst hcl; subst hdl
      have hol' : (s.heap.push (setObj0 w)).get? l = some { cls := .type "list", dict := odc, data := .seq items nl, slots := osl } := Heap.get?_push_of_some _ hol
      have ns1 := PySem.F.sub_list_set; have ns2 := PySem.F.sub_list_frozenset
      have nd1 : (Value.type "list" == Value.type "dict") = false := by decide
      unfold Builtin.«set.__init__» noKeywords Builtin.Frozenset.updateFrom
      generalize ePI : pyIter = PI
      wp_walk
      subst ePI
      refine wpAny_pyIter_list (show (s.heap.push (setObj0 w)).IsList l items from ⟨_, hol', rfl, nl, rfl⟩) (wpAny_bind (wpAny_runValue ?_))
      rw [Heap.size_push]
      refine loop _ _ (by simp [hh]) (by simp only [Around.in1]; omega) fun s' hm hG => ?_
      obtain ⟨h', g2, d', tk', os'⟩ := s'
      obtain rfl : g2 = s.gens := hm.gens
      obtain rfl : d' = s.drawn := hm.drawn
      obtain rfl : os' = s.os := hm.os
      refine wpAny_pure (wpAny_pure ⟨rfl, h', tk', rfl, hG, fun b o e => ?_⟩)
      have lt0 : b < s.heap.objs.size := Heap.lt_size e
      refine hm.heap b o (fun m => ?_) (Heap.get?_push_of_some _ (Heap.get?_push_of_some _ e))
      simp only [List.mem_cons, List.not_mem_nil, or_false] at m
      rcases m with m | m
      · exact Nat.ne_of_lt lt0 m
      · exact Nat.ne_of_lt (Nat.lt_succ_of_lt lt0) m
    · match r2, hr2 with
      | .error e, hr2 => exact hr2
      | .ok (.ret r), hr2 =>
        obtain ⟨rfl, h', tk, rfl, hG, hk'⟩ := hr2
        repeat (any_goals (first | assumption | wp_step))
        exact h _ _ hG hk'
end
end Lg
namespace Lg
open PySem PySem.Spec PyProof.Rows L2
section
variable {P : Program} {w : World} {A : Around} {E : Value → Shared → Prop} {s : Shared}
theorem call_set_lstI {l : Addr} {items : Array Value} (ns : List Int) {Q : Value → Shared → Prop} (hh : A.handled = none) (hl : s.heap.IsList l items) (hit : IntsAre items.toList ns) (hb : ns.length + 1 < scanBound)
    (h : ∀ (h' : Heap) (tk c : Nat), SetR w h' s.heap.objs.size (fun j => decide (j ∈ ns)) c → (∀ b o, s.heap.get? b = some o → h'.get? b = some o) → Q (.ref s.heap.objs.size) { s with heap := h', toks := tk }) :
    wpAny (model P w) A (call (.type "set") [.ref l]) Q E s := by
  have sz : items.size = ns.length := by have := IntsAre.length hit; rwa [Array.length_toList] at this
  refine set_shell (fun h' => ∃ c, SetR w h' s.heap.objs.size (fun j => decide (j ∈ ns)) c) hh hl (fun A' R hA _ hR => ?_) fun h' tk ⟨c, g⟩ k => h h' tk c g k
  have lt0 : l < s.heap.objs.size := by
    obtain ⟨o, ho, _⟩ := hl
    exact Heap.lt_size ho
  have z1 : (s.heap.push (setObj0 w)).objs.size = s.heap.objs.size + 1 := Heap.size_push ..
  have hl1 : (s.heap.push (setObj0 w)).IsList l items := hl.push _
  have nI : l ≠ s.heap.objs.size + 1 := Nat.ne_of_lt (Nat.lt_succ_of_lt lt0)
  have nS : s.heap.objs.size ∉ [s.heap.objs.size + 1, l] := by
    simp only [List.mem_cons, List.not_mem_nil, or_false, not_or]
    exact ⟨Nat.ne_of_lt (Nat.lt_succ_self _), Nat.ne_of_gt lt0⟩
  have vals : ∀ (i : Nat) (v : Value), items[i]? = some v → ∃ k t, ns[i]? = some k ∧ v = .int k t := fun i v hv => by
    have lt : i < ns.length := by rw [← sz]; exact (Array.getElem?_eq_some_iff.mp hv).1
    obtain ⟨t, e⟩ := PyProof.Rows.IntsAre.int_at hit i v (by rw [Array.getElem?_toList]; exact hv)
    exact ⟨ns[i], t, List.getElem?_eq_getElem lt, by rw [e, List.getD_eq_getElem?_getD, List.getElem?_eq_getElem lt]; rfl⟩
  have hA1 : A'.in1.handled = none := by simp [hA]
  refine set_update_ints ((Walks.list hA1 _ l nI items).toS) s.heap.objs.size nS ns sz hb vals (items.size - 0) 0 _ (by omega) (Nat.zero_le _) ⟨⟨litObj l, ?_, rfl, rfl⟩, hl1.push _⟩ ?_ ?_
  · rw [← z1]
    exact Heap.get?_push_size _ rfl
  · exact ⟨0, Nat.le_refl 0, setR_new_at (Heap.get?_push_of_some _ (Heap.get?_push_size _ rfl))⟩
  · exact fun s' c m _ g => hR s' m ⟨c, g⟩
end
section
variable {X : Cx}
/-- set(xs), xs a list of ints -/
def rSetLI (K : PySem.W.Frag) (w : World) : List V → Hp → VK → Prop := fun vs H Q => ∃ (l : Addr) (ns : List Int), vs = [V.ref l] ∧ SqL K H l (ns.map V.int) ∧ ns.length ≤ 4000 ∧
  ∀ (p : Addr) (c : Nat), H p = none → (∀ (l : List Int), l.Nodup → (∀ k, k ∈ l ↔ k ∈ ns) → l.length = c) → Q (.ref p) (upd H p (SetO w p (fun j => decide (j ∈ ns)) c))
theorem setR_card {w : World} {h : Heap} {a : Addr} {S : Int → Bool} {c : Nat} (R : SetR w h a S c) : ∀ (l : List Int), l.Nodup → (∀ k, k ∈ l ↔ S k = true) → l.length = c := fun l nd hm => by
  obtain ⟨o, es, ep, t, _, _, _, _, nk, hk, _, _, hn, _⟩ := R
  have p : l.Perm (es.toList.map keyOf) := (List.perm_ext_iff_of_nodup nd nk).mpr fun k => (hm k).trans (hk k)
  rw [p.length_eq, List.length_map, Array.length_toList]
  exact hn
theorem cr_setLI (hc : X.calm = true) : CallR X (.type "set") (rSetLI X.K X.w) := by
  intro pins s σ H vs us Q I r h
  obtain ⟨l, ns, rfl, hq, hlen, q⟩ := h
  rw [Vals.ref1 r]
  obtain ⟨its, rv, pl, hz⟩ := I.list hq
  refine call_set_lstI ns (I.ok.hd hc) pl.isList (by simpa using ints_of_vals rv) (by unfold scanBound; omega) fun h' tk c R k => ?_
  refine ⟨.ref s.heap.objs.size, upd H s.heap.objs.size (SetO X.w s.heap.objs.size (fun j => decide (j ∈ ns)) c), I.laid (t' := tk) k (Nat.le_refl _) (setO_new R), rfl, q _ c (I.hok.fresh (Nat.le_refl _)) fun l nd hm => setR_card R l nd fun k => ?_⟩
  rw [hm k, decide_eq_true_eq]
end
end Lg
namespace Lg
open PySem PySem.Spec PyProof.Rows L2
section
variable {P : Program} {w : World} {K : PySem.W.Frag} {mg : Str → Option Value} {base : Heap} {CH CC CO CL CS : Addr}
/-! ### dependencies -/
abbrev sDep : Stmt := top 26
def posOf (c : Gf11.Change) : List Gf11.Position := c.deleted ++ c.hunks.flatMap fun h => [h.before, h.after]
def nInts (l : List Nat) : List Int := Gf11.toInts l
theorem mem_deps {c : Gf11.Change} {q : Nat} : q ∈ Gf11.dependencies c ↔ q ∈ (posOf c).flatMap Gf11.changeOf := by
  unfold Gf11.dependencies posOf
  rw [mem_sortNumbers]
  simp only [List.mem_append, List.mem_flatMap, List.mem_cons, List.not_mem_nil, or_false]
  constructor
  · rintro (⟨h, hh, m | m⟩ | ⟨x, hx, m⟩)
    · exact ⟨h.before, .inr ⟨h, hh, .inl rfl⟩, m⟩
    · exact ⟨h.after, .inr ⟨h, hh, .inr rfl⟩, m⟩
    · exact ⟨x, .inl hx, m⟩
  · rintro ⟨x, hx | ⟨h, hh, rfl | rfl⟩, m⟩
    · exact .inr ⟨x, hx, m⟩
    · exact .inl ⟨h, hh, .inl m⟩
    · exact .inl ⟨h, hh, .inr m⟩
theorem up_ints {l : List Nat} (h : Up l) : (nInts l).Pairwise (· < ·) := List.pairwise_map.mpr (List.Pairwise.imp (fun h => Int.ofNat_lt.mpr h) h)
theorem mem_ints {l : List Nat} {k : Int} : k ∈ nInts l ↔ ∃ n, n ∈ l ∧ k = (n : Int) := by
  unfold nInts Gf11.toInts
  rw [List.mem_map]
  exact ⟨fun ⟨n, h, e⟩ => ⟨n, h, e.symm⟩, fun ⟨n, h, e⟩ => ⟨n, h, e.symm⟩⟩
theorem upI_ext : ∀ {l m : List Int}, l.Pairwise (· < ·) → m.Pairwise (· < ·) → (∀ x, x ∈ l ↔ x ∈ m) → l = m
  | [], [], _, _, _ => rfl
  | [], y :: m, _, _, h => by have := (h y).mpr List.mem_cons_self; cases this
  | x :: l, [], _, _, h => by have := (h x).mp List.mem_cons_self; cases this
  | x :: l, y :: m, hl, hm, h => by
    obtain ⟨a1, a2⟩ := List.pairwise_cons.mp hl
    obtain ⟨b1, b2⟩ := List.pairwise_cons.mp hm
    have e : x = y := by
      rcases List.mem_cons.mp ((h x).mp List.mem_cons_self) with e | e
      · exact e
      · rcases List.mem_cons.mp ((h y).mpr List.mem_cons_self) with e' | e'
        · exact e'.symm
        · have := b1 _ e
          have := a1 _ e'
          omega
    subst e
    congr 1
    refine upI_ext a2 b2 fun z => ⟨fun hz => ?_, fun hz => ?_⟩
    · rcases List.mem_cons.mp ((h z).mp (List.mem_cons_of_mem _ hz)) with e | e
      · subst e
        exact absurd (a1 _ hz) (Int.lt_irrefl _)
      · exact e
    · rcases List.mem_cons.mp ((h z).mpr (List.mem_cons_of_mem _ hz)) with e | e
      · subst e
        exact absurd (b1 _ hz) (Int.lt_irrefl _)
      · exact e
def spDep (CH CC : Addr) : Sp := fun vs H Q _ => ∃ (F : Hp) (v : V) (c : Gf11.Change), Same F H ∧ vs = [v] ∧ ChangeAt CH CC F v c ∧ c.hunks.length ≤ 1000 ∧ c.deleted.length ≤ 1000 ∧ (Gf11.dependencies c).length < 64 ∧
  ∀ (F' H' : Hp) (r : V), Ext F H F' H' → LineAt F' r (Gf11.dependencies c) → Q r H'
theorem scDep : FnScope ["change", "positions", "hunk", "position"] ["change"] (defScope sDep) := ⟨rfl, rfl, rfl, by decide +kernel, rfl, by decide +kernel, by decide +kernel⟩
theorem ends_take {hs : List Gf11.Hunk} {i : Nat} {h : Gf11.Hunk} (e : hs[i]? = some h) : (hs.take (i + 1)).flatMap (fun h => [h.before, h.after]) = (hs.take i).flatMap (fun h => [h.before, h.after]) ++ [h.before, h.after] := by
  rw [take_more e, List.flatMap_append]
  simp
theorem len_ends (hs : List Gf11.Hunk) : (hs.flatMap fun h => [h.before, h.after]).length = 2 * hs.length := by
  induction hs with
  | nil => rfl
  | cons a hs ih =>
    simp only [List.flatMap_cons, List.length_append, ih, List.length_cons, List.length_nil]
    omega
theorem len_changeOf (ps : List Gf11.Position) : (ps.flatMap Gf11.changeOf).length ≤ ps.length := by
  induction ps with
  | nil => exact Nat.le_refl _
  | cons a ps ih =>
    rw [List.flatMap_cons, List.length_append, List.length_cons]
    cases a with
    | line p i =>
      show 1 + _ ≤ _
      omega
    | start =>
      show 0 + _ ≤ _
      omega
    | end_ =>
      show 0 + _ ≤ _
      omega
theorem ok_dep {f : Addr} {fd : FuncData} (F : Fun K "dependencies" "dependencies" sDep f fd) (T : Txt K mg CH CC CO CL CS) : FnOk P w K mg base CX0 1 f fd ["change"] (spDep CH CC) := by
  refine F.ok scDep (fun vs H Q E h => ?_) (fun cdv A outer s H vs Q E hr h => ⟨_, pss_cons (ps_set (i := 1) scDep.nd rfl (Or.inl rfl) (pe_callTy call_list_of (by rfl) T.list (by decide +kernel) (pa_cons (pe_fld (pv 0) rfl) pa_nil)))
    (pss_cons (ps_for PassesOwn.never rfl (pi_list (pe_fld (pv 0) rfl)) (pg_name (i := 2) scDep.nd rfl (Or.inl rfl))
      (pss_cons (ps_expr (pe_bm PySem.F.plainAttrs_list PySem.F.slot_list_append PySem.F.type_list_append mt_append (pv 1) (pa_cons (pe_fld (pv 2) rfl) pa_nil)))
      (pss_one (ps_expr (pe_bm PySem.F.plainAttrs_list PySem.F.slot_list_append PySem.F.type_list_append mt_append (pv 1) (pa_cons (pe_fld (pv 2) rfl) pa_nil))))))
    (pss_one (ps_ret (pe_callB (cr_sortedSet rfl) (by rfl) T.sorted (by decide +kernel) (pa_cons (pe_callTy (cr_setLI rfl) (by rfl) T.set (by decide +kernel) (pa_cons
      (pe_lc (own := [("position", 3)]) (g := gName 3) (tt := tTest (tOp (rI0 fun i j => .bl (decide (j ≤ i))) (tOp (rIxT K) (tVar 3) (tC (.int 0))) (tC (.int 0)))) (te := tOp (rIxT K) (tVar 3) (tC (.int 0))) (by rfl) scDep.nd (pi_list (pv 1)) (blkOk_by (N := ["change", "positions", "hunk", "position"]) (sc := defScope sDep) (by decide +kernel)) (fun _ _ _ _ _ => pg_name (i := 3) scDep.nd rfl (Or.inl rfl))
        (fun _ _ _ _ _ => pts_one (pt_cmpR op_ge (pe_ix ix_tup (pv 3) pe_int (fun _ _ => rfl)) pe_int (nomark _))) (fun _ _ _ _ _ => pe_ix ix_tup (pv 3) pe_int (fun _ _ => rfl))) pa_nil)) pa_nil))))), ?_⟩)
  · obtain ⟨F0, v, c, _, rfl, _⟩ := h
    rfl
  · obtain ⟨F0, v, c, hF, rfl, ⟨a, dx, hk, d, rfl, ha, ⟨b, hvs, rfl, hb, hp⟩, ⟨b2, dvs, rfl, hb2, hd⟩⟩, hh1, hd1, hn1, k⟩ := h
    -- positions = list(change.deleted)
    refine ⟨_, rfl, a, CC, dx, _, _, rfl, hF _ _ ha, T.clC, T.nDeleted, ch_deleted _ _, b2, dvs, rfl, Or.inl (SqL.of (hF _ _ hb2)), fun p np => ?_⟩
    have X0 := (Ext.refl hF).tmp np (o := .lst dvs)
    have np0 := hF.free np
    refine ⟨_, rfl, a, CC, dx, _, _, rfl, X0.fh _ _ ha, T.clC, T.nHunks, ch_hunks _ _, b, rfl, ⟨hvs, SqL.of (X0.fh _ _ hb)⟩, ?_⟩
    refine for_list (K := K) (a := b) (xs := hvs) (fun i σ H' => ∃ u us, σ = [some (.ref a), some (.ref p), u, none] ∧ Ext F0 H F0 H' ∧ H' p = some (.lst us) ∧ Paired (PosAt F0) us (c.deleted ++ (c.hunks.take i).flatMap fun h => [h.before, h.after]))
      ⟨none, dvs, rfl, X0, upd_same, by simpa using hd⟩ (fun i σ H' _ ⟨_, _, _, X, _, _⟩ => SqL.of (X.fh _ _ hb)) ?_ ?_
    · rintro i x σ H' hi ⟨u, us, rfl, X, hp', pr⟩
      obtain ⟨h, eh, a2, dx2, bb, ff, ll, rfl, ha2, pb, pf, _⟩ := Paired.get hp hi
      have ll : us.length ≤ 3000 := by
        rw [Paired.len pr, List.length_append, len_ends, List.length_take]
        omega
      refine ⟨_, rfl, Or.inl ⟨rfl, _, SqL.of hp'⟩, _, rfl, a2, CH, dx2, _, _, rfl, X.fh _ _ ha2, T.clH, T.nBefore, hk_before _ _ _, p, us, _, rfl, rfl, hp', Nat.lt_of_le_of_lt ll (by decide), ?_⟩
      have X1 := X.put np0 np (o := .lst (us ++ [bb]))
      have l2 : (us ++ [bb]).length < sizeLine := by
        rw [List.length_append]
        exact Nat.lt_of_le_of_lt (Nat.succ_le_succ ll) (by decide)
      refine ⟨_, rfl, Or.inl ⟨rfl, _, SqL.of upd_same⟩, _, rfl, a2, CH, dx2, _, _, rfl, X1.fh _ _ ha2, T.clH, T.nAfter, hk_after _ _ _, p, us ++ [bb], _, rfl, rfl, upd_same, l2, ?_⟩
      refine ⟨_, us ++ [bb] ++ [ff], rfl, X1.put np0 np, upd_same, ?_⟩
      rw [ends_take eh, ← List.append_assoc, List.append_assoc us]
      exact Paired.app pr (.cons pb (.cons pf .nil))
    · rintro σ H' ⟨u, us, rfl, X, hp', pr⟩
      rw [Paired.len hp, List.take_length] at pr
      have pr : Paired (PosAt F0) us (posOf c) := pr
      have lp : us.length ≤ 3000 := by
        rw [Paired.len pr]
        unfold posOf
        rw [List.length_append, len_ends]
        omega
      have lp2 : (posOf c).length ≤ 3000 := by rw [← Paired.len pr]; exact lp
      refine ⟨_, rfl, p, rfl, ⟨us, SqL.of hp'⟩, fun D nD => ?_⟩
      have D0 := X.fh.free nD
      have XD := X.tmp nD (o := .lst [])
      have pD : p ≠ D := ne_of_none hp' nD
      have nD0 := X.hh.free nD
      refine lc_list (K := K) (a := p) (xs := us) (fun i H2 => Ext F0 H F0 H2 ∧ H2 p = some (.lst us) ∧ H2 D = some (.lst ((nInts (((posOf c).take i).flatMap Gf11.changeOf)).map V.int))) ⟨XD, by rw [upd_ne pD]; exact hp', upd_same⟩ (fun i H2 _ ⟨_, e, _⟩ => SqL.of e) ?_ ?_
      · rintro i x H2 hi ⟨Y, hp2, hD2⟩
        obtain ⟨y, ey, t, rfl, ht⟩ := Paired.get pr hi
        have ht2 := Y.fh _ _ ht
        have hs : (posOf c).take (i + 1) = (posOf c).take i ++ [y] := take_more ey
        have acc : ((nInts (((posOf c).take i).flatMap Gf11.changeOf)).map V.int).length < sizeLine := by
          unfold nInts Gf11.toInts
          rw [List.length_map, List.length_map]
          refine Nat.lt_of_le_of_lt (m := 3000) (Nat.le_trans (len_changeOf _) ?_) (by decide)
          rw [List.length_take]
          omega
        cases y with
        | start =>
          refine ⟨rfl, _, rfl, t, _, 0, _, rfl, rfl, SqT.of ht2, atI_nat (j := 0) rfl, _, _, rfl, rfl, _, rfl, iteF ⟨Y, hp2, ?_⟩⟩
          rw [hs, List.flatMap_append]
          simpa [Gf11.changeOf] using hD2
        | end_ =>
          refine ⟨rfl, _, rfl, t, _, 0, _, rfl, rfl, SqT.of ht2, atI_nat (j := 0) rfl, _, _, rfl, rfl, _, rfl, iteF ⟨Y, hp2, ?_⟩⟩
          rw [hs, List.flatMap_append]
          simpa [Gf11.changeOf] using hD2
        | line q j =>
          refine ⟨rfl, _, rfl, t, _, 0, _, rfl, rfl, SqT.of ht2, atI_nat (j := 0) rfl, _, _, rfl, rfl, _, rfl, ?_⟩
          refine ifT (decide_eq_true (Int.natCast_nonneg q)) ?_
          refine ⟨_, rfl, t, _, 0, _, rfl, rfl, SqT.of ht2, atI_nat (j := 0) rfl, _, hD2, acc, Y.put D0 nD0, by rw [upd_ne pD]; exact hp2, ?_⟩
          rw [upd_same, hs, List.flatMap_append]
          simp [Gf11.changeOf, nInts, Gf11.toInts]
      · rintro H2 ⟨Y, hp2, hD2⟩
        rw [Paired.len pr, List.take_length] at hD2
        have lq : (nInts ((posOf c).flatMap Gf11.changeOf)).length ≤ 4000 := by
          unfold nInts Gf11.toInts
          rw [List.length_map]
          exact Nat.le_trans (len_changeOf _) (by omega)
        refine ⟨D, _, rfl, SqL.of hD2, lq, fun q cc nq hc => ?_⟩
        have same : ∀ k, k ∈ nInts (Gf11.dependencies c) ↔ k ∈ nInts ((posOf c).flatMap Gf11.changeOf) := fun k => by
          rw [mem_ints, mem_ints]
          exact ⟨fun ⟨n, h, e⟩ => ⟨n, mem_deps.mp h, e⟩, fun ⟨n, h, e⟩ => ⟨n, mem_deps.mpr h, e⟩⟩
        have up : (nInts (Gf11.dependencies c)).Pairwise (· < ·) := up_ints (up_sortNumbers _)
        have ecc := hc (nInts (Gf11.dependencies c)) (List.Pairwise.imp (fun h => Int.ne_of_lt h) up) same
        have lcc : cc < 64 := by
          rw [← ecc]
          unfold nInts Gf11.toInts
          rw [List.length_map]
          exact hn1
        refine ⟨q, _, cc, rfl, upd_same, lcc, fun ns r hup hmem _ nr => ?_⟩
        have ens : ns = nInts (Gf11.dependencies c) := upI_ext hup up fun x => by
          rw [hmem x, decide_eq_true_eq, same x]
        have Z := ((Y.tmp nq (o := SetO w q (fun j => decide (j ∈ nInts ((posOf c).flatMap Gf11.changeOf))) cc)).new nr (o := .lst (ns.map V.int)))
        exact k _ _ _ Z ⟨r, rfl, by rw [upd_same, ens]; rfl⟩
end
end Lg
/-! d.setdefault(t, x), t a tuple -/
namespace Lg
open PySem PySem.Spec PyProof.Rows L2
section
variable {X : Cx}
def rSetdT : V → List V → Hp → VK → Prop := fun x xs H Q => ∃ (a : Addr) (kvs : List (List L2.Key × V)) (k : List L2.Key) (b : Addr) (d : V), x = .ref a ∧ xs = [.ref b, d] ∧ H a = some (.dT kvs) ∧ H b = some (.tup (k.map kV)) ∧ kvs.length < sizeLine ∧
  (∀ v, valV kvs k = some v → Q v H) ∧ (valV kvs k = none → Q d (upd H a (.dT (putK kvs k d))))
theorem mt_setdT (hu : X.A.units + 1 < cLine) : MtR X "dict.setdefault" rSetdT := by
  intro pins s σ H x xs v us Q I rx rxs h
  obtain ⟨a, kvs, k, b, d, rfl, rfl, ha, hb, lt, q1, q2⟩ := h
  cases rx
  obtain ⟨u1, u2, rfl, r1, r2⟩ := vals2 rxs
  cases r1
  obtain ⟨z, hd, xs', rel, dd⟩ := dt_of I.hok ha
  refine call_setdefault_heap (hsz := by rw [← Paired.length rel]; exact z) (knd := tupleKind (mixKind X.prog X.w)) (k := k) (tupleKind_room_in1 hu) (key_of I.hok hb) hd dd (fun p hp => ?_) fun hn h' dd' hs => ?_
  · have r := rel.val k
    rw [hp] at r
    cases e : valV kvs k with
    | none =>
      rw [e] at r
      exact (show False from r).elim
    | some v0 =>
      rw [e] at r
      exact ⟨v0, H, I.tok _, r, q1 v0 e⟩
  · have r := rel.val k
    rw [hn] at r
    cases e : valV kvs k with
    | some v0 =>
      rw [e] at r
      exact (show False from r).elim
    | none =>
      have few : (putK kvs k d).length ≤ sizeLine := by have := length_putK kvs k d; omega
      obtain ⟨q, es, ep, hq, g2, g3, g4, _, g5⟩ := dd'
      refine ⟨d, upd H a (.dT (putK kvs k d)), d_write (ob := .dT (putK kvs k d)) I (by rw [ha]; exact True.intro) hs ⟨q, hq⟩ ⟨few, hd, _, (rel.put k hb r2).keeps fun c ys ec => ?_, q, es, ep, hq, g2, g3, g4, g5⟩, r2, q2 e⟩
      rw [upd_ne (ne_of ec ha (fun z => nomatch z))]
      exact ec
end
end Lg
namespace Lg
open PySem PySem.Spec PyProof.Rows L2
/-! ### positions as keys -/
def keyP (x : Gf11.Position) : List L2.Key := (Gf11.encodePosition x).map Sum.inl
theorem keyP_kV (x : Gf11.Position) : (keyP x).map kV = (Gf11.encodePosition x).map V.int := by
  unfold keyP
  rw [List.map_map]
  rfl
theorem enc_inj {x y : Gf11.Position} (h : Gf11.encodePosition x = Gf11.encodePosition y) : x = y := by
  cases x with
  | start =>
    cases y with
    | start => rfl
    | end_ => exact absurd h (by decide)
    | line p i =>
      have h : [(-1 : Int), 0] = [(p : Int), (i : Int)] := h
      injection h with h _
      omega
  | end_ =>
    cases y with
    | start => exact absurd h (by decide)
    | end_ => rfl
    | line p i =>
      have h : [(-2 : Int), 0] = [(p : Int), (i : Int)] := h
      injection h with h _
      omega
  | line p i =>
    cases y with
    | start =>
      have h : [(p : Int), (i : Int)] = [(-1 : Int), 0] := h
      injection h with h _
      omega
    | end_ =>
      have h : [(p : Int), (i : Int)] = [(-2 : Int), 0] := h
      injection h with h _
      omega
    | line q j =>
      have h : [(p : Int), (i : Int)] = [(q : Int), (j : Int)] := h
      injection h with h1 h
      injection h with h2 _
      have a : p = q := by omega
      have b : i = j := by omega
      rw [a, b]
theorem keyP_inj {x y : Gf11.Position} (h : keyP x = keyP y) : x = y := by
  have := congrArg (List.map kV) h
  rw [keyP_kV, keyP_kV] at this
  refine enc_inj (List.map_inj_right (f := V.int) (fun a b e => ?_) |>.mp this)
  injection e
theorem PosAt.key {H : Hp} {v : V} {x : Gf11.Position} (h : PosAt H v x) : ∃ a, v = .ref a ∧ H a = some (.tup ((keyP x).map kV)) := by
  obtain ⟨a, e, ha⟩ := h
  exact ⟨a, e, by rw [keyP_kV]; exact ha⟩
/-- what keys a dict has -/
def InSet (kvs : List (List L2.Key × V)) (S : Gf11.Position → Prop) : Prop := ∀ x, (valV kvs (keyP x)).isSome = true ↔ S x
theorem InSet.nil : InSet [] fun _ => False := fun x => Iff.intro (fun h => by cases h) (fun h => False.elim h)
theorem InSet.put {kvs : List (List L2.Key × V)} {S : Gf11.Position → Prop} (h : InSet kvs S) (y : Gf11.Position) (v : V) : InSet (putK kvs (keyP y) v) fun x => x = y ∨ S x := fun x => by
  rw [valV_put]
  by_cases e : keyP x = keyP y
  · rw [if_pos e]
    exact ⟨fun _ => .inl (keyP_inj e), fun _ => rfl⟩
  · rw [if_neg e]
    rw [h x]
    exact ⟨fun k => .inr k, fun k => k.resolve_left fun z => e (by rw [z])⟩
theorem InSet.congr {kvs : List (List L2.Key × V)} {S S' : Gf11.Position → Prop} (h : InSet kvs S) (e : ∀ x, S x ↔ S' x) : InSet kvs S' := fun x => (h x).trans (e x)
/-! ### the changes and a branch's numbers, as they are handed in -/
def ChangesAt (CH CC : Addr) (F H : Hp) (v : V) (cs : List Gf11.Change) : Prop := ∃ a vs, v = .ref a ∧ H a = some (.lst vs) ∧ Paired (ChangeAt CH CC F) vs cs
theorem ChangesAt.mono {CH CC : Addr} {F F' H H' : Hp} (s : Same F F') (t : Same H H') {v : V} {cs : List Gf11.Change} (h : ChangesAt CH CC F H v cs) : ChangesAt CH CC F' H' v cs := by
  obtain ⟨a, vs, e, ha, p⟩ := h
  exact ⟨a, vs, e, t _ _ ha, Paired.imp (fun v x => ChangeAt.mono s v x) p⟩
structure BrOk (cs : List Gf11.Change) (b : List Nat) : Prop where
  few : cs.length ≤ 12
  chg : ∀ (p : Nat) (c : Gf11.Change), cs[p]? = some c → ChangeOk p c
  up : Up b
  lt : ∀ x ∈ b, x < cs.length
theorem BrOk.len {cs : List Gf11.Change} {b : List Nat} (h : BrOk cs b) : b.length ≤ 12 := Nat.le_trans (up_len _ h.up h.lt) h.few
theorem BrOk.at {cs : List Gf11.Change} {b : List Nat} (h : BrOk cs b) {i m : Nat} (e : b[i]? = some m) : ∃ c, cs[m]? = some c ∧ ChangeOk m c := by
  have lt := h.lt m (List.mem_of_getElem? e)
  exact ⟨cs[m], List.getElem?_eq_getElem lt, h.chg _ _ (List.getElem?_eq_getElem lt)⟩
theorem nat_at {b : List Nat} {i : Nat} {v : V} (h : ((Gf11.toInts b).map V.int)[i]? = some v) : ∃ m, b[i]? = some m ∧ v = .int (m : Int) := by
  unfold Gf11.toInts at h
  rw [List.getElem?_map, List.getElem?_map] at h
  cases e : b[i]? with
  | none =>
    rw [e] at h
    cases h
  | some m =>
    rw [e] at h
    exact ⟨m, rfl, (Option.some.inj h).symm⟩
theorem Paired.at {α β : Type} {F : α → β → Prop} : ∀ {l : List α} {m : List β} {i : Nat} {b : β}, Paired F l m → m[i]? = some b → ∃ a, l[i]? = some a ∧ F a b
  | _, _, _, _, .nil, h => by simp at h
  | _, _, 0, _, .cons h t, e => ⟨_, rfl, by cases Option.some.inj e; exact h⟩
  | _, _, i + 1, _, .cons h t, e => Paired.at (i := i) t e
theorem del_take {cs : List Gf11.Change} {b : List Nat} {i m : Nat} {c : Gf11.Change} (e : b[i]? = some m) (ec : cs[m]? = some c) : Gf11.deletedLines cs (b.take (i + 1)) = Gf11.deletedLines cs (b.take i) ++ c.deleted := by
  unfold Gf11.deletedLines
  rw [take_more e, List.flatMap_append]
  simp [ec]
/-- the visible lines' positions, change by change -/
def visPos (cs : List Gf11.Change) (d : List Gf11.Position) (b : List Nat) : List Gf11.Position := b.flatMap fun p => match cs[p]? with
  | none => []
  | some c => (newLines p 0 (Gf11.insertedLines c).length).filter fun x => !d.contains x
theorem zip_pos (p : Nat) : ∀ (ls : List Gf11.Line) (k : Nat), ((ls.zipIdx k).map fun x => (Gf11.Position.line p x.2, x.1)).map (·.1) = newLines p k ls.length
  | [], k => rfl
  | a :: ls, k => by
    rw [List.zipIdx_cons, List.map_cons, List.map_cons, List.length_cons, newLines_succ, zip_pos p ls (k + 1)]
theorem map_fst_filter {α β : Type} {l : List (α × β)} {p : α → Bool} : (l.filter fun x => p x.1).map (·.1) = (l.map (·.1)).filter p := by
  rw [List.filter_map]
  rfl
theorem visPos_eq (cs : List Gf11.Change) (d : List Gf11.Position) : ∀ (b : List Nat), ((Gf11.allLines cs b).filter fun x => !d.contains x.1).map (·.1) = visPos cs d b
  | [] => rfl
  | p :: b => by
    have e : Gf11.allLines cs (p :: b) = (match cs[p]? with
      | none => []
      | some c => (Gf11.insertedLines c).zipIdx.map fun x => (Gf11.Position.line p x.2, x.1)) ++ Gf11.allLines cs b := rfl
    have e2 : visPos cs d (p :: b) = (match cs[p]? with
      | none => []
      | some c => (newLines p 0 (Gf11.insertedLines c).length).filter fun x => !d.contains x) ++ visPos cs d b := rfl
    rw [e, e2, List.filter_append, List.map_append, visPos_eq cs d b]
    congr 1
    cases cs[p]? with
    | none => rfl
    | some c =>
      show List.map (·.1) (List.filter (fun x => !d.contains x.1) ((Gf11.insertedLines c).zipIdx.map fun x => (Gf11.Position.line p x.2, x.1))) = (newLines p 0 (Gf11.insertedLines c).length).filter fun x => !d.contains x
      rw [← zip_pos p (Gf11.insertedLines c) 0]
      exact map_fst_filter (p := fun x => !d.contains x)
theorem visPos_take {cs : List Gf11.Change} {d : List Gf11.Position} {b : List Nat} {i m : Nat} {c : Gf11.Change} (e : b[i]? = some m) (ec : cs[m]? = some c) :
    visPos cs d (b.take (i + 1)) = visPos cs d (b.take i) ++ (newLines m 0 (Gf11.insertedLines c).length).filter fun x => !d.contains x := by
  unfold visPos
  rw [take_more e, List.flatMap_append]
  simp [ec]
section
variable {P : Program} {w : World} {K : PySem.W.Frag} {mg : Str → Option Value} {base : Heap} {CH CC CO CL CS : Addr}
/-! ### visible_lines -/
abbrev sVis : Stmt := top 30
def spVis (CH CC : Addr) : Sp := fun vs H Q _ => ∃ (F : Hp) (v m : V) (cs : List Gf11.Change) (b : List Nat), Same F H ∧ vs = [v, m] ∧ ChangesAt CH CC F H v cs ∧ LineAt H m b ∧ BrOk cs b ∧
  ∀ (F' H' : Hp) (r : V), Ext F H F' H' → LstAt PosAt F' r ((Gf11.visibleLines cs b).map (·.1)) → Q r H'
def nVis : List Str := ["changes", "members", "deleted", "member", "line", "visible", "count", "lines", "place"]
theorem scVis : FnScope ["changes", "members", "deleted", "member", "line", "visible", "count", "lines", "place"] ["changes", "members"] (defScope sVis) := ⟨rfl, rfl, rfl, by decide +kernel, rfl, by decide +kernel, by decide +kernel⟩
theorem ok_vis {f fI : Addr} {fd fdI : FuncData} (F : Fun K "visible_lines" "visible_lines" sVis f fd) (T : Txt K mg CH CC CO CL CS) (FI : Fun K "inserted_lines" "inserted_lines" sIns fI fdI) (gI : mg "inserted_lines" = some (.ref fI)) :
    FnOk P w K mg base CX0 2 f fd ["changes", "members"] (spVis CH CC) := by
  have GI : FnOk P w K mg base CX0 1 fI fdI ["change"] (spIns CH CC) := ok_ins FI T
  have bI : Binds K fdI ["change"] [] := FI.binds fun _ _ _ _ _ _ us hl => match us, hl with | [_], _ => rfl
  refine F.ok scVis (fun vs H Q E h => ?_) (fun cdv A outer s H vs Q E hr h => ⟨_,
    pss_cons (ps_set (i := 2) scVis.nd rfl (Or.inr rfl) pe_dnewT)
    (pss_cons (ps_for PassesOwn.never rfl (pi_list (pv 1)) (pg_name (i := 3) scVis.nd rfl (Or.inr rfl))
      (pss_one (ps_for PassesOwn.never rfl (pi_list (pe_fld (pe_ix ix_list (pv 0) (pv 3) (fun _ _ => rfl)) rfl)) (pg_name (i := 4) scVis.nd rfl (Or.inl rfl))
        (pss_one (ps_dput (hu_of hr) (pv 2) (pv 4) pe_bl rfl)))))
    (pss_cons (ps_set (i := 5) scVis.nd rfl (Or.inl rfl) (pe_lst pa_nil))
    (pss_cons (ps_for PassesOwn.never rfl (pi_list (pv 1)) (pg_name (i := 3) scVis.nd rfl (Or.inr rfl))
      (pss_cons (ps_set (i := 6) scVis.nd rfl (Or.inl rfl) (pe_callB call_len (by rfl) T.len PySem.boot_len (pa_cons (pe_call GI hr (by rfl) gI FI.kp bI .nil pass0 (pa_cons (pe_ix ix_list (pv 0) (pv 3) (fun _ _ => rfl)) pa_nil)) pa_nil)))
      (pss_cons (ps_setLc (i := 7) (own := [("place", 8)]) (g := gName 8) (tt := tYes) rfl scVis.nd rfl rfl (sw_true rfl rfl rfl (by decide +kernel)) (pi_range1 (by rfl) T.range (pa_cons (pv 6) pa_nil))
        (blkOk_by (N := nVis) (sc := defScope sVis) (by decide +kernel)) (fun _ _ _ _ _ => pg_name (i := 8) scVis.nd rfl (Or.inl rfl)) (fun _ _ _ _ _ => pts_nil) (fun _ _ _ _ _ => pe_tup (pa_cons (pv 3) (pa_cons (pv 8) pa_nil))))
      (pss_one (ps_expr (pe_bm PySem.F.plainAttrs_list PySem.F.slot_list_extend PySem.F.type_list_extend mt_extend (pv 5) (pa_cons
        (pe_lc (own := [("line", 4)]) (g := gName 4) (tt := tB (tDNotIn (tVar 4) (tVar 2))) (te := tVar 4) (by rfl) scVis.nd (pi_list (pv 7)) (blkOk_by (N := nVis) (sc := defScope sVis) (by decide +kernel)) (fun _ _ _ _ _ => pg_name (i := 4) scVis.nd rfl (Or.inl rfl))
          (fun _ _ _ _ _ => pts_one (pt_cmp (pc_dnotin (hu_of hr) (pv 4) (pv 2)) (by rfl))) (fun _ _ _ _ _ => pv 4)) pa_nil)))))))
    (pss_one (ps_ret (pv 5)))))), ?_⟩)
  · obtain ⟨F0, v, m, cs, b, _, rfl, _⟩ := h
    rfl
  · obtain ⟨F0, v, m, cs, b, hF, rfl, ⟨lc, cvs, rfl, hlc, hcp⟩, ⟨lm, rfl, hlm⟩, ok, k⟩ := h
    -- deleted = {}
    intro D nD
    have D0 := hF.free nD
    have X0 := (Ext.refl hF).tmp nD (o := .dT [])
    have few := ok.len
    -- one member: its change
    have mem : ∀ i m, b[i]? = some m → ∃ c v, cs[m]? = some c ∧ cvs[m]? = some v ∧ ChangeAt CH CC F0 v c ∧ ChangeOk m c := fun i m e => by
      obtain ⟨c, ec, oc⟩ := ok.at e
      obtain ⟨v, ev, hv⟩ := Paired.at hcp ec
      exact ⟨c, v, ec, ev, hv, oc⟩
    have lenb : ((Gf11.toInts b).map V.int).length = b.length := by
      unfold Gf11.toInts
      rw [List.length_map, List.length_map]
    refine ⟨_, rfl, lm, rfl, ⟨_, SqL.of (X0.hh _ _ hlm)⟩, ?_⟩
    refine for_list (K := K) (a := lm) (xs := (Gf11.toInts b).map V.int) (fun i σ H' => ∃ u3 u4 kvs, σ = [some (.ref lc), some (.ref lm), some (.ref D), u3, u4, none, none, none, none] ∧ Ext F0 H F0 H' ∧ H' D = some (.dT kvs) ∧
        InSet kvs (fun x => x ∈ Gf11.deletedLines cs (b.take i)) ∧ kvs.length ≤ 96 * i)
      ⟨none, none, [], rfl, X0, upd_same, InSet.nil.congr fun x => ⟨fun h => h.elim, fun h => by cases h⟩, Nat.zero_le _⟩ (fun i σ H' _ ⟨_, _, _, _, X, _⟩ => SqL.of (X.hh _ _ hlm)) ?_ ?_
    · rintro i x σ H' hi ⟨u3, u4, kvs, rfl, X, hD, hS, hl⟩
      obtain ⟨q, eq, rfl⟩ := nat_at hi
      have lti : i < b.length := (List.getElem?_eq_some_iff.mp eq).1
      obtain ⟨c, cv, ec, ev, ⟨a, dx, hk, d, rfl, ha, _, ⟨b2, dvs, rfl, hb2, hd⟩⟩, oc⟩ := mem i q eq
      refine ⟨_, rfl, _, rfl, lc, _, _, _, rfl, rfl, SqL.of (X.hh _ _ hlc), atI_nat ev, a, CC, dx, _, _, rfl, X.fh _ _ ha, T.clC, T.nDeleted, ch_deleted _ _, b2, rfl, ⟨dvs, SqL.of (X.fh _ _ hb2)⟩, ?_⟩
      refine for_list (K := K) (a := b2) (xs := dvs) (fun j σ H2 => ∃ u4 kvs, σ = [some (.ref lc), some (.ref lm), some (.ref D), some (.int q), u4, none, none, none, none] ∧ Ext F0 H F0 H2 ∧ H2 D = some (.dT kvs) ∧
          InSet kvs (fun x => x ∈ Gf11.deletedLines cs (b.take i) ++ c.deleted.take j) ∧ kvs.length ≤ 96 * i + j)
        ⟨u4, kvs, rfl, X, hD, hS.congr fun x => by rw [List.take_zero, List.append_nil], hl⟩ (fun j σ H2 _ ⟨_, _, _, X, _⟩ => SqL.of (X.fh _ _ hb2)) ?_ ?_
      · rintro j y σ H2 hj ⟨u4, kvs, rfl, X, hD, hS, hl⟩
        obtain ⟨z, ez, hz⟩ := Paired.get hd hj
        obtain ⟨t, rfl, ht⟩ := hz.key
        have ltj : j < c.deleted.length := (List.getElem?_eq_some_iff.mp ez).1
        have nd := oc.ndel
        refine ⟨_, rfl, _, rfl, D, _, rfl, DPut.t hD (X.fh _ _ ht) (Nat.lt_of_le_of_lt (m := 2000) (by omega) (by decide)), ?_⟩
        refine ⟨_, _, rfl, X.put D0 nD, upd_same, (hS.put z (.bl true)).congr fun x => ?_, ?_⟩
        · rw [take_more ez, ← List.append_assoc]
          simp only [List.mem_append, List.mem_singleton]
          exact ⟨fun h => h.elim .inr (fun h => h.elim (fun h => .inl (.inl h)) fun h => .inl (.inr h)), fun h => h.elim (fun h => h.elim (fun h => .inr (.inl h)) fun h => .inr (.inr h)) .inl⟩
        · have := length_putK kvs (keyP z) (.bl true)
          omega
      · rintro σ H2 ⟨u4, kvs, rfl, X, hD, hS, hl⟩
        rw [Paired.len hd] at hl hS
        rw [List.take_length] at hS
        have nd := oc.ndel
        refine ⟨_, _, kvs, rfl, X, hD, ?_, by omega⟩
        rw [del_take eq ec]
        exact hS
    · rintro σ H' ⟨u3, u4, kvs, rfl, X, hD, hS, hl⟩
      rw [lenb, List.take_length] at hS
      -- visible = []
      refine ⟨by show 0 ≤ sizeLine; decide, fun p np => ?_⟩
      have np0 := X.fh.free np
      have npH := X.hh.free np
      have pD : D ≠ p := ne_of_none hD np
      have hD1 : upd H' p (.lst []) D = some (.dT kvs) := by rw [upd_ne pD]; exact hD
      have X1 := X.tmp np (o := .lst [])
      refine ⟨_, rfl, lm, rfl, ⟨_, SqL.of (X1.hh _ _ hlm)⟩, ?_⟩
      refine for_list (K := K) (a := lm) (xs := (Gf11.toInts b).map V.int) (fun i σ H' => ∃ F1 u3 u4 u6 u7 us, σ = [some (.ref lc), some (.ref lm), some (.ref D), u3, u4, some (.ref p), u6, u7, none] ∧ Ext F0 H F1 H' ∧ F1 p = none ∧ F1 D = none ∧ H' D = some (.dT kvs) ∧
          H' p = some (.lst us) ∧ Paired (PosAt F1) us (visPos cs (Gf11.deletedLines cs b) (b.take i)) ∧ us.length ≤ 8 * i)
        ⟨F0, u3, u4, none, none, [], rfl, X1, np0, D0, hD1, upd_same, .nil, Nat.zero_le _⟩ (fun i σ H' _ ⟨_, _, _, _, _, _, _, X, _⟩ => SqL.of (X.hh _ _ hlm)) ?_ ?_
      · rintro i x σ H2 hi ⟨F1, u3, u4, u6, u7, us, rfl, X, p1, D1, hD, hp, pr, hl⟩
        obtain ⟨q, eq, rfl⟩ := nat_at hi
        have lti : i < b.length := (List.getElem?_eq_some_iff.mp eq).1
        obtain ⟨c, cv, ec, ev, hcv, oc⟩ := mem i q eq
        have l8 := oc.lines
        -- count = len(inserted_lines(changes[member]))
        refine ⟨_, rfl, _, rfl, lc, _, _, _, rfl, rfl, SqL.of (X.hh _ _ hlc), atI_nat ev, F1, cv, c, X.fh, rfl, ChangeAt.mono X.ff _ _ hcv, by omega, fun F2 H3 r Y hr => ?_⟩
        obtain ⟨a, ls, rfl, hla, hlp⟩ := hr
        have eln : ls.length = (Gf11.insertedLines c).length := Paired.len hlp
        have p2 := Y.out p1 hp
        have D2 := Y.out D1 hD
        have hp3 := Y.hh _ _ hp
        have hD3 := Y.hh _ _ hD
        have X3 := X.trans Y
        refine ⟨_, ls.length, rfl, Or.inl ⟨ls, SqL.of (Y.fh _ _ hla), rfl⟩, ?_⟩
        -- lines = [..]
        refine ⟨_, rfl, _, rfl, (by omega), (by omega), fun D2' nD2 => ?_⟩
        have hL0 := X3.hh.free nD2
        refine lc_range (lo := 0) (n := ((ls.length : Nat) : Int).toNat) (fun j H4 => ∃ F4 ws, Ext F2 H3 F4 H4 ∧ F4 D2' = none ∧ H4 D2' = some (.lst ws) ∧ Paired (PosAt F4) ws (newLines q 0 j)) ?_ ?_ ?_
        · exact ⟨F2, [], (Ext.refl Y.fh).tmp nD2, Y.fh.free nD2, upd_same, .nil⟩
        · rintro j H4 hj ⟨F4, ws, Z, f4, h4, pw⟩
          refine ⟨rfl, _, rfl, _, rfl, (by show 2 ≤ sizeLine; decide), fun t nt => ?_⟩
          have tD := ne_new h4 nt
          have lw : ws.length < sizeLine := by
            rw [Paired.len pw, len_newLines]
            exact Nat.lt_of_lt_of_le (m := 1001) (by omega) (by decide)
          refine ⟨ws, by rw [upd_ne tD]; exact h4, lw, _, ws ++ [.ref t], (Z.new nt).put (by rw [upd_ne tD]; exact f4) nD2, by rw [upd_ne tD]; exact f4, upd_same, ?_⟩
          rw [newLines_snoc]
          refine Paired.app (Paired.imp (fun v x => PosAt.mono (same_new (Same.refl F4) (Z.fh.free nt)) v x) pw) (Paired.one ⟨t, rfl, ?_⟩)
          rw [upd_same, pos_line]
          congr 4
        · rintro H4 ⟨F4, ws, Z, f4, h4, pw⟩
          have hn : (((ls.length : Nat) : Int)).toNat = (Gf11.insertedLines c).length := by omega
          rw [hn] at pw
          have lw : ws.length = (Gf11.insertedLines c).length := by rw [Paired.len pw, len_newLines]
          have hp4 := Z.hh _ _ hp3
          have hD4 := Z.hh _ _ hD3
          have p4 := Z.out p2 hp3
          have D4 := Z.out D2 hD3
          have X4 := X3.trans Z
          -- visible.extend([..])
          refine ⟨_, rfl, Or.inl ⟨rfl, _, SqL.of hp4⟩, _, rfl, D2', rfl, ⟨ws, SqL.of h4⟩, fun D3 nD3 => ?_⟩
          have pD3 := ne_new hp4 nD3
          have DD3 := ne_new hD4 nD3
          have D2D3 := ne_new h4 nD3
          have F4D3 := Z.fh.free nD3
          have HD3 := X4.hh.free nD3
          refine lc_list (K := K) (a := D2') (xs := ws) (fun j H5 => ∃ vs, Ext F0 H F4 H5 ∧ H5 D2' = some (.lst ws) ∧ H5 p = some (.lst us) ∧ H5 D = some (.dT kvs) ∧ H5 D3 = some (.lst vs) ∧
              Paired (PosAt F4) vs (((newLines q 0 (Gf11.insertedLines c).length).take j).filter fun x => !(Gf11.deletedLines cs b).contains x))
            ⟨[], X4.tmp nD3, by rw [upd_ne D2D3]; exact h4, by rw [upd_ne pD3]; exact hp4, by rw [upd_ne DD3]; exact hD4, upd_same, .nil⟩ (fun j H5 _ ⟨_, _, e, _⟩ => SqL.of e) ?_ ?_
          · rintro j x H5 hj ⟨vs, W, h5, hp5, hD5, h53, pv5⟩
            obtain ⟨y, ey, hy⟩ := Paired.get pw hj
            obtain ⟨t, rfl, ht⟩ := hy.key
            refine ⟨rfl, _, rfl, _, rfl, D, _, rfl, DGet.t hD5 (W.fh _ _ ht), _, rfl, ?_⟩
            have tk := take_more ey
            have fl : ((newLines q 0 (Gf11.insertedLines c).length).take (j + 1)).filter (fun x => !(Gf11.deletedLines cs b).contains x) = ((newLines q 0 (Gf11.insertedLines c).length).take j).filter (fun x => !(Gf11.deletedLines cs b).contains x) ++ [y].filter (fun x => !(Gf11.deletedLines cs b).contains x) := by
              rw [tk, List.filter_append]
            by_cases dy : y ∈ Gf11.deletedLines cs b
            · refine ifF (by rw [(hS y).mpr dy]; rfl) ⟨vs, W, h5, hp5, hD5, h53, ?_⟩
              rw [fl, List.filter_cons_of_neg (by simpa using dy)]
              simpa using pv5
            · have : (valV kvs (keyP y)).isSome = false := by
                cases e : (valV kvs (keyP y)).isSome with
                | false => rfl
                | true => exact absurd ((hS y).mp e) dy
              refine ifT (by rw [this]; rfl) ⟨_, rfl, vs, h53, ?_, vs ++ [.ref t], W.put F4D3 HD3, by rw [upd_ne D2D3]; exact h5, by rw [upd_ne pD3]; exact hp5, by rw [upd_ne DD3]; exact hD5, upd_same, ?_⟩
              · have l1 := Paired.len pv5
                have l2 := List.length_filter_le (fun x => !(Gf11.deletedLines cs b).contains x) ((newLines q 0 (Gf11.insertedLines c).length).take j)
                have l3 : ((newLines q 0 (Gf11.insertedLines c).length).take j).length ≤ 1000 := by
                  rw [List.length_take, len_newLines]
                  omega
                exact Nat.lt_of_le_of_lt (m := 1000) (by omega) (by decide)
              · rw [fl, List.filter_cons_of_pos (by simpa using dy)]
                exact Paired.app pv5 (Paired.one hy)
          · rintro H5 ⟨vs, W, h5, hp5, hD5, h53, pv5⟩
            have ft : (newLines q 0 (Gf11.insertedLines c).length).take ws.length = newLines q 0 (Gf11.insertedLines c).length := by
              rw [lw]
              exact List.take_of_length_le (by rw [len_newLines]; exact Nat.le_refl _)
            rw [ft] at pv5
            have lv : vs.length ≤ 8 := by
              rw [Paired.len pv5]
              refine Nat.le_trans (List.length_filter_le _ _) ?_
              rw [len_newLines]
              exact l8
            have lb := ok.len
            refine ⟨p, D3, us, vs, rfl, rfl, hp5, h53, Nat.le_trans (m := 1000) (by omega) (by decide), ?_⟩
            refine ⟨F4, _, _, _, _, us ++ vs, rfl, W.put p4 npH, p4, D4, by rw [upd_ne (fun e => by rw [e, hp5] at hD5; cases hD5)]; exact hD5, upd_same, ?_, ?_⟩
            · rw [visPos_take eq ec]
              exact Paired.app (Paired.imp (fun v x => PosAt.mono (Y.ff.trans Z.ff) v x) pr) pv5
            · rw [List.length_append]
              omega
      · rintro σ H2 ⟨F1, u3, u4, u6, u7, us, rfl, X, p1, D1, hD, hp, pr, hl⟩
        rw [lenb, List.take_length] at pr
        have Z := X.freeze hp p1 npH
        refine ⟨_, rfl, k _ _ _ Z ⟨p, us, rfl, upd_same, ?_⟩⟩
        rw [show (Gf11.visibleLines cs b).map (·.1) = visPos cs (Gf11.deletedLines cs b) b from visPos_eq cs (Gf11.deletedLines cs b) b]
        exact Paired.imp (fun v x => PosAt.mono (same_new (Same.refl F1) p1) v x) pr
end
end Lg
namespace Lg
open PySem PySem.Spec PyProof.Rows L2
/-- all that is new is frozen -/
def frz (F H H' : Hp) : Hp := fun b => match H b with
  | none => H' b
  | some _ => F b
theorem frz_new {F H H' : Hp} {b : Addr} (n : H b = none) : frz F H H' b = H' b := by
  unfold frz
  rw [n]
theorem frz_old {F H H' : Hp} {b : Addr} {o : HO} (e : H b = some o) : frz F H H' b = F b := by
  unfold frz
  rw [e]
theorem Ext.all {F H F1 H1 : Hp} (hF : Same F H) (a : Ext F H F1 H1) : Ext F H (frz F H H1) H1 ∧ Same F1 (frz F H H1) := by
  refine ⟨⟨fun b o e => ?_, fun b o e => ?_, a.hh, fun b o e => ?_⟩, fun b o e => ?_⟩
  · rw [frz_old (hF b o e)]
    exact e
  · cases c : H b with
    | none =>
      rw [frz_new c] at e
      exact e
    | some u =>
      rw [frz_old c] at e
      exact a.fh b o (a.ff b o e)
  · cases c : H b with
    | none => exact .inr rfl
    | some u =>
      rw [frz_old c] at e
      exact .inl e
  · rcases a.nw b o e with k | k
    · rw [frz_old (hF b o k)]
      exact k
    · rw [frz_new k]
      exact a.fh b o e
/-! ### what stands next to a position -/
def succs (es : Edges) (x : Gf11.Position) : List Gf11.Position := (es.filter fun e => decide (e.1 = x)).map (·.2)
theorem succs_snoc_same (es : Edges) (x y : Gf11.Position) : succs (es ++ [(x, y)]) x = succs es x ++ [y] := by
  unfold succs
  rw [List.filter_append, List.map_append]
  simp
theorem succs_snoc_ne (es : Edges) {x z : Gf11.Position} (y : Gf11.Position) (h : z ≠ x) : succs (es ++ [(x, y)]) z = succs es z := by
  unfold succs
  rw [List.filter_append, List.map_append]
  have : decide (x = z) = false := decide_eq_false fun e => h e.symm
  simp [this]
theorem len_succs (es : Edges) (x : Gf11.Position) : (succs es x).length ≤ es.length := by
  unfold succs
  rw [List.length_map]
  exact List.length_filter_le _ _
theorem mem_succs {es : Edges} {x y : Gf11.Position} : y ∈ succs es x ↔ (x, y) ∈ es := by
  unfold succs
  rw [List.mem_map]
  constructor
  · rintro ⟨e, he, rfl⟩
    obtain ⟨h1, h2⟩ := List.mem_filter.mp he
    have h3 : e.1 = x := of_decide_eq_true h2
    rw [← h3]
    exact h1
  · intro h
    exact ⟨(x, y), List.mem_filter.mpr ⟨h, decide_eq_true rfl⟩, rfl⟩
def FolAt (F : Hp) (v : V) (es : Edges) : Prop := ∃ D kvs, v = .ref D ∧ F D = some (.dT kvs) ∧ (∀ x w, valV kvs (keyP x) = some w → LstAt PosAt F w (succs es x)) ∧ ∀ x, valV kvs (keyP x) = none → succs es x = []
/-! ### the edges, chain by chain -/
theorem edges_chains (p : Nat) : ∀ (hs : List Gf11.Hunk) (k : Nat), Gf11.hunkEdges p k hs = (chainsOf p k hs).flatMap Gf11.consecutive
  | [], _ => rfl
  | h :: hs, k => by
    show Gf11.consecutive (h.before :: (newLines p k h.lines.length ++ [h.after])) ++ Gf11.hunkEdges p (k + h.lines.length) hs = _
    rw [edges_chains p hs]
    rfl
theorem cons_get : ∀ {l : List Gf11.Position} {k : Nat} {x y : Gf11.Position}, l[k]? = some x → l[k + 1]? = some y → (Gf11.consecutive l)[k]? = some (x, y)
  | [], _, _, _, h, _ => by cases h
  | [a], 0, _, _, _, h => by cases h
  | [a], k + 1, _, _, h, _ => by cases h
  | a :: b :: l, 0, x, y, h1, h2 => by
    cases Option.some.inj h1
    cases Option.some.inj h2
    rfl
  | a :: b :: l, k + 1, x, y, h1, h2 => cons_get (l := b :: l) (k := k) h1 h2
theorem cons_len : ∀ (l : List Gf11.Position), (Gf11.consecutive l).length = l.length - 1
  | [] => rfl
  | [_] => rfl
  | a :: b :: l => by
    show (Gf11.consecutive (b :: l)).length + 1 = _
    rw [cons_len (b :: l)]
    rfl
theorem len_hunkEdges (p : Nat) : ∀ (hs : List Gf11.Hunk) (k : Nat), (Gf11.hunkEdges p k hs).length = linesIn hs + hs.length
  | [], _ => rfl
  | h :: hs, k => by
    show (Gf11.consecutive (h.before :: (newLines p k h.lines.length ++ [h.after])) ++ Gf11.hunkEdges p (k + h.lines.length) hs).length = _
    have : linesIn (h :: hs) = h.lines.length + linesIn hs := by
      unfold linesIn
      rw [List.flatMap_cons, List.length_append]
    rw [this]
    simp only [List.length_append, cons_len, len_hunkEdges p hs, List.length_cons, len_newLines, List.length_nil]
    omega
theorem edges_take {cs : List Gf11.Change} {b : List Nat} {i m : Nat} {c : Gf11.Change} (e : b[i]? = some m) (ec : cs[m]? = some c) : Gf11.edges cs (b.take (i + 1)) = Gf11.edges cs (b.take i) ++ Gf11.hunkEdges m 0 c.hunks := by
  unfold Gf11.edges
  rw [take_more e, List.flatMap_append]
  simp [ec]
theorem flat_pre {α β : Type} {l : List α} {f : α → List β} {j : Nat} {x : α} (e : l[j]? = some x) : (l.take (j + 1)).flatMap f = (l.take j).flatMap f ++ f x := by
  rw [take_more e, List.flatMap_append]
  simp
theorem flat_pre_le {α β : Type} (l : List α) (f : α → List β) (j : Nat) : ((l.take j).flatMap f).length ≤ (l.flatMap f).length := by
  have e : l.flatMap f = (l.take j).flatMap f ++ (l.drop j).flatMap f := by
    rw [← List.flatMap_append, List.take_append_drop]
  rw [e, List.length_append]
  exact Nat.le_add_right _ _
section
variable {P : Program} {w : World} {K : PySem.W.Frag} {mg : Str → Option Value} {base : Heap} {CH CC CO CL CS : Addr}
/-! ### next_positions -/
abbrev sNxt : Stmt := top 31
def spNxt (CH CC : Addr) : Sp := fun vs H Q _ => ∃ (F : Hp) (v m : V) (cs : List Gf11.Change) (b : List Nat), Same F H ∧ vs = [v, m] ∧ ChangesAt CH CC F H v cs ∧ LineAt H m b ∧ BrOk cs b ∧
  ∀ (F' H' : Hp) (r : V), Ext F H F' H' → FolAt F' r (Gf11.edges cs b) → Q r H'
theorem scNxt : FnScope ["changes", "members", "following", "member", "chain", "place"] ["changes", "members"] (defScope sNxt) := ⟨rfl, rfl, rfl, by decide +kernel, rfl, by decide +kernel, by decide +kernel⟩
/-- the dict of lists as it grows -/
structure Fol (H0 F H : Hp) (D : Addr) (es : Edges) (kvs : List (List L2.Key × V)) : Prop where
  at_ : H D = some (.dT kvs)
  no : F D = none
  there : ∀ x v, valV kvs (keyP x) = some v → ∃ l us, v = .ref l ∧ H l = some (.lst us) ∧ F l = none ∧ H0 l = none ∧ Paired (PosAt F) us (succs es x)
  none_ : ∀ x, valV kvs (keyP x) = none → succs es x = []
  inj : ∀ x y v, valV kvs (keyP x) = some v → valV kvs (keyP y) = some v → x = y
  few : kvs.length ≤ es.length
/-- a call that leaves what is not frozen -/
theorem Fol.call {H0 F H F1 H1 : Hp} {D : Addr} {es : Edges} {kvs : List (List L2.Key × V)} (h : Fol H0 F H D es kvs) (X : Ext F H F1 H1) : Fol H0 F1 H1 D es kvs where
  at_ := X.hh _ _ h.at_
  no := X.out h.no h.at_
  there := fun x v e => by
    obtain ⟨l, us, ev, hl, fl, h0, p⟩ := h.there x v e
    exact ⟨l, us, ev, X.hh _ _ hl, X.out fl hl, h0, Paired.imp (fun v x => PosAt.mono X.ff v x) p⟩
  none_ := h.none_
  inj := h.inj
  few := h.few
/-- a new object beside it -/
theorem Fol.tmp {H0 F H : Hp} {D q : Addr} {o : HO} {es : Edges} {kvs : List (List L2.Key × V)} (h : Fol H0 F H D es kvs) (n : H q = none) : Fol H0 F (upd H q o) D es kvs where
  at_ := by
    rw [upd_ne (ne_new h.at_ n)]
    exact h.at_
  no := h.no
  there := fun x v e => by
    obtain ⟨l, us, ev, hl, r⟩ := h.there x v e
    exact ⟨l, us, ev, by rw [upd_ne (ne_new hl n)]; exact hl, r⟩
  none_ := h.none_
  inj := h.inj
  few := h.few
/-- an edge from a position that the dict has -/
theorem Fol.add {H0 F H : Hp} {D l : Addr} {es : Edges} {kvs : List (List L2.Key × V)} {x y : Gf11.Position} {us : List V} {w : V} (h : Fol H0 F H D es kvs) (e : valV kvs (keyP x) = some (.ref l)) (hl : H l = some (.lst us)) (hw : PosAt F w y) :
    Fol H0 F (upd H l (.lst (us ++ [w]))) D (es ++ [(x, y)]) kvs where
  at_ := by
    rw [upd_ne fun k => by rw [← k, h.at_] at hl; cases hl]
    exact h.at_
  no := h.no
  there := fun z v ez => by
    obtain ⟨l', us', ev, hl', fl, h0, p⟩ := h.there z v ez
    subst ev
    by_cases c : z = x
    · subst c
      rw [ez] at e
      cases e
      rw [hl] at hl'
      cases hl'
      exact ⟨l, us ++ [w], rfl, upd_same, fl, h0, by rw [succs_snoc_same]; exact Paired.app p (Paired.one hw)⟩
    · have ne : l' ≠ l := fun k => c (h.inj z x _ ez (by rw [e, k]))
      exact ⟨l', us', rfl, by rw [upd_ne ne]; exact hl', fl, h0, by rw [succs_snoc_ne es y c]; exact p⟩
  none_ := fun z ez => by
    have c : z ≠ x := fun k => by
      rw [k, e] at ez
      cases ez
    rw [succs_snoc_ne es y c]
    exact h.none_ z ez
  inj := h.inj
  few := by
    rw [List.length_append]
    exact Nat.le_succ_of_le h.few
/-- an edge from a position that it has not: the list l is new -/
theorem Fol.put {H0 F H : Hp} {D l : Addr} {es : Edges} {kvs : List (List L2.Key × V)} {x y : Gf11.Position} {w : V} (h : Fol H0 F H D es kvs) (e : valV kvs (keyP x) = none) (hl : H l = some (.lst [])) (fl : F l = none) (h0 : H0 l = none)
    (new : ∀ z v, valV kvs (keyP z) = some v → v ≠ .ref l) (hw : PosAt F w y) :
    Fol H0 F (upd (upd H D (.dT (putK kvs (keyP x) (.ref l)))) l (.lst [w])) D (es ++ [(x, y)]) (putK kvs (keyP x) (.ref l)) := by
  have Dl : D ≠ l := fun k => by
    have := h.at_
    rw [k, hl] at this
    cases this
  have key : ∀ z v, valV (putK kvs (keyP x) (.ref l)) (keyP z) = some v → (z = x ∧ v = .ref l) ∨ (z ≠ x ∧ valV kvs (keyP z) = some v) := fun z v ez => by
    rw [valV_put] at ez
    by_cases c : keyP z = keyP x
    · rw [if_pos c] at ez
      exact .inl ⟨keyP_inj c, (Option.some.inj ez).symm⟩
    · rw [if_neg c] at ez
      exact .inr ⟨fun k => c (by rw [k]), ez⟩
  refine ⟨by rw [upd_ne Dl, upd_same], h.no, fun z v ez => ?_, fun z ez => ?_, fun z z' v e1 e2 => ?_, ?_⟩
  · rcases key z v ez with ⟨rfl, rfl⟩ | ⟨c, ez⟩
    · refine ⟨l, [w], rfl, upd_same, fl, h0, ?_⟩
      rw [succs_snoc_same, h.none_ z e]
      exact Paired.one hw
    · obtain ⟨l', us', rfl, hl', r⟩ := h.there z v ez
      have ne : l' ≠ l := fun k => new z _ ez (by rw [k])
      have nD : l' ≠ D := fun k => by
        rw [k, h.at_] at hl'
        cases hl'
      rw [succs_snoc_ne es y c]
      exact ⟨l', us', rfl, by rw [upd_ne ne, upd_ne nD]; exact hl', r⟩
  · rw [valV_put] at ez
    by_cases c : keyP z = keyP x
    · rw [if_pos c] at ez
      cases ez
    · rw [if_neg c] at ez
      rw [succs_snoc_ne es y fun k => c (by rw [k])]
      exact h.none_ z ez
  · rcases key z v e1 with ⟨a1, a2⟩ | ⟨c, k1⟩
    · rcases key z' v e2 with ⟨b1, _⟩ | ⟨_, k2⟩
      · rw [a1, b1]
      · exact absurd a2 (new z' v k2)
    · rcases key z' v e2 with ⟨_, b2⟩ | ⟨_, k2⟩
      · exact absurd b2 (new z v k1)
      · exact h.inj z z' v k1 k2
  · have h1 := length_putK kvs (keyP x) (.ref l)
    have h2 := h.few
    rw [List.length_append]
    show _ ≤ es.length + 1
    omega
theorem ok_nxt {f fC : Addr} {fd fdC : FuncData} (F : Fun K "next_positions" "next_positions" sNxt f fd) (T : Txt K mg CH CC CO CL CS) (FC : Fun K "chains" "chains" sCha fC fdC) (gC : mg "chains" = some (.ref fC)) :
    FnOk P w K mg base CX0 2 f fd ["changes", "members"] (spNxt CH CC) := by
  have GC : FnOk P w K mg base CX0 1 fC fdC ["number", "change"] (spCha CH CC) := ok_cha FC T
  have bC : Binds K fdC ["number", "change"] [] := FC.binds fun _ _ _ _ _ _ us hl => match us, hl with | [_, _], _ => rfl
  refine F.ok scNxt (fun vs H Q E h => ?_) (fun cdv A outer s H vs Q E hr h => ⟨_,
    pss_cons (ps_set (i := 2) scNxt.nd rfl (Or.inl rfl) pe_dnewT)
    (pss_cons (ps_for PassesOwn.never rfl (pi_list (pv 1)) (pg_name (i := 3) scNxt.nd rfl (Or.inl rfl))
      (pss_one (ps_for PassesOwn.never rfl (pi_list (pe_call GC hr (by rfl) gC FC.kp bC .nil pass0 (pa_cons (pv 3) (pa_cons (pe_ix ix_list (pv 0) (pv 3) (fun _ _ => rfl)) pa_nil)))) (pg_name (i := 4) scNxt.nd rfl (Or.inl rfl))
        (pss_one (ps_for PassesOwn.never rfl (pi_range1 (by rfl) T.range (pa_cons (pe_op op_sub (pe_callB call_len (by rfl) T.len PySem.boot_len (pa_cons (pv 4) pa_nil)) pe_int) pa_nil)) (pg_name (i := 5) scNxt.nd rfl (Or.inl rfl))
          (pss_one (ps_expr (pe_bm PySem.F.plainAttrs_list PySem.F.slot_list_append PySem.F.type_list_append mt_append
            (pe_bm PySem.F.plainAttrs_dict PySem.F.slot_dict_setdefault PySem.F.type_dict_setdefault (mt_setdT (hu_of hr)) (pv 2) (pa_cons (pe_ix ix_list (pv 4) (pv 5) (fun _ _ => rfl)) (pa_cons (pe_lst pa_nil) pa_nil)))
            (pa_cons (pe_ix ix_list (pv 4) (pe_op op_add (pv 5) pe_int) (fun _ _ => rfl)) pa_nil)))))))))
    (pss_one (ps_ret (pv 2)))), ?_⟩)
  · obtain ⟨F0, v, m, cs, b, _, rfl, _⟩ := h
    rfl
  · obtain ⟨F0, v, m, cs, b, hF, rfl, ⟨lc, cvs, rfl, hlc, hcp⟩, ⟨lm, rfl, hlm⟩, ok, k⟩ := h
    intro D nD
    have D0 := hF.free nD
    have X0 := (Ext.refl hF).tmp nD (o := .dT [])
    have few := ok.len
    have mem : ∀ i m, b[i]? = some m → ∃ c v, cs[m]? = some c ∧ cvs[m]? = some v ∧ ChangeAt CH CC F0 v c ∧ ChangeOk m c := fun i m e => by
      obtain ⟨c, ec, oc⟩ := ok.at e
      obtain ⟨v, ev, hv⟩ := Paired.at hcp ec
      exact ⟨c, v, ec, ev, hv, oc⟩
    have lenb : ((Gf11.toInts b).map V.int).length = b.length := by
      unfold Gf11.toInts
      rw [List.length_map, List.length_map]
    refine ⟨_, rfl, lm, rfl, ⟨_, SqL.of (X0.hh _ _ hlm)⟩, ?_⟩
    refine for_list (K := K) (a := lm) (xs := (Gf11.toInts b).map V.int) (fun i σ H' => ∃ F' u3 u4 u5 kvs, σ = [some (.ref lc), some (.ref lm), some (.ref D), u3, u4, u5] ∧ Ext F0 H F' H' ∧ Fol H F' H' D (Gf11.edges cs (b.take i)) kvs ∧ (Gf11.edges cs (b.take i)).length ≤ 16 * i)
      ⟨F0, none, none, none, [], rfl, X0, ⟨upd_same, D0, fun x v e => (by cases e), fun x _ => rfl, fun x y v e => (by cases e), Nat.zero_le _⟩, Nat.zero_le _⟩ (fun i σ H' _ ⟨_, _, _, _, _, _, X, _⟩ => SqL.of (X.hh _ _ hlm)) ?_ ?_
    · rintro i x σ H' hi ⟨F', u3, u4, u5, kvs, rfl, X, L, hl⟩
      obtain ⟨q, eq, rfl⟩ := nat_at hi
      have lti : i < b.length := (List.getElem?_eq_some_iff.mp eq).1
      obtain ⟨c, cv, ec, ev, hcv, oc⟩ := mem i q eq
      have l8 := oc.lines
      have h8 := oc.few
      have le16 : (Gf11.hunkEdges q 0 c.hunks).length ≤ 16 := by
        rw [len_hunkEdges]
        have : linesIn c.hunks = (Gf11.insertedLines c).length := rfl
        omega
      refine ⟨_, rfl, _, rfl, _, rfl, lc, _, _, _, rfl, rfl, SqL.of (X.hh _ _ hlc), atI_nat ev, F', q, cv, c, X.fh, rfl, ChangeAt.mono X.ff _ _ hcv, by omega, by omega, fun F2 H2 r Y hr => ?_⟩
      obtain ⟨a, chs, rfl, hca, hcp2⟩ := hr
      refine ⟨a, rfl, ⟨chs, SqL.of (Y.fh _ _ hca)⟩, ?_⟩
      have X2 := X.trans Y
      refine for_list (K := K) (a := a) (xs := chs) (fun j σ H3 => ∃ u4 u5 kvs, σ = [some (.ref lc), some (.ref lm), some (.ref D), some (.int q), u4, u5] ∧ Ext F0 H F2 H3 ∧ Fol H F2 H3 D (Gf11.edges cs (b.take i) ++ ((chainsOf q 0 c.hunks).take j).flatMap Gf11.consecutive) kvs)
        ⟨u4, u5, kvs, rfl, X2, by rw [List.take_zero, List.flatMap_nil, List.append_nil]; exact L.call Y⟩ (fun j σ H3 _ ⟨_, _, _, _, X, _⟩ => SqL.of (X.fh _ _ hca)) ?_ ?_
      · rintro j y σ H3 hj ⟨u4, u5, kvs, rfl, X3, L3⟩
        obtain ⟨ch, ech, l4, pvs, rfl, hl4, pp⟩ := Paired.get hcp2 hj
        have e4 : pvs.length = ch.length := Paired.len pp
        have pre : ((chainsOf q 0 c.hunks).take j).flatMap Gf11.consecutive ++ Gf11.consecutive ch = ((chainsOf q 0 c.hunks).take (j + 1)).flatMap Gf11.consecutive := (flat_pre ech).symm
        have prl : (((chainsOf q 0 c.hunks).take (j + 1)).flatMap Gf11.consecutive).length ≤ 16 := by
          refine Nat.le_trans (flat_pre_le _ _ _) ?_
          rw [← edges_chains]
          exact le16
        rw [← pre, List.length_append] at prl
        have cl := cons_len ch
        refine ⟨_, rfl, _, pvs.length, rfl, Or.inl ⟨pvs, SqL.of (X3.fh _ _ hl4), rfl⟩, _, _, rfl, rfl, _, rfl, (by omega), (by omega), ?_⟩
        refine for_range (lo := 0) (n := ((pvs.length : Int) - 1).toNat) (fun k σ H4 => ∃ u5 kvs, σ = [some (.ref lc), some (.ref lm), some (.ref D), some (.int q), some (.ref l4), u5] ∧ Ext F0 H F2 H4 ∧
            Fol H F2 H4 D (Gf11.edges cs (b.take i) ++ ((chainsOf q 0 c.hunks).take j).flatMap Gf11.consecutive ++ (Gf11.consecutive ch).take k) kvs)
          ⟨u5, kvs, rfl, X3, by rw [List.take_zero, List.append_nil]; exact L3⟩ ?_ ?_
        · rintro n σ H4 hn ⟨u5, kvs, rfl, X4, L4⟩
          have lt2 : n + 1 < ch.length := by omega
          have lt1 : n < ch.length := by omega
          obtain ⟨v1, ev1, hv1⟩ := Paired.at pp (List.getElem?_eq_getElem lt1)
          obtain ⟨v2, ev2, hv2⟩ := Paired.at pp (List.getElem?_eq_getElem lt2)
          obtain ⟨t1, rfl, ht1⟩ := hv1.key
          have eed := cons_get (List.getElem?_eq_getElem lt1) (List.getElem?_eq_getElem lt2)
          have es1 : Gf11.edges cs (b.take i) ++ ((chainsOf q 0 c.hunks).take j).flatMap Gf11.consecutive ++ (Gf11.consecutive ch).take (n + 1) = Gf11.edges cs (b.take i) ++ ((chainsOf q 0 c.hunks).take j).flatMap Gf11.consecutive ++ (Gf11.consecutive ch).take n ++ [(ch[n], ch[n + 1])] := by
            rw [take_more eed, ← List.append_assoc]
          have bound : (Gf11.edges cs (b.take i) ++ ((chainsOf q 0 c.hunks).take j).flatMap Gf11.consecutive ++ (Gf11.consecutive ch).take n).length ≤ 1000 := by
            rw [List.length_append, List.length_append, List.length_take]
            omega
          have fk := L4.few
          have ev1' : atI pvs (0 + (n : Int)) = some (.ref t1) := by
            rw [Int.zero_add]
            exact atI_nat ev1
          have ev2' : atI pvs (0 + (n : Int) + 1) = some v2 := by
            have : (0 + (n : Int) + 1) = ((n + 1 : Nat) : Int) := by omega
            rw [this]
            exact atI_nat ev2
          refine ⟨_, rfl, Or.inr (Or.inr (Or.inl ⟨rfl, Or.inr ⟨kvs, L4.at_⟩⟩)), _, rfl, _, rfl, l4, _, _, _, rfl, rfl, SqL.of (X4.fh _ _ hl4), ev1', (by show 0 ≤ sizeLine; decide), fun l0 n0 => ?_⟩
          have X5 := X4.tmp n0 (o := .lst [])
          have L5 := L4.tmp n0 (o := .lst [])
          refine ⟨D, kvs, keyP ch[n], t1, .ref l0, rfl, rfl, L5.at_, X5.fh _ _ ht1, Nat.lt_of_le_of_lt (m := 1000) (by omega) (by decide), fun v e => ?_, fun e => ?_⟩
          · obtain ⟨l, us, rfl, hl2, fl, hl0, pu⟩ := L5.there _ _ e
            have lu : us.length ≤ 1000 := by
              rw [Paired.len pu]
              exact Nat.le_trans (len_succs _ _) bound
            refine ⟨Or.inl ⟨rfl, us, SqL.of hl2⟩, _, rfl, _, rfl, _, _, rfl, rfl, l4, _, _, _, rfl, rfl, SqL.of (X5.fh _ _ hl4), ev2', l, us, v2, rfl, rfl, hl2, Nat.lt_of_le_of_lt lu (by decide), ?_⟩
            refine ⟨_, kvs, rfl, X5.put fl hl0, ?_⟩
            rw [es1]
            exact L5.add e hl2 hv2
          · have f0 := X4.fh.free n0
            have h0 := X4.hh.free n0
            have X6 := X5.put L5.no nD (q := D) (o := .dT (putK kvs (keyP ch[n]) (.ref l0)))
            have nl : D ≠ l0 := ne_new L4.at_ n0
            have hl0 : upd (upd H4 l0 (.lst [])) D (.dT (putK kvs (keyP ch[n]) (.ref l0))) l0 = some (.lst []) := by
              rw [upd_ne (Ne.symm nl), upd_same]
            refine ⟨Or.inl ⟨rfl, [], SqL.of hl0⟩, _, rfl, _, rfl, _, _, rfl, rfl, l4, _, _, _, rfl, rfl, SqL.of (X6.fh _ _ hl4), ev2', l0, [], v2, rfl, rfl, hl0, (by decide), ?_⟩
            refine ⟨_, putK kvs (keyP ch[n]) (.ref l0), rfl, X6.put f0 h0, ?_⟩
            rw [es1]
            refine L5.put e upd_same f0 h0 (fun z v ez ev => ?_) hv2
            subst ev
            obtain ⟨l', us', e', hl', _⟩ := L4.there z _ ez
            cases e'
            rw [n0] at hl'
            cases hl'
        · rintro σ H4 ⟨u5, kvs, rfl, X4, L4⟩
          refine ⟨_, _, kvs, rfl, X4, ?_⟩
          rw [← pre, ← List.append_assoc]
          have tk : (Gf11.consecutive ch).take ((pvs.length : Int) - 1).toNat = Gf11.consecutive ch := List.take_of_length_le (by omega)
          rw [tk] at L4
          exact L4
      · rintro σ H3 ⟨u4, u5, kvs, rfl, X3, L3⟩
        rw [Paired.len hcp2, List.take_length, ← edges_chains, ← edges_take eq ec] at L3
        refine ⟨F2, _, _, _, kvs, rfl, X3, L3, ?_⟩
        rw [edges_take eq ec, List.length_append]
        omega
    · rintro σ H' ⟨F', u3, u4, u5, kvs, rfl, X, L, hl⟩
      rw [lenb, List.take_length] at L
      obtain ⟨Z, S⟩ := Ext.all hF X
      refine ⟨_, rfl, k _ _ _ Z ⟨D, kvs, rfl, by rw [frz_new nD]; exact L.at_, fun x w e => ?_, L.none_⟩⟩
      obtain ⟨l, us, rfl, hl2, _, h0, pu⟩ := L.there x w e
      exact ⟨l, us, rfl, by rw [frz_new h0]; exact hl2, Paired.imp (fun v x => PosAt.mono S v x) pu⟩
end
end Lg
namespace Lg
open PySem PySem.Spec PyProof.Rows L2
/-- a dict of True, as a set of positions -/
def SetAt (F : Hp) (v : V) (S : Gf11.Position → Prop) : Prop := ∃ D kvs, v = .ref D ∧ F D = some (.dT kvs) ∧ InSet kvs S
theorem SetAt.mono {F F' : Hp} (s : Same F F') {v : V} {S : Gf11.Position → Prop} (h : SetAt F v S) : SetAt F' v S := by
  obtain ⟨D, kvs, e, hD, hS⟩ := h
  exact ⟨D, kvs, e, s _ _ hD, hS⟩
theorem last_split {α : Type} {l : List α} {x : α} (h : l[l.length - 1]? = some x) : l = l.dropLast ++ [x] := by
  cases l with
  | nil => cases h
  | cons a l =>
    have e := List.dropLast_concat_getLast (l := a :: l) (by intro h; cases h)
    have h2 : (a :: l).getLast (by intro h; cases h) = x := by
      rw [List.getLast_eq_getElem]
      have := (List.getElem?_eq_some_iff.mp h).2
      exact this
    rw [h2] at e
    exact e.symm
theorem Paired.last {α β : Type} {F : α → β → Prop} {l : List α} {m : List β} (p : Paired F l m) (h : l ≠ []) : ∃ l' a m' b, l = l' ++ [a] ∧ m = m' ++ [b] ∧ Paired F l' m' ∧ F a b := by
  induction p with
  | nil => exact absurd rfl h
  | @cons a b l m hab t ih =>
    cases t with
    | nil => exact ⟨[], a, [], b, rfl, rfl, .nil, hab⟩
    | @cons a2 b2 l2 m2 h2 t2 =>
      obtain ⟨l', a', m', b', e1, e2, p', f'⟩ := ih (by intro h; cases h)
      exact ⟨a :: l', a', b :: m', b', by rw [e1]; rfl, by rw [e2]; rfl, .cons hab p', f'⟩
section
variable {P : Program} {w : World} {K : PySem.W.Frag} {mg : Str → Option Value} {base : Heap} {CH CC CO CL CS : Addr}
/-! ### preceded_positions -/
abbrev sPre : Stmt := top 32
def spPre : Sp := fun vs H Q _ => ∃ (F : Hp) (v fv : V) (x : Gf11.Position) (es : Edges), Same F H ∧ vs = [v, fv] ∧ PosAt F v x ∧ FolAt F fv es ∧ es.length ≤ 1000 ∧
  ∀ (F' H' : Hp) (r : V), Ext F H F' H' → SetAt F' r (Path es x) → Q r H'
theorem scPre : FnScope ["line", "following", "reached", "waiting", "here", "position"] ["line", "following"] (defScope sPre) := ⟨rfl, rfl, rfl, by decide +kernel, rfl, by decide +kernel, by decide +kernel⟩
structure Dfs (es : Edges) (x : Gf11.Position) (R W : List Gf11.Position) (more : Gf11.Position → Prop) : Prop where
  wt : ∀ y ∈ W, y = x ∨ y ∈ R
  rc : ∀ y ∈ R, Path es x y
  cl : ∀ z, (z = x ∨ z ∈ R) → z ∈ W ∨ more z ∨ ∀ y ∈ succs es z, y ∈ R
theorem Dfs.reach {es : Edges} {x : Gf11.Position} {R : List Gf11.Position} (h : Dfs es x R [] fun _ => False) (y : Gf11.Position) : y ∈ R ↔ Path es x y := by
  refine ⟨h.rc y, fun p => ?_⟩
  induction p with
  | one e =>
    rcases h.cl x (.inl rfl) with m | m | m
    · cases m
    · exact m.elim
    · exact m _ (mem_succs.mpr e)
  | @more y z _ e ih =>
    rcases h.cl y (.inr ih) with m | m | m
    · cases m
    · exact m.elim
    · exact m _ (mem_succs.mpr e)
theorem ok_pre {f : Addr} {fd : FuncData} (F : Fun K "preceded_positions" "preceded_positions" sPre f fd) : FnOk P w K mg base CX0 1 f fd ["line", "following"] spPre := by
  refine F.ok scPre (fun vs H Q E h => ?_) (fun cdv A outer s H vs Q E hr h => ⟨_,
    pss_cons (ps_set (i := 2) scPre.nd rfl (Or.inl rfl) pe_dnewT)
    (pss_cons (ps_set (i := 3) scPre.nd rfl (Or.inl rfl) (pe_lst (pa_cons (pv 0) pa_nil)))
    (pss_cons (ps_while PassesOwn.never (pt_truth (pv 3) (by intro _; rfl))
      (pss_cons (ps_set (i := 4) scPre.nd rfl (Or.inl rfl) (pe_bm0 PySem.F.plainAttrs_list PySem.F.slot_list_pop PySem.F.type_list_pop mt_pop (pv 3)))
      (pss_one (ps_for PassesOwn.never rfl (pi_list (pe_dget2 (hu_of hr) (pv 1) (pv 4) (pe_lst pa_nil) ⟨rfl, rfl, rfl, rfl⟩)) (pg_name (i := 5) scPre.nd rfl (Or.inl rfl))
        (pss_one (ps_if (pt_cmp (pc_dnotin (hu_of hr) (pv 5) (pv 2)) (by rfl))
          (pss_cons (ps_dput (hu_of hr) (pv 2) (pv 5) pe_bl rfl)
          (pss_one (ps_expr (pe_bm PySem.F.plainAttrs_list PySem.F.slot_list_append PySem.F.type_list_append mt_append (pv 3) (pa_cons (pv 5) pa_nil)))))
          pss_nil))))))
    (pss_one (ps_ret (pv 2))))), ?_⟩)
  · obtain ⟨F0, v, fv, x, es, _, rfl, _⟩ := h
    rfl
  · obtain ⟨F0, v, fv, x, es, hF, rfl, hv, ⟨fD, fkv, rfl, hfD, hth, hno⟩, le, k⟩ := h
    intro D nD
    have D0 := hF.free nD
    have X0 := (Ext.refl hF).tmp nD (o := .dT [])
    -- waiting = [line]
    refine ⟨_, rfl, (by show 1 ≤ sizeLine; decide), fun wl nw => ?_⟩
    have wl0 := X0.fh.free nw
    have wlH := X0.hh.free nw
    have Dw : D ≠ wl := ne_new upd_same nw
    have X1 := X0.tmp nw (o := .lst [v])
    refine ⟨fun m σ H' => ∃ u4 u5 kvs ws R W, σ = [some v, some (.ref fD), some (.ref D), some (.ref wl), u4, u5] ∧ Ext F0 H F0 H' ∧ H' D = some (.dT kvs) ∧ H' wl = some (.lst ws) ∧ InSet kvs (fun y => y ∈ R) ∧ Paired (PosAt F0) ws W ∧
        Dfs es x R W (fun _ => False) ∧ kvs.length + outs es R ≤ es.length ∧ ws.length + outs es R ≤ es.length + 1 ∧ m = ws.length + outs es R,
      ⟨_, none, none, [], [v], [], [x], rfl, X1, by rw [upd_ne Dw, upd_same], upd_same, InSet.nil.congr fun y => ⟨fun h => h.elim, fun h => by cases h⟩, Paired.one hv,
        ⟨fun y m => .inl (List.mem_singleton.mp m), fun y m => (by cases m), fun z hz => .inl (hz.elim (fun e => by rw [e]; exact List.mem_cons_self) fun m => (by cases m))⟩,
        by have := outs_le es []; simpa using this, by have := outs_le es []; show 1 + _ ≤ _; omega, rfl⟩, ?_⟩
    rintro m σ H' ⟨u4, u5, kvs, ws, R, W, rfl, X, hD, hw, hS, pw, I, lk, lw, rfl⟩
    refine ⟨_, rfl, _, Or.inl ⟨ws, SqL.of hw, rfl⟩, ?_⟩
    cases hws : ws.isEmpty with
    | true =>
      have e0 : ws = [] := List.isEmpty_iff.mp hws
      subst e0
      cases pw
      refine iteF ?_
      have Z := X.freeze hD D0 nD
      exact ⟨_, rfl, k _ _ _ Z ⟨D, kvs, rfl, upd_same, hS.congr I.reach⟩⟩
    | false =>
      have ne0 : ws ≠ [] := fun e => by
        rw [e] at hws
        cases hws
      obtain ⟨ws', wv, W', z, rfl, rfl, pw', hz⟩ := Paired.last pw ne0
      refine iteT ⟨_, fun _ _ h => h, ?_⟩
      -- here = waiting.pop()
      have lst : (ws' ++ [wv])[(ws' ++ [wv]).length - 1]? = some wv := by simp
      refine ⟨_, rfl, Or.inl ⟨rfl, _, SqL.of hw⟩, wl, ws' ++ [wv], wv, rfl, rfl, hw, lst, ?_⟩
      rw [List.dropLast_concat]
      have X2 := X.put wl0 wlH (o := .lst ws')
      have hD2 : upd H' wl (.lst ws') D = some (.dT kvs) := by rw [upd_ne Dw]; exact hD
      obtain ⟨t, rfl, ht⟩ := hz.key
      -- following.get(here, [])
      refine ⟨_, rfl, fD, rfl, Or.inr ⟨fkv, Or.inl (X2.fh _ _ hfD)⟩, _, rfl, (by show 0 ≤ sizeLine; decide), fun l0 n0 => ?_⟩
      have X3 := X2.tmp n0 (o := .lst [])
      refine ⟨_, DGet.t (X3.fh _ _ hfD) (X3.fh _ _ ht), ?_⟩
      have hD3 : upd (upd H' wl (.lst ws')) l0 (.lst []) D = some (.dT kvs) := by rw [upd_ne (ne_new hD2 n0)]; exact hD2
      have hw3 : upd (upd H' wl (.lst ws')) l0 (.lst []) wl = some (.lst ws') := by rw [upd_ne (ne_new upd_same n0), upd_same]
      obtain ⟨l, us, el, hl, nlw, pu⟩ : ∃ l us, (valV fkv (keyP z)).getD (V.ref l0) = V.ref l ∧ upd (upd H' wl (.lst ws')) l0 (.lst []) l = some (.lst us) ∧ l ≠ wl ∧ Paired (PosAt F0) us (succs es z) := by
        cases e : valV fkv (keyP z) with
        | none =>
          refine ⟨l0, [], rfl, upd_same, fun k => ?_, ?_⟩
          · rw [k, upd_same] at n0
            cases n0
          · rw [hno z e]
            exact .nil
        | some wv =>
          obtain ⟨l, us, rfl, hl, pu⟩ := hth z wv e
          refine ⟨l, us, rfl, X3.fh _ _ hl, fun k => ?_, pu⟩
          rw [k, wl0] at hl
          cases hl
      rw [el]
      refine ⟨l, rfl, ⟨us, SqL.of hl⟩, ?_⟩
      have hzx : z = x ∨ Path es x z := (I.wt z (List.mem_append_right _ List.mem_cons_self)).imp id (I.rc z)
      have lw' : ws'.length + 1 + outs es R ≤ es.length + 1 := by
        rw [List.length_append] at lw
        exact lw
      have lD : l ≠ D := fun k => by
        rw [k, hD3] at hl
        cases hl
      refine for_list (K := K) (a := l) (xs := us) (fun i σ H4 => ∃ u5 kvs vs R1 W, σ = [some v, some (.ref fD), some (.ref D), some (.ref wl), some (.ref t), u5] ∧ Ext F0 H F0 H4 ∧ H4 l = some (.lst us) ∧ H4 D = some (.dT kvs) ∧ H4 wl = some (.lst vs) ∧
          InSet kvs (fun y => y ∈ R1) ∧ Paired (PosAt F0) vs W ∧ Dfs es x R1 W (fun y => y = z) ∧ (∀ y ∈ (succs es z).take i, y ∈ R1) ∧ kvs.length + outs es R1 ≤ es.length ∧ vs.length + outs es R1 + 1 ≤ ws'.length + 1 + outs es R)
        ⟨u5, kvs, ws', R, W', rfl, X3, hl, hD3, hw3, hS, pw', ⟨fun y m => I.wt y (List.mem_append_left _ m), I.rc, fun z' hz' => ?_⟩, fun y m => (by cases m), lk, by omega⟩ (fun i σ H4 _ ⟨_, _, _, _, _, _, _, e, _⟩ => SqL.of e) ?_ ?_
      · rcases I.cl z' hz' with m | m | m
        · rcases List.mem_append.mp m with m | m
          · exact .inl m
          · exact .inr (.inl (List.mem_singleton.mp m))
        · exact m.elim
        · exact .inr (.inr m)
      · rintro i pvl σ H4 hi ⟨u5, kvs, vs, R1, W, rfl, Y, hl4, hD4, hw4, hS4, pw4, I4, hin, lk4, lw4⟩
        obtain ⟨y, ey, hy⟩ := Paired.get pu hi
        obtain ⟨t2, rfl, ht2⟩ := hy.key
        have edge : (z, y) ∈ es := mem_succs.mp (List.mem_of_getElem? ey)
        refine ⟨_, rfl, _, rfl, D, _, rfl, DGet.t hD4 (Y.fh _ _ ht2), _, rfl, ?_⟩
        by_cases c : y ∈ R1
        · refine ifF (by rw [(hS4 y).mpr c]; rfl) ⟨_, kvs, vs, R1, W, rfl, Y, hl4, hD4, hw4, hS4, pw4, I4, fun y' m => ?_, lk4, lw4⟩
          rw [take_more ey] at m
          rcases List.mem_append.mp m with m | m
          · exact hin y' m
          · rw [List.mem_singleton.mp m]
            exact c
        · have nc : (valV kvs (keyP y)).isSome = false := by
            cases e : (valV kvs (keyP y)).isSome with
            | false => rfl
            | true => exact absurd ((hS4 y).mp e) c
          have lt := outs_lt (m := [y]) edge (by cases e : R1.contains y with | false => rfl | true => exact absurd (List.contains_iff_mem.mp e) c) List.mem_cons_self
          refine ifT (by rw [nc]; rfl) ⟨_, rfl, _, rfl, D, _, rfl, DPut.t hD4 (Y.fh _ _ ht2) (Nat.lt_of_le_of_lt (m := 1000) (by omega) (by decide)), ?_⟩
          have Y2 := Y.put D0 nD (o := .dT (putK kvs (keyP y) (.bl true)))
          have hw5 : upd H4 D (.dT (putK kvs (keyP y) (.bl true))) wl = some (.lst vs) := by rw [upd_ne (Ne.symm Dw)]; exact hw4
          refine ⟨_, rfl, Or.inl ⟨rfl, _, SqL.of hw5⟩, _, rfl, wl, vs, _, rfl, rfl, hw5, Nat.lt_of_le_of_lt (m := 1001) (by omega) (by decide), ?_⟩
          refine ⟨_, _, _, R1 ++ [y], W ++ [y], rfl, Y2.put wl0 wlH, by rw [upd_ne nlw, upd_ne lD]; exact hl4, by rw [upd_ne Dw, upd_same], upd_same, (hS4.put y (.bl true)).congr fun u => ?_, Paired.app pw4 (Paired.one hy), ⟨fun u m => ?_, fun u m => ?_, fun u hu => ?_⟩, fun u m => ?_, ?_, ?_⟩
          · simp only [List.mem_append, List.mem_singleton]
            exact Or.comm
          · rcases List.mem_append.mp m with m | m
            · exact (I4.wt u m).imp id (List.mem_append_left _)
            · exact .inr (List.mem_append_right _ m)
          · rcases List.mem_append.mp m with m | m
            · exact I4.rc u m
            · rw [List.mem_singleton.mp m]
              rcases hzx with e | p
              · exact .one (by rw [← e]; exact edge)
              · exact .more p edge
          · have old : (u = x ∨ u ∈ R1) ∨ u = y := by
              rcases hu with e | m
              · exact .inl (.inl e)
              · rcases List.mem_append.mp m with m | m
                · exact .inl (.inr m)
                · exact .inr (List.mem_singleton.mp m)
            rcases old with old | e
            · rcases I4.cl u old with m | m | m
              · exact .inl (List.mem_append_left _ m)
              · exact .inr (.inl m)
              · exact .inr (.inr fun q hq => List.mem_append_left _ (m q hq))
            · exact .inl (List.mem_append_right _ (by rw [e]; exact List.mem_cons_self))
          · rw [take_more ey] at m
            rcases List.mem_append.mp m with m | m
            · exact List.mem_append_left _ (hin u m)
            · exact List.mem_append_right _ m
          · have := length_putK kvs (keyP y) (.bl true)
            omega
          · rw [List.length_append]
            show vs.length + 1 + _ + 1 ≤ _
            omega
      · rintro σ H4 ⟨u5, kvs, vs, R1, W, rfl, Y, hl4, hD4, hw4, hS4, pw4, I4, hin, lk4, lw4⟩
        rw [Paired.len pu, List.take_length] at hin
        refine ⟨vs.length + outs es R1, ?_, _, _, kvs, vs, R1, W, rfl, Y, hD4, hw4, hS4, pw4, ⟨I4.wt, I4.rc, fun u hu => ?_⟩, lk4, by omega, rfl⟩
        · rw [List.length_append]
          show _ < ws'.length + 1 + _
          omega
        · rcases I4.cl u hu with m | m | m
          · exact .inl m
          · exact .inr (.inr (by rw [m]; exact hin))
          · exact .inr (.inr m)
end
end Lg
namespace Lg
open PySem PySem.Spec PyProof.Rows L2
/-- for each position of a list the positions that it precedes -/
def TabAt (F : Hp) (v : V) (es : Edges) (dom : List Gf11.Position) : Prop := ∃ D kvs, v = .ref D ∧ F D = some (.dT kvs) ∧ ∀ x ∈ dom, ∃ w, valV kvs (keyP x) = some w ∧ SetAt F w (Path es x)
theorem TabAt.mono {F F' : Hp} (s : Same F F') {v : V} {es : Edges} {dom : List Gf11.Position} (h : TabAt F v es dom) : TabAt F' v es dom := by
  obtain ⟨D, kvs, e, hD, hx⟩ := h
  exact ⟨D, kvs, e, s _ _ hD, fun x m => let ⟨w, a, b⟩ := hx x m; ⟨w, a, b.mono s⟩⟩
theorem any_paired {α : Type} {p : α → Prop} : ∀ {bs : List Bool} {l : List α}, Paired (fun b o => b = true ↔ p o) bs l → (bs.any id = true ↔ ∃ o ∈ l, p o)
  | _, _, .nil => Iff.intro (fun h => by cases h) (fun ⟨_, m, _⟩ => by cases m)
  | b :: bs, o :: l, .cons h t => by
    rw [List.any_cons, Bool.or_eq_true, any_paired t]
    constructor
    · rintro (e | ⟨q, m, hq⟩)
      · exact ⟨o, List.mem_cons_self, h.mp e⟩
      · exact ⟨q, List.mem_cons_of_mem _ m, hq⟩
    · rintro ⟨q, m, hq⟩
      rcases List.mem_cons.mp m with rfl | m
      · exact .inl (h.mpr hq)
      · exact .inr ⟨q, m, hq⟩
theorem all_paired {α : Type} {p : α → Prop} : ∀ {bs : List Bool} {l : List α}, Paired (fun b o => b = true ↔ p o) bs l → (bs.all id = true ↔ ∀ o ∈ l, p o)
  | _, _, .nil => ⟨fun _ _ m => (by cases m), fun _ => rfl⟩
  | b :: bs, o :: l, .cons h t => by
    rw [List.all_cons, Bool.and_eq_true, all_paired t]
    constructor
    · rintro ⟨e, k⟩ q m
      rcases List.mem_cons.mp m with rfl | m
      · exact h.mp e
      · exact k q m
    · intro k
      exact ⟨h.mpr (k o List.mem_cons_self), fun q m => k q (List.mem_cons_of_mem _ m)⟩
section
variable {P : Program} {w : World} {K : PySem.W.Frag} {mg : Str → Option Value} {base : Heap} {CH CC CO CL CS : Addr}
/-! ### is_preceded -/
abbrev sIsp : Stmt := top 33
def spIsp : Sp := fun vs H Q _ => ∃ (F : Hp) (v rv pv : V) (x : Gf11.Position) (rem : List Gf11.Position) (es : Edges) (dom : List Gf11.Position) (a : Addr) (ws : List V), Same F H ∧ vs = [v, rv, pv] ∧ PosAt F v x ∧ rv = .ref a ∧ H a = some (.lst ws) ∧ Paired (PosAt F) ws rem ∧
  TabAt F pv es dom ∧ (∀ y ∈ rem, y ∈ dom) ∧ rem.length ≤ 1000 ∧ ∀ (F' H' : Hp) (b : Bool), Ext F H F' H' → (b = true ↔ ∃ o ∈ rem, Path es o x) → Q (.bl b) H'
def nIsp : List Str := ["line", "remaining", "preceded", "other"]
theorem scIsp : FnScope ["line", "remaining", "preceded", "other"] ["line", "remaining", "preceded"] (defScope sIsp) := ⟨rfl, rfl, rfl, by decide +kernel, rfl, by decide +kernel, by decide +kernel⟩
theorem ok_isp {f : Addr} {fd : FuncData} (F : Fun K "is_preceded" "is_preceded" sIsp f fd) (T : Txt K mg CH CC CO CL CS) : FnOk P w K mg base CX0 1 f fd ["line", "remaining", "preceded"] spIsp := by
  refine F.ok scIsp (fun vs H Q E h => ?_) (fun cdv A outer s H vs Q E hr h => ⟨_,
    pss_one (ps_ret (pe_callB (cr_any rfl) (by rfl) T.any (by decide +kernel) (pa_cons
      (pe_lc (own := [("other", 3)]) (g := gName 3) (tt := tYes) (te := tDIn (tVar 0) (tDGet (tVar 2) (tVar 3))) (by rfl) scIsp.nd (pi_list (pv 1)) (blkOk_by (N := nIsp) (sc := defScope sIsp) (by decide +kernel)) (fun _ _ _ _ _ => pg_name (i := 3) scIsp.nd rfl (Or.inl rfl))
        (fun _ _ _ _ _ => pts_nil) (fun _ _ _ _ _ => pe_cmp (pc_din (hu_of hr) (pv 0) (pe_dget (hu_of hr) (pv 2) (pv 3) (fun _ _ => rfl))) (by rfl))) pa_nil))), ?_⟩)
  · obtain ⟨F0, v, rv, pv, x, rem, es, dom, a, ws, _, rfl, _⟩ := h
    rfl
  · obtain ⟨F0, v, rv, pv, x, rem, es, dom, a, ws, hF, rfl, hv, rfl, ha, pw, ⟨tD, tk, rfl, htD, htab⟩, hdom, le, k⟩ := h
    obtain ⟨t0, rfl, ht0⟩ := hv.key
    refine ⟨_, rfl, a, rfl, ⟨ws, SqL.of ha⟩, fun D nD => ?_⟩
    have D0 := hF.free nD
    have aD := ne_new ha nD
    refine lc_list (K := K) (a := a) (xs := ws) (fun i H2 => ∃ bs, Ext F0 H F0 H2 ∧ H2 a = some (.lst ws) ∧ H2 D = some (.lst (bs.map V.bl)) ∧ Paired (fun (b : Bool) o => b = true ↔ Path es o x) bs (rem.take i))
      ⟨[], (Ext.refl hF).tmp nD, by rw [upd_ne aD]; exact ha, upd_same, .nil⟩ (fun i H2 _ ⟨_, _, e, _⟩ => SqL.of e) ?_ ?_
    · rintro i y H2 hi ⟨bs, X, ha2, hD2, pb⟩
      obtain ⟨o, eo, ho⟩ := Paired.get pw hi
      obtain ⟨t, rfl, ht⟩ := ho.key
      obtain ⟨wv, ew, sD, sk, rfl, hsD, hS⟩ := htab o (hdom o (List.mem_of_getElem? eo))
      have lb : (bs.map V.bl).length < sizeLine := by
        rw [List.length_map, Paired.len pb, List.length_take]
        exact Nat.lt_of_le_of_lt (m := 1000) (by omega) (by decide)
      refine ⟨rfl, _, rfl, _, rfl, _, rfl, tD, .ref sD, rfl, by rw [← ew]; exact DGet.t (X.fh _ _ htD) (X.fh _ _ ht), sD, _, rfl, DGet.t (X.fh _ _ hsD) (X.fh _ _ ht0), _, hD2, lb, bs ++ [(valV sk (keyP x)).isSome], X.put D0 nD, by rw [upd_ne aD]; exact ha2, ?_, ?_⟩
      · rw [upd_same, List.map_append]
        rfl
      · rw [take_more eo]
        exact Paired.app pb (Paired.one (hS x))
    · rintro H2 ⟨bs, X, ha2, hD2, pb⟩
      rw [Paired.len pw, List.take_length] at pb
      exact ⟨D, bs, rfl, SqL.of hD2, k _ _ _ X (any_paired pb)⟩
/-! ### order_lines -/
abbrev sOrd : Stmt := top 34
def spOrd : Sp := fun vs H Q _ => ∃ (F : Hp) (v pv : V) (L : List (Gf11.Position × Gf11.Line)) (es : Edges) (r : Rank), Same F H ∧ vs = [v, pv] ∧ LstAt PosAt F v (L.map (·.1)) ∧ TabAt F pv es (L.map (·.1)) ∧ Rises r es ∧ (L.map (·.1)).Nodup ∧ L.length ≤ 1000 ∧
  ∀ (F' H' : Hp) (r : V), Ext F H F' H' → LstAt PosAt F' r ((Gf11.linearize (Gf11.orderTable es L) L.length L).map (·.1)) → Q r H'
theorem scOrd : FnScope ["visible", "preceded", "remaining", "order", "place"] ["visible", "preceded"] (defScope sOrd) := ⟨rfl, rfl, rfl, by decide +kernel, rfl, by decide +kernel, by decide +kernel⟩
theorem lin_step {t : Gf11.OrderTable} {l : List (Gf11.Position × Gf11.Line)} {x : Gf11.Position × Gf11.Line} {n : Nat} (h : Gf11.firstMinimal t l = some x) : Gf11.linearize t (n + 1) l = x :: Gf11.linearize t n (l.filter fun y => y.1 != x.1) := by
  show (match Gf11.firstMinimal t l with
    | none => []
    | some x => x :: Gf11.linearize t n (l.filter fun y => y.1 != x.1)) = _
  rw [h]
theorem erase_filter : ∀ {l : List (Gf11.Position × Gf11.Line)} {k : Nat} {x : Gf11.Position × Gf11.Line}, (l.map (·.1)).Nodup → l[k]? = some x → l.eraseIdx k = l.filter fun y => y.1 != x.1
  | [], _, _, _, h => by cases h
  | a :: l, 0, x, hn, h => by
    cases Option.some.inj h
    obtain ⟨h1, _⟩ := List.nodup_cons.mp hn
    rw [List.filter_cons]
    have : (l.filter fun y => y.1 != a.1) = l := List.filter_eq_self.mpr fun y hy => by
      have : y.1 ≠ a.1 := fun e => h1 (show a.1 ∈ _ from by rw [← e]; exact List.mem_map_of_mem hy)
      simpa using this
    simp [this]
  | a :: l, k + 1, x, hn, h => by
    obtain ⟨h1, h2⟩ := List.nodup_cons.mp hn
    have m : x ∈ l := List.mem_of_getElem? h
    have ne : a.1 ≠ x.1 := fun e => h1 (show a.1 ∈ _ from by rw [e]; exact List.mem_map_of_mem m)
    rw [List.filter_cons, if_pos (by simpa using ne)]
    show a :: l.eraseIdx k = _
    rw [erase_filter h2 h]
theorem map_erase {α β : Type} (f : α → β) : ∀ (l : List α) (k : Nat), (l.eraseIdx k).map f = (l.map f).eraseIdx k
  | [], _ => rfl
  | _ :: _, 0 => rfl
  | a :: l, k + 1 => congrArg (f a :: ·) (map_erase f l k)
theorem Paired.erase {α β : Type} {F : α → β → Prop} : ∀ {l : List α} {m : List β} (k : Nat), Paired F l m → Paired F (l.eraseIdx k) (m.eraseIdx k)
  | _, _, _, .nil => .nil
  | _, _, 0, .cons _ t => t
  | _, _, k + 1, .cons h t => .cons h (Paired.erase k t)
/-- the first place of which no other comes before -/
theorem first_at {es : Edges} {L l : List (Gf11.Position × Gf11.Line)} {r : Rank} (R : Rises r es) (hs : ∀ x ∈ l, x ∈ L) {k : Nat} {x : Gf11.Position × Gf11.Line} (e : l[k]? = some x) (h0 : ¬ ∃ o ∈ l.map (·.1), Path es o x.1)
    (hb : ∀ j y, j < k → l[j]? = some y → ∃ o ∈ l.map (·.1), Path es o y.1) : Gf11.firstMinimal (Gf11.orderTable es L) l = some x := by
  have lt := (List.getElem?_eq_some_iff.mp e).1
  have mem : ∀ o, o ∈ l.map (·.1) → o ∈ L.map (·.1) := fun o ho => by
    obtain ⟨y, hy, rfl⟩ := List.mem_map.mp ho
    exact List.mem_map_of_mem (hs y hy)
  unfold Gf11.firstMinimal
  rw [List.find?_eq_some_iff_getElem]
  refine ⟨List.all_eq_true.mpr fun y hy => ?_, k, lt, (List.getElem?_eq_some_iff.mp e).2, fun j hj => ?_⟩
  · cases c : Gf11.isBefore (Gf11.orderTable es L) y.1 x.1 with
    | false => rfl
    | true => exact absurd ⟨y.1, List.mem_map_of_mem hy, ((isBefore_iff (mem _ (List.mem_map_of_mem hy))).mp c).2⟩ h0
  · obtain ⟨o, ho, p⟩ := hb j l[j] hj (List.getElem?_eq_getElem _)
    obtain ⟨y, hy, rfl⟩ := List.mem_map.mp ho
    have : Gf11.isBefore (Gf11.orderTable es L) y.1 l[j].1 = true := (isBefore_iff (mem _ (List.mem_map_of_mem hy))).mpr ⟨fun e => R.irrefl _ (by rw [e] at p; exact p), p⟩
    rw [Bool.not_eq_true', List.all_eq_false]
    exact ⟨y, hy, by rw [this]; simp⟩
/-- such a place there is -/
theorem free_at {es : Edges} {l : List (Gf11.Position × Gf11.Line)} {r : Rank} (R : Rises r es) (h : l ≠ []) : ∃ (k : Nat) (x : Gf11.Position × Gf11.Line), l[k]? = some x ∧ ¬ ∃ o ∈ l.map (·.1), Path es o x.1 := by
  obtain ⟨x, hx, hm⟩ := least_rank (fun x : Gf11.Position × Gf11.Line => r x.1) l h
  obtain ⟨k, hk, e⟩ := List.getElem_of_mem hx
  refine ⟨k, x, by rw [List.getElem?_eq_getElem hk, e], fun ⟨o, ho, p⟩ => ?_⟩
  obtain ⟨y, hy, rfl⟩ := List.mem_map.mp ho
  have := R.path p
  have := hm y hy
  omega
theorem ok_ord {f fI : Addr} {fd fdI : FuncData} (F : Fun K "order_lines" "order_lines" sOrd f fd) (T : Txt K mg CH CC CO CL CS) (FI : Fun K "is_preceded" "is_preceded" sIsp fI fdI) (gI : mg "is_preceded" = some (.ref fI)) :
    FnOk P w K mg base CX0 2 f fd ["visible", "preceded"] spOrd := by
  have GI : FnOk P w K mg base CX0 1 fI fdI ["line", "remaining", "preceded"] spIsp := ok_isp FI T
  have bI : Binds K fdI ["line", "remaining", "preceded"] [] := FI.binds fun _ _ _ _ _ _ us hl => match us, hl with | [_, _, _], _ => rfl
  refine F.ok scOrd (fun vs H Q E h => ?_) (fun cdv A outer s H vs Q E hr h => ⟨_,
    pss_cons (ps_set (i := 2) scOrd.nd rfl (Or.inl rfl) (pe_callTy call_list_of (by rfl) T.list (by decide +kernel) (pa_cons (pv 0) pa_nil)))
    (pss_cons (ps_set (i := 3) scOrd.nd rfl (Or.inl rfl) (pe_lst pa_nil))
    (pss_cons (ps_while PassesOwn.never (pt_truth (pv 2) (by intro _; rfl))
      (pss_cons (ps_set (i := 4) scOrd.nd rfl (Or.inl rfl) pe_int)
      (pss_cons (ps_while PassesOwn.never (pt_val (pe_call GI hr (by rfl) gI FI.kp bI .nil pass0 (pa_cons (pe_ix ix_list (pv 2) (pv 4) (fun _ _ => rfl)) (pa_cons (pv 2) (pa_cons (pv 1) pa_nil)))))
        (pss_one (ps_aug (i := 4) scOrd.nd rfl (Or.inl rfl) pe_int ip_add)))
      (pss_one (ps_expr (pe_bm PySem.F.plainAttrs_list PySem.F.slot_list_append PySem.F.type_list_append mt_append (pv 3) (pa_cons
        (pe_bm PySem.F.plainAttrs_list PySem.F.slot_list_pop PySem.F.type_list_pop mt_popAt (pv 2) (pa_cons (pv 4) pa_nil)) pa_nil)))))))
    (pss_one (ps_ret (pv 3))))), ?_⟩)
  · obtain ⟨F0, v, pv, L, es, r, _, rfl, _⟩ := h
    rfl
  · obtain ⟨F0, v, pv, L, es, r, hF, rfl, ⟨vl, vvs, rfl, hvl, pv0⟩, hT, R, nd, le, k⟩ := h
    refine ⟨_, rfl, vl, vvs, rfl, Or.inl (SqL.of (hF _ _ hvl)), fun rl nr => ?_⟩
    have X0 := (Ext.refl hF).tmp nr (o := .lst vvs)
    have rl0 := hF.free nr
    refine ⟨by show 0 ≤ sizeLine; decide, fun ol no => ?_⟩
    have X1 := X0.tmp no (o := .lst [])
    have ol0 := X0.fh.free no
    have olH := X0.hh.free no
    have ro := ne_new (upd_same (H := H) (a := rl) (o := .lst vvs)) no
    refine ⟨fun m σ H' => ∃ u4 l o ws os, σ = [some (.ref vl), some pv, some (.ref rl), some (.ref ol), u4] ∧ Ext F0 H F0 H' ∧ H' rl = some (.lst ws) ∧ H' ol = some (.lst os) ∧ Paired (PosAt F0) ws (l.map (·.1)) ∧ Paired (PosAt F0) os (o.map (·.1)) ∧
        (∀ x ∈ l, x ∈ L) ∧ (l.map (·.1)).Nodup ∧ Gf11.linearize (Gf11.orderTable es L) L.length L = o ++ Gf11.linearize (Gf11.orderTable es L) l.length l ∧ o.length + l.length = L.length ∧ m = l.length,
      ⟨L.length, none, L, [], vvs, [], rfl, X1, by rw [upd_ne ro, upd_same], upd_same, pv0, .nil, fun _ h => h, nd, rfl, by simp, rfl⟩, ?_⟩
    rintro m σ H' ⟨u4, l, o, ws, os, rfl, X, hr', ho', pw, po, hs, hn, hlin, hlen, rfl⟩
    have lws : ws.length = l.length := by rw [Paired.len pw, List.length_map]
    refine ⟨_, rfl, _, Or.inl ⟨ws, SqL.of hr', rfl⟩, ?_⟩
    cases hws : ws.isEmpty with
    | true =>
      have e0 : ws = [] := List.isEmpty_iff.mp hws
      rw [e0] at lws
      have e1 : l = [] := List.length_eq_zero_iff.mp lws.symm
      refine iteF ?_
      have Z := X.freeze ho' ol0 olH
      refine ⟨_, rfl, k _ _ _ Z ⟨ol, os, rfl, upd_same, ?_⟩⟩
      have e2 : Gf11.linearize (Gf11.orderTable es L) L.length L = o := by
        rw [hlin, e1]
        exact List.append_nil o
      rw [e2]
      exact Paired.imp (fun v x => PosAt.mono Z.ff v x) po
    | false =>
      have ne0 : l ≠ [] := fun e => by
        rw [e] at lws
        rw [List.length_eq_zero_iff.mp lws] at hws
        cases hws
      refine iteT ⟨_, fun _ _ h => h, ?_⟩
      obtain ⟨kf, xf, ekf, hkf⟩ := free_at R ne0
      -- the inner while
      refine ⟨fun m σ H4 => ∃ place, σ = [some (.ref vl), some pv, some (.ref rl), some (.ref ol), some (.int (place : Nat))] ∧ Ext F0 H F0 H4 ∧ H4 rl = some (.lst ws) ∧ H4 ol = some (.lst os) ∧ place ≤ kf ∧
          (∀ j y, j < place → l[j]? = some y → ∃ o ∈ l.map (·.1), Path es o y.1) ∧ m = kf - place,
        ⟨kf, 0, rfl, X, hr', ho', Nat.zero_le _, fun j y hj _ => absurd hj (Nat.not_lt_zero _), rfl⟩, ?_⟩
      rintro m σ H4 ⟨place, rfl, Y, hr4, ho4, hpl, hbef, rfl⟩
      have ltk : kf < l.length := (List.getElem?_eq_some_iff.mp ekf).1
      have ltp : place < l.length := Nat.lt_of_le_of_lt hpl ltk
      have el := List.getElem?_eq_getElem ltp
      obtain ⟨wv, ew, hw⟩ := Paired.at (i := place) (b := l[place].1) pw (by rw [List.getElem?_map, el]; rfl)
      have llen : l.length ≤ 1000 := by omega
      refine ⟨_, rfl, _, rfl, rl, ws, _, _, rfl, rfl, SqL.of hr4, atI_nat ew, _, rfl, _, rfl, F0, wv, .ref rl, pv, l[place].1, l.map (·.1), es, L.map (·.1), rl, ws, Y.fh, rfl, hw, rfl, hr4, pw, hT, fun y hy => ?_, by rw [List.length_map]; exact llen, fun F5 H5 b Z hb => ?_⟩
      · obtain ⟨q, hq, rfl⟩ := List.mem_map.mp hy
        exact List.mem_map_of_mem (hs q hq)
      · have Y5 : Ext F0 H F0 H5 := ⟨Same.refl F0, (Z.ff.trans Z.fh), Y.hh.trans Z.hh, fun b o e => .inl e⟩
        have hr5 := Z.hh _ _ hr4
        have ho5 := Z.hh _ _ ho4
        refine ⟨b, rfl, ?_⟩
        cases b with
        | true =>
          have pre := hb.mp rfl
          refine iteT ⟨_, fun _ _ h => h, ?_⟩
          have ne : place ≠ kf := fun e => by
            subst e
            rw [el] at ekf
            cases ekf
            exact hkf pre
          refine ⟨_, rfl, _, _, rfl, rfl, kf - (place + 1), by omega, place + 1, rfl, Y5, hr5, ho5, by omega, fun j y hj ey => ?_, rfl⟩
          rcases Nat.lt_or_ge j place with c | c
          · exact hbef j y c ey
          · have : j = place := by omega
            subst this
            rw [el] at ey
            cases ey
            exact pre
        | false =>
          have npre : ¬ ∃ o ∈ l.map (·.1), Path es o l[place].1 := fun h => by
            have := hb.mpr h
            cases this
          refine iteF ?_
          have fm := first_at (L := L) R hs el npre hbef
          have ltw : place < ws.length := by rw [lws]; exact ltp
          -- order.append(remaining.pop(place))
          refine ⟨_, rfl, Or.inl ⟨rfl, _, SqL.of ho5⟩, _, rfl, Or.inl ⟨rfl, _, SqL.of hr5⟩, _, rfl, rl, ws, _, place, wv, rfl, rfl, hr5, by omega, ?_, ?_, ew, ?_⟩
          · exact Int.lt_of_le_of_lt (b := 1000) (by omega) (by decide)
          · exact seqIndex_of (Int.natCast_nonneg _) (by omega)
          · have Y6 := Y5.put rl0 nr (o := .lst (ws.eraseIdx place))
            have ho6 : upd H5 rl (.lst (ws.eraseIdx place)) ol = some (.lst os) := by rw [upd_ne (Ne.symm ro)]; exact ho5
            have los : os.length ≤ 1000 := by
              rw [Paired.len po, List.length_map]
              omega
            have ef := erase_filter hn el
            have hp := filter_perm hn (List.getElem_mem ltp)
            have lf : (l.eraseIdx place).length + 1 = l.length := by rw [List.length_eraseIdx_of_lt ltp]; omega
            have e1 : l.length = (l.eraseIdx place).length + 1 := lf.symm
            refine ⟨ol, os, wv, rfl, rfl, ho6, Nat.lt_of_le_of_lt los (by decide), ?_⟩
            refine ⟨(l.eraseIdx place).length, by omega, _, l.eraseIdx place, o ++ [l[place]], ws.eraseIdx place, os ++ [wv], rfl, Y6.put ol0 olH, by rw [upd_ne ro, upd_same], upd_same, ?_, ?_, fun x hx => hs x (List.mem_of_mem_eraseIdx hx), ?_, ?_, ?_, rfl⟩
            · rw [map_erase]
              exact Paired.erase place pw
            · rw [List.map_append]
              exact Paired.app po (Paired.one hw)
            · rw [ef]
              exact List.Nodup.sublist (List.Sublist.map _ List.filter_sublist) hn
            · rw [hlin, e1, lin_step fm, ← ef, List.append_assoc]
              rfl
            · rw [List.length_append]
              show o.length + 1 + _ = _
              omega
end
end Lg
namespace Lg
open PySem PySem.Spec PyProof.Rows L2
theorem sIx_nat {n d k : Nat} (h : k ≤ n) : HT.sIx n d (some (k : Int)) = k := by
  rw [HT.sIx_nat]
  omega
theorem sIx_none {n d : Nat} : HT.sIx n d none = d := rfl
theorem cut_from {xs : List V} {k : Nat} (h : k ≤ xs.length) : cutV xs (some (k : Int)) none = xs.drop k := by
  unfold cutV
  rw [sIx_nat h, sIx_none]
  exact List.take_of_length_le (by rw [List.length_drop]; exact Nat.le_refl _)
theorem cut_both {xs : List V} {k m : Nat} (h : k ≤ xs.length) (h2 : m ≤ xs.length) : cutV xs (some (k : Int)) (some (m : Int)) = (xs.drop k).take (m - k) := by
  unfold cutV
  rw [sIx_nat h, sIx_nat h2]
theorem cut_to {xs : List V} {m : Nat} (h2 : m ≤ xs.length) : cutV xs none (some (m : Int)) = xs.take m := by
  unfold cutV
  rw [sIx_none, sIx_nat h2]
  rfl
theorem Paired.drop {α β : Type} {F : α → β → Prop} : ∀ {l : List α} {m : List β} (k : Nat), Paired F l m → Paired F (l.drop k) (m.drop k)
  | _, _, 0, h => h
  | _, _, _ + 1, .nil => .nil
  | _, _, k + 1, .cons _ t => Paired.drop k t
theorem Paired.takeP {α β : Type} {F : α → β → Prop} : ∀ {l : List α} {m : List β} (k : Nat), Paired F l m → Paired F (l.take k) (m.take k)
  | _, _, 0, _ => .nil
  | _, _, _ + 1, .nil => .nil
  | _, _, k + 1, .cons h t => .cons h (Paired.takeP k t)
section
variable {P : Program} {w : World} {K : PySem.W.Frag} {mg : Str → Option Value} {base : Heap} {CH CC CO CL CS : Addr}
/-! ### find_conflicts -/
abbrev sCnf : Stmt := top 35
def PairAt (F : Hp) (v : V) (x : Gf11.Position × Gf11.Position) : Prop := ∃ t a b, v = .ref t ∧ F t = some (.tup [a, b]) ∧ PosAt F a x.1 ∧ PosAt F b x.2
theorem PairAt.mono {H H' : Hp} (s : Same H H') (v : V) (x : Gf11.Position × Gf11.Position) (h : PairAt H v x) : PairAt H' v x := by
  obtain ⟨t, a, b, e, ht, p, q⟩ := h
  exact ⟨t, a, b, e, s _ _ ht, p.mono s, q.mono s⟩
def spCnf : Sp := fun vs H Q _ => ∃ (F : Hp) (v pv : V) (o : List Gf11.Position) (es : Edges) (B : Gf11.Position → Gf11.Position → Bool), Same F H ∧ vs = [v, pv] ∧ LstAt PosAt F v o ∧ TabAt F pv es o ∧ (∀ x ∈ o, ∀ y ∈ o, (B x y = true ↔ Path es x y)) ∧ o.length ≤ 100 ∧
  ∀ (F' H' : Hp) (r : V), Ext F H F' H' → LstAt PairAt F' r ((Gf11.pairs o).filter fun x => !(B x.1 x.2 || B x.2 x.1)) → Q r H'
theorem scCnf : FnScope ["order", "preceded", "conflicts", "place", "first", "second"] ["order", "preceded"] (defScope sCnf) := ⟨rfl, rfl, rfl, by decide +kernel, rfl, by decide +kernel, by decide +kernel⟩
theorem pairs_drop {A : Type} {l : List A} {i : Nat} {x : A} (e : l[i]? = some x) : Gf11.pairs (l.drop i) = (l.drop (i + 1)).map (fun y => (x, y)) ++ Gf11.pairs (l.drop (i + 1)) := by
  obtain ⟨lt, e2⟩ := List.getElem?_eq_some_iff.mp e
  rw [List.drop_eq_getElem_cons lt, e2]
  rfl
theorem len_pairs {A : Type} : ∀ (l : List A), (Gf11.pairs l).length ≤ l.length * l.length
  | [] => Nat.le_refl _
  | x :: l => by
    show (l.map (fun y => (x, y)) ++ Gf11.pairs l).length ≤ _
    have := len_pairs l
    rw [List.length_append, List.length_map, List.length_cons, Nat.add_mul, Nat.mul_add]
    omega
theorem ok_cnf {f : Addr} {fd : FuncData} (F : Fun K "find_conflicts" "find_conflicts" sCnf f fd) (T : Txt K mg CH CC CO CL CS) : FnOk P w K mg base CX0 1 f fd ["order", "preceded"] spCnf := by
  refine F.ok scCnf (fun vs H Q E h => ?_) (fun cdv A outer s H vs Q E hr h => ⟨_,
    pss_cons (ps_set (i := 2) scCnf.nd rfl (Or.inl rfl) (pe_lst pa_nil))
    (pss_cons (ps_for PassesOwn.never rfl (pi_range1 (by rfl) T.range (pa_cons (pe_callB call_len (by rfl) T.len PySem.boot_len (pa_cons (pv 0) pa_nil)) pa_nil)) (pg_name (i := 3) scCnf.nd rfl (Or.inl rfl))
      (pss_cons (ps_set (i := 4) scCnf.nd rfl (Or.inl rfl) (pe_ix ix_list (pv 0) (pv 3) (fun _ _ => rfl)))
      (pss_one (ps_for PassesOwn.never rfl (pi_list (pe_slice sl_list (pv 0) (po_some (pe_op op_add (pv 3) pe_int)) po_none)) (pg_name (i := 5) scCnf.nd rfl (Or.inl rfl))
        (pss_one (ps_if (PW.pt (pw_and (pt_cmp (pc_dnotin (hu_of hr) (pv 5) (pe_dget (hu_of hr) (pv 1) (pv 4) (fun _ _ => rfl))) (by rfl)) (pw_and1 (pt_cmp (pc_dnotin (hu_of hr) (pv 4) (pe_dget (hu_of hr) (pv 1) (pv 5) (fun _ _ => rfl))) (by rfl)))))
          (pss_one (ps_expr (pe_bm PySem.F.plainAttrs_list PySem.F.slot_list_append PySem.F.type_list_append mt_append (pv 2) (pa_cons (pe_tup (pa_cons (pv 4) (pa_cons (pv 5) pa_nil))) pa_nil))))
          pss_nil))))))
    (pss_one (ps_ret (pv 2)))), ?_⟩)
  · obtain ⟨F0, v, pv, o, es, B, _, rfl, _⟩ := h
    rfl
  · obtain ⟨F0, v, pv, o, es, B, hF, rfl, ⟨ol, ovs, rfl, hol, po⟩, ⟨tD, tk, rfl, htD, htab⟩, hB, le, k⟩ := h
    have lo : ovs.length = o.length := Paired.len po
    refine ⟨by show 0 ≤ sizeLine; decide, fun cl nc => ?_⟩
    have X0 := (Ext.refl hF).tmp nc (o := .lst [])
    refine ⟨_, rfl, _, ovs.length, rfl, Or.inl ⟨ovs, SqL.of (X0.fh _ _ hol), rfl⟩, _, rfl, by omega, by omega, ?_⟩
    refine for_range (lo := 0) (n := ((ovs.length : Nat) : Int).toNat) (fun i σ H' => ∃ F1 u3 u4 u5 us dn, σ = [some (.ref ol), some (.ref tD), some (.ref cl), u3, u4, u5] ∧ Ext F0 H F1 H' ∧ F1 cl = none ∧ H' cl = some (.lst us) ∧ Gf11.pairs o = dn ++ Gf11.pairs (o.drop i) ∧
        Paired (PairAt F1) us (dn.filter fun x => !(B x.1 x.2 || B x.2 x.1)))
      ⟨F0, none, none, none, [], [], rfl, X0, hF.free nc, upd_same, rfl, .nil⟩ ?_ ?_
    · rintro i σ H' hi ⟨F1, u3, u4, u5, us, dn, rfl, X, fc, hc, hd, pu⟩
      have lti : i < o.length := by omega
      have ei := List.getElem?_eq_getElem lti
      obtain ⟨v1, ev1, hv1⟩ := Paired.at po ei
      obtain ⟨t1, rfl, ht1⟩ := hv1.key
      have ix : atI ovs (0 + (i : Int)) = some (.ref t1) := by
        rw [Int.zero_add]
        exact atI_nat ev1
      refine ⟨_, rfl, _, rfl, ol, ovs, _, _, rfl, rfl, SqL.of (X.fh _ _ (X.ff _ _ hol)), ix, ?_⟩
      refine ⟨_, rfl, _, rfl, _, _, rfl, rfl, _, rfl, ol, ovs, rfl, SqL.of (X.fh _ _ (X.ff _ _ hol)), fun sl ns => ?_⟩
      have e1 : (0 + (i : Int) + 1) = ((i + 1 : Nat) : Int) := by omega
      rw [e1, cut_from (by omega)]
      have X1 := X.tmp ns (o := .lst (ovs.drop (i + 1)))
      have cs := ne_new hc ns
      refine ⟨sl, rfl, ⟨_, SqL.of upd_same⟩, ?_⟩
      obtain ⟨wv1, ew1, sD1, sk1, rfl, hsD1, hS1⟩ := htab _ (List.mem_of_getElem? ei)
      refine for_list (K := K) (a := sl) (xs := ovs.drop (i + 1)) (fun j σ H2 => ∃ F2 u5 us, σ = [some (.ref ol), some (.ref tD), some (.ref cl), some (.int (0 + (i : Int))), some (.ref t1), u5] ∧ Ext F0 H F2 H2 ∧ F2 cl = none ∧ H2 sl = some (.lst (ovs.drop (i + 1))) ∧ H2 cl = some (.lst us) ∧
          Paired (PairAt F2) us ((dn ++ ((o.drop (i + 1)).take j).map (fun y => (o[i], y))).filter fun x => !(B x.1 x.2 || B x.2 x.1)))
        ⟨F1, u5, us, rfl, X1, fc, upd_same, by rw [upd_ne cs]; exact hc, by rw [List.take_zero, List.map_nil, List.append_nil]; exact pu⟩ (fun j σ H2 _ ⟨_, _, _, _, _, _, e, _⟩ => SqL.of e) ?_ ?_
      · rintro j y σ H2 hj ⟨F2, u5, us, rfl, Y, fc2, hs2, hc2, pu2⟩
        obtain ⟨z, ez, hz⟩ := Paired.get (Paired.drop (i + 1) po) hj
        obtain ⟨t2, rfl, ht2⟩ := hz.key
        have mz : z ∈ o := List.mem_of_mem_drop (List.mem_of_getElem? ez)
        have mi : o[i] ∈ o := List.getElem_mem lti
        obtain ⟨wv2, ew2, sD2, sk2, rfl, hsD2, hS2⟩ := htab _ mz
        have up : ∀ {a u}, F0 a = some u → H2 a = some u := fun e => Y.fh _ _ (Y.ff _ _ e)
        have ft : ((dn ++ ((o.drop (i + 1)).take (j + 1)).map (fun y => (o[i], y))).filter fun x => !(B x.1 x.2 || B x.2 x.1)) = ((dn ++ ((o.drop (i + 1)).take j).map (fun y => (o[i], y))).filter fun x => !(B x.1 x.2 || B x.2 x.1)) ++ [(o[i], z)].filter fun x => !(B x.1 x.2 || B x.2 x.1) := by
          rw [take_more ez, List.map_append, ← List.append_assoc, List.filter_append]
          rfl
        have g1 : (valV sk1 (keyP z)).isSome = B o[i] z := by
          rw [Bool.eq_iff_iff, hS1 z, hB _ mi _ mz]
        have g2 : (valV sk2 (keyP o[i])).isSome = B z o[i] := by
          rw [Bool.eq_iff_iff, hS2 o[i], hB _ mz _ mi]
        refine ⟨_, rfl, _, rfl, _, rfl, tD, .ref sD1, rfl, by rw [← ew1]; exact DGet.t (up htD) (up ht1), sD1, _, rfl, DGet.t (up hsD1) (up ht2), _, rfl, ?_⟩
        rw [g1]
        cases b1 : B o[i] z with
        | true =>
          refine iteF (iteF ⟨F2, _, us, rfl, Y, fc2, hs2, hc2, ?_⟩)
          rw [ft, List.filter_cons_of_neg (by simp [b1])]
          simpa using pu2
        | false =>
          refine iteT ⟨_, rfl, _, rfl, _, rfl, tD, .ref sD2, rfl, by rw [← ew2]; exact DGet.t (up htD) (up ht2), sD2, _, rfl, DGet.t (up hsD2) (up ht1), _, rfl, ?_⟩
          rw [g2]
          cases b2 : B z o[i] with
          | true =>
            refine iteF ⟨F2, _, us, rfl, Y, fc2, hs2, hc2, ?_⟩
            rw [ft, List.filter_cons_of_neg (by simp [b2])]
            simpa using pu2
          | false =>
            refine iteT ⟨_, rfl, Or.inl ⟨rfl, _, SqL.of hc2⟩, _, rfl, _, rfl, (by show 2 ≤ sizeLine; decide), fun tp nt => ?_⟩
            have ct := ne_new hc2 nt
            have st := ne_new hs2 nt
            have Y2 := Y.new nt (o := .tup [.ref t1, .ref t2])
            have lu : us.length < sizeLine := by
              have h1 := Paired.len pu2
              have h2 := List.length_filter_le (fun x : Gf11.Position × Gf11.Position => !(B x.1 x.2 || B x.2 x.1)) (dn ++ ((o.drop (i + 1)).take j).map (fun y => (o[i], y)))
              have h3 := len_pairs o
              have h4 : dn.length + ((o.drop (i + 1)).take j).length ≤ (Gf11.pairs o).length := by
                rw [hd, pairs_drop ei, List.length_append, List.length_append, List.length_map, List.length_take]
                omega
              rw [List.length_append, List.length_map] at h2
              have h5 : o.length * o.length ≤ 100 * 100 := Nat.mul_le_mul le le
              exact Nat.lt_of_le_of_lt (m := 10000) (by omega) (by decide)
            have hc3 : upd H2 tp (.tup [.ref t1, .ref t2]) cl = some (.lst us) := by rw [upd_ne ct]; exact hc2
            refine ⟨cl, us, _, rfl, rfl, hc3, lu, ?_⟩
            have sc : sl ≠ cl := Ne.symm cs
            refine ⟨_, _, us ++ [.ref tp], rfl, Y2.put (by rw [upd_ne ct]; exact fc2) nc, by rw [upd_ne ct]; exact fc2, by rw [upd_ne sc, upd_ne st]; exact hs2, upd_same, ?_⟩
            have S : Same F2 (upd F2 tp (.tup [.ref t1, .ref t2])) := same_new (Same.refl F2) (Y.fh.free nt)
            rw [ft, List.filter_cons_of_pos (by simp [b1, b2])]
            exact Paired.app (Paired.imp (fun v x => PairAt.mono S v x) pu2) (Paired.one ⟨tp, _, _, rfl, upd_same, PosAt.mono (Y.ff.trans S) _ _ hv1, PosAt.mono (Y.ff.trans S) _ _ hz⟩)
      · rintro σ H2 ⟨F2, u5, us, rfl, Y, fc2, hs2, hc2, pu2⟩
        rw [List.length_drop, lo] at pu2
        have tk : (o.drop (i + 1)).take (o.length - (i + 1)) = o.drop (i + 1) := List.take_of_length_le (by rw [List.length_drop]; exact Nat.le_refl _)
        rw [tk] at pu2
        exact ⟨F2, _, _, _, us, _, rfl, Y, fc2, hc2, by rw [hd, pairs_drop ei, ← List.append_assoc], pu2⟩
    · rintro σ H' ⟨F1, u3, u4, u5, us, dn, rfl, X, fc, hc, hd, pu⟩
      have ed : o.drop ((ovs.length : Nat) : Int).toNat = [] := List.drop_of_length_le (by omega)
      rw [ed] at hd
      have hd : Gf11.pairs o = dn := by rw [hd]; exact List.append_nil dn
      rw [← hd] at pu
      have Z := X.freeze hc fc nc
      exact ⟨_, rfl, k _ _ _ Z ⟨cl, us, rfl, upd_same, Paired.imp (fun v x => PairAt.mono (same_new (Same.refl F1) fc) v x) pu⟩⟩
end
end Lg
namespace Lg
open PySem PySem.Spec PyProof.Rows L2
def ContentAt (CO : Addr) (F : Hp) (v : V) (w : List (Gf11.Position × Gf11.Line) × List (Gf11.Position × Gf11.Position)) : Prop := ∃ a dx o c, v = .ref a ∧ F a = some (.ins CO dx (coF o c)) ∧ LstAt PosAt F o (w.1.map (·.1)) ∧ LstAt PairAt F c w.2
theorem ContentAt.mono {CO : Addr} {H H' : Hp} (s : Same H H') {v : V} {w : List (Gf11.Position × Gf11.Line) × List (Gf11.Position × Gf11.Position)} (h : ContentAt CO H v w) : ContentAt CO H' v w := by
  obtain ⟨a, dx, o, c, e, ha, p, q⟩ := h
  exact ⟨a, dx, o, c, e, s _ _ ha, p.mono (fun s => PosAt.mono s) s, q.mono (fun s => PairAt.mono s) s⟩
/-- an __init__ that stores its two arguments -/
def spI2 (C : Addr) (fs : V → V → List (Str × V)) : Sp := fun vs H Q _ => ∃ (p dx : Addr) (a b : V), vs = [.ref p, a, b] ∧ H p = some (.ins C dx []) ∧
  ∀ H' : Hp, H' p = some (.ins C dx (fs a b)) → (∀ q o, H q = some o → q ≠ p → H' q = some o) → Q .non H'
def spI3 (C : Addr) (fs : V → V → V → List (Str × V)) : Sp := fun vs H Q _ => ∃ (p dx : Addr) (a b c : V), vs = [.ref p, a, b, c] ∧ H p = some (.ins C dx []) ∧
  ∀ H' : Hp, H' p = some (.ins C dx (fs a b c)) → (∀ q o, H q = some o → q ≠ p → H' q = some o) → Q .non H'
section
variable {P : Program} {w : World} {K : PySem.W.Frag} {mg : Str → Option Value} {base : Heap} {CH CC CO CL CS : Addr}
/-! ### Content -/
abbrev sIO : Stmt := inClass (top 29) 0
theorem scIO : FnScope ["self", "order", "conflicts"] ["self", "order", "conflicts"] (defScope sIO) := ⟨rfl, rfl, rfl, by decide +kernel, rfl, by decide +kernel, by decide +kernel⟩
theorem put_co (o c : V) : putF "conflicts" c (putF "order" o []) = coF o c := put_past (by decide +kernel)
theorem ok_iO {f : Addr} {fd : FuncData} (F : Fun K "__init__" "Content.__init__" sIO f fd) (T : Txt K mg CH CC CO CL CS) : FnOk P w K mg base CX0 1 f fd ["self", "order", "conflicts"] (spI2 CO coF) := by
  refine F.ok scIO (fun vs H Q E h => ?_) (fun cdv A outer s H vs Q E hr h => ⟨_, pss_cons (ps_fld (pv 0) (pv 1) rfl) (pss_one (ps_fld (pv 0) (pv 2) rfl)), ?_⟩)
  · obtain ⟨p, dx, a, b, rfl, _⟩ := h
    rfl
  · obtain ⟨p, dx, a, b, rfl, hp, k⟩ := h
    refine ⟨_, rfl, _, rfl, p, CO, dx, [], rfl, hp, T.clO, T.nOrder, (by show 0 < 1000; decide), ?_⟩
    refine ⟨_, rfl, _, rfl, p, CO, dx, _, rfl, upd_same, T.clO, T.nConflicts, (by show 1 < 1000; decide), ?_⟩
    refine k _ (Eq.trans upd_same (congrArg (fun q => some (HO.ins CO dx q)) (put_co a b))) fun q o e hq => ?_
    rw [upd_ne hq, upd_ne hq]
    exact e
/-! ### find_content -/
abbrev sCon : Stmt := top 36
def spCon (CH CC CO : Addr) : Sp := fun vs H Q _ => ∃ (F : Hp) (v m : V) (cs : List Gf11.Change) (b : List Nat) (r : Rank), Same F H ∧ vs = [v, m] ∧ ChangesAt CH CC F H v cs ∧ LineAt H m b ∧ BrOk cs b ∧ RisesAll r cs ∧
  ∀ (F' H' : Hp) (r : V), Ext F H F' H' → ContentAt CO F' r (Gf11.content cs b) → Q r H'
theorem scCon : FnScope ["changes", "members", "following", "visible", "preceded", "line", "order"] ["changes", "members"] (defScope sCon) := ⟨rfl, rfl, rfl, by decide +kernel, rfl, by decide +kernel, by decide +kernel⟩
theorem len_edges {cs : List Gf11.Change} {b : List Nat} (ok : BrOk cs b) : ∀ i, i ≤ b.length → (Gf11.edges cs (b.take i)).length ≤ 16 * i
  | 0, _ => Nat.zero_le _
  | i + 1, h => by
    obtain ⟨c, ec, oc⟩ := ok.at (List.getElem?_eq_getElem h)
    rw [edges_take (List.getElem?_eq_getElem h) ec, List.length_append, len_hunkEdges]
    have ih := len_edges ok i (Nat.le_of_succ_le h)
    have l8 := oc.lines
    have h8 := oc.few
    have : linesIn c.hunks = (Gf11.insertedLines c).length := rfl
    omega
theorem len_vis {cs : List Gf11.Change} {b : List Nat} (ok : BrOk cs b) : (Gf11.visibleLines cs b).length ≤ 96 := by
  have h2 : (Gf11.visibleLines cs b).length ≤ (Gf11.allLines cs b).length := List.length_filter_le _ _
  have h3 := len_allLines (fun p c k => (ok.chg p c k).lines) b
  have := ok.len
  omega
theorem ok_con {f fN fC fV fI fP fO fS fK fG : Addr} {fd fdN fdC fdV fdI fdP fdO fdS fdK fdG : FuncData} (F : Fun K "find_content" "find_content" sCon f fd) (T : Txt K mg CH CC CO CL CS)
    (FN : Fun K "next_positions" "next_positions" sNxt fN fdN) (gN : mg "next_positions" = some (.ref fN)) (FC : Fun K "chains" "chains" sCha fC fdC) (gC : mg "chains" = some (.ref fC))
    (FV : Fun K "visible_lines" "visible_lines" sVis fV fdV) (gV : mg "visible_lines" = some (.ref fV)) (FI : Fun K "inserted_lines" "inserted_lines" sIns fI fdI) (gI : mg "inserted_lines" = some (.ref fI))
    (FP : Fun K "preceded_positions" "preceded_positions" sPre fP fdP) (gP : mg "preceded_positions" = some (.ref fP)) (FO : Fun K "order_lines" "order_lines" sOrd fO fdO) (gO : mg "order_lines" = some (.ref fO))
    (FS : Fun K "is_preceded" "is_preceded" sIsp fS fdS) (gS : mg "is_preceded" = some (.ref fS)) (FK : Fun K "find_conflicts" "find_conflicts" sCnf fK fdK) (gK : mg "find_conflicts" = some (.ref fK))
    (M : Mk K CO fG) (FG : Fun K "__init__" "Content.__init__" sIO fG fdG) :
    FnOk P w K mg base CX0 3 f fd ["changes", "members"] (spCon CH CC CO) := by
  have GN : FnOk P w K mg base CX0 2 fN fdN ["changes", "members"] (spNxt CH CC) := ok_nxt FN T FC gC
  have GV : FnOk P w K mg base CX0 2 fV fdV ["changes", "members"] (spVis CH CC) := ok_vis FV T FI gI
  have GP : FnOk P w K mg base CX0 1 fP fdP ["line", "following"] spPre := ok_pre FP
  have GO : FnOk P w K mg base CX0 2 fO fdO ["visible", "preceded"] spOrd := ok_ord FO T FS gS
  have GK : FnOk P w K mg base CX0 1 fK fdK ["order", "preceded"] spCnf := ok_cnf FK T
  have GG : FnOk P w K mg base CX0 1 fG fdG ["self", "order", "conflicts"] (spI2 CO coF) := ok_iO FG T
  have bN : Binds K fdN ["changes", "members"] [] := FN.binds fun _ _ _ _ _ _ us hl => match us, hl with | [_, _], _ => rfl
  have bV : Binds K fdV ["changes", "members"] [] := FV.binds fun _ _ _ _ _ _ us hl => match us, hl with | [_, _], _ => rfl
  have bP : Binds K fdP ["line", "following"] [] := FP.binds fun _ _ _ _ _ _ us hl => match us, hl with | [_, _], _ => rfl
  have bO : Binds K fdO ["visible", "preceded"] [] := FO.binds fun _ _ _ _ _ _ us hl => match us, hl with | [_, _], _ => rfl
  have bK : Binds K fdK ["order", "preceded"] [] := FK.binds fun _ _ _ _ _ _ us hl => match us, hl with | [_, _], _ => rfl
  have bG : Binds K fdG ["self", "order", "conflicts"] [] := FG.binds fun _ _ _ _ _ _ us hl => match us, hl with | [_, _, _], _ => rfl
  refine F.ok scCon (fun vs H Q E h => ?_) (fun cdv A outer s H vs Q E hr h => ⟨_,
    pss_cons (ps_set (i := 2) scCon.nd rfl (Or.inl rfl) (pe_call GN hr (by rfl) gN FN.kp bN .nil pass0 (pa_cons (pv 0) (pa_cons (pv 1) pa_nil))))
    (pss_cons (ps_set (i := 3) scCon.nd rfl (Or.inl rfl) (pe_call GV hr (by rfl) gV FV.kp bV .nil pass0 (pa_cons (pv 0) (pa_cons (pv 1) pa_nil))))
    (pss_cons (ps_set (i := 4) scCon.nd rfl (Or.inl rfl) pe_dnewT)
    (pss_cons (ps_for PassesOwn.never rfl (pi_list (pv 3)) (pg_name (i := 5) scCon.nd rfl (Or.inl rfl))
      (pss_one (ps_dput (hu_of hr) (pv 4) (pv 5) (pe_call GP (hr.mono (by decide)) (by rfl) gP FP.kp bP .nil pass0 (pa_cons (pv 5) (pa_cons (pv 2) pa_nil))) rfl)))
    (pss_cons (ps_set (i := 6) scCon.nd rfl (Or.inl rfl) (pe_call GO hr (by rfl) gO FO.kp bO .nil pass0 (pa_cons (pv 3) (pa_cons (pv 4) pa_nil))))
    (pss_one (ps_ret (pe_make M GG hr (by rfl) T.gO bG .nil pass0 (pa_cons (pv 6) (pa_cons (pe_call GK (hr.mono (by decide)) (by rfl) gK FK.kp bK .nil pass0 (pa_cons (pv 6) (pa_cons (pv 4) pa_nil))) pa_nil))))))))), ?_⟩)
  · obtain ⟨F0, v, m, cs, b, r, _, rfl, _⟩ := h
    rfl
  · obtain ⟨F0, v, m, cs, b, rk, hF, rfl, hcs, hm, ok, R, k⟩ := h
    refine ⟨_, rfl, _, rfl, F0, v, m, cs, b, hF, rfl, hcs, hm, ok, fun F1 H1 fol X1 hfol => ?_⟩
    refine ⟨_, rfl, _, rfl, F1, v, m, cs, b, X1.fh, rfl, hcs.mono X1.ff X1.hh, LineAt.mono X1.hh _ _ hm, ok, fun F2 H2 vis X2 hvis => ?_⟩
    have Y2 := X1.trans X2
    obtain ⟨vl, vvs, rfl, hvl, pvl⟩ := hvis
    have lvis := len_vis ok
    have hfol2 : FolAt F2 fol (Gf11.edges cs b) := by
      obtain ⟨D, kvs, e, hD, a1, a2⟩ := hfol
      exact ⟨D, kvs, e, X2.ff _ _ hD, fun x w ew => (a1 x w ew).mono (fun s => PosAt.mono s) X2.ff, a2⟩
    intro D nD
    have D0 := Y2.fh.free nD
    have nDH := Y2.hh.free nD
    have Y3 := Y2.tmp nD (o := .dT [])
    have ledges : (Gf11.edges cs b).length ≤ 1000 := by
      have := len_edges ok b.length (Nat.le_refl _)
      rw [List.take_length] at this
      have := ok.len
      omega
    refine ⟨_, rfl, vl, rfl, ⟨vvs, SqL.of (Y3.fh _ _ hvl)⟩, ?_⟩
    refine for_list (K := K) (a := vl) (xs := vvs) (fun i σ H3 => ∃ F3 u5 kvs, σ = [some v, some m, some fol, some (.ref vl), some (.ref D), u5, none] ∧ Ext F0 H F3 H3 ∧ Same F2 F3 ∧ F3 D = none ∧ H3 D = some (.dT kvs) ∧ kvs.length ≤ i ∧
        ∀ x ∈ ((Gf11.visibleLines cs b).map (·.1)).take i, ∃ w, valV kvs (keyP x) = some w ∧ SetAt F3 w (Path (Gf11.edges cs b) x))
      ⟨F2, none, [], rfl, Y3, Same.refl F2, D0, upd_same, Nat.zero_le _, fun x m => (by cases m)⟩ (fun i σ H3 _ ⟨_, _, _, _, X, s, _⟩ => SqL.of (X.fh _ _ (s _ _ hvl))) ?_ ?_
    · rintro i y σ H3 hi ⟨F3, u5, kvs, rfl, X, S, D3, hD, lk, hx⟩
      obtain ⟨x, ex, hxv⟩ := Paired.get pvl hi
      obtain ⟨t, rfl, ht⟩ := hxv.key
      have lti := (List.getElem?_eq_some_iff.mp ex).1
      rw [List.length_map] at lti
      refine ⟨_, rfl, _, rfl, F3, .ref t, fol, x, Gf11.edges cs b, X.fh, rfl, PosAt.mono S _ _ hxv, ?_, ledges, fun F4 H4 r X4 hr4 => ?_⟩
      · obtain ⟨D', kvs', e, hD', a1, a2⟩ := hfol2
        exact ⟨D', kvs', e, S _ _ hD', fun x w ew => (a1 x w ew).mono (fun s => PosAt.mono s) S, a2⟩
      · have hD4 := X4.hh _ _ hD
        have D4 := X4.out D3 hD
        refine ⟨_, rfl, _, rfl, D, _, rfl, DPut.t hD4 (X4.fh _ _ (X4.ff _ _ (S _ _ ht))) (Nat.lt_of_le_of_lt (m := 1000) (by omega) (by decide)), ?_⟩
        refine ⟨F4, _, _, rfl, (X.trans X4).put D4 nDH, S.trans X4.ff, D4, upd_same, ?_, fun z hz => ?_⟩
        · have := length_putK kvs (keyP x) r
          omega
        · rw [valV_put]
          by_cases c : keyP z = keyP x
          · rw [if_pos c]
            rw [keyP_inj c]
            exact ⟨r, rfl, hr4⟩
          · rw [if_neg c]
            rw [take_more ex] at hz
            rcases List.mem_append.mp hz with hz | hz
            · obtain ⟨w, e, hw⟩ := hx z hz
              exact ⟨w, e, hw.mono X4.ff⟩
            · exact absurd (by rw [List.mem_singleton.mp hz]) c
    · rintro σ H3 ⟨F3, u5, kvs, rfl, X, S, D3, hD, lk, hx⟩
      rw [Paired.len pvl, List.take_length] at hx
      have Z := X.freeze hD D3 nDH
      have S3 : Same F3 (upd F3 D (.dT kvs)) := same_new (Same.refl F3) D3
      have tab : TabAt (upd F3 D (.dT kvs)) (.ref D) (Gf11.edges cs b) ((Gf11.visibleLines cs b).map (·.1)) := ⟨D, kvs, rfl, upd_same, fun x hx' => by
        obtain ⟨w, e, hw⟩ := hx x hx'
        exact ⟨w, e, hw.mono S3⟩⟩
      have nd := nodup_visible (cs := cs) (up_nodup ok.up)
      refine ⟨_, rfl, _, rfl, upd F3 D (.dT kvs), .ref vl, .ref D, Gf11.visibleLines cs b, Gf11.edges cs b, rk, Z.fh, rfl, ⟨vl, vvs, rfl, S3 _ _ (S _ _ hvl), Paired.imp (fun v x => PosAt.mono (S.trans S3) v x) pvl⟩, tab, R.edges b, nd, by omega, fun F5 H5 ord X5 hord => ?_⟩
      have perm : (Gf11.linearize (Gf11.orderTable (Gf11.edges cs b) (Gf11.visibleLines cs b)) (Gf11.visibleLines cs b).length (Gf11.visibleLines cs b)).Perm (Gf11.visibleLines cs b) := content_perm R (up_nodup ok.up)
      have tab5 : TabAt F5 (.ref D) (Gf11.edges cs b) ((Gf11.linearize (Gf11.orderTable (Gf11.edges cs b) (Gf11.visibleLines cs b)) (Gf11.visibleLines cs b).length (Gf11.visibleLines cs b)).map (·.1)) := by
        obtain ⟨D', kvs', e, hD', hx'⟩ := tab.mono X5.ff
        exact ⟨D', kvs', e, hD', fun x m => hx' x ((perm.map _).mem_iff.mp m)⟩
      refine ⟨_, rfl, _, rfl, _, rfl, F5, ord, .ref D, _, Gf11.edges cs b, Gf11.isBefore (Gf11.orderTable (Gf11.edges cs b) (Gf11.visibleLines cs b)), X5.fh, rfl, hord, tab5, fun x hx1 y hy1 => ?_, ?_, fun F6 H6 cnf X6 hcnf => ?_⟩
      · rw [isBefore_iff ((perm.map _).mem_iff.mp hx1)]
        exact ⟨fun h => h.2, fun h => ⟨fun e => (R.edges b).irrefl _ (by rw [e] at h; exact h), h⟩⟩
      · rw [List.length_map, perm.length_eq]
        omega
      · intro x dx nx nd' nex
        refine ⟨x, dx, ord, cnf, rfl, upd_same, fun H7 e7 k7 => ⟨rfl, ?_⟩⟩
        have W := (Z.trans X5).trans X6
        obtain ⟨W2, S7⟩ := W.made nx nd' e7 k7
        have S6 : Same F6 (upd F6 x (.ins CO dx (coF ord cnf))) := same_new (Same.refl F6) (W.fh.free nx)
        exact k _ _ _ W2 ⟨x, dx, ord, cnf, rfl, upd_same, (hord.mono (fun s => PosAt.mono s) X6.ff).mono (fun s => PosAt.mono s) S6, hcnf.mono (fun s => PairAt.mono s) S6⟩
end
end Lg
/-! The mathematics, fifth part: common subsequences, the change between two texts by places. -/
namespace Lg
open Gf11
theorem lcs_tail : ∀ (l : List Line) (y : Line) (r : List Line), (lcsTable l (y :: r)).drop 1 = lcsTable l r
  | [], y, r => by
    show (List.replicate ((y :: r).length + 1) 0).drop 1 = List.replicate (r.length + 1) 0
    rw [List.drop_replicate, List.length_cons]
    rfl
  | x :: l, y, r => by
    show lcsRow x r ((lcsTable l (y :: r)).drop 1) = lcsRow x r (lcsTable l r)
    rw [lcs_tail l y r]
theorem lcs_nil (r : List Line) : lcsLength [] r = 0 := rfl
theorem lcs_right : ∀ (l : List Line), lcsLength l [] = 0
  | [] => rfl
  | _ :: _ => rfl
theorem lcs_cons (x : Line) (l : List Line) (y : Line) (r : List Line) : lcsLength (x :: l) (y :: r) = if x = y then 1 + lcsLength l r else max (lcsLength l (y :: r)) (lcsLength (x :: l) r) := by
  show (if x = y then 1 + ((lcsTable l (y :: r)).drop 1).headD 0 else max ((lcsTable l (y :: r)).headD 0) ((lcsRow x r ((lcsTable l (y :: r)).drop 1)).headD 0)) = _
  rw [lcs_tail l y r]
  rfl
theorem lcs_le : ∀ (l r : List Line), lcsLength l r ≤ l.length
  | [], r => Nat.le_refl _
  | x :: l, [] => Nat.zero_le _
  | x :: l, y :: r => by
    have h1 := lcs_le l r
    have h2 := lcs_le l (y :: r)
    have h3 := lcs_le (x :: l) r
    rw [lcs_cons, List.length_cons] at *
    split <;> omega
  termination_by l r => l.length + r.length
/-! ### the texts' change by places -/
/-- the positions with the ends -/
def bounds (ps : List Position) : List Position := [.start] ++ ps ++ [.end_]
/-- the hunks of gaps, the first of which lies behind place k -/
def gapHunks (ps : List Position) : Nat → List (List Line) → List Hunk
  | _, [] => []
  | k, g :: gs => (if g.isEmpty = true then [] else [⟨(bounds ps).getD k .start, (bounds ps).getD (k + 1) .end_, g⟩]) ++ gapHunks ps (k + 1) gs
theorem gap_snoc (ps : List Position) (g : List Line) : ∀ (gs : List (List Line)) (k : Nat), gapHunks ps k (gs ++ [g]) = gapHunks ps k gs ++ (if g.isEmpty = true then [] else [⟨(bounds ps).getD (k + gs.length) .start, (bounds ps).getD (k + gs.length + 1) .end_, g⟩])
  | [], k => by
    show _ ++ [] = [] ++ _
    rw [List.append_nil]
    rfl
  | a :: gs, k => by
    show _ ++ gapHunks ps (k + 1) (gs ++ [g]) = (_ ++ gapHunks ps (k + 1) gs) ++ _
    rw [gap_snoc ps g gs (k + 1), List.append_assoc, List.length_cons]
    have e1 : k + 1 + gs.length = k + (gs.length + 1) := by omega
    have e2 : k + 1 + gs.length + 1 = k + (gs.length + 1) + 1 := by omega
    rw [e1]
theorem gap_app (ps : List Position) (hs : List (List Line)) : ∀ (gs : List (List Line)) (k : Nat), gapHunks ps k (gs ++ hs) = gapHunks ps k gs ++ gapHunks ps (k + gs.length) hs
  | [], k => rfl
  | a :: gs, k => by
    show _ ++ gapHunks ps (k + 1) (gs ++ hs) = (_ ++ gapHunks ps (k + 1) gs) ++ _
    rw [gap_app ps hs gs (k + 1), List.append_assoc, List.length_cons]
    have e1 : k + 1 + gs.length = k + (gs.length + 1) := by omega
    rw [e1]
theorem gap_empty (ps : List Position) : ∀ (n k : Nat), gapHunks ps k (List.replicate n []) = []
  | 0, _ => rfl
  | n + 1, k => by
    show [] ++ gapHunks ps (k + 1) (List.replicate n []) = []
    rw [gap_empty ps n (k + 1)]
    rfl
theorem bounds_at : ∀ (ps : List Position) (i : Nat), (bounds ps).getD (i + 1) .end_ = (ps.drop i).headD .end_ := by
  intro ps i
  show (Position.start :: (ps ++ [.end_])).getD (i + 1) .end_ = _
  rw [List.getD_cons_succ]
  induction ps generalizing i with
  | nil =>
    cases i with
    | zero => rfl
    | succ i => rfl
  | cons a ps ih =>
    cases i with
    | zero => rfl
    | succ i => exact ih i
theorem getD_el {α : Type} {l : List α} {i : Nat} {x : α} (h : i < l.length) : l.getD i x = l[i] := by
  rw [List.getD_eq_getElem?_getD, List.getElem?_eq_getElem h]
  rfl
theorem getD_any {α : Type} {l : List α} {i : Nat} (x y : α) (h : i < l.length) : l.getD i x = l.getD i y := by
  rw [getD_el h, getD_el h]
theorem mk_assoc (a g h : List Hunk) (d : List Position) : (⟨a ++ (g ++ h), d⟩ : Change) = ⟨(a ++ g) ++ h, d⟩ := by rw [List.append_assoc]
theorem mk_assoc2 (a g h : List Hunk) (d p e : List Position) : (⟨a ++ (g ++ h), d ++ (p ++ e)⟩ : Change) = ⟨(a ++ g) ++ h, (d ++ p) ++ e⟩ := by rw [List.append_assoc, List.append_assoc]
theorem len_bounds (ps : List Position) : (bounds ps).length = ps.length + 2 := by
  simp only [bounds, List.length_append, List.length_cons, List.length_nil]
  omega
/-! ### edit steps without fuel -/
theorem diff_fuel : ∀ (f g : Nat) (l r : List Line), l.length + r.length < f → l.length + r.length < g → diff f l r = diff g l r
  | 0, _, _, _, h, _ => absurd h (Nat.not_lt_zero _)
  | _, 0, _, _, _, h => absurd h (Nat.not_lt_zero _)
  | f + 1, g + 1, [], r, _, _ => rfl
  | f + 1, g + 1, x :: l, [], _, _ => rfl
  | f + 1, g + 1, x :: l, y :: r, h1, h2 => by
    rw [List.length_cons, List.length_cons] at h1 h2
    show (if x = y then Edit.keep :: diff f l r else if lcsLength (x :: l) r ≤ lcsLength l (y :: r) then .delete :: diff f l (y :: r) else .insert y :: diff f (x :: l) r) =
      (if x = y then Edit.keep :: diff g l r else if lcsLength (x :: l) r ≤ lcsLength l (y :: r) then .delete :: diff g l (y :: r) else .insert y :: diff g (x :: l) r)
    rw [diff_fuel f g l r (by omega) (by omega), diff_fuel f g l (y :: r) (by rw [List.length_cons]; omega) (by rw [List.length_cons]; omega), diff_fuel f g (x :: l) r (by rw [List.length_cons]; omega) (by rw [List.length_cons]; omega)]
def edits (l r : List Line) : List Edit := diff (l.length + r.length + 1) l r
theorem edits_of {f : Nat} {l r : List Line} (h : l.length + r.length < f) : diff f l r = edits l r := diff_fuel _ _ _ _ h (Nat.lt_succ_self _)
theorem edits_none : edits [] [] = [] := rfl
theorem edits_put (y : Line) (r : List Line) : edits [] (y :: r) = .insert y :: edits [] r := rfl
theorem edits_cut (x : Line) (l : List Line) : edits (x :: l) [] = .delete :: edits l [] := by
  cases l with
  | nil => rfl
  | cons a l => rfl
theorem edits_both (x : Line) (l : List Line) (y : Line) (r : List Line) : edits (x :: l) (y :: r) = if x = y then .keep :: edits l r else if lcsLength (x :: l) r ≤ lcsLength l (y :: r) then .delete :: edits l (y :: r) else .insert y :: edits (x :: l) r := by
  show (if x = y then Edit.keep :: diff _ l r else if lcsLength (x :: l) r ≤ lcsLength l (y :: r) then .delete :: diff _ l (y :: r) else .insert y :: diff _ (x :: l) r) = _
  rw [edits_of (l := l) (r := r) (by simp only [List.length_cons]; omega), edits_of (l := l) (r := y :: r) (by simp only [List.length_cons]; omega), edits_of (l := x :: l) (r := r) (by simp only [List.length_cons]; omega)]
/-- the change from an old text with its positions to a new one -/
def target (ps : List Position) (old new : List Line) : Change := changeFromEdits .start ps (edits old new) []
theorem between_target (w : List (Position × Line)) (t : List Line) : changeBetween w t = target (w.map fun x => x.1) (w.map fun x => x.2) t := by
  unfold changeBetween target
  rw [edits_of (by rw [List.length_map]; omega)]
/-- where the edit steps stand: behind i old lines and j new ones; G: what was put in ahead of each old line and at the end; d: what was deleted -/
structure Walk (ps : List Position) (old new : List Line) (i j : Nat) (G : List (List Line)) (d : List Position) : Prop where
  hi : i ≤ old.length
  hj : j ≤ new.length
  hg : G.length = old.length + 1
  emp : ∀ k, i < k → k ≤ old.length → G.getD k [] = []
  eq : target ps old new = (let c := changeFromEdits ((bounds ps).getD i .end_) (ps.drop i) (edits (old.drop i) (new.drop j)) (G.getD i [])
    ⟨gapHunks ps 0 (G.take i) ++ c.hunks, d ++ c.deleted⟩)
theorem Walk.start (ps : List Position) (old new : List Line) : Walk ps old new 0 0 (List.replicate (old.length + 1) []) [] where
  hi := Nat.zero_le _
  hj := Nat.zero_le _
  hg := List.length_replicate
  emp := fun k _ _ => by
    rw [List.getD_eq_getElem?_getD, List.getElem?_replicate]
    split <;> rfl
  eq := rfl
section
variable {ps : List Position} {old new : List Line} {i j : Nat} {G : List (List Line)} {d : List Position}
theorem take_gap (hi : i < G.length) : gapHunks ps 0 (G.take (i + 1)) = gapHunks ps 0 (G.take i) ++ (if (G.getD i []).isEmpty = true then [] else [⟨(bounds ps).getD i .start, (bounds ps).getD (i + 1) .end_, G.getD i []⟩]) := by
  have e : G.take (i + 1) = G.take i ++ [G.getD i []] := by
    rw [List.take_add_one, List.getElem?_eq_getElem hi, getD_el hi]
    rfl
  have l : (G.take i).length = i := by
    rw [List.length_take]
    omega
  rw [e, gap_snoc, l, Nat.zero_add]
theorem Walk.fin (h : Walk ps old new old.length new.length G d) (hp : ps.length = old.length) : target ps old new = ⟨gapHunks ps 0 G, d⟩ := by
  have e := h.eq
  rw [List.drop_of_length_le (Nat.le_refl _), List.drop_of_length_le (Nat.le_refl _), List.drop_of_length_le (by rw [hp]; exact Nat.le_refl _), edits_none] at e
  have hl : old.length < G.length := by
    rw [h.hg]
    exact Nat.lt_succ_self _
  have t := take_gap (ps := ps) hl
  rw [List.take_of_length_le (by rw [h.hg]; exact Nat.le_refl _)] at t
  rw [e, t]
  have b1 : (bounds ps).getD old.length .start = (bounds ps).getD old.length .end_ := getD_any _ _ (by rw [len_bounds, hp]; omega)
  have b2 : (bounds ps).getD (old.length + 1) .end_ = .end_ := by
    rw [bounds_at, List.drop_of_length_le (by rw [hp]; exact Nat.le_refl _)]
    rfl
  rw [b1, b2]
  show (⟨_ ++ (if (G.getD old.length []).isEmpty = true then [] else [⟨_, Position.end_, _⟩]), d ++ []⟩ : Change) = _
  rw [List.append_nil]
theorem Walk.keep (h : Walk ps old new i j G d) (hp : ps.length = old.length) (li : i < old.length) (lj : j < new.length) (e : old[i] = new[j]) : Walk ps old new (i + 1) (j + 1) G d where
  hi := li
  hj := lj
  hg := h.hg
  emp := fun k a b => h.emp k (by omega) b
  eq := by
    have eq := h.eq
    rw [List.drop_eq_getElem_cons li, List.drop_eq_getElem_cons lj, edits_both, if_pos e] at eq
    rw [eq, take_gap (by rw [h.hg]; omega), h.emp (i + 1) (by omega) li, bounds_at, getD_any Position.start Position.end_ (l := bounds ps) (by rw [len_bounds, hp]; omega)]
    have dd : (ps.drop i).drop 1 = ps.drop (i + 1) := by rw [List.drop_drop]
    rw [← dd]
    exact mk_assoc _ _ _ _
theorem Walk.cut (h : Walk ps old new i j G d) (hp : ps.length = old.length) (li : i < old.length) (hc : j = new.length ∨ ∃ lj : j < new.length, old[i] ≠ new[j] ∧ lcsLength (old.drop i) (new.drop (j + 1)) ≤ lcsLength (old.drop (i + 1)) (new.drop j)) :
    Walk ps old new (i + 1) j G (d ++ [ps[i]]) where
  hi := li
  hj := h.hj
  hg := h.hg
  emp := fun k a b => h.emp k (by omega) b
  eq := by
    have eq := h.eq
    have ed : edits (old.drop i) (new.drop j) = .delete :: edits (old.drop (i + 1)) (new.drop j) := by
      rcases hc with e | ⟨lj, ne, le⟩
      · rw [e, List.drop_of_length_le (Nat.le_refl _), List.drop_eq_getElem_cons li, edits_cut]
      · rw [List.drop_eq_getElem_cons li, List.drop_eq_getElem_cons lj] at le ⊢
        rw [edits_both, if_neg ne, if_pos]
        rw [List.drop_eq_getElem_cons li] at *
        exact le
    rw [ed] at eq
    rw [eq, take_gap (by rw [h.hg]; omega), h.emp (i + 1) (by omega) li, bounds_at, getD_any Position.start Position.end_ (l := bounds ps) (by rw [len_bounds, hp]; omega)]
    have dd : (ps.drop i).drop 1 = ps.drop (i + 1) := by rw [List.drop_drop]
    have d1 : (ps.drop i).take 1 = [ps[i]] := by
      rw [List.drop_eq_getElem_cons (by rw [hp]; exact li)]
      rfl
    rw [← dd, ← d1]
    exact mk_assoc2 _ _ _ _ _ _
theorem Walk.put (h : Walk ps old new i j G d) (lj : j < new.length) (hc : i = old.length ∨ ∃ li : i < old.length, old[i] ≠ new[j] ∧ ¬ lcsLength (old.drop i) (new.drop (j + 1)) ≤ lcsLength (old.drop (i + 1)) (new.drop j)) :
    Walk ps old new i (j + 1) (G.set i (G.getD i [] ++ [new[j]])) d where
  hi := h.hi
  hj := lj
  hg := by
    rw [List.length_set]
    exact h.hg
  emp := fun k a b => by
    have := h.emp k a b
    rw [List.getD_eq_getElem?_getD] at this ⊢
    rw [List.getElem?_set_ne (by omega)]
    exact this
  eq := by
    have eq := h.eq
    have ed : edits (old.drop i) (new.drop j) = .insert new[j] :: edits (old.drop i) (new.drop (j + 1)) := by
      rcases hc with e | ⟨li, ne, le⟩
      · rw [e, List.drop_of_length_le (Nat.le_refl _), List.drop_eq_getElem_cons lj, edits_put]
      · rw [List.drop_eq_getElem_cons li, List.drop_eq_getElem_cons lj] at le ⊢
        rw [edits_both, if_neg ne, if_neg]
        exact le
    rw [ed] at eq
    have t : (G.set i (G.getD i [] ++ [new[j]])).take i = G.take i := by
      rw [List.take_set_of_le (Nat.le_refl _)]
    have g : (G.set i (G.getD i [] ++ [new[j]])).getD i [] = G.getD i [] ++ [new[j]] := by
      have := h.hi
      rw [getD_el (by rw [List.length_set, h.hg]; omega), List.getElem_set_self]
    rw [eq, t, g]
    rfl
end
/-- nothing changes just where the texts are the same -/
theorem same_text : ∀ (es : List Edit) (before : Position) (old : List Position) (new : List Line), (changeFromEdits before old es new).hunks = [] → (changeFromEdits before old es new).deleted = [] → used es ≤ old.length → new = [] ∧ ∀ e ∈ es, e = .keep
  | [], before, old, new, h1, h2, _ => by
    refine ⟨?_, fun e m => (by cases m)⟩
    have h1 : (if new.isEmpty = true then [] else [⟨before, old.headD .end_, new⟩] : List Hunk) = [] := h1
    cases new with
    | nil => rfl
    | cons a r => cases h1
  | .insert l :: es, before, old, new, h1, h2, hu => by
    have := (same_text es before old (new ++ [l]) h1 h2 hu).1
    simp at this
  | .delete :: es, before, [], new, h1, h2, hu => absurd hu (Nat.not_succ_le_zero _)
  | .delete :: es, before, a :: old, new, h1, h2, hu => by
    have h2 : a :: (changeFromEdits a old es []).deleted = [] := h2
    cases h2
  | .keep :: es, before, [], new, h1, h2, hu => absurd hu (Nat.not_succ_le_zero _)
  | .keep :: es, before, a :: old, new, h1, h2, hu => by
    have h1 : (if new.isEmpty = true then [] else [⟨before, a, new⟩] : List Hunk) ++ (changeFromEdits a old es []).hunks = [] := h1
    obtain ⟨a1, a2⟩ := List.append_eq_nil_iff.mp h1
    obtain ⟨_, b2⟩ := same_text es a old [] a2 h2 (Nat.le_of_succ_le_succ hu)
    refine ⟨?_, fun e m => ?_⟩
    · cases new with
      | nil => rfl
      | cons x r => cases a1
    · rcases List.mem_cons.mp m with e' | m
      · exact e'
      · exact b2 e m
theorem all_keep : ∀ (l r : List Line), (∀ e ∈ edits l r, e = .keep) → l = r
  | [], [], _ => rfl
  | [], y :: r, h => by
    have := h (.insert y) (by rw [edits_put]; exact List.mem_cons_self)
    cases this
  | x :: l, [], h => by
    have := h .delete (by rw [edits_cut]; exact List.mem_cons_self)
    cases this
  | x :: l, y :: r, h => by
    rw [edits_both] at h
    by_cases e : x = y
    · rw [if_pos e] at h
      rw [e, all_keep l r fun e m => h e (List.mem_cons_of_mem _ m)]
    · rw [if_neg e] at h
      split at h
      · have := h .delete List.mem_cons_self
        cases this
      · have := h (.insert y) List.mem_cons_self
        cases this
theorem keep_same : ∀ (l : List Line) (before : Position) (ps : List Position), changeFromEdits before ps (edits l l) [] = ⟨[], []⟩
  | [], _, _ => rfl
  | x :: l, before, ps => by
    rw [edits_both, if_pos rfl]
    show (⟨[] ++ (changeFromEdits (ps.headD .end_) (ps.drop 1) (edits l l) []).hunks, (changeFromEdits (ps.headD .end_) (ps.drop 1) (edits l l) []).deleted⟩ : Change) = _
    rw [keep_same l]
    rfl
theorem target_same {ps : List Position} {old new : List Line} (hp : ps.length = old.length) : ((target ps old new).hunks = [] ∧ (target ps old new).deleted = []) ↔ old = new := by
  constructor
  · rintro ⟨h1, h2⟩
    refine all_keep _ _ (same_text _ _ _ _ h1 h2 ?_).2
    rw [hp]
    exact used_diff _ _ _
  · rintro rfl
    unfold target
    rw [keep_same]
    exact ⟨rfl, rfl⟩
end Lg
namespace Lg
open PySem PySem.Spec PyProof.Rows L2
/-! ### lines, texts and positions as data -/
def dN (l : List Nat) : List PyData := l.map fun (n : Nat) => PyData.int (n : Int)
def dLine (l : List Nat) : PyData := .list (dN l)
def dText (t : List (List Nat)) : PyData := .list (t.map dLine)
def dPos (x : Gf11.Position) : PyData := .tuple ((Gf11.encodePosition x).map PyData.int)
theorem eqv_ints : ∀ (l m : List Int), PyData.eqvAll (l.map PyData.int) (m.map PyData.int) = decide (l = m)
  | [], [] => rfl
  | [], _ :: _ => rfl
  | _ :: _, [] => rfl
  | a :: l, b :: m => by
    show (PyData.eqv (.int a) (.int b) && PyData.eqvAll (l.map PyData.int) (m.map PyData.int)) = _
    rw [eqv_ints l m]
    show ((a == b) && decide (l = m)) = _
    by_cases h : a = b
    · subst h
      simp
    · simp [h]
theorem dN_map (l : List Nat) : dN l = (Gf11.toInts l).map PyData.int := by
  unfold dN Gf11.toInts
  rw [List.map_map]
  rfl
theorem toInts_inj {l m : List Nat} (h : Gf11.toInts l = Gf11.toInts m) : l = m := (List.map_inj_right (f := fun (n : Nat) => (n : Int)) (fun a b e => by omega)).mp h
theorem eqv_line (l m : List Nat) : PyData.eqv (dLine l) (dLine m) = decide (l = m) := by
  show PyData.eqvAll (dN l) (dN m) = _
  rw [dN_map, dN_map, eqv_ints]
  by_cases h : l = m
  · subst h
    simp
  · rw [decide_eq_false h, decide_eq_false fun e => h (toInts_inj e)]
theorem eqv_text : ∀ (t u : List (List Nat)), PyData.eqvAll (t.map dLine) (u.map dLine) = decide (t = u)
  | [], [] => rfl
  | [], _ :: _ => rfl
  | _ :: _, [] => rfl
  | a :: t, b :: u => by
    show (PyData.eqv (dLine a) (dLine b) && PyData.eqvAll (t.map dLine) (u.map dLine)) = _
    rw [eqv_text t u, eqv_line]
    by_cases h : a = b
    · subst h
      simp
    · simp [h]
theorem eqv_pos (x y : Gf11.Position) : PyData.eqv (dPos x) (dPos y) = decide (x = y) := by
  show PyData.eqvAll ((Gf11.encodePosition x).map PyData.int) ((Gf11.encodePosition y).map PyData.int) = _
  rw [eqv_ints]
  by_cases h : x = y
  · subst h
    simp
  · rw [decide_eq_false h, decide_eq_false fun e => h (enc_inj e)]
theorem lay_ints : ∀ (l : List Int), PyData.canLayAll0 (l.map PyData.int) = true ∧ PyData.depthAll (l.map PyData.int) = 0
  | [] => ⟨rfl, rfl⟩
  | a :: l => by
    obtain ⟨h1, h2⟩ := lay_ints l
    refine ⟨?_, ?_⟩
    · show (true && PyData.canLayAll0 (l.map PyData.int)) = true
      rw [h1]
      rfl
    · show max 0 (PyData.depthAll (l.map PyData.int)) = 0
      rw [h2]
      rfl
theorem shaped_line (l : List Nat) : SeqAt.shaped (dLine l) = true := by
  obtain ⟨h1, h2⟩ := lay_ints (Gf11.toInts l)
  rw [← dN_map] at h1 h2
  show (PyData.canLayAll0 (dN l) && decide (PyData.depthAll (dN l) + 1 ≤ 64)) = true
  rw [h1, h2]
  rfl
theorem shaped_pos (x : Gf11.Position) : SeqAt.shaped (dPos x) = true := by
  obtain ⟨h1, h2⟩ := lay_ints (Gf11.encodePosition x)
  show (PyData.canLayAll0 ((Gf11.encodePosition x).map PyData.int) && decide (PyData.depthAll ((Gf11.encodePosition x).map PyData.int) + 1 ≤ 64)) = true
  rw [h1, h2]
  rfl
theorem lay_all {α : Type} (f : α → PyData) (h : ∀ x, (f x).canLay0 = true ∧ (f x).depth = 1) : ∀ (t : List α), PyData.canLayAll0 (t.map f) = true ∧ PyData.depthAll (t.map f) ≤ 1
  | [] => ⟨rfl, Nat.zero_le _⟩
  | a :: t => by
    obtain ⟨h1, h2⟩ := lay_all f h t
    obtain ⟨a1, a2⟩ := h a
    refine ⟨?_, ?_⟩
    · show ((f a).canLay0 && PyData.canLayAll0 (t.map f)) = true
      rw [a1, h1]
      rfl
    · show max (f a).depth (PyData.depthAll (t.map f)) ≤ 1
      rw [a2]
      omega
theorem line_lay (l : List Nat) : (dLine l).canLay0 = true ∧ (dLine l).depth = 1 := by
  obtain ⟨h1, h2⟩ := lay_ints (Gf11.toInts l)
  rw [← dN_map] at h1 h2
  refine ⟨h1, ?_⟩
  show PyData.depthAll (dN l) + 1 = 1
  rw [h2]
theorem pos_lay (x : Gf11.Position) : (dPos x).canLay0 = true ∧ (dPos x).depth = 1 := by
  obtain ⟨h1, h2⟩ := lay_ints (Gf11.encodePosition x)
  refine ⟨h1, ?_⟩
  show PyData.depthAll ((Gf11.encodePosition x).map PyData.int) + 1 = 1
  rw [h2]
theorem shaped_list {α : Type} (f : α → PyData) (h : ∀ x, (f x).canLay0 = true ∧ (f x).depth = 1) (t : List α) : SeqAt.shaped (.list (t.map f)) = true := by
  obtain ⟨h1, h2⟩ := lay_all f h t
  show (PyData.canLayAll0 (t.map f) && decide (PyData.depthAll (t.map f) + 1 ≤ 64)) = true
  rw [h1, decide_eq_true (by omega)]
  rfl
section
variable {K : PySem.W.Frag} {H : Hp}
theorem dp_ints : ∀ (l : List Int), DpAll K H (l.map V.int) (l.map PyData.int)
  | [] => .nil
  | _ :: l => .cons (.int _) (dp_ints l)
theorem dp_line {v : V} {l : List Nat} (h : LineAt H v l) : Dp K H v (dLine l) := by
  obtain ⟨a, rfl, ha⟩ := h
  unfold dLine
  rw [dN_map]
  exact .lst (SqL.of ha) (dp_ints _)
theorem dp_pos {v : V} {x : Gf11.Position} (h : PosAt H v x) : Dp K H v (dPos x) := by
  obtain ⟨a, rfl, ha⟩ := h
  exact .tup (SqT.of ha) (dp_ints _)
theorem dp_all {α : Type} {R : V → α → Prop} {f : α → PyData} (h : ∀ v x, R v x → Dp K H v (f x)) : ∀ {vs : List V} {xs : List α}, Paired R vs xs → DpAll K H vs (xs.map f)
  | _, _, .nil => .nil
  | _, _, .cons a t => .cons (h _ _ a) (dp_all h t)
end
section
variable {P : Program} {w : World} {K : PySem.W.Frag} {mg : Str → Option Value} {base : Heap} {CH CC CO CL CS : Addr}
/-! ### line_texts -/
abbrev sTex : Stmt := top 37
def spTex (CH CC : Addr) : Sp := fun vs H Q _ => ∃ (F : Hp) (v lv : V) (cs : List Gf11.Change) (ps : List (Gf11.Position × Gf11.Line)), Same F H ∧ vs = [v, lv] ∧ ChangesAt CH CC F H v cs ∧ LstAt PosAt F lv (ps.map (·.1)) ∧
  (∀ x ∈ ps, ∃ p c i, cs[p]? = some c ∧ x.1 = .line p i ∧ (Gf11.insertedLines c)[i]? = some x.2) ∧ (∀ (p : Nat) (c : Gf11.Change), cs[p]? = some c → (Gf11.insertedLines c).length ≤ 1000) ∧ ps.length ≤ 1000 ∧
  ∀ (F' H' : Hp) (r : V), Ext F H F' H' → LstAt LineAt F' r (ps.map (·.2)) → Q r H'
def nTex : List Str := ["changes", "lines", "line"]
theorem scTex : FnScope ["changes", "lines", "line"] ["changes", "lines"] (defScope sTex) := ⟨rfl, rfl, rfl, by decide +kernel, rfl, by decide +kernel, by decide +kernel⟩
theorem ok_tex {f fI : Addr} {fd fdI : FuncData} (F : Fun K "line_texts" "line_texts" sTex f fd) (T : Txt K mg CH CC CO CL CS) (FI : Fun K "inserted_lines" "inserted_lines" sIns fI fdI) (gI : mg "inserted_lines" = some (.ref fI)) :
    FnOk P w K mg base CX0 2 f fd ["changes", "lines"] (spTex CH CC) := by
  have GI : FnOk P w K mg base CX0 1 fI fdI ["change"] (spIns CH CC) := ok_ins FI T
  have bI : Binds K fdI ["change"] [] := FI.binds fun _ _ _ _ _ _ us hl => match us, hl with | [_], _ => rfl
  refine F.ok scTex (fun vs H Q E h => ?_) (fun cdv A outer s H vs Q E hr h => ⟨_,
    pss_one (ps_ret (pe_lc (own := [("line", 2)]) (g := gName 2) (tt := tYes) (te := tOp (rIxL K) (tCall (spIns CH CC) [] E0 (tCons (tOp (rIxL K) (tVar 0) (tOp (rIxT K) (tVar 2) (tC (.int 0)))) tNil)) (tOp (rIxT K) (tVar 2) (tC (.int 1)))) (by rfl) scTex.nd (pi_list (pv 1))
      (blkOk_by (N := nTex) (sc := defScope sTex) (by decide +kernel)) (fun _ _ _ _ _ => pg_name (i := 2) scTex.nd rfl (Or.inl rfl)) (fun _ _ _ _ _ => pts_nil)
      (fun _ _ _ _ _ => pe_ix ix_list (pe_call GI hr (by rfl) gI FI.kp bI .nil pass0 (pa_cons (pe_ix ix_list (pv 0) (pe_ix ix_tup (pv 2) pe_int (fun _ _ => rfl)) (fun _ _ => rfl)) pa_nil)) (pe_ix ix_tup (pv 2) pe_int (fun _ _ => rfl)) (fun _ _ => rfl)))), ?_⟩)
  · obtain ⟨F0, v, lv, cs, ps, _, rfl, _⟩ := h
    rfl
  · obtain ⟨F0, v, lv, cs, ps, hF, rfl, ⟨lc, cvs, rfl, hlc, hcp⟩, ⟨pl, pvs, rfl, hpl, pp⟩, hps, h8, le, k⟩ := h
    refine ⟨_, rfl, pl, rfl, ⟨pvs, SqL.of (hF _ _ hpl)⟩, fun D nD => ?_⟩
    refine lc_list (K := K) (a := pl) (xs := pvs) (fun i H2 => ∃ F2 us, Ext F0 H F2 H2 ∧ F2 D = none ∧ H2 D = some (.lst us) ∧ Paired (LineAt F2) us ((ps.take i).map (·.2)))
      ⟨F0, [], (Ext.refl hF).tmp nD, hF.free nD, upd_same, .nil⟩ (fun i H2 _ ⟨_, _, X, _⟩ => SqL.of (X.fh _ _ (X.ff _ _ hpl))) ?_ ?_
    · rintro i y H2 hi ⟨F2, us, X, fD, hD, pu⟩
      obtain ⟨x, ex, hx⟩ := Paired.get pp hi
      rw [List.getElem?_map] at ex
      obtain ⟨z, ez, rfl⟩ := Option.map_eq_some_iff.mp ex
      obtain ⟨p, c, j, ec, exz, el⟩ := hps z (List.mem_of_getElem? ez)
      obtain ⟨cv, ecv, hcv⟩ := Paired.at hcp ec
      obtain ⟨t, rfl, ht⟩ := hx
      rw [exz, pos_line] at ht
      have up : ∀ {a u}, F0 a = some u → H2 a = some u := fun e => X.fh _ _ (X.ff _ _ e)
      refine ⟨rfl, _, rfl, _, rfl, t, _, 0, _, rfl, rfl, SqT.of (up ht), atI_nat (j := 0) rfl, lc, cvs, _, cv, rfl, rfl, SqL.of (X.hh _ _ hlc), atI_nat ecv, F2, cv, c, X.fh, rfl, ChangeAt.mono X.ff _ _ hcv, h8 p c ec, fun F3 H3 r Y hr => ?_⟩
      obtain ⟨a, ls, rfl, hla, hlp⟩ := hr
      obtain ⟨lv, elv, hlv⟩ := Paired.at hlp el
      have lu : us.length < sizeLine := by
        rw [Paired.len pu, List.length_map, List.length_take]
        exact Nat.lt_of_le_of_lt (m := 1000) (by omega) (by decide)
      have hD3 := Y.hh _ _ hD
      have fD3 := Y.out fD hD
      refine ⟨_, rfl, t, _, 1, _, rfl, rfl, SqT.of (Y.hh _ _ (up ht)), atI_nat (j := 1) rfl, a, ls, _, lv, rfl, rfl, SqL.of (Y.fh _ _ hla), atI_nat elv, us, hD3, lu, F3, us ++ [lv], (X.trans Y).put fD3 nD, fD3, upd_same, ?_⟩
      rw [take_more ez, List.map_append]
      exact Paired.app (Paired.imp (fun v x => LineAt.mono Y.ff v x) pu) (Paired.one hlv)
    · rintro H2 ⟨F2, us, X, fD, hD, pu⟩
      rw [Paired.len pp, List.length_map, List.take_length] at pu
      have Z := X.freeze hD fD nD
      exact k _ _ _ Z ⟨D, us, rfl, upd_same, Paired.imp (fun v x => LineAt.mono (same_new (Same.refl F2) fD) v x) pu⟩
end
end Lg
namespace Lg
open PySem PySem.Spec PyProof.Rows L2
/-! ### a table of numbers -/
abbrev Mat := List (List Int)
def Mat.g (M : Mat) (i j : Nat) : Int := (M.getD i []).getD j 0
def Mat.p (M : Mat) (i j : Nat) (v : Int) : Mat := M.set i ((M.getD i []).set j v)
theorem getD_set_eq {α : Type} {l : List α} {i : Nat} {x d : α} (h : i < l.length) : (l.set i x).getD i d = x := by
  rw [getD_el (by rw [List.length_set]; exact h), List.getElem_set_self]
theorem getD_set_ne {α : Type} {l : List α} {i k : Nat} {x d : α} (h : k ≠ i) : (l.set i x).getD k d = l.getD k d := by
  rw [List.getD_eq_getElem?_getD, List.getElem?_set_ne (Ne.symm h), ← List.getD_eq_getElem?_getD]
theorem Mat.g_eq {M : Mat} {i j : Nat} {v : Int} (hi : i < M.length) (hj : j < (M.getD i []).length) : (M.p i j v).g i j = v := by
  unfold Mat.g Mat.p
  rw [getD_set_eq hi, getD_set_eq hj]
theorem Mat.g_ne {M : Mat} {i j a b : Nat} {v : Int} (hi : i < M.length) (h : ¬ (a = i ∧ b = j)) : (M.p i j v).g a b = M.g a b := by
  unfold Mat.g Mat.p
  by_cases c : a = i
  · subst c
    rw [getD_set_eq hi, getD_set_ne fun e => h ⟨rfl, e⟩]
  · rw [getD_set_ne c]
/-- the table as lists in the heap, each of its own -/
structure MatAt (F H0 H : Hp) (D : Addr) (as : List Addr) (M : Mat) (n m : Nat) : Prop where
  at_ : H D = some (.lst (as.map V.ref))
  rows : Paired (fun a (row : List Int) => H a = some (.lst (row.map V.int)) ∧ F a = none ∧ H0 a = none) as M
  nd : as.Nodup
  out : D ∉ as
  no : F D = none
  no0 : H0 D = none
  n : M.length = n
  m : ∀ row ∈ M, row.length = m
theorem MatAt.row {F H0 H : Hp} {D : Addr} {as : List Addr} {M : Mat} {n m i : Nat} (h : MatAt F H0 H D as M n m) (hi : i < n) : ∃ a, as[i]? = some a ∧ H a = some (.lst ((M.getD i []).map V.int)) ∧ F a = none ∧ H0 a = none ∧ (M.getD i []).length = m := by
  have hi' : i < M.length := by rw [h.n]; exact hi
  obtain ⟨a, ea, h1, h2, h3⟩ := Paired.at h.rows (List.getElem?_eq_getElem hi')
  rw [getD_el hi']
  exact ⟨a, ea, h1, h2, h3, h.m _ (List.getElem_mem hi')⟩
theorem MatAt.get {F H0 H : Hp} {D : Addr} {as : List Addr} {M : Mat} {n m i j : Nat} (h : MatAt F H0 H D as M n m) (hi : i < n) (hj : j < m) : ∃ a, (as.map V.ref)[i]? = some (.ref a) ∧ H a = some (.lst ((M.getD i []).map V.int)) ∧ ((M.getD i []).map V.int)[j]? = some (.int (M.g i j)) := by
  obtain ⟨a, ea, h1, _, _, l⟩ := h.row hi
  refine ⟨a, by rw [List.getElem?_map, ea]; rfl, h1, ?_⟩
  rw [List.getElem?_map, List.getElem?_eq_getElem (by rw [l]; exact hj)]
  unfold Mat.g
  rw [getD_el (l := M.getD i []) (by rw [l]; exact hj)]
  rfl
theorem paired_set {α β : Type} {F G : α → β → Prop} {a : α} {b : β} : ∀ {l : List α} {m : List β} (i : Nat), Paired F l m → l.Nodup → l[i]? = some a → G a b → (∀ x y, x ≠ a → F x y → G x y) → Paired G l (m.set i b)
  | _, _, _, .nil, _, h, _, _ => by cases h
  | x :: l, y :: m, 0, .cons h t, nd, e, g, k => by
    cases Option.some.inj e
    obtain ⟨n1, n2⟩ := List.nodup_cons.mp nd
    refine .cons g ?_
    have : ∀ {l : List α} {m : List β}, Paired F l m → a ∉ l → Paired G l m := fun {l m} p hx => by
      induction p with
      | nil => exact .nil
      | cons h t ih => exact .cons (k _ _ (fun e => hx (by rw [e]; exact List.mem_cons_self)) h) (ih fun m => hx (List.mem_cons_of_mem _ m))
    exact this t n1
  | x :: l, y :: m, i + 1, .cons h t, nd, e, g, k => by
    obtain ⟨n1, n2⟩ := List.nodup_cons.mp nd
    have ne : x ≠ a := fun c => n1 (by rw [c]; exact List.mem_of_getElem? e)
    exact .cons (k _ _ ne h) (paired_set i t n2 e g k)
theorem paired_out {α β : Type} {F : α → β → Prop} {d : α} : ∀ {l : List α} {m : List β}, Paired F l m → d ∉ l → Paired (fun a b => F a b ∧ a ≠ d) l m
  | _, _, .nil, _ => .nil
  | _, _, .cons h t, hd => .cons ⟨h, fun e => hd (by rw [e]; exact List.mem_cons_self)⟩ (paired_out t fun m => hd (List.mem_cons_of_mem _ m))
theorem MatAt.put {F H0 H : Hp} {D : Addr} {as : List Addr} {M : Mat} {n m i j : Nat} {v : Int} {a : Addr} (h : MatAt F H0 H D as M n m) (hi : i < n) (ea : as[i]? = some a) : MatAt F H0 (upd H a (.lst (((M.getD i []).map V.int).set j (.int v)))) D as (M.p i j v) n m where
  at_ := by
    rw [upd_ne fun e => h.out (by rw [e]; exact List.mem_of_getElem? ea)]
    exact h.at_
  rows := by
    refine paired_set i h.rows h.nd ea ⟨?_, ?_⟩ fun x y ne ⟨h1, h2⟩ => ⟨by rw [upd_ne ne]; exact h1, h2⟩
    · rw [upd_same, List.map_set]
    · obtain ⟨a', ea', _, h2, h3, _⟩ := h.row hi
      rw [ea] at ea'
      cases ea'
      exact ⟨h2, h3⟩
  nd := h.nd
  out := h.out
  no := h.no
  no0 := h.no0
  n := by
    unfold Mat.p
    rw [List.length_set]
    exact h.n
  m := fun row hr => by
    unfold Mat.p at hr
    rcases List.mem_or_eq_of_mem_set hr with hr | rfl
    · exact h.m row hr
    · rw [List.length_set]
      obtain ⟨_, _, _, _, _, l⟩ := h.row hi
      exact l
theorem MatAt.keep {F H0 H H' : Hp} {D : Addr} {as : List Addr} {M : Mat} {n m : Nat} (h : MatAt F H0 H D as M n m) (s : Same H H') : MatAt F H0 H' D as M n m where
  at_ := s _ _ h.at_
  rows := Paired.imp (fun _ _ ⟨a, b⟩ => ⟨s _ _ a, b⟩) h.rows
  nd := h.nd
  out := h.out
  no := h.no
  no0 := h.no0
  n := h.n
  m := h.m
/-- what is known: all behind place (i, j), row by row from the end, and the last column -/
def Known (old new : List Gf11.Line) (M : Mat) (i0 j0 : Nat) : Prop := ∀ i j, i ≤ old.length → j ≤ new.length → (i0 < i ∨ (i = i0 ∧ j0 ≤ j) ∨ j = new.length) → M.g i j = (Gf11.lcsLength (old.drop i) (new.drop j) : Int)
def TblAt (F : Hp) (v : V) (old new : List Gf11.Line) : Prop := ∃ (a : Addr) (as : List Addr), v = .ref a ∧ F a = some (.lst (as.map V.ref)) ∧ ∀ i j, i ≤ old.length → j ≤ new.length → ∃ b row, as[i]? = some b ∧ F b = some (.lst row) ∧ row[j]? = some (.int (Gf11.lcsLength (old.drop i) (new.drop j) : Int))
theorem TblAt.mono {F F' : Hp} (s : Same F F') {v : V} {old new : List Gf11.Line} (h : TblAt F v old new) : TblAt F' v old new := by
  obtain ⟨a, as, e, ha, k⟩ := h
  exact ⟨a, as, e, s _ _ ha, fun i j hi hj => let ⟨b, row, e1, e2, e3⟩ := k i j hi hj; ⟨b, row, e1, s _ _ e2, e3⟩⟩
section
variable {P : Program} {w : World} {K : PySem.W.Frag} {mg : Str → Option Value} {base : Heap} {CH CC CO CL CS : Addr}
/-! ### kept_counts -/
abbrev sCnt : Stmt := top 39
def spCnt : Sp := fun vs H Q _ => ∃ (F : Hp) (ov nv : V) (old new : List Gf11.Line), Same F H ∧ vs = [ov, nv] ∧ LstAt LineAt F ov old ∧ LstAt LineAt F nv new ∧ old.length ≤ 100 ∧ new.length ≤ 100 ∧
  ∀ (F' H' : Hp) (r : V), Ext F H F' H' → TblAt F' r old new → Q r H'
def nCnt : List Str := ["old", "new", "counts", "i", "j", "place"]
theorem scCnt : FnScope ["old", "new", "counts", "i", "j", "place"] ["old", "new"] (defScope sCnt) := ⟨rfl, rfl, rfl, by decide +kernel, rfl, by decide +kernel, by decide +kernel⟩
theorem flat_zero : ∀ n : Nat, (List.replicate n [V.int 0]).flatten = (List.replicate n (0 : Int)).map V.int
  | 0 => rfl
  | n + 1 => by
    rw [List.replicate_succ, List.replicate_succ, List.flatten_cons, flat_zero n]
    rfl
theorem ok_cnt {f : Addr} {fd : FuncData} (F : Fun K "kept_counts" "kept_counts" sCnt f fd) (T : Txt K mg CH CC CO CL CS) : FnOk P w K mg base CX0 1 f fd ["old", "new"] spCnt := by
  refine F.ok scCnt (fun vs H Q E h => ?_) (fun cdv A outer s H vs Q E hr h => ⟨_,
    pss_cons (ps_setLc (i := 2) (own := [("place", 5)]) (g := gName 5) (tt := tYes) (te := tOp rRep (tLst (tCons (tC (.int 0)) tNil)) (tOp (rI0 fun i j => .int (i + j)) (tCB (fun xs H Q => ∃ x n, xs = [x] ∧ LenV K x H n ∧ Q (.int n) H) (tCons (tVar 1) tNil)) (tC (.int 1)))) rfl scCnt.nd rfl rfl (sw_true rfl rfl rfl (by decide +kernel))
        (pi_range1 (by rfl) T.range (pa_cons (pe_op op_add (pe_callB call_len (by rfl) T.len PySem.boot_len (pa_cons (pv 0) pa_nil)) pe_int) pa_nil)) (blkOk_by (N := nCnt) (sc := defScope sCnt) (by decide +kernel)) (fun _ _ _ _ _ => pg_name (i := 5) scCnt.nd rfl (Or.inl rfl)) (fun _ _ _ _ _ => pts_nil)
        (fun _ _ _ _ _ => pe_op op_rep (pe_lst (pa_cons pe_int pa_nil)) (pe_op op_add (pe_callB call_len (by rfl) T.len PySem.boot_len (pa_cons (pv 1) pa_nil)) pe_int)))
    (pss_cons (ps_for PassesOwn.never rfl (pi_range3 (by rfl) T.range (pa_cons (pe_op op_sub (pe_callB call_len (by rfl) T.len PySem.boot_len (pa_cons (pv 0) pa_nil)) pe_int) (pa_cons (pe_un un_neg pe_int) (pa_cons (pe_un un_neg pe_int) pa_nil)))) (pg_name (i := 3) scCnt.nd rfl (Or.inl rfl))
      (pss_one (ps_for PassesOwn.never rfl (pi_range3 (by rfl) T.range (pa_cons (pe_op op_sub (pe_callB call_len (by rfl) T.len PySem.boot_len (pa_cons (pv 1) pa_nil)) pe_int) (pa_cons (pe_un un_neg pe_int) (pa_cons (pe_un un_neg pe_int) pa_nil)))) (pg_name (i := 4) scCnt.nd rfl (Or.inl rfl))
        (pss_one (ps_if (pt_cmpR (op_eqD hr.units) (pe_ix ix_list (pv 0) (pv 3) (fun _ _ => rfl)) (pe_ix ix_list (pv 1) (pv 4) (fun _ _ => rfl)) (nomark _))
          (pss_one (ps_asg (pe_op op_add (pe_ix ix_list (pe_ix ix_list (pv 2) (pe_op op_add (pv 3) pe_int) (fun _ _ => rfl)) (pe_op op_add (pv 4) pe_int) (fun _ _ => rfl)) pe_int) (pg_sub (pe_ix ix_list (pv 2) (pv 3) (fun _ _ => rfl)) (pv 4) set_list)))
          (pss_one (ps_asg (pe_callB (call_max2 rfl) (by rfl) T.max (by decide +kernel) (pa_cons (pe_ix ix_list (pe_ix ix_list (pv 2) (pe_op op_add (pv 3) pe_int) (fun _ _ => rfl)) (pv 4) (fun _ _ => rfl)) (pa_cons (pe_ix ix_list (pe_ix ix_list (pv 2) (pv 3) (fun _ _ => rfl)) (pe_op op_add (pv 4) pe_int) (fun _ _ => rfl)) pa_nil))) (pg_sub (pe_ix ix_list (pv 2) (pv 3) (fun _ _ => rfl)) (pv 4) set_list))))))))
    (pss_one (ps_ret (pv 2)))), ?_⟩)
  · obtain ⟨F0, ov, nv, old, new, _, rfl, _⟩ := h
    rfl
  · obtain ⟨F0, ov, nv, old, new, hF, rfl, ⟨ol, ovs, rfl, hol, po⟩, ⟨nl, nvs, rfl, hnl, pn⟩, lo, ln, k⟩ := h
    have eo : ovs.length = old.length := Paired.len po
    have en : nvs.length = new.length := Paired.len pn
    -- counts = [[0] * (len(new) + 1) for place in range(len(old) + 1)]
    refine ⟨_, rfl, _, ovs.length, rfl, Or.inl ⟨ovs, SqL.of (hF _ _ hol), rfl⟩, _, _, rfl, rfl, _, rfl, by omega, by omega, fun D nD => ?_⟩
    have D0 := hF.free nD
    refine lc_range (lo := 0) (n := ((ovs.length : Int) + 1).toNat) (fun i H2 => ∃ as, Ext F0 H F0 H2 ∧ MatAt F0 H H2 D as (List.replicate i (List.replicate (new.length + 1) 0)) i (new.length + 1)) ?_ ?_ ?_
    · exact ⟨[], (Ext.refl hF).tmp nD, ⟨upd_same, .nil, List.nodup_nil, (by intro h; cases h), D0, nD, rfl, fun row m => (by cases m)⟩⟩
    · rintro i H2 hi ⟨as, X, M⟩
      refine ⟨rfl, (by show 1 ≤ sizeLine; decide), fun l1 n1 => ?_⟩
      have X1 := X.tmp n1 (o := .lst [.int 0])
      refine ⟨_, rfl, _, nvs.length, rfl, Or.inl ⟨nvs, SqL.of (X1.fh _ _ hnl), rfl⟩, _, _, rfl, rfl, l1, _, [.int 0], rfl, rfl, upd_same, by omega, by omega, ?_, fun l2 n2 => ?_⟩
      · exact Nat.le_trans (m := 200) (by simp only [List.length_cons, List.length_nil]; omega) (by decide)
      · have X2 := X1.tmp n2 (o := .lst (List.replicate ((nvs.length : Int) + 1).toNat [V.int 0]).flatten)
        have M1 := M.keep (same_new (o := HO.lst [.int 0]) (Same.refl H2) n1)
        have M2 := M1.keep (same_new (o := HO.lst (List.replicate ((nvs.length : Int) + 1).toNat [V.int 0]).flatten) (Same.refl _) n2)
        have lr : as.length = i := by
          rw [Paired.len M.rows, List.length_replicate]
        have Dl := ne_new M1.at_ n2
        have nin : l2 ∉ as := fun h => by
          obtain ⟨j, hj⟩ := List.getElem?_of_mem h
          obtain ⟨row, _, e1, _⟩ := Paired.get M1.rows hj
          rw [n2] at e1
          cases e1
        have ef : (List.replicate ((nvs.length : Int) + 1).toNat [V.int 0]).flatten = (List.replicate (new.length + 1) (0 : Int)).map V.int := by
          have : ((nvs.length : Int) + 1).toNat = new.length + 1 := by omega
          rw [this, flat_zero]
        refine ⟨as.map V.ref, M2.at_, ?_, as ++ [l2], X2.put D0 nD, ⟨?_, ?_, ?_, ?_, D0, nD, List.length_replicate, fun row m => ?_⟩⟩
        · rw [List.length_map, lr]
          exact Nat.lt_of_le_of_lt (m := 200) (by omega) (by decide)
        · rw [upd_same, List.map_append]
          rfl
        · rw [List.replicate_succ']
          refine Paired.app ?_ (Paired.one ⟨?_, (X1.fh.free n2), X1.hh.free n2⟩)
          · exact Paired.imp (fun a row h => ⟨by rw [upd_ne h.2]; exact h.1.1, h.1.2⟩) (paired_out M2.rows M.out)
          · rw [upd_ne (Ne.symm Dl), upd_same, ef]
        · exact nd_snoc M.nd nin
        · intro h
          rcases List.mem_append.mp h with h | h
          · exact M.out h
          · exact Dl (List.mem_singleton.mp h)
        · rw [(List.mem_replicate.mp m).2, List.length_replicate]
    · rintro H2 ⟨as, X, M⟩
      have e1 : ((ovs.length : Int) + 1).toNat = old.length + 1 := by omega
      rw [e1] at M
      have kn0 : Known old new (List.replicate (old.length + 1) (List.replicate (new.length + 1) 0)) old.length 0 := fun i j hi hj hk => by
        have g0 : Mat.g (List.replicate (old.length + 1) (List.replicate (new.length + 1) 0)) i j = 0 := by
          have r0 : (List.replicate (old.length + 1) (List.replicate (new.length + 1) (0 : Int))).getD i [] = List.replicate (new.length + 1) 0 := by
            rw [getD_el (by rw [List.length_replicate]; omega), List.getElem_replicate]
          unfold Mat.g
          rw [r0, getD_el (by rw [List.length_replicate]; omega), List.getElem_replicate]
        rw [g0]
        rcases hk with c | c | c
        · omega
        · rw [c.1, List.drop_of_length_le (Nat.le_refl _), lcs_nil]
          rfl
        · rw [c, List.drop_of_length_le (Nat.le_refl _), lcs_right]
          rfl
      -- for i in range(len(old) - 1, -1, -1)
      refine ⟨_, rfl, _, ovs.length, rfl, Or.inl ⟨ovs, SqL.of (X.fh _ _ hol), rfl⟩, _, _, rfl, rfl, _, rfl, _, rfl, _, _, _, _, rfl, RgC.neg (by omega) (by omega) (by decide) (by decide), ?_⟩
      refine for_rangeC (lo := (ovs.length : Int) - 1) (c := -1) (n := ((ovs.length : Int) - 1 - -1).toNat) (fun t σ H3 => ∃ u3 u4 M, σ = [some (.ref ol), some (.ref nl), some (.ref D), u3, u4, none] ∧ Ext F0 H F0 H3 ∧ MatAt F0 H H3 D as M (old.length + 1) (new.length + 1) ∧ Known old new M (old.length - t) 0)
        ⟨none, none, _, rfl, X, M, kn0⟩ ?_ ?_
      · rintro t σ H3 ht ⟨u3, u4, M3, rfl, X3, A3, K3⟩
        have lt : t < old.length := by omega
        refine ⟨_, rfl, _, nvs.length, rfl, Or.inl ⟨nvs, SqL.of (X3.fh _ _ hnl), rfl⟩, _, _, rfl, rfl, _, rfl, _, rfl, _, _, _, _, rfl, RgC.neg (by omega) (by omega) (by decide) (by decide), ?_⟩
        refine for_rangeC (lo := (nvs.length : Int) - 1) (c := -1) (n := ((nvs.length : Int) - 1 - -1).toNat) (fun q σ H4 => ∃ u4 M, σ = [some (.ref ol), some (.ref nl), some (.ref D), some (.int ((ovs.length : Int) - 1 + (t : Nat) * -1)), u4, none] ∧ Ext F0 H F0 H4 ∧ MatAt F0 H H4 D as M (old.length + 1) (new.length + 1) ∧
            Known old new M (old.length - 1 - t) (new.length - q))
          ⟨u4, M3, rfl, X3, A3, fun i j hi hj hk => K3 i j hi hj ?_⟩ ?_ ?_
        · rcases hk with c | c | c
          · by_cases c2 : i = old.length - t
            · exact .inr (.inl ⟨c2, Nat.zero_le _⟩)
            · exact .inl (by omega)
          · exact .inr (.inr (by omega))
          · exact .inr (.inr c)
        · rintro q σ H4 hq ⟨u4, M4, rfl, X4, A4, K4⟩
          have lq : q < new.length := by omega
          have hi : old.length - 1 - t < old.length := by omega
          have hj : new.length - 1 - q < new.length := by omega
          have ei : (ovs.length : Int) - 1 + (t : Nat) * -1 = ((old.length - 1 - t : Nat) : Int) := by omega
          have ej : (nvs.length : Int) - 1 + (q : Nat) * -1 = ((new.length - 1 - q : Nat) : Int) := by omega
          obtain ⟨i, hi0⟩ : ∃ i, i = old.length - 1 - t := ⟨_, rfl⟩
          obtain ⟨j, hj0⟩ : ∃ j, j = new.length - 1 - q := ⟨_, rfl⟩
          rw [← hi0] at ei hi K4 ⊢
          rw [← hj0] at ej hj
          have hq1 : new.length - q = j + 1 := by omega
          have hq2 : new.length - (q + 1) = j := by omega
          rw [hq1] at K4
          rw [hq2]
          have oi := List.getElem?_eq_getElem hi
          have nj := List.getElem?_eq_getElem hj
          obtain ⟨w1, ew1, hw1⟩ := Paired.at po oi
          obtain ⟨w2, ew2, hw2⟩ := Paired.at pn nj
          have ix1 : atI ovs ((ovs.length : Int) - 1 + (t : Nat) * -1) = some w1 := by
            rw [ei]
            exact atI_nat ew1
          have ix2 : atI nvs ((nvs.length : Int) - 1 + (q : Nat) * -1) = some w2 := by
            rw [ej]
            exact atI_nat ew2
          obtain ⟨a0, ea0, h0, f0, z0, l0⟩ := A4.row (i := i) (by omega)
          have ea0' : (as.map V.ref)[i]? = some (.ref a0) := by rw [List.getElem?_map, ea0]; rfl
          have ixr : atI (as.map V.ref) ((ovs.length : Int) - 1 + (t : Nat) * -1) = some (.ref a0) := by
            rw [ei]
            exact atI_nat ea0'
          have ejx : (nvs.length : Int) - 1 + (q : Nat) * -1 = ((j : Nat) : Int) := ej
          have ixj : ixN ((M4.getD i []).map V.int).length ((nvs.length : Int) - 1 + (q : Nat) * -1) = some j := by
            rw [ej, List.length_map, l0]
            unfold ixN
            rw [if_pos (by omega), if_pos (by omega)]
            simp
          have ei1 : (ovs.length : Int) - 1 + (t : Nat) * -1 + 1 = ((i + 1 : Nat) : Int) := by omega
          have ej1 : (nvs.length : Int) - 1 + (q : Nat) * -1 + 1 = ((j + 1 : Nat) : Int) := by omega
          have fin : ∀ (v : Int), v = (Gf11.lcsLength (old.drop i) (new.drop j) : Int) → Known old new (M4.p i j v) i j := fun v hv a b ha hb hk => by
            by_cases c : a = i ∧ b = j
            · obtain ⟨rfl, rfl⟩ := c
              rw [Mat.g_eq (by rw [A4.n]; omega) (by rw [l0]; omega)]
              exact hv
            · rw [Mat.g_ne (by rw [A4.n]; omega) c]
              refine K4 a b ha hb ?_
              rcases hk with c1 | c1 | c1
              · exact .inl c1
              · exact .inr (.inl ⟨c1.1, by omega⟩)
              · exact .inr (.inr c1)
          refine ⟨_, rfl, _, rfl, ol, ovs, _, w1, rfl, rfl, SqL.of (X4.fh _ _ hol), ix1, _, rfl, _, rfl, nl, nvs, _, w2, rfl, rfl, SqL.of (X4.fh _ _ hnl), ix2, dLine old[i], dLine new[j], dp_line (LineAt.mono X4.fh _ _ hw1), dp_line (LineAt.mono X4.fh _ _ hw2), shaped_line _, shaped_line _, _, rfl, ?_⟩
          rw [eqv_line]
          have dr := List.drop_eq_getElem_cons hi
          have dn := List.drop_eq_getElem_cons hj
          by_cases c : old[i] = new[j]
          · obtain ⟨a1, ea1, h1, g1⟩ := A4.get (i := i + 1) (j := j + 1) (by omega) (by omega)
            refine ifT (decide_eq_true c) ⟨_, rfl, _, rfl, _, _, rfl, rfl, D, _, _, _, rfl, rfl, SqL.of A4.at_, by rw [ei1]; exact atI_nat ea1, _, rfl, _, _, rfl, rfl, a1, _, _, _, rfl, rfl, SqL.of h1, by rw [ej1]; exact atI_nat g1, _, _, rfl, rfl, ?_⟩
            refine ⟨_, rfl, _, rfl, D, _, _, _, rfl, rfl, SqL.of A4.at_, ixr, _, rfl, a0, _, _, j, rfl, rfl, h0, ixj, ?_⟩
            refine ⟨_, _, rfl, X4.put f0 z0, A4.put (by omega) ea0, fin _ ?_⟩
            rw [K4 (i + 1) (j + 1) hi hj (.inl (Nat.lt_succ_self i)), dr, dn, lcs_cons, if_pos c]
            omega
          · obtain ⟨a1, ea1, h1, g1⟩ := A4.get (i := i + 1) (j := j) (by omega) (by omega)
            obtain ⟨a2, ea2, h2, g2⟩ := A4.get (i := i) (j := j + 1) (by omega) (by omega)
            have hx2 : atI ((M4.getD i []).map V.int) ((nvs.length : Int) - 1 + (q : Nat) * -1 + 1) = some (.int (M4.g i (j + 1))) := by
              rw [ej1]
              exact atI_nat g2
            refine ifF (decide_eq_false c) ⟨_, rfl, _, rfl, _, _, rfl, rfl, D, _, _, _, rfl, rfl, SqL.of A4.at_, by rw [ei1]; exact atI_nat ea1, _, rfl, a1, _, _, _, rfl, rfl, SqL.of h1, by rw [ej]; exact atI_nat g1, ?_⟩
            refine ⟨_, rfl, _, rfl, D, _, _, _, rfl, rfl, SqL.of A4.at_, ixr, _, rfl, _, _, rfl, rfl, a0, _, _, _, rfl, rfl, SqL.of h0, hx2, _, _, rfl, ?_⟩
            · refine ⟨_, rfl, _, rfl, D, _, _, _, rfl, rfl, SqL.of A4.at_, ixr, _, rfl, a0, _, _, j, rfl, rfl, h0, ixj, ?_⟩
              refine ⟨_, _, rfl, X4.put f0 z0, A4.put (by omega) ea0, fin _ ?_⟩
              rw [K4 (i + 1) j hi (by omega) (.inl (Nat.lt_succ_self i)), K4 i (j + 1) (by omega) hj (.inr (.inl ⟨rfl, Nat.le_refl _⟩)), dr, dn, lcs_cons, if_neg c, ← dr, ← dn]
              split <;> omega
        · rintro σ H4 ⟨u4, M4, rfl, X4, A4, K4⟩
          refine ⟨_, _, M4, rfl, X4, A4, ?_⟩
          have e2 : old.length - (t + 1) = old.length - 1 - t := by omega
          have e3 : new.length - ((nvs.length : Int) - 1 - -1).toNat = 0 := by omega
          rw [e2]
          rw [e3] at K4
          exact K4
      · rintro σ H3 ⟨u3, u4, M3, rfl, X3, A3, K3⟩
        obtain ⟨Z, S⟩ := Ext.all hF X3
        refine ⟨_, rfl, k _ _ _ Z ⟨D, as, rfl, by rw [frz_new nD]; exact A3.at_, fun i j hi hj => ?_⟩⟩
        obtain ⟨a, ea, h1, _, z1, l1⟩ := A3.row (i := i) (by omega)
        refine ⟨a, _, ea, by rw [frz_new z1]; exact h1, ?_⟩
        obtain ⟨_, _, _, g1⟩ := A3.get (i := i) (j := j) (by omega) (by omega)
        rw [g1, K3 i j hi hj ?_]
        have e3 : old.length - ((ovs.length : Int) - 1 - -1).toNat = 0 := by omega
        rw [e3]
        by_cases c : i = 0
        · exact .inr (.inl ⟨c, Nat.zero_le _⟩)
        · exact .inl (by omega)
end
end Lg
namespace Lg
open PySem PySem.Spec PyProof.Rows L2
section
variable {P : Program} {w : World} {K : PySem.W.Frag} {mg : Str → Option Value} {base : Heap} {CH CC CO CL CS : Addr}
/-! ### Hunk, Change -/
abbrev sIH : Stmt := inClass (top 22) 0
theorem scIH : FnScope ["self", "before", "after", "inserted"] ["self", "before", "after", "inserted"] (defScope sIH) := ⟨rfl, rfl, rfl, by decide +kernel, rfl, by decide +kernel, by decide +kernel⟩
theorem put_hk (b f l : V) : putF "inserted" l (putF "after" f (putF "before" b [])) = hkF b f l := by
  have e1 : putF "after" f (putF "before" b []) = ([("before", b), ("after", f)] : List (Str × V)) := put_past (by decide +kernel)
  rw [e1]
  exact (put_past (by decide +kernel)).trans (congrArg _ (put_past (by decide +kernel)))
theorem ok_iH {f : Addr} {fd : FuncData} (F : Fun K "__init__" "Hunk.__init__" sIH f fd) (T : Txt K mg CH CC CO CL CS) : FnOk P w K mg base CX0 1 f fd ["self", "before", "after", "inserted"] (spI3 CH hkF) := by
  refine F.ok scIH (fun vs H Q E h => ?_) (fun cdv A outer s H vs Q E hr h => ⟨_, pss_cons (ps_fld (pv 0) (pv 1) rfl) (pss_cons (ps_fld (pv 0) (pv 2) rfl) (pss_one (ps_fld (pv 0) (pv 3) rfl))), ?_⟩)
  · obtain ⟨p, dx, a, b, c, rfl, _⟩ := h
    rfl
  · obtain ⟨p, dx, a, b, c, rfl, hp, k⟩ := h
    refine ⟨_, rfl, _, rfl, p, CH, dx, [], rfl, hp, T.clH, T.nBefore, (by show 0 < 1000; decide), ?_⟩
    refine ⟨_, rfl, _, rfl, p, CH, dx, _, rfl, upd_same, T.clH, T.nAfter, (by show 1 < 1000; decide), ?_⟩
    refine ⟨_, rfl, _, rfl, p, CH, dx, _, rfl, upd_same, T.clH, T.nInserted, (by show 2 < 1000; decide), ?_⟩
    refine k _ (Eq.trans upd_same (congrArg (fun q => some (HO.ins CH dx q)) (put_hk a b c))) fun q o e hq => ?_
    rw [upd_ne hq, upd_ne hq, upd_ne hq]
    exact e
abbrev sIC : Stmt := inClass (top 23) 0
theorem scIC : FnScope ["self", "hunks", "deleted"] ["self", "hunks", "deleted"] (defScope sIC) := ⟨rfl, rfl, rfl, by decide +kernel, rfl, by decide +kernel, by decide +kernel⟩
theorem put_ch (h d : V) : putF "deleted" d (putF "hunks" h []) = chF h d := put_past (by decide +kernel)
theorem ok_iC {f : Addr} {fd : FuncData} (F : Fun K "__init__" "Change.__init__" sIC f fd) (T : Txt K mg CH CC CO CL CS) : FnOk P w K mg base CX0 1 f fd ["self", "hunks", "deleted"] (spI2 CC chF) := by
  refine F.ok scIC (fun vs H Q E h => ?_) (fun cdv A outer s H vs Q E hr h => ⟨_, pss_cons (ps_fld (pv 0) (pv 1) rfl) (pss_one (ps_fld (pv 0) (pv 2) rfl)), ?_⟩)
  · obtain ⟨p, dx, a, b, rfl, _⟩ := h
    rfl
  · obtain ⟨p, dx, a, b, rfl, hp, k⟩ := h
    refine ⟨_, rfl, _, rfl, p, CC, dx, [], rfl, hp, T.clC, T.nHunks, (by show 0 < 1000; decide), ?_⟩
    refine ⟨_, rfl, _, rfl, p, CC, dx, _, rfl, upd_same, T.clC, T.nDeleted, (by show 1 < 1000; decide), ?_⟩
    refine k _ (Eq.trans upd_same (congrArg (fun q => some (HO.ins CC dx q)) (put_ch a b))) fun q o e hq => ?_
    rw [upd_ne hq, upd_ne hq]
    exact e
/-! ### make_hunks -/
abbrev sMkh : Stmt := top 40
def spMkh (CH : Addr) : Sp := fun vs H Q _ => ∃ (F : Hp) (pv gv : V) (ps : List Gf11.Position) (G : List (List Gf11.Line)), Same F H ∧ vs = [pv, gv] ∧ LstAt PosAt F pv ps ∧ LstAt (LstAt LineAt) F gv G ∧ G.length = ps.length + 1 ∧ G.length ≤ 200 ∧
  ∀ (F' H' : Hp) (r : V), Ext F H F' H' → LstAt (HunkAt CH) F' r (gapHunks ps 0 G) → Q r H'
theorem scMkh : FnScope ["positions", "gaps", "bounds", "hunks", "place"] ["positions", "gaps"] (defScope sMkh) := ⟨rfl, rfl, rfl, by decide +kernel, rfl, by decide +kernel, by decide +kernel⟩
theorem len_gap (ps : List Gf11.Position) : ∀ (G : List (List Gf11.Line)) (k : Nat), (gapHunks ps k G).length ≤ G.length
  | [], _ => Nat.le_refl _
  | g :: G, k => by
    show ((if g.isEmpty = true then [] else [_]) ++ gapHunks ps (k + 1) G).length ≤ _
    have := len_gap ps G (k + 1)
    rw [List.length_append, List.length_cons]
    split
    · show 0 + _ ≤ _
      omega
    · show 1 + _ ≤ _
      omega
theorem ok_mkh {f fG : Addr} {fd fdG : FuncData} (F : Fun K "make_hunks" "make_hunks" sMkh f fd) (T : Txt K mg CH CC CO CL CS) (M : Mk K CH fG) (FG : Fun K "__init__" "Hunk.__init__" sIH fG fdG) : FnOk P w K mg base CX0 3 f fd ["positions", "gaps"] (spMkh CH) := by
  have GG : FnOk P w K mg base CX0 1 fG fdG ["self", "before", "after", "inserted"] (spI3 CH hkF) := ok_iH FG T
  have bG : Binds K fdG ["self", "before", "after", "inserted"] [] := FG.binds fun _ _ _ _ _ _ us hl => match us, hl with | [_, _, _, _], _ => rfl
  refine F.ok scMkh (fun vs H Q E h => ?_) (fun cdv A outer s H vs Q E hr h => ⟨_,
    pss_cons (ps_set (i := 2) scMkh.nd rfl (Or.inl rfl) (pe_op op_cat (pe_op op_cat (pe_lst (pa_cons (pe_tup (pa_cons (pe_un un_neg pe_int) (pa_cons pe_int pa_nil))) pa_nil)) (pv 0)) (pe_lst (pa_cons (pe_tup (pa_cons (pe_un un_neg pe_int) (pa_cons pe_int pa_nil))) pa_nil))))
    (pss_cons (ps_set (i := 3) scMkh.nd rfl (Or.inl rfl) (pe_lst pa_nil))
    (pss_cons (ps_for PassesOwn.never rfl (pi_range1 (by rfl) T.range (pa_cons (pe_callB call_len (by rfl) T.len PySem.boot_len (pa_cons (pv 1) pa_nil)) pa_nil)) (pg_name (i := 4) scMkh.nd rfl (Or.inl rfl))
      (pss_one (ps_if (pt_truth (pe_ix ix_list (pv 1) (pv 4) (fun _ _ => rfl)) (by intro _; rfl))
        (pss_one (ps_expr (pe_bm PySem.F.plainAttrs_list PySem.F.slot_list_append PySem.F.type_list_append mt_append (pv 3) (pa_cons
          (pe_make M GG hr (by rfl) T.gH bG .nil pass0 (pa_cons (pe_ix ix_list (pv 2) (pv 4) (fun _ _ => rfl)) (pa_cons (pe_ix ix_list (pv 2) (pe_op op_add (pv 4) pe_int) (fun _ _ => rfl)) (pa_cons (pe_ix ix_list (pv 1) (pv 4) (fun _ _ => rfl)) pa_nil)))) pa_nil))))
        pss_nil)))
    (pss_one (ps_ret (pv 3))))), ?_⟩)
  · obtain ⟨F0, pv, gv, ps, G, _, rfl, _⟩ := h
    rfl
  · obtain ⟨F0, pv, gv, ps, G, hF, rfl, ⟨pl, pvs, rfl, hpl, pp⟩, ⟨gl, gvs, rfl, hgl, pg⟩, lG, lG2, k⟩ := h
    have lp : pvs.length = ps.length := Paired.len pp
    have lg : gvs.length = G.length := Paired.len pg
    refine ⟨_, rfl, (by show 2 ≤ sizeLine; decide), fun t1 n1 => ?_⟩
    have X1 := (Ext.refl hF).new n1 (o := .tup [.int (-1), .int 0])
    refine ⟨by show 1 ≤ sizeLine; decide, fun l1 m1 => ?_⟩
    have X2 := X1.tmp m1 (o := .lst [.ref t1])
    have fin : (1 + pvs.length) + 1 ≤ sizeLine := Nat.le_trans (m := 1000) (by omega) (by decide)
    refine ⟨_, rfl, l1, pl, [.ref t1], pvs, rfl, rfl, upd_same, X2.hh _ _ (hF _ _ hpl), Nat.le_trans (by show 1 + pvs.length ≤ _; omega) fin, fun l2 m2 => ?_⟩
    have X3 := X2.tmp m2 (o := .lst ([.ref t1] ++ pvs))
    refine ⟨_, rfl, (by show 2 ≤ sizeLine; decide), fun t2 n2 => ?_⟩
    have X4 := X3.new n2 (o := .tup [.int (-2), .int 0])
    refine ⟨by show 1 ≤ sizeLine; decide, fun l3 m3 => ?_⟩
    have X5 := X4.tmp m3 (o := .lst [.ref t2])
    have h2 := same_new (o := HO.lst [.ref t2]) (same_new (o := HO.tup [.int (-2), .int 0]) (Same.refl _) n2) m3 l2 _ upd_same
    refine ⟨l2, l3, _, [.ref t2], rfl, rfl, h2, upd_same, by rw [List.length_append]; exact fin, fun bl m4 => ?_⟩
    have X6 := X5.new m4 (o := .lst ([.ref t1] ++ pvs ++ [.ref t2]))
    refine ⟨by show 0 ≤ sizeLine; decide, fun hl m5 => ?_⟩
    have X7 := X6.tmp m5 (o := .lst [])
    have hl0 := X6.fh.free m5
    have hlH := X6.hh.free m5
    generalize eF : upd (upd (upd F0 t1 (.tup [.int (-1), .int 0])) t2 (.tup [.int (-2), .int 0])) bl (.lst ([.ref t1] ++ pvs ++ [.ref t2])) = F1 at X6 X7 hl0
    have hbl : F1 bl = some (.lst ([.ref t1] ++ pvs ++ [.ref t2])) := by rw [← eF]; exact upd_same
    have S4 : Same (upd F0 t1 (.tup [.int (-1), .int 0])) (upd (upd F0 t1 (.tup [.int (-1), .int 0])) t2 (.tup [.int (-2), .int 0])) := same_new (Same.refl _) (X3.fh.free n2)
    have S6 : Same (upd (upd F0 t1 (.tup [.int (-1), .int 0])) t2 (.tup [.int (-2), .int 0])) F1 := by rw [← eF]; exact same_new (Same.refl _) (X5.fh.free m4)
    have pb : Paired (PosAt F1) ([.ref t1] ++ pvs ++ [.ref t2]) (bounds ps) := by
      refine Paired.app (Paired.app (Paired.one ⟨t1, rfl, ?_⟩) (Paired.imp (fun v x => PosAt.mono X7.ff v x) pp)) (Paired.one ⟨t2, rfl, ?_⟩)
      · exact S6 _ _ (S4 _ _ upd_same)
      · exact S6 _ _ upd_same
    have lb := len_bounds ps
    refine ⟨_, rfl, _, gvs.length, rfl, Or.inl ⟨gvs, SqL.of (X7.fh _ _ (X7.ff _ _ hgl)), rfl⟩, _, rfl, by omega, by omega, ?_⟩
    refine for_range (lo := 0) (n := ((gvs.length : Nat) : Int).toNat) (fun i σ H' => ∃ F2 u4 us, σ = [some (.ref pl), some (.ref gl), some (.ref bl), some (.ref hl), u4] ∧ Ext F0 H F2 H' ∧ Same F1 F2 ∧ F2 hl = none ∧ H' hl = some (.lst us) ∧ Paired (HunkAt CH F2) us (gapHunks ps 0 (G.take i)))
      ⟨F1, none, [], rfl, X7, Same.refl F1, hl0, upd_same, .nil⟩ ?_ ?_
    · rintro i σ H' hi ⟨F2, u4, us, rfl, X, S, fh, hh, pu⟩
      have lti : i < G.length := by omega
      have eg := List.getElem?_eq_getElem lti
      obtain ⟨gv, egv, ga, gus, rfl, hga, pgl⟩ := Paired.at pg eg
      have up : ∀ {a u}, F0 a = some u → H' a = some u := fun e => X.fh _ _ (X.ff _ _ e)
      have ix : atI gvs (0 + (i : Int)) = some (.ref ga) := by
        rw [Int.zero_add]
        exact atI_nat egv
      have tk := take_gap (ps := ps) lti
      have gd : G.getD i [] = G[i] := getD_el lti
      refine ⟨_, rfl, _, rfl, gl, gvs, _, _, rfl, rfl, SqL.of (up hgl), ix, _, Or.inl ⟨gus, SqL.of (up hga), rfl⟩, ?_⟩
      have lgl : gus.length = (G[i]).length := Paired.len pgl
      by_cases c : (G[i]).isEmpty = true
      · have c2 : gus.isEmpty = true := by
          rw [List.isEmpty_iff] at c ⊢
          rw [c] at lgl
          exact List.length_eq_zero_iff.mp lgl
        refine ifF (by rw [c2]; rfl) ⟨F2, _, us, rfl, X, S, fh, hh, ?_⟩
        rw [tk, gd, if_pos c, List.append_nil]
        exact pu
      · have c2 : gus.isEmpty = false := by
          cases e : gus.isEmpty with
          | false => rfl
          | true =>
            rw [List.isEmpty_iff.mp e] at lgl
            exact absurd (List.isEmpty_iff.mpr (List.length_eq_zero_iff.mp lgl.symm)) c
        obtain ⟨v1, ev1, hv1⟩ := Paired.at pb (List.getElem?_eq_getElem (show i < (bounds ps).length by omega))
        obtain ⟨v2, ev2, hv2⟩ := Paired.at pb (List.getElem?_eq_getElem (show i + 1 < (bounds ps).length by omega))
        have hbl2 := X.fh _ _ (S _ _ hbl)
        have ix1 : atI ([V.ref t1] ++ pvs ++ [V.ref t2]) (0 + (i : Int)) = some v1 := by
          rw [Int.zero_add]
          exact atI_nat ev1
        have ix2 : atI ([V.ref t1] ++ pvs ++ [V.ref t2]) (0 + (i : Int) + 1) = some v2 := by
          have : (0 + (i : Int) + 1) = ((i + 1 : Nat) : Int) := by omega
          rw [this]
          exact atI_nat ev2
        refine ifT (by rw [c2]; rfl) ⟨_, rfl, Or.inl ⟨rfl, _, SqL.of hh⟩, _, rfl, _, rfl, bl, _, _, v1, rfl, rfl, SqL.of hbl2, ix1, _, rfl, _, rfl, _, _, rfl, rfl, bl, _, _, v2, rfl, rfl, SqL.of hbl2, ix2, _, rfl, _, rfl, gl, gvs, _, _, rfl, rfl, SqL.of (up hgl), ix, ?_⟩
        intro x dx nx nd' nex
        refine ⟨x, dx, v1, v2, .ref ga, rfl, upd_same, fun H3 e3 k3 => ⟨rfl, ?_⟩⟩
        obtain ⟨W, S3⟩ := X.made nx nd' e3 k3
        have hx := ne_new hh nx
        have hh3 := S3 _ _ hh
        have lu : us.length < sizeLine := by
          have h1 := Paired.len pu
          have h2 := len_gap ps (G.take i) 0
          rw [List.length_take] at h2
          exact Nat.lt_of_le_of_lt (m := 200) (by omega) (by decide)
        have S4 : Same F2 (upd F2 x (.ins CH dx (hkF v1 v2 (.ref ga)))) := same_new (Same.refl F2) (X.fh.free nx)
        refine ⟨hl, us, _, rfl, rfl, hh3, lu, _, _, us ++ [.ref x], rfl, W.put (by rw [upd_ne hx]; exact fh) hlH, S.trans S4, by rw [upd_ne hx]; exact fh, upd_same, ?_⟩
        rw [tk, gd, if_neg c]
        refine Paired.app (Paired.imp (fun v x => HunkAt.mono S4 v x) pu) (Paired.one ⟨x, dx, v1, v2, .ref ga, rfl, upd_same, ?_, ?_, ?_⟩)
        · show PosAt _ v1 ((bounds ps).getD i .start)
          rw [getD_el (show i < (bounds ps).length by omega)]
          exact PosAt.mono (S.trans S4) _ _ hv1
        · show PosAt _ v2 ((bounds ps).getD (i + 1) .end_)
          rw [getD_el (show i + 1 < (bounds ps).length by omega)]
          exact PosAt.mono (S.trans S4) _ _ hv2
        · exact ⟨ga, gus, rfl, S4 _ _ (X.ff _ _ hga), Paired.imp (fun v x => LineAt.mono (X.ff.trans S4) v x) pgl⟩
    · rintro σ H' ⟨F2, u4, us, rfl, X, S, fh, hh, pu⟩
      have e2 : ((gvs.length : Nat) : Int).toNat = G.length := by omega
      rw [e2, List.take_length] at pu
      have Z := X.freeze hh fh hlH
      exact ⟨_, rfl, k _ _ _ Z ⟨hl, us, rfl, upd_same, Paired.imp (fun v x => HunkAt.mono (same_new (Same.refl F2) fh) v x) pu⟩⟩
end
end Lg
namespace Lg
open PySem PySem.Spec PyProof.Rows L2
/-- a list of lists of lines that are yet to grow, each of its own -/
structure GapAt (F H0 H : Hp) (D : Addr) (as : List Addr) (G : List (List Gf11.Line)) : Prop where
  at_ : H D = some (.lst (as.map V.ref))
  rows : Paired (fun a (g : List Gf11.Line) => ∃ us, H a = some (.lst us) ∧ F a = none ∧ H0 a = none ∧ Paired (LineAt F) us g) as G
  nd : as.Nodup
  out : D ∉ as
  no : F D = none
  no0 : H0 D = none
theorem GapAt.tmp {F H0 H : Hp} {D q : Addr} {o : HO} {as : List Addr} {G : List (List Gf11.Line)} (h : GapAt F H0 H D as G) (h1 : q ∉ as) (h2 : q ≠ D) : GapAt F H0 (upd H q o) D as G where
  at_ := by
    rw [upd_ne (Ne.symm h2)]
    exact h.at_
  rows := Paired.imp (fun a g ⟨⟨us, k1, k⟩, ne⟩ => ⟨us, by rw [upd_ne ne]; exact k1, k⟩) (paired_out h.rows h1)
  nd := h.nd
  out := h.out
  no := h.no
  no0 := h.no0
theorem GapAt.fresh {F H0 H : Hp} {D q : Addr} {as : List Addr} {G : List (List Gf11.Line)} (h : GapAt F H0 H D as G) (n : H q = none) : q ∉ as ∧ q ≠ D := by
  refine ⟨fun m => ?_, fun e => ?_⟩
  · obtain ⟨i, hi⟩ := List.getElem?_of_mem m
    obtain ⟨_, _, us, e, _⟩ := Paired.get h.rows hi
    rw [n] at e
    cases e
  · have := h.at_
    rw [← e, n] at this
    cases this
theorem GapAt.call {F H0 H F1 H1 : Hp} {D : Addr} {as : List Addr} {G : List (List Gf11.Line)} (h : GapAt F H0 H D as G) (X : Ext F H F1 H1) : GapAt F1 H0 H1 D as G where
  at_ := X.hh _ _ h.at_
  rows := Paired.imp (fun a g ⟨us, k1, k2, k3, k4⟩ => ⟨us, X.hh _ _ k1, X.out k2 k1, k3, Paired.imp (fun v x => LineAt.mono X.ff v x) k4⟩) h.rows
  nd := h.nd
  out := h.out
  no := X.out h.no h.at_
  no0 := h.no0
theorem GapAt.row {F H0 H : Hp} {D : Addr} {as : List Addr} {G : List (List Gf11.Line)} {i : Nat} (h : GapAt F H0 H D as G) (hi : i < G.length) : ∃ a us, as[i]? = some a ∧ H a = some (.lst us) ∧ F a = none ∧ H0 a = none ∧ Paired (LineAt F) us (G.getD i []) := by
  obtain ⟨a, ea, us, h1, h2, h3, h4⟩ := Paired.at h.rows (List.getElem?_eq_getElem hi)
  rw [getD_el hi]
  exact ⟨a, us, ea, h1, h2, h3, h4⟩
theorem GapAt.put {F H0 H : Hp} {D a : Addr} {as : List Addr} {G : List (List Gf11.Line)} {i : Nat} {us : List V} {v : V} {l : Gf11.Line} (h : GapAt F H0 H D as G) (hi : i < G.length) (ea : as[i]? = some a) (hu : H a = some (.lst us)) (hv : LineAt F v l) :
    GapAt F H0 (upd H a (.lst (us ++ [v]))) D as (G.set i (G.getD i [] ++ [l])) where
  at_ := by
    rw [upd_ne fun e => h.out (by rw [e]; exact List.mem_of_getElem? ea)]
    exact h.at_
  rows := by
    obtain ⟨a', us', ea', h1, h2, h3, h4⟩ := h.row hi
    rw [ea] at ea'
    cases ea'
    rw [hu] at h1
    cases h1
    exact paired_set i h.rows h.nd ea ⟨_, upd_same, h2, h3, Paired.app h4 (Paired.one hv)⟩ fun x y ne ⟨us, k1, k⟩ => ⟨us, by rw [upd_ne ne]; exact k1, k⟩
  nd := h.nd
  out := h.out
  no := h.no
  no0 := h.no0
section
variable {P : Program} {w : World} {K : PySem.W.Frag} {mg : Str → Option Value} {base : Heap} {CH CC CO CL CS : Addr}
/-! ### difference -/
abbrev sDif : Stmt := top 41
def spDif (CH CC : Addr) : Sp := fun vs H Q _ => ∃ (F : Hp) (pv ov nv : V) (ps : List Gf11.Position) (old new : List Gf11.Line), Same F H ∧ vs = [pv, ov, nv] ∧ LstAt PosAt F pv ps ∧ LstAt LineAt F ov old ∧ LstAt LineAt F nv new ∧ ps.length = old.length ∧ old.length ≤ 100 ∧ new.length ≤ 100 ∧
  ∀ (F' H' : Hp) (r : V), Ext F H F' H' → ChangeAt CH CC F' r (target ps old new) → Q r H'
def nDif : List Str := ["positions", "old", "new", "counts", "gaps", "deleted", "i", "j", "place"]
theorem scDif : FnScope ["positions", "old", "new", "counts", "gaps", "deleted", "i", "j", "place"] ["positions", "old", "new"] (defScope sDif) := ⟨rfl, rfl, rfl, by decide +kernel, rfl, by decide +kernel, by decide +kernel⟩
theorem dec_vint (a b : Nat) : decide (V.int (a : Int) = V.int (b : Int)) = decide (a = b) := by
  by_cases h : a = b
  · subst h
    simp
  · rw [decide_eq_false h, decide_eq_false]
    intro e
    injection e with e
    omega
theorem ok_dif {f fC fM fG fD : Addr} {fd fdC fdM fdG fdD : FuncData} (F : Fun K "difference" "difference" sDif f fd) (T : Txt K mg CH CC CO CL CS) (FC : Fun K "kept_counts" "kept_counts" sCnt fC fdC) (gC : mg "kept_counts" = some (.ref fC))
    (FM : Fun K "make_hunks" "make_hunks" sMkh fM fdM) (gM : mg "make_hunks" = some (.ref fM)) (MH : Mk K CH fG) (FG : Fun K "__init__" "Hunk.__init__" sIH fG fdG) (MC : Mk K CC fD) (FD : Fun K "__init__" "Change.__init__" sIC fD fdD) :
    FnOk P w K mg base CX0 4 f fd ["positions", "old", "new"] (spDif CH CC) := by
  have GC : FnOk P w K mg base CX0 1 fC fdC ["old", "new"] spCnt := ok_cnt FC T
  have GM : FnOk P w K mg base CX0 3 fM fdM ["positions", "gaps"] (spMkh CH) := ok_mkh FM T MH FG
  have GD : FnOk P w K mg base CX0 1 fD fdD ["self", "hunks", "deleted"] (spI2 CC chF) := ok_iC FD T
  have bC : Binds K fdC ["old", "new"] [] := FC.binds fun _ _ _ _ _ _ us hl => match us, hl with | [_, _], _ => rfl
  have bM : Binds K fdM ["positions", "gaps"] [] := FM.binds fun _ _ _ _ _ _ us hl => match us, hl with | [_, _], _ => rfl
  have bD : Binds K fdD ["self", "hunks", "deleted"] [] := FD.binds fun _ _ _ _ _ _ us hl => match us, hl with | [_, _, _], _ => rfl
  refine F.ok scDif (fun vs H Q E h => ?_) (fun cdv A outer s H vs Q E hr h => ⟨_,
    pss_cons (ps_set (i := 3) scDif.nd rfl (Or.inl rfl) (pe_call GC (hr.mono (by decide)) (by rfl) gC FC.kp bC .nil pass0 (pa_cons (pv 1) (pa_cons (pv 2) pa_nil))))
    (pss_cons (ps_setLc (i := 4) (own := [("place", 8)]) (g := gName 8) (tt := tYes) (te := tLst tNil) rfl scDif.nd rfl rfl (sw_true rfl rfl rfl (by decide +kernel))
        (pi_range1 (by rfl) T.range (pa_cons (pe_op op_add (pe_callB call_len (by rfl) T.len PySem.boot_len (pa_cons (pv 1) pa_nil)) pe_int) pa_nil)) (blkOk_by (N := nDif) (sc := defScope sDif) (by decide +kernel)) (fun _ _ _ _ _ => pg_name (i := 8) scDif.nd rfl (Or.inl rfl)) (fun _ _ _ _ _ => pts_nil)
        (fun _ _ _ _ _ => pe_lst pa_nil))
    (pss_cons (ps_set (i := 5) scDif.nd rfl (Or.inl rfl) (pe_lst pa_nil))
    (pss_cons (ps_set (i := 6) scDif.nd rfl (Or.inl rfl) pe_int)
    (pss_cons (ps_set (i := 7) scDif.nd rfl (Or.inl rfl) pe_int)
    (pss_cons (ps_while PassesOwn.never (PW.pt (pw_or (pt_cmpR op_lt (pv 6) (pe_callB call_len (by rfl) T.len PySem.boot_len (pa_cons (pv 1) pa_nil)) (nomark _)) (pw_or1 (pt_cmpR op_lt (pv 7) (pe_callB call_len (by rfl) T.len PySem.boot_len (pa_cons (pv 2) pa_nil)) (nomark _)))))
      (pss_one (ps_if (PW.pt (pw_and (pt_cmpR op_lt (pv 6) (pe_callB call_len (by rfl) T.len PySem.boot_len (pa_cons (pv 1) pa_nil)) (nomark _)) (pw_and (pt_cmpR op_lt (pv 7) (pe_callB call_len (by rfl) T.len PySem.boot_len (pa_cons (pv 2) pa_nil)) (nomark _))
            (pw_and1 (pt_cmpR (op_eqD hr.units) (pe_ix ix_list (pv 1) (pv 6) (fun _ _ => rfl)) (pe_ix ix_list (pv 2) (pv 7) (fun _ _ => rfl)) (nomark _))))))
        (pss_cons (ps_aug (i := 6) scDif.nd rfl (Or.inl rfl) pe_int ip_add) (pss_one (ps_aug (i := 7) scDif.nd rfl (Or.inl rfl) pe_int ip_add)))
        (pss_one (ps_if (PW.pt (pw_or (pt_cmpR op_eq (pv 7) (pe_callB call_len (by rfl) T.len PySem.boot_len (pa_cons (pv 2) pa_nil)) (nomark _)) (pw_or1 (PW.pt (pw_and (pt_cmpR op_lt (pv 6) (pe_callB call_len (by rfl) T.len PySem.boot_len (pa_cons (pv 1) pa_nil)) (nomark _))
              (pw_and1 (pt_cmpR op_ge (pe_ix ix_list (pe_ix ix_list (pv 3) (pe_op op_add (pv 6) pe_int) (fun _ _ => rfl)) (pv 7) (fun _ _ => rfl)) (pe_ix ix_list (pe_ix ix_list (pv 3) (pv 6) (fun _ _ => rfl)) (pe_op op_add (pv 7) pe_int) (fun _ _ => rfl)) (nomark _))))))))
          (pss_cons (ps_expr (pe_bm PySem.F.plainAttrs_list PySem.F.slot_list_append PySem.F.type_list_append mt_append (pv 5) (pa_cons (pe_ix ix_list (pv 0) (pv 6) (fun _ _ => rfl)) pa_nil))) (pss_one (ps_aug (i := 6) scDif.nd rfl (Or.inl rfl) pe_int ip_add)))
          (pss_cons (ps_expr (pe_bm PySem.F.plainAttrs_list PySem.F.slot_list_append PySem.F.type_list_append mt_append (pe_ix ix_list (pv 4) (pv 6) (fun _ _ => rfl)) (pa_cons (pe_ix ix_list (pv 2) (pv 7) (fun _ _ => rfl)) pa_nil))) (pss_one (ps_aug (i := 7) scDif.nd rfl (Or.inl rfl) pe_int ip_add))))))))
    (pss_one (ps_ret (pe_make MC GD (hr.mono (by decide)) (by rfl) T.gC bD .nil pass0 (pa_cons (pe_call GM hr (by rfl) gM FM.kp bM .nil pass0 (pa_cons (pv 0) (pa_cons (pv 4) pa_nil))) (pa_cons (pv 5) pa_nil)))))))))), ?_⟩)
  · obtain ⟨F0, pv, ov, nv, ps, old, new, _, rfl, _⟩ := h
    rfl
  · obtain ⟨F0, pv, ov, nv, ps, old, new, hF, rfl, hps, hold, hnew, lps, lo, ln, k⟩ := h
    -- counts = kept_counts(old, new)
    refine ⟨_, rfl, _, rfl, F0, ov, nv, old, new, hF, rfl, hold, hnew, lo, ln, fun F1 H1 cv X1 hcv => ?_⟩
    obtain ⟨pl, pvs, rfl, hpl, pp⟩ := hps
    obtain ⟨ol, ovs, rfl, hol, po⟩ := hold
    obtain ⟨nl, nvs, rfl, hnl, pn⟩ := hnew
    obtain ⟨cl, cas, rfl, hcl, hct⟩ := hcv
    have lp : pvs.length = ps.length := Paired.len pp
    have eo : ovs.length = old.length := Paired.len po
    have en : nvs.length = new.length := Paired.len pn
    have pp1 : Paired (PosAt F1) pvs ps := Paired.imp (fun v x => PosAt.mono X1.ff v x) pp
    have po1 : Paired (LineAt F1) ovs old := Paired.imp (fun v x => LineAt.mono X1.ff v x) po
    have pn1 : Paired (LineAt F1) nvs new := Paired.imp (fun v x => LineAt.mono X1.ff v x) pn
    have hpl1 := X1.ff _ _ hpl
    have hol1 := X1.ff _ _ hol
    have hnl1 := X1.ff _ _ hnl
    -- gaps = [[] for place in range(len(old) + 1)]
    refine ⟨_, rfl, _, ovs.length, rfl, Or.inl ⟨ovs, SqL.of (X1.fh _ _ hol1), rfl⟩, _, _, rfl, rfl, _, rfl, by omega, by omega, fun D nD => ?_⟩
    have D1 := X1.fh.free nD
    have DH := X1.hh.free nD
    refine lc_range (lo := 0) (n := ((ovs.length : Int) + 1).toNat) (fun i H2 => ∃ as, Ext F0 H F1 H2 ∧ GapAt F1 H H2 D as (List.replicate i [])) ?_ ?_ ?_
    · exact ⟨[], X1.tmp nD, ⟨upd_same, .nil, List.nodup_nil, (by intro h; cases h), D1, DH⟩⟩
    · rintro i H2 hi ⟨as, X, M⟩
      refine ⟨rfl, (by show 0 ≤ sizeLine; decide), fun l1 n1 => ?_⟩
      obtain ⟨nin, nD1⟩ := M.fresh n1
      have M1 := M.tmp (o := .lst []) nin nD1
      have la : as.length = i := by rw [Paired.len M.rows, List.length_replicate]
      refine ⟨as.map V.ref, M1.at_, ?_, as ++ [l1], (X.tmp n1).put D1 DH, ⟨by rw [upd_same, List.map_append]; rfl, ?_, nd_snoc M.nd nin, ?_, D1, DH⟩⟩
      · rw [List.length_map, la]
        exact Nat.lt_of_le_of_lt (m := 200) (by omega) (by decide)
      · rw [List.replicate_succ']
        refine Paired.app (Paired.imp (fun a g ⟨⟨us, k1, k⟩, ne⟩ => ⟨us, by rw [upd_ne ne]; exact k1, k⟩) (paired_out M1.rows M1.out)) (Paired.one ⟨[], ?_, X.fh.free n1, X.hh.free n1, .nil⟩)
        rw [upd_ne nD1, upd_same]
      · intro h
        rcases List.mem_append.mp h with h | h
        · exact M.out h
        · exact nD1 (List.mem_singleton.mp h).symm
    · rintro H2 ⟨as, X, M⟩
      have e1 : ((ovs.length : Int) + 1).toNat = old.length + 1 := by omega
      rw [e1] at M
      -- deleted = []
      refine ⟨by show 0 ≤ sizeLine; decide, fun dl nd => ?_⟩
      obtain ⟨din, dD⟩ := M.fresh nd
      have dF := X.fh.free nd
      have dH := X.hh.free nd
      have X2 := X.tmp nd (o := .lst [])
      refine ⟨fun m σ H' => ∃ i j G d dus, σ = [some (.ref pl), some (.ref ol), some (.ref nl), some (.ref cl), some (.ref D), some (.ref dl), some (.int (i : Nat)), some (.int (j : Nat)), none] ∧ Ext F0 H F1 H' ∧ Walk ps old new i j G d ∧ GapAt F1 H H' D as G ∧
          H' dl = some (.lst dus) ∧ Paired (PosAt F1) dus d ∧ d.length ≤ i ∧ (∀ t, (G.getD t []).length ≤ j) ∧ m = (old.length - i) + (new.length - j),
        ⟨_, 0, 0, _, [], [], rfl, X2, Walk.start ps old new, M.tmp din dD, upd_same, .nil, Nat.zero_le _, fun t => ?_, rfl⟩, ?_⟩
      · rw [List.getD_eq_getElem?_getD, List.getElem?_replicate]
        split <;> exact Nat.zero_le _
      rintro m σ H' ⟨i, j, G, d, dus, rfl, X3, Wk, A, hdl, pd, ld, lg, rfl⟩
      have up : ∀ {a u}, F1 a = some u → H' a = some u := fun e => X3.fh _ _ e
      have hi := Wk.hi
      have hj := Wk.hj
      -- a step that keeps, cuts or puts in
      have lenO : LenV K (V.ref ol) H' ovs.length := Or.inl ⟨ovs, SqL.of (up hol1), rfl⟩
      have lenN : LenV K (V.ref nl) H' nvs.length := Or.inl ⟨nvs, SqL.of (up hnl1), rfl⟩
      have doCut : ∀ (li : i < old.length), (j = new.length ∨ ∃ lj : j < new.length, old[i] ≠ new[j] ∧ Gf11.lcsLength (old.drop i) (new.drop (j + 1)) ≤ Gf11.lcsLength (old.drop (i + 1)) (new.drop j)) →
          ∃ v, atI pvs (i : Int) = some v ∧ dus.length < sizeLine ∧ Walk ps old new (i + 1) j G (d ++ [ps[i]'(by omega)]) ∧ GapAt F1 H (upd H' dl (.lst (dus ++ [v]))) D as G ∧ Paired (PosAt F1) (dus ++ [v]) (d ++ [ps[i]'(by omega)]) ∧ (d ++ [ps[i]'(by omega)]).length ≤ i + 1 := fun li hc => by
        obtain ⟨v, ev, hv⟩ := Paired.at pp1 (List.getElem?_eq_getElem (show i < ps.length by omega))
        refine ⟨v, atI_nat ev, ?_, Wk.cut lps li hc, A.tmp din dD, Paired.app pd (Paired.one hv), by rw [List.length_append]; exact Nat.succ_le_succ ld⟩
        rw [Paired.len pd]
        exact Nat.lt_of_le_of_lt (m := 100) (by omega) (by decide)
      have doPut : ∀ (lj : j < new.length), (i = old.length ∨ ∃ li : i < old.length, old[i] ≠ new[j] ∧ ¬ Gf11.lcsLength (old.drop i) (new.drop (j + 1)) ≤ Gf11.lcsLength (old.drop (i + 1)) (new.drop j)) →
          ∃ a us v, atI (as.map V.ref) (i : Int) = some (.ref a) ∧ H' a = some (.lst us) ∧ us.length < sizeLine ∧ atI nvs (j : Int) = some v ∧ Ext F0 H F1 (upd H' a (.lst (us ++ [v]))) ∧ Walk ps old new i (j + 1) (G.set i (G.getD i [] ++ [new[j]])) d ∧
            GapAt F1 H (upd H' a (.lst (us ++ [v]))) D as (G.set i (G.getD i [] ++ [new[j]])) ∧ upd H' a (.lst (us ++ [v])) dl = some (.lst dus) ∧ ∀ t, ((G.set i (G.getD i [] ++ [new[j]])).getD t []).length ≤ j + 1 := fun lj hc => by
        have hiG : i < G.length := by
          rw [Wk.hg]
          omega
        obtain ⟨a, us, ea, h1, h2, h3, h4⟩ := A.row hiG
        obtain ⟨v, ev, hv⟩ := Paired.at pn1 (List.getElem?_eq_getElem lj)
        have ne : dl ≠ a := fun e => din (by rw [e]; exact List.mem_of_getElem? ea)
        refine ⟨a, us, v, atI_nat (by rw [List.getElem?_map, ea]; rfl), h1, ?_, atI_nat ev, X3.put h2 h3, Wk.put lj hc, A.put hiG ea h1 hv, by rw [upd_ne ne]; exact hdl, fun t => ?_⟩
        · rw [Paired.len h4]
          have := lg i
          exact Nat.lt_of_le_of_lt (m := 100) (by omega) (by decide)
        · by_cases c : t = i
          · subst c
            rw [getD_set_eq hiG, List.length_append]
            exact Nat.succ_le_succ (lg t)
          · rw [getD_set_ne c]
            exact Nat.le_succ_of_le (lg t)
      have table : ∀ a b, a ≤ old.length → b ≤ new.length → ∃ r row, atI (cas.map V.ref) (a : Int) = some (.ref r) ∧ H' r = some (.lst row) ∧ atI row (b : Int) = some (.int (Gf11.lcsLength (old.drop a) (new.drop b) : Int)) := fun a b ha hb => by
        obtain ⟨r, row, e1, e2, e3⟩ := hct a b ha hb
        exact ⟨r, row, atI_nat (by rw [List.getElem?_map, e1]; rfl), up e2, atI_nat e3⟩
      refine ⟨_, rfl, _, rfl, _, ovs.length, rfl, lenO, _, _, rfl, rfl, _, rfl, ?_⟩
      by_cases c1 : i < old.length
      · have d1 : decide ((i : Int) < (ovs.length : Int)) = true := decide_eq_true (by omega)
        refine ifT d1 (iteT ⟨_, fun _ _ h => h, ?_⟩)
        refine ⟨_, rfl, _, rfl, _, ovs.length, rfl, lenO, _, _, rfl, rfl, _, rfl, ?_⟩
        refine ifT d1 ⟨_, rfl, _, rfl, _, nvs.length, rfl, lenN, _, _, rfl, rfl, _, rfl, ?_⟩
        by_cases c2 : j < new.length
        · have d2 : decide ((j : Int) < (nvs.length : Int)) = true := decide_eq_true (by omega)
          have d3 : decide (V.int (j : Int) = V.int (nvs.length : Int)) = false := by
            rw [dec_vint]
            exact decide_eq_false (by omega)
          obtain ⟨w1, ew1, hw1⟩ := Paired.at po1 (List.getElem?_eq_getElem c1)
          obtain ⟨w2, ew2, hw2⟩ := Paired.at pn1 (List.getElem?_eq_getElem c2)
          refine ifT d2 ⟨_, rfl, _, rfl, ol, ovs, _, w1, rfl, rfl, SqL.of (up hol1), atI_nat ew1, _, rfl, _, rfl, nl, nvs, _, w2, rfl, rfl, SqL.of (up hnl1), atI_nat ew2, dLine old[i], dLine new[j], dp_line (LineAt.mono X3.fh _ _ hw1), dp_line (LineAt.mono X3.fh _ _ hw2), shaped_line _, shaped_line _, _, rfl, ?_⟩
          rw [eqv_line]
          by_cases c3 : old[i] = new[j]
          · refine ifT (decide_eq_true c3) ⟨_, rfl, _, _, rfl, rfl, _, rfl, _, _, rfl, rfl, _, (by omega), i + 1, j + 1, G, d, dus, rfl, X3, Wk.keep lps c1 c2 c3, A, hdl, pd, Nat.le_succ_of_le ld, fun t => Nat.le_succ_of_le (lg t), rfl⟩
          · refine ifF (decide_eq_false c3) ⟨_, rfl, _, rfl, _, nvs.length, rfl, lenN, rfl, _, rfl, ifF d3 ?_⟩
            refine ⟨_, rfl, _, rfl, _, ovs.length, rfl, lenO, _, _, rfl, rfl, _, rfl, ?_⟩
            obtain ⟨r1, row1, x1, h1, y1⟩ := table (i + 1) j c1 hj
            obtain ⟨r2, row2, x2, h2, y2⟩ := table i (j + 1) hi c2
            refine ifT d1 ⟨_, rfl, _, rfl, _, _, rfl, rfl, cl, _, _, _, rfl, rfl, SqL.of (up hcl), x1, _, rfl, r1, row1, _, _, rfl, rfl, SqL.of h1, y1, _, rfl, _, rfl, cl, _, _, _, rfl, rfl, SqL.of (up hcl), x2, _, rfl, _, _, rfl, rfl, r2, row2, _, _, rfl, rfl, SqL.of h2, y2, _, _, rfl, rfl, _, rfl, ?_⟩
            by_cases c4 : Gf11.lcsLength (old.drop i) (new.drop (j + 1)) ≤ Gf11.lcsLength (old.drop (i + 1)) (new.drop j)
            · obtain ⟨v, ix, lt, wk, ga, pa, le⟩ := doCut c1 (.inr ⟨c2, c3, c4⟩)
              refine ifT (decide_eq_true (by omega)) ?_
              refine ⟨_, rfl, Or.inl ⟨rfl, _, SqL.of hdl⟩, _, rfl, _, rfl, pl, pvs, _, v, rfl, rfl, SqL.of (up hpl1), ix, dl, dus, v, rfl, rfl, hdl, lt, ?_⟩
              refine ⟨_, rfl, _, _, rfl, rfl, _, (by omega), i + 1, j, G, _, _, rfl, X3.put dF dH, wk, ga, upd_same, pa, le, fun t => lg t, rfl⟩
            · obtain ⟨a, us, v, ixa, h1, lt, ixv, X4, wk, ga, hd4, gl⟩ := doPut c2 (.inr ⟨c1, c3, c4⟩)
              refine ifF (decide_eq_false (by omega)) ?_
              refine ⟨_, rfl, _, rfl, D, _, _, _, rfl, rfl, SqL.of A.at_, ixa, Or.inl ⟨rfl, us, SqL.of h1⟩, _, rfl, _, rfl, nl, nvs, _, v, rfl, rfl, SqL.of (up hnl1), ixv, a, us, v, rfl, rfl, h1, lt, ?_⟩
              refine ⟨_, rfl, _, _, rfl, rfl, _, (by omega), i, j + 1, _, d, dus, rfl, X4, wk, ga, hd4, pd, ld, gl, rfl⟩
        · have d2 : decide ((j : Int) < (nvs.length : Int)) = false := decide_eq_false (by omega)
          have ej : j = new.length := by omega
          have d3 : decide (V.int (j : Int) = V.int (nvs.length : Int)) = true := by
            rw [dec_vint]
            exact decide_eq_true (by omega)
          refine ifF d2 (iteF ⟨_, rfl, _, rfl, _, nvs.length, rfl, lenN, rfl, _, rfl, ifT d3 (iteT ?_)⟩)
          obtain ⟨v, ix, lt, wk, ga, pa, le⟩ := doCut c1 (.inl ej)
          refine ⟨_, rfl, Or.inl ⟨rfl, _, SqL.of hdl⟩, _, rfl, _, rfl, pl, pvs, _, v, rfl, rfl, SqL.of (up hpl1), ix, dl, dus, v, rfl, rfl, hdl, lt, ?_⟩
          refine ⟨_, rfl, _, _, rfl, rfl, _, (by omega), i + 1, j, G, _, _, rfl, X3.put dF dH, wk, ga, upd_same, pa, le, fun t => lg t, rfl⟩
      · have d1 : decide ((i : Int) < (ovs.length : Int)) = false := decide_eq_false (by omega)
        have ei : i = old.length := by omega
        refine ifF d1 ⟨_, rfl, _, rfl, _, nvs.length, rfl, lenN, _, _, rfl, rfl, _, rfl, ?_⟩
        by_cases c2 : j < new.length
        · have d2 : decide ((j : Int) < (nvs.length : Int)) = true := decide_eq_true (by omega)
          have d3 : decide (V.int (j : Int) = V.int (nvs.length : Int)) = false := by
            rw [dec_vint]
            exact decide_eq_false (by omega)
          refine ifT d2 ⟨_, fun _ _ h => h, ?_⟩
          refine ⟨_, rfl, _, rfl, _, ovs.length, rfl, lenO, _, _, rfl, rfl, _, rfl, ?_⟩
          refine ifF d1 (iteF ⟨_, rfl, _, rfl, _, nvs.length, rfl, lenN, rfl, _, rfl, ifF d3 ?_⟩)
          refine ⟨_, rfl, _, rfl, _, ovs.length, rfl, lenO, _, _, rfl, rfl, _, rfl, ?_⟩
          refine ifF d1 (iteF ?_)
          obtain ⟨a, us, v, ixa, h1, lt, ixv, X4, wk, ga, hd4, gl⟩ := doPut c2 (.inl ei)
          refine ⟨_, rfl, _, rfl, D, _, _, _, rfl, rfl, SqL.of A.at_, ixa, Or.inl ⟨rfl, us, SqL.of h1⟩, _, rfl, _, rfl, nl, nvs, _, v, rfl, rfl, SqL.of (up hnl1), ixv, a, us, v, rfl, rfl, h1, lt, ?_⟩
          refine ⟨_, rfl, _, _, rfl, rfl, _, (by omega), i, j + 1, _, d, dus, rfl, X4, wk, ga, hd4, pd, ld, gl, rfl⟩
        · have d2 : decide ((j : Int) < (nvs.length : Int)) = false := decide_eq_false (by omega)
          have ej : j = new.length := by omega
          refine ifF d2 ?_
          -- return Change(make_hunks(positions, gaps), deleted)
          subst ei ej
          have tg := Wk.fin lps
          obtain ⟨Z, S⟩ := Ext.all hF X3
          have hps2 : LstAt PosAt (frz F0 H H') (.ref pl) ps := ⟨pl, pvs, rfl, S _ _ hpl1, Paired.imp (fun v x => PosAt.mono S v x) pp1⟩
          have hg2 : LstAt (LstAt LineAt) (frz F0 H H') (.ref D) G := by
            refine ⟨D, as.map V.ref, rfl, by rw [frz_new DH]; exact A.at_, ?_⟩
            have : ∀ {l : List Addr} {m : List (List Gf11.Line)}, Paired (fun a (g : List Gf11.Line) => ∃ us, H' a = some (.lst us) ∧ F1 a = none ∧ H a = none ∧ Paired (LineAt F1) us g) l m → Paired (LstAt LineAt (frz F0 H H')) (l.map V.ref) m := fun {l m} p => by
              induction p with
              | nil => exact .nil
              | cons h t ih =>
                obtain ⟨us, k1, _, k3, k4⟩ := h
                exact .cons ⟨_, us, rfl, by rw [frz_new k3]; exact k1, Paired.imp (fun v x => LineAt.mono S v x) k4⟩ ih
            exact this A.rows
          have hdl2 : frz F0 H H' dl = some (.lst dus) := by rw [frz_new dH]; exact hdl
          refine ⟨_, rfl, _, rfl, frz F0 H H', .ref pl, .ref D, ps, G, Z.fh, rfl, hps2, hg2, by rw [Wk.hg, lps], by rw [Wk.hg]; omega, fun F2 H2 hv Y hhv => ⟨_, rfl, ?_⟩⟩
          intro x dx nx nd' nex
          refine ⟨x, dx, hv, .ref dl, rfl, upd_same, fun H3 e3 k3 => ⟨rfl, ?_⟩⟩
          obtain ⟨W, S3⟩ := (Z.trans Y).made nx nd' e3 k3
          have S4 : Same F2 (upd F2 x (.ins CC dx (chF hv (.ref dl)))) := same_new (Same.refl F2) (Y.fh.free nx)
          refine k _ _ _ W ?_
          rw [tg]
          exact ⟨x, dx, hv, .ref dl, rfl, upd_same, hhv.mono (fun s => HunkAt.mono s) S4, ⟨dl, dus, rfl, S4 _ _ (Y.ff _ _ hdl2), Paired.imp (fun v x => PosAt.mono ((S.trans Y.ff).trans S4) v x) pd⟩⟩
end
end Lg
/-! sets of up to 300 pairs: tables of 8, 32, 128 and 512 slots -/
namespace Lg
open PySem PySem.Spec PyProof.Rows L2
/-! ### the round of 5 x + 1 -/
def orb (m : Nat) : Nat → Nat → List Nat
  | 0, _ => []
  | n + 1, x => x :: orb m n ((x * 5 + 1) % (m + 1))
theorem orb_get {m : Nat} : ∀ {n a j : Nat}, j ∈ orb m n (lcgN m a) → ∃ b, b < a + n ∧ lcgN m b = j
  | 0, _, _, h => (by cases h)
  | n + 1, a, j, h => by
    rcases List.mem_cons.mp h with e | h
    · exact ⟨a, by omega, e.symm⟩
    · obtain ⟨b, l, e⟩ := orb_get (n := n) (a := a + 1) (j := j) h
      exact ⟨b, by omega, e⟩
def isIn (j : Nat) : List Nat → Bool
  | [] => false
  | x :: l => bif Nat.beq j x then true else isIn j l
theorem isIn_mem {j : Nat} : ∀ {l : List Nat}, isIn j l = true → j ∈ l
  | [], h => (by cases h)
  | x :: l, h => by
    unfold isIn at h
    cases e : Nat.beq j x with
    | true =>
      rw [Nat.eq_of_beq_eq_true e]
      exact List.mem_cons_self
    | false =>
      rw [e] at h
      exact List.mem_cons_of_mem _ (isIn_mem h)
def allIn (m : Nat) : Bool := (List.range (m + 1)).all fun j => isIn j (orb m (m + 1) 0)
def Msk (m : Nat) : Prop := m ∈ [7, 31, 127, 511]
theorem Msk.cases {m : Nat} (h : Msk m) : m = 7 ∨ m = 31 ∨ m = 127 ∨ m = 511 := by
  simpa [Msk] using h
theorem allIn7 : allIn 7 = true := by decide +kernel
theorem allIn31 : allIn 31 = true := by decide +kernel
theorem allIn127 : allIn 127 = true := by decide +kernel
theorem allIn511 : allIn 511 = true := by decide +kernel
theorem orb_all {m : Nat} (h : Msk m) {j : Nat} (l : j ≤ m) : ∃ b, b ≤ m ∧ lcgN m b = j := by
  have k : allIn m = true := by
    rcases h.cases with e | e | e | e <;> subst e
    · exact allIn7
    · exact allIn31
    · exact allIn127
    · exact allIn511
  obtain ⟨b, lb, e⟩ := orb_get (n := m + 1) (a := 0) (isIn_mem (List.all_eq_true.mp k j (List.mem_range.mpr (Nat.lt_succ_of_le l))))
  exact ⟨b, by omega, e⟩
theorem orb_back {m : Nat} (h : Msk m) : lcgN m (m + 1) = 0 := by
  rcases h.cases with e | e | e | e <;> subst e <;> decide +kernel
theorem orb_per {m : Nat} (h : Msk m) : ∀ k, lcgN m (m + 1 + k) = lcgN m k
  | 0 => orb_back h
  | k + 1 => congrArg (fun x => (x * 5 + 1) % (m + 1)) (orb_per h k)
theorem orb_to {m i j : Nat} (h : Msk m) (li : i ≤ m) (lj : j ≤ m) : ∃ k, k ≤ m ∧ lcgI m i k = j := by
  obtain ⟨a, la, rfl⟩ := orb_all h li
  obtain ⟨b, lb, rfl⟩ := orb_all h lj
  by_cases c : a ≤ b
  · refine ⟨b - a, by omega, ?_⟩
    rw [lcgN_add, Nat.add_sub_cancel' c]
  · refine ⟨b + (m + 1) - a, by omega, ?_⟩
    rw [lcgN_add, Nat.add_sub_cancel' (by omega), Nat.add_comm b, orb_per h]
/-! ### the way -/
abbrev p0 (m : Nat) (h : Int) : SetTable.Probe := runAt m (SetTable.bits h % (m + 1)) (SetTable.bits h)
theorem way_in (m : Nat) (h : Int) (k : Nat) : way m h k ≤ m := by
  have l : SetTable.bits h % (m + 1) ≤ m := Nat.le_of_lt_succ (Nat.mod_lt _ (Nat.succ_pos m))
  have r := (runEnd_bd l).1
  have q : (nth m (p0 m h) k).j + (nth m (p0 m h) k).more ≤ m := nth_in k _ (by
    show SetTable.bits h % (m + 1) + (SetTable.runEnd m (SetTable.bits h % (m + 1)) - SetTable.bits h % (m + 1)) ≤ m
    have := runEnd_ge m (SetTable.bits h % (m + 1))
    omega)
  exact Nat.le_trans (Nat.le_add_right _ _) q
theorem run_to {m : Nat} (ok : Msk m) (h : Int) {j : Nat} (l : j ≤ m) : ∃ n, n ≤ m + 12 ∧ runI m (SetTable.bits h) n = j := by
  obtain ⟨k, lk, e⟩ := orb_to ok (runI_le m (SetTable.bits h) 12) l
  exact ⟨12 + k, by omega, (runI_tail (bits_lt h) k).trans e⟩
theorem way_to {m : Nat} (ok : Msk m) (h : Int) {j : Nat} (l : j ≤ m) : ∃ k, k < 10 * SetTable.turns m ∧ way m h k = j := by
  obtain ⟨n, ln, e⟩ := run_to ok h l
  obtain ⟨k, lk, e2⟩ := run_nth m (SetTable.bits h) n
  have t : SetTable.turns m = m + 15 := rfl
  exact ⟨k, by omega, (congrArg SetTable.Probe.j e2).trans e⟩
theorem way_clean (m : Nat) (h : Int) : ∀ k, (nth m (p0 m h) k).dummy = none := by
  have go : ∀ (k : Nat) (p : SetTable.Probe), p.dummy = none → (nth m p k).dummy = none := by
    intro k
    induction k with
    | zero => exact fun p e => e
    | succ k ih =>
      refine fun p e => ih _ ?_
      unfold adv
      split
      · exact e
      · exact e
  exact fun k => go k _ rfl
/-! ### a table whose slots are found again -/
structure Tb (t : SetTable) (hs : List Int) : Prop where
  up : Ris t.place.toList
  bare : t.dummies = #[]
  many : t.place.size = hs.length
  msk : Msk t.mask
  low : ∀ x ∈ t.place.toList, x ≤ t.mask
  met : ∀ (i : Nat) (h : Int) (j : Nat), hs[i]? = some h → t.place.toList[i]? = some j → ∃ k, way t.mask h k = j ∧ ∀ c, c < k → way t.mask h c ∈ t.place.toList
theorem Msk.odd {m : Nat} (h : Msk m) : m % 2 = 1 := by
  rcases h.cases with e | e | e | e <;> subst e <;> rfl
theorem Msk.le {m : Nat} (h : Msk m) : m ≤ 511 := by
  rcases h.cases with e | e | e | e <;> subst e <;> decide
section
variable {t : SetTable} {hs : List Int}
theorem Tb.len (T : Tb t hs) : t.place.toList.length = hs.length := T.many
theorem Tb.gap (T : Tb t hs) (l : hs.length ≤ t.mask) (h : Int) : ∃ K, K < 10 * SetTable.turns t.mask ∧ way t.mask h K ∉ t.place.toList ∧ ∀ c, c < K → way t.mask h c ∈ t.place.toList := by
  obtain ⟨j, lj, nj⟩ := st_missing t.place.toList (t.mask + 1) (by have := T.len; omega)
  obtain ⟨k, lk, e⟩ := way_to T.msk h (Nat.le_of_lt_succ lj)
  obtain ⟨K, a, b, c⟩ := st_least (p := fun k => way t.mask h k ∉ t.place.toList) k (show way t.mask h k ∉ _ from e ▸ nj)
  exact ⟨K, Nat.lt_of_le_of_lt a lk, b, fun c' lc => Classical.byContradiction fun z => c c' lc z⟩
theorem Tb.ahead (T : Tb t hs) {h : Int} {K i j : Nat} (g : way t.mask h K ∉ t.place.toList) (ei : hs[i]? = some h) (ej : t.place.toList[i]? = some j) : ∃ k, k < K ∧ way t.mask h k = j := by
  obtain ⟨k, e, f⟩ := T.met i h j ei ej
  refine ⟨k, Classical.byContradiction fun z => ?_, e⟩
  rcases Nat.eq_or_lt_of_le (Nat.le_of_not_lt z) with c | c
  · exact g (by rw [c, e]; exact List.mem_of_getElem? ej)
  · exact g (f K c)
/-- a hash put in at the gap -/
theorem Tb.more (T : Tb t hs) {h : Int} {K : Nat} (g : way t.mask h K ∉ t.place.toList) (f : ∀ c, c < K → way t.mask h c ∈ t.place.toList) :
    ∃ (p : Nat) (t1 : SetTable), t.put (way t.mask h K) = (t1, p) ∧ p ≤ hs.length ∧ Tb t1 (hs.take p ++ h :: hs.drop p) ∧ t1.mask = t.mask ∧ t1.led = t.led ∧ t1.plain = t.plain ∧ t1.fill = hs.length + 1 := by
  have lw := way_in t.mask h K
  obtain ⟨w, ew⟩ : ∃ w, way t.mask h K = w := ⟨_, rfl⟩
  rw [ew] at g lw ⊢
  have c1 := (below_cut T.up w).1
  have lp : SetTable.below t.place w ≤ hs.length := T.many ▸ c1
  have lq : SetTable.below t.place w ≤ t.place.toList.length := T.len ▸ lp
  have pl := put_place t w
  have dm := put_dm T.bare w
  have up : ∀ {x : Nat}, x ∈ t.place.toList → x ∈ (t.put w).1.place.toList := fun m => by
    rw [pl]
    exact mem_ins.mpr (Or.inr m)
  have sz : (t.put w).1.place.toList.length = hs.length + 1 := by rw [pl, len_ins _ lq, T.len]
  refine ⟨SetTable.below t.place w, (t.put w).1, rfl, lp, ⟨ris_insert T.up (fun e => g (List.mem_of_getElem? (by rw [Array.getElem?_toList]; exact e))), dm, ?_, T.msk, ?_, ?_⟩, rfl, rfl, rfl, ?_⟩
  · exact sz.trans (len_ins _ lp h).symm
  · intro x m
    rw [pl] at m
    rcases mem_ins.mp m with e | m
    · exact e ▸ lw
    · exact T.low x m
  · intro i h' j' e1 e2
    rw [tins_get hs lp] at e1
    rw [pl, tins_get _ lq] at e2
    have old : ∀ i', hs[i']? = some h' → t.place.toList[i']? = some j' → ∃ k, way t.mask h' k = j' ∧ ∀ c, c < k → way t.mask h' c ∈ (t.put w).1.place.toList := fun i' a b => by
      obtain ⟨k, e, z⟩ := T.met i' h' j' a b
      exact ⟨k, e, fun c l => up (z c l)⟩
    by_cases c : i < SetTable.below t.place w
    · rw [if_pos c] at e1 e2
      exact old i e1 e2
    · rw [if_neg c] at e1 e2
      by_cases d : i = SetTable.below t.place w
      · rw [if_pos d] at e1 e2
        cases e1
        cases e2
        exact ⟨K, ew, fun c l => up (f c l)⟩
      · rw [if_neg d] at e1 e2
        exact old (i - 1) e1 e2
  · show (t.put w).1.place.toList.length + (t.put w).1.dummies.size = _
    rw [sz, dm]
    rfl
end
/-! ### laid anew -/
theorem slot_free {m : Nat} (ok : Msk m) (owner : Array (Option Nat)) (h : Int) {j : Nat} (lj : j ≤ m) (e : oAt owner j = none) :
    ∃ K, SetTable.layClean.free m owner (SetTable.turns m) (SetTable.bits h % (m + 1)) (SetTable.bits h) = some (way m h K) ∧ oAt owner (way m h K) = none ∧ ∀ k, k < K → oAt owner (way m h k) ≠ none := by
  obtain ⟨n, ln, en⟩ := run_to ok h lj
  have ew : way m h (off m (SetTable.bits h % (m + 1)) (SetTable.bits h) n) = j := by
    have z := nth_off m n (SetTable.bits h % (m + 1)) (SetTable.bits h)
    rw [itL_run] at z
    exact (congrArg SetTable.Probe.j z).trans en
  obtain ⟨K, a, b, c⟩ := st_least (p := fun k => oAt owner (way m h k) = none) _ (show oAt owner (way m h _) = none from ew ▸ e)
  have t : SetTable.turns m = m + 15 := rfl
  refine ⟨K, free_spec m owner (SetTable.turns m) n _ _ K (by omega) a (fun k l => ?_) ?_, b, c⟩
  · show (oAt owner (way m h k)).isNone = false
    cases z : oAt owner (way m h k) with
    | none => exact absurd z (c k l)
    | some u => rfl
  · show (oAt owner (way m h K)).isNone = true
    rw [show oAt owner (way m h K) = none from b]
    rfl
theorem own_more {m : Nat} (ok : Msk m) {done : List Int} {owner : Array (Option Nat)} (W : Own m done owner) (l : done.length ≤ m) (h : Int) :
    ∃ j, SetTable.layClean.free m owner (SetTable.turns m) (SetTable.bits h % (m + 1)) (SetTable.bits h) = some j ∧ Own m (done ++ [h]) (owner.setIfInBounds j (some done.length)) := by
  obtain ⟨ps, lps, hps⟩ := W.ps
  obtain ⟨j0, l0, n0⟩ := st_missing ps (m + 1) (by omega)
  have e0 : oAt owner j0 = none := Classical.byContradiction fun z => n0 (hps j0 (Nat.le_of_lt_succ l0) z)
  obtain ⟨K, a, b, c⟩ := slot_free ok owner h (Nat.le_of_lt_succ l0) e0
  have lw := way_in m h K
  obtain ⟨w, ew⟩ : ∃ w, way m h K = w := ⟨_, rfl⟩
  rw [ew] at a b lw
  have here : oAt (owner.setIfInBounds w (some done.length)) w = some done.length := oAt_set_self _ (by rw [W.sz]; omega)
  have els : ∀ {i : Nat}, i ≠ w → oAt (owner.setIfInBounds w (some done.length)) i = oAt owner i := fun ne => oAt_set_ne _ ne
  have keep : ∀ {i : Nat}, oAt owner i ≠ none → oAt (owner.setIfInBounds w (some done.length)) i ≠ none := fun {i} z => by
    by_cases q : i = w
    · rw [q, here]
      exact Option.some_ne_none _
    · rw [els q]
      exact z
  refine ⟨w, a, ⟨by rw [Array.size_setIfInBounds, W.sz], ?_, ?_, w :: ps, by rw [List.length_cons, lps, List.length_append]; rfl, ?_⟩⟩
  · intro j k lj e
    by_cases q : j = w
    · rw [q, here] at e
      cases e
      exact ⟨h, K, by rw [List.getElem?_append_right (Nat.le_refl _), Nat.sub_self]; rfl, ew.trans q.symm, fun k' l' => keep (c k' l')⟩
    · rw [els q] at e
      obtain ⟨h', K', x, y, z⟩ := W.at_ j k lj e
      have lk := (List.getElem?_eq_some_iff.mp x).1
      exact ⟨h', K', by rw [List.getElem?_append_left lk, x], y, fun k' l' => keep (z k' l')⟩
  · intro k lk
    rw [List.length_append] at lk
    rcases Nat.eq_or_lt_of_le (Nat.le_of_lt_succ lk) with q | q
    · exact ⟨w, lw, q ▸ here⟩
    · obtain ⟨j, lj, e⟩ := W.all k q
      have ne : j ≠ w := fun z => by
        rw [z, b] at e
        cases e
      exact ⟨j, lj, (els ne).trans e⟩
  · intro j lj e
    by_cases q : j = w
    · exact q ▸ List.mem_cons_self
    · rw [els q] at e
      exact List.mem_cons_of_mem _ (hps j lj e)
theorem own_fold {m : Nat} (ok : Msk m) : ∀ (rest done : List Int) (owner : Array (Option Nat)), Own m done owner → done.length + rest.length ≤ m →
    ∃ o, rest.foldl (stepF m) (some (owner, done.length)) = some (o, (done ++ rest).length) ∧ Own m (done ++ rest) o := by
  intro rest
  induction rest with
  | nil =>
    intro done owner W _
    rw [List.append_nil]
    exact ⟨owner, rfl, W⟩
  | cons h rest ih =>
    intro done owner W l
    have l2 : (h :: rest).length = rest.length + 1 := rfl
    have l3 : (done ++ [h]).length = done.length + 1 := List.length_append
    obtain ⟨j, e, W2⟩ := own_more ok W (by omega) h
    obtain ⟨o, f, W3⟩ := ih (done ++ [h]) _ W2 (by omega)
    have ea : done ++ [h] ++ rest = done ++ h :: rest := List.append_assoc done [h] rest
    rw [ea] at f W3
    rw [l3] at f
    exact ⟨o, by rw [List.foldl_cons, stepF_some e, f], W3⟩
theorem own_clean {m : Nat} (ok : Msk m) {hs : Array Int} (l : hs.size ≤ m) : ∃ o, SetTable.layClean m hs = some o ∧ Own m hs.toList o := by
  obtain ⟨o, f, W⟩ := own_fold ok hs.toList [] _ (Own.init m) (by show 0 + hs.size ≤ m; omega)
  refine ⟨o, ?_, W⟩
  have f' : hs.toList.foldl (stepF m) (some (Array.replicate (m + 1) none, 0)) = some (o, _) := f
  rw [layClean_eq, f']
  rfl
theorem tb_laid (t : SetTable) {hs : Array Int} {n M : Nat} (ew : SetTable.sizeAbove n - 1 = M) (ok : Msk M) (l : hs.size ≤ M) :
    ∃ t' order, t.relaid hs n = some (t', order) ∧ order.toList.Perm (List.range hs.size) ∧ Tb t' (order.toList.map fun i => hs.getD i 0) ∧ t'.mask = M ∧ t'.led = t.led ∧ t'.plain = t.plain := by
  obtain ⟨o, e, W⟩ := own_clean ok l
  have er : t.relaid hs n = some (tabOf t M o, ((liveOf M o).map (·.2)).toArray) := by
    rw [relaid_eq, ew, e]
    rfl
  have ris : Ris ((liveOf M o).map (·.1)) ∧ ∀ x ∈ (liveOf M o).map (·.1), x ∈ List.range (M + 1) := ris_live (fun j => o.getD j none) (List.range (M + 1)) (by unfold Ris; exact List.pairwise_lt_range)
  have nd : ((liveOf M o).map (·.1)).Nodup := ris.1.imp fun q => Nat.ne_of_lt q
  have held : ∀ k, k < hs.size → k ∈ (liveOf M o).map (·.2) := fun k lk => by
    obtain ⟨j, lj, ej⟩ := W.all k lk
    exact List.mem_map.mpr ⟨_, (mem_live W.sz).mpr ⟨lj, ej⟩, rfl⟩
  have len : (liveOf M o).length = hs.size := by
    obtain ⟨ps, l1, l2⟩ := W.ps
    have a := nat_nodup_len _ ps nd fun x mx => by
      obtain ⟨⟨y, k⟩, mq, rfl⟩ := List.mem_map.mp mx
      obtain ⟨ly, ey⟩ := (mem_live W.sz).mp mq
      exact l2 y ly (by rw [ey]; exact Option.some_ne_none _)
    have b := nat_nodup_len (List.range hs.size) _ List.nodup_range fun k mk => held k (List.mem_range.mp mk)
    rw [List.length_map] at a b
    rw [List.length_range] at b
    have z : hs.toList.length = hs.size := rfl
    omega
  refine ⟨_, _, er, perm_range _ _ (by rw [List.toList_toArray, List.length_map, len]) (by rw [List.toList_toArray]; exact held), ⟨?_, rfl, ?_, ok, ?_, ?_⟩, rfl, rfl, rfl⟩
  · exact ris.1
  · show ((liveOf M o).map (·.1)).length = _
    rw [List.toList_toArray, List.length_map, List.length_map, List.length_map]
  · exact fun x mx => Nat.le_of_lt_succ (List.mem_range.mp (ris.2 x mx))
  · intro i h j e1 e2
    have e2' : ((liveOf M o).map (·.1))[i]? = some j := e2
    rw [List.toList_toArray, List.map_map, List.getElem?_map] at e1
    rw [List.getElem?_map] at e2'
    obtain ⟨⟨y, k⟩, eq, rfl⟩ := Option.map_eq_some_iff.mp e2'
    rw [eq] at e1
    cases e1
    obtain ⟨ly, ey⟩ := (mem_live W.sz).mp (List.mem_of_getElem? eq)
    obtain ⟨h0, K, a1, a2, a3⟩ := W.at_ y k ly ey
    have eh : hs.getD k 0 = h0 := by
      rw [Array.getD_eq_getD_getElem?, ← Array.getElem?_toList, a1]
      rfl
    show ∃ c, way M (hs.getD k 0) c = y ∧ ∀ c', c' < c → way M (hs.getD k 0) c' ∈ (liveOf M o).map (·.1)
    rw [eh]
    refine ⟨K, a2, fun c l => ?_⟩
    obtain ⟨u, eu⟩ := Option.ne_none_iff_exists'.mp (a3 c l)
    exact List.mem_map.mpr ⟨(_, u), (mem_live W.sz).mpr ⟨way_in _ _ _, eu⟩, rfl⟩
end Lg
namespace Lg
open PySem PySem.Spec PyProof.Rows L2
def topN : Nat := 300
/-- the set at a holds the tuples of L -/
structure Tups (P : Program) (w : World) (h : Heap) (a : Addr) (L : List (Addr × List Int)) (es : Array (Int × Value)) (ep : Nat) (t : SetTable) : Prop where
  obj : ∃ o, h.get? a = some o ∧ o.ExactSet ∧ o.data = .set es ep t
  rows : es.toList = rowsOf P w L
  tb : Tb t (L.map fun p => thash P w p.2)
  once : (L.map (·.2)).Nodup
  each : ∀ p ∈ L, IsT P w h p.2 p.1
  plain : t.plain = true
  led : w.params.followText "set-order" = true ∨ t.led = true
  room : L.length * 5 < t.mask * 3
section
variable {P : Program} {w : World} {A : Around} {E : Value → Shared → Prop} {s : Shared} {a : Addr} {L : List (Addr × List Int)} {es : Array (Int × Value)} {ep : Nat} {t : SetTable}
theorem rows_size (e : es.toList = rowsOf P w L) : es.size = L.length := by
  have z := congrArg List.length e
  rw [rowsOf, List.length_map] at z
  exact z
theorem Tups.fit (R : Tups P w s.heap a L es ep t) : t.fits es.size = true := by
  have h1 : t.place.size = (L.map fun p => thash P w p.2).length := R.tb.many
  have h2 := rows_size R.rows
  have h3 := R.room
  rw [List.length_map] at h1
  unfold SetTable.fits SetTable.fill
  rw [Bool.and_eq_true, beq_iff_eq, decide_eq_true_eq, R.tb.bare]
  refine ⟨h1.trans h2.symm, ?_⟩
  show t.place.size + 0 ≤ t.mask
  omega
theorem rows_at (e : es.toList = rowsOf P w L) {i : Nat} {p : Addr × List Int} (h : L[i]? = some p) : es[i]? = some (thash P w p.2, Value.ref p.1) := by
  have z : es.toList[i]? = some (thash P w p.2, Value.ref p.1) := by rw [e, rowsOf, List.getElem?_map, h, Option.map_some]
  rwa [Array.getElem?_toList] at z
theorem Tups.gave (R : Tups P w s.heap a L es ep t) : ¬ t.gaveWay = true := by
  unfold SetTable.gaveWay
  rw [R.tb.msk.odd]
  decide
/-- what a search for k finds, from step c on; K is the gap -/
theorem look_from (R : Tups P w s.heap a L es ep t) {x : Addr} {k : List Int} (hx : IsT P w s.heap k x) (hu : A.units < cLine) {K : Nat} (lK : K < 10 * SetTable.turns t.mask)
    (gap : way t.mask (thash P w k) K ∉ t.place.toList) (full : ∀ c, c < K → way t.mask (thash P w k) c ∈ t.place.toList) {Q : SetFound → Shared → Prop}
    (q1 : k ∈ L.map (·.2) → Q (.there none) s) (q2 : k ∉ L.map (·.2) → Q (.free (way t.mask (thash P w k) K) false) s) :
    ∀ (f c : Nat) (o : Option SetTable.Probe), o.getD (t.probeStart (thash P w k)) = nth t.mask (p0 t.mask (thash P w k)) c → c ≤ K → K - c < f →
      (∀ (i : Nat) p, L[i]? = some p → p.2 = k → ∃ d, c ≤ d ∧ d < K ∧ t.place.toList[i]? = some (way t.mask (thash P w k) d)) →
      wpAny (model P w) A (setSearchFrom a (.ref x) (thash P w k) true f o) Q E s := by
  obtain ⟨ob, eo, xo, dt⟩ := R.obj
  intro f
  induction f with
  | zero => exact fun c o _ _ l _ => absurd l (Nat.not_lt_zero _)
  | succ f ih =>
    intro c o eo2 lc lf ahead
    rw [setSearchFrom_succ]
    refine wpAny_bind (wpAny_setState_of eo dt R.fit ?_)
    dsimp only
    refine wp_if_neg R.gave ?_
    try refine wpAny_bind (wpAny_pure ?_)
    have shift : ∀ d, nth t.mask (nth t.mask (p0 t.mask (thash P w k)) c) d = nth t.mask (p0 t.mask (thash P w k)) (c + d) := fun d => (nth_add t.mask c _ d).symm
    have shiftJ : ∀ d, (nth t.mask (nth t.mask (p0 t.mask (thash P w k)) c) d).j = way t.mask (thash P w k) (c + d) := fun d => congrArg SetTable.Probe.j (shift d)
    have hash : ∀ (i : Nat) p, L[i]? = some p → (es[i]?.map (·.1)).getD 0 = thash P w p.2 := fun i p e => by
      rw [rows_at R.rows e]
      rfl
    rcases go_spec t R.tb.up R.tb.bare (fun i => (es[i]?.map (·.1)).getD 0) (thash P w k) (10 * SetTable.turns t.mask) (K - c) _ (way_clean t.mask (thash P w k) c) (by omega)
      (fun d ld => by
        rw [shiftJ]
        exact full (c + d) (by omega))
      (by
        rw [shiftJ, Nat.add_sub_cancel' lc]
        exact gap) with ⟨d, i, ld, ei, _, fresh, ep⟩ | ⟨fresh, ep⟩
    · rw [shiftJ] at ei
      rw [shiftJ, shift] at ep
      have ep' : t.probe (fun i => (es[i]?.map (·.1)).getD 0) (thash P w k) (o.getD (t.probeStart (thash P w k))) = some (.candidate (way t.mask (thash P w k) (c + d)) i (nth t.mask (p0 t.mask (thash P w k)) (c + (d + 1)))) := by
        rw [eo2]
        exact ep
      rw [ep']
      dsimp only
      have li : i < L.length := by
        have z := (List.getElem?_eq_some_iff.mp ei).1
        rwa [R.tb.len, List.length_map] at z
      obtain ⟨p, hp⟩ : ∃ p, L[i]? = some p := ⟨_, List.getElem?_eq_getElem li⟩
      have mp := List.mem_of_getElem? hp
      have live := slot_live R.tb.up ei
      have goOn : wpAny (model P w) A (searchRest a (.ref x) (thash P w k) true f es t (way t.mask (thash P w k) (c + d)) i (nth t.mask (p0 t.mask (thash P w k)) (c + (d + 1)))) Q E s := by
        unfold searchRest
        rw [rows_at R.rows hp]
        dsimp only
        refine wpAny_bind (wpAny_holding (wpAny_eqBool_tuple hu (R.each p mp) hx ?_))
        refine wpAny_bind (wpAny_setState_of eo dt R.fit ?_)
        dsimp only
        by_cases same : p.2 = k
        · refine wp_if_pos (by rw [same]; simp) (wpAny_pure (q1 (List.mem_map.mpr ⟨p, mp, same⟩)))
        · refine wp_if_neg (by simp [same]) ?_
          try refine wpAny_bind (wpAny_pure ?_)
          rw [sameMem]
          dsimp only
          simp only [if_true, live, rows_at R.rows hp]
          refine wpAny_bind (wpAny_isSame_ref_self (wpAny_bind (wpAny_pure ?_)))
          simp only [if_true]
          refine wp_if_neg (by simp [same]) (ih (c + (d + 1)) _ rfl (by omega) (by omega) fun i2 p2 e2 k2 => ?_)
          obtain ⟨u, l1, l2, e3⟩ := ahead i2 p2 e2 k2
          refine ⟨u, Classical.byContradiction fun z => ?_, l2, e3⟩
          rcases Nat.eq_or_lt_of_le (show u ≤ c + d by omega) with q | q
          · have s2 := slot_live R.tb.up e3
            rw [q, live] at s2
            cases s2
            rw [hp] at e2
            cases e2
            exact same k2
          · refine fresh (u - c) i2 (by omega) ?_ ((hash i2 p2 e2).trans (congrArg (thash P w) k2))
            rw [shiftJ, Nat.add_sub_cancel' l1]
            exact e3
      by_cases ld : t.led = true
      · refine wp_if_neg (by simp [ld]) ?_
        try refine wpAny_bind (wpAny_pure ?_)
        exact goOn
      · refine wp_if_pos (by simp [ld]) (wpAny_bind (seen_tup hx (fun y my => ?_) ?_))
        · obtain ⟨e, me, rfl⟩ := List.mem_map.mp my
          have m2 : e ∈ es.toList := by
            have z : e ∈ es ∧ e.1 = thash P w k := by simpa using me
            simpa using z.1
          rw [R.rows, rowsOf] at m2
          obtain ⟨q, mq, rfl⟩ := List.mem_map.mp m2
          exact ⟨q.2, q.1, rfl, R.each q mq⟩
        · refine wp_if_neg (by decide) ?_
          try refine wpAny_bind (wpAny_pure ?_)
          exact goOn
    · rw [shiftJ, Nat.add_sub_cancel' lc] at ep
      have ep' : t.probe (fun i => (es[i]?.map (·.1)).getD 0) (thash P w k) (o.getD (t.probeStart (thash P w k))) = some (.empty (way t.mask (thash P w k) K) none) := by
        rw [eo2]
        exact ep
      rw [ep']
      dsimp only
      refine wpAny_pure (q2 fun m => ?_)
      obtain ⟨p, mp, ek⟩ := List.mem_map.mp m
      obtain ⟨i, e⟩ := List.getElem?_of_mem mp
      obtain ⟨u, l1, l2, e3⟩ := ahead i p e ek
      refine fresh (u - c) i (by omega) ?_ ((hash i p e).trans (congrArg (thash P w) ek))
      rw [shiftJ, Nat.add_sub_cancel' l1]
      exact e3
theorem look_at (R : Tups P w s.heap a L es ep t) {x : Addr} {k : List Int} (hx : IsT P w s.heap k x) (hu : A.units < cLine) {Q : SetFound → Shared → Prop}
    (q1 : k ∈ L.map (·.2) → Q (.there none) s)
    (q2 : ∀ K, k ∉ L.map (·.2) → way t.mask (thash P w k) K ∉ t.place.toList → (∀ c, c < K → way t.mask (thash P w k) c ∈ t.place.toList) → Q (.free (way t.mask (thash P w k) K) false) s) :
    wpAny (model P w) A (setSearch a (.ref x) (thash P w k) true) Q E s := by
  have rm := R.room
  obtain ⟨K, lK, gap, full⟩ := R.tb.gap (by rw [List.length_map]; omega) (thash P w k)
  have lm := R.tb.msk.le
  have tn : SetTable.turns t.mask = t.mask + 15 := rfl
  unfold setSearch
  refine look_from R hx hu lK gap full q1 (fun n => q2 K n gap full) 100000 0 none rfl (Nat.zero_le K) (by omega) fun i p e ek => ?_
  have ei : (L.map fun p => thash P w p.2)[i]? = some (thash P w k) := by rw [List.getElem?_map, e, Option.map_some, ek]
  have li := (List.getElem?_eq_some_iff.mp ei).1
  rw [← R.tb.len] at li
  have ej := List.getElem?_eq_getElem li
  obtain ⟨d, ld, ed⟩ := R.tb.ahead gap ei ej
  exact ⟨d, Nat.zero_le d, ld, by rw [ej, ed]⟩
theorem relay_to {o : Obj} (eo : s.heap.get? a = some o) (xo : o.ExactSet) (dt : o.data = .set es ep t) (rw1 : es.toList = rowsOf P w L) (sz : t.place.size = es.size) (bare : t.dummies = #[]) (lm : es.size ≤ t.mask)
    (once : (L.map (·.2)).Nodup) (each : ∀ p ∈ L, IsT P w s.heap p.2 p.1) (pl : t.plain = true) (ld : w.params.followText "set-order" = true ∨ t.led = true) {n M : Nat}
    (ew : SetTable.sizeAbove n = M + 1) (ok : Msk M) (rm : L.length * 5 < M * 3) {Q : Unit → Shared → Prop}
    (q : ∀ h' L' es' ep' t', Heap.SameBut a s.heap h' → Tups P w h' a L' es' ep' t' → L'.Perm L → Q () { s with heap := h' }) : wpAny (model P w) A (setRelay a n) Q E s := by
  have ls := rows_size rw1
  have fit : t.fits es.size = true := by
    unfold SetTable.fits SetTable.fill
    rw [Bool.and_eq_true, beq_iff_eq, decide_eq_true_eq, bare]
    refine ⟨sz, ?_⟩
    show t.place.size + 0 ≤ t.mask
    omega
  have l511 := ok.le
  have lM : (es.map (·.1)).size ≤ M := by
    rw [Array.size_map]
    omega
  obtain ⟨t', ord, e, pm, T, em, el, epl⟩ := tb_laid t (hs := es.map (·.1)) (n := n) (M := M) (by omega) ok lM
  rw [Array.size_map, ls] at pm
  obtain ⟨L2, r1, r2, r3⟩ := order_rows L es ord rw1 pm
  rw [← r3] at T
  have s2 : (ord.filterMap (es[·]?)).size = L.length := (rows_size r1).trans r2.length_eq
  rw [setRelay_eq]
  refine wpAny_bind (wpAny_setState_of eo dt fit ?_)
  dsimp only
  refine wp_if_neg (by rw [sizeLine_eq, ew]; omega) ?_
  try refine wpAny_bind (wpAny_pure ?_)
  rw [e]
  dsimp only
  refine wpAny_bind (wp_if_neg (by rw [s2, ls]; simp) ?_)
  try refine wpAny_bind (wpAny_pure ?_)
  refine wpAny_pure ?_
  dsimp only
  refine wpAny_storeSet_of eo dt ?_ (by rw [s2, sizeLine_eq]; omega)
  have sb : Heap.SameBut a s.heap (s.heap.update a (Obj.putSet (ord.filterMap (es[·]?)) t')) := Heap.SameBut.update ..
  refine q _ L2 _ (ep + 1) t' sb ⟨⟨_, store_at eo dt, ⟨xo.1, xo.2.1, xo.2.2⟩, rfl⟩, r1, T, (r2.map (·.2)).nodup_iff.mpr once, fun p m => isT_same (each p (r2.mem_iff.mp m)) eo dt sb, epl.trans pl, ?_, ?_⟩ r2
  · rw [el]
    exact ld
  · rw [em, r2.length_eq]
    exact rm
theorem above_5 : SetTable.sizeAbove (SetTable.grown 5) = 31 + 1 := by decide +kernel
theorem above_19 : SetTable.sizeAbove (SetTable.grown 19) = 127 + 1 := by decide +kernel
theorem above_77 : SetTable.sizeAbove (SetTable.grown 77) = 511 + 1 := by decide +kernel
/-- one more -/
theorem add_one (R : Tups P w s.heap a L es ep t) {x : Addr} {k : List Int} (hx : IsT P w s.heap k x) (hu : A.units < cLine) (few : L.length < topN) {Q : Bool → Shared → Prop}
    (q : ∀ b h' L' es' ep' t', Heap.SameBut a s.heap h' → Tups P w h' a L' es' ep' t' → (k ∈ L.map (·.2) → L' = L) → (k ∉ L.map (·.2) → L'.Perm ((x, k) :: L)) → Q b { s with heap := h' }) :
    wpAny (model P w) A (setAddHashed a (.ref x) (thash P w k)) Q E s := by
  obtain ⟨o, eo, xo, dt⟩ := R.obj
  have ls := rows_size R.rows
  have rm := R.room
  have l300 : L.length < 300 := few
  unfold setAddHashed
  refine wpAny_holding ?_
  rw [show (100000 : Nat) = 99999 + 1 from rfl, setAddHashedIn_succ]
  refine wpAny_bind (wpAny_setState_of eo dt R.fit ?_)
  dsimp only
  refine wp_if_neg (by simp [byScan, Value.scannable]) ?_
  try refine wpAny_bind (wpAny_pure ?_)
  refine wpAny_bind (look_at R hx hu (fun m => ?_) fun K nm gap full => ?_)
  · dsimp only
    exact wpAny_pure (q false _ L es ep t (Heap.SameBut.refl a _) R (fun _ => rfl) fun z => absurd m z)
  · dsimp only
    refine wpAny_bind (wpAny_setState_of eo dt R.fit ?_)
    dsimp only
    obtain ⟨p, t1, ept, lp, T1, em, el, epl, ef⟩ := R.tb.more gap full
    rw [ept]
    dsimp only
    have pl1 : t1.plain = true := epl.trans R.plain
    rw [List.length_map] at lp ef
    first
      | (refine wpAny_bind ?_; refine wp_if_pos pl1 ?_; refine hashBy_tup hx ?_)
      | refine wp_if_pos pl1 (wpAny_bind (hashBy_tup hx ?_))
    simp only [if_true]
    have er : (SetTable.insertAt es p (thash P w k, Value.ref x)).toList = rowsOf P w (L.take p ++ (x, k) :: L.drop p) := by rw [SetTable.toList_insertAt, rows_put, R.rows]
    have pm := put_perm L p (x, k)
    have len : (L.take p ++ (x, k) :: L.drop p).length = L.length + 1 := pm.length_eq
    have T2 : Tb t1 ((L.take p ++ (x, k) :: L.drop p).map fun p => thash P w p.2) := by
      rw [List.map_append, List.map_cons, List.map_take, List.map_drop]
      exact T1
    have once : ((L.take p ++ (x, k) :: L.drop p).map (·.2)).Nodup := (pm.map (·.2)).nodup_iff.mpr (List.nodup_cons.mpr ⟨nm, R.once⟩)
    have ls1 := rows_size er
    rw [len] at ls1
    generalize SetTable.insertAt es p (thash P w k, Value.ref x) = es1 at er ls1 ⊢
    generalize L.take p ++ (x, k) :: L.drop p = L1 at pm len T2 once er
    refine wpAny_bind (wpAny_storeSet_of eo dt ?_ (by rw [ls1, sizeLine_eq]; omega))
    have sb : Heap.SameBut a s.heap (s.heap.update a (Obj.putSet es1 t1)) := Heap.SameBut.update ..
    have eo1 := store_at (es' := es1) (t' := t1) eo dt
    generalize s.heap.update a (Obj.putSet es1 t1) = h1 at sb eo1 ⊢
    have each1 : ∀ p ∈ L1, IsT P w h1 p.2 p.1 := fun p m => by
      rcases List.mem_cons.mp (pm.mem_iff.mp m) with e | m
      · exact e ▸ isT_same hx eo dt sb
      · exact isT_same (R.each p m) eo dt sb
    have led1 : w.params.followText "set-order" = true ∨ t1.led = true := el.symm ▸ R.led
    have full1 : t1.tooFull = true ↔ (L.length + 1) * 5 ≥ t.mask * 3 := by
      unfold SetTable.tooFull
      rw [decide_eq_true_eq, ef, em]
    have sz1 : t1.place.size = es1.size := by
      have z := T2.many
      rwa [List.length_map, len, ← ls1] at z
    by_cases tf : t1.tooFull = true
    · have lb := full1.mp tf
      have grow : ∀ M, SetTable.sizeAbove (SetTable.grown (L.length + 1)) = M + 1 → Msk M → (L.length + 1) * 5 < M * 3 →
          wpAny (model P w) A (setRelay a (SetTable.grown (L.length + 1))) (fun _ s' => wpAny (model P w) A (pure true) Q E s') E { s with heap := h1 } := fun M e1 e2 e3 =>
        relay_to (s := { s with heap := h1 }) eo1 ⟨xo.1, xo.2.1, xo.2.2⟩ rfl er sz1 T2.bare (by rw [ls1, em]; rcases R.tb.msk.cases with z | z | z | z <;> rw [z] at rm lb <;> omega) once each1 pl1 led1 e1 e2 (by rw [len]; exact e3)
          fun h2 L2 es2 ep2 t2 sb2 R2 pm2 => wpAny_pure (q true h2 L2 es2 ep2 t2 (sb.trans sb2) R2 (fun z => absurd z nm) fun _ => pm2.trans pm)
      first
        | (refine wpAny_bind ?_; refine wp_if_pos (by simp [tf]) ?_)
        | (refine wp_if_pos (by simp [tf]) ?_; refine wpAny_bind ?_)
      rw [ls]
      rcases R.tb.msk.cases with z | z | z | z <;> rw [z] at rm lb
      · have e : L.length = 4 := by omega
        exact grow 31 (by rw [e]; exact above_5) (by unfold Msk; decide) (by omega)
      · have e : L.length = 18 := by omega
        exact grow 127 (by rw [e]; exact above_19) (by unfold Msk; decide) (by omega)
      · have e : L.length = 76 := by omega
        exact grow 511 (by rw [e]; exact above_77) (by unfold Msk; decide) (by omega)
      · omega
    · first
        | refine wp_if_neg (by simp [tf]) ?_
        | (refine wpAny_bind ?_; refine wp_if_neg (by simp [tf]) ?_; refine wpAny_pure ?_)
      have nf : ¬ (L.length + 1) * 5 ≥ t.mask * 3 := fun z => tf (full1.mpr z)
      refine wpAny_pure (q true h1 L1 es1 (ep + 1) t1 sb ⟨⟨_, eo1, ⟨xo.1, xo.2.1, xo.2.2⟩, rfl⟩, er, T2, once, each1, pl1, led1, ?_⟩ (fun z => absurd z nm) fun _ => pm)
      rw [len, em]
      omega
end
end Lg
namespace Lg
open PySem PySem.Spec PyProof.Rows L2
section
variable {P : Program} {w : World} {A : Around} {E : Value → Shared → Prop} {s : Shared}
theorem Tups.stay {h h' : Heap} {a : Addr} {L : List (Addr × List Int)} {es : Array (Int × Value)} {ep : Nat} {t : SetTable} (R : Tups P w h a L es ep t) (ka : ∀ o, h.get? a = some o → h'.get? a = some o) (kt : ∀ p ∈ L, IsT P w h' p.2 p.1) : Tups P w h' a L es ep t :=
  have ⟨o, eo, r⟩ := R.obj
  ⟨⟨o, ka o eo, r⟩, R.rows, R.tb, R.once, kt, R.plain, R.led, R.room⟩
theorem tups_none {h : Heap} {a : Addr} (e : h.get? a = some (setObj0 w)) : Tups P w h a [] #[] 0 (.fresh 0 0 (!w.params.followText "set-order")) := by
  refine ⟨⟨_, e, ⟨rfl, rfl, rfl⟩, rfl⟩, rfl, ⟨List.Pairwise.nil, rfl, rfl, List.mem_cons_self, (fun x m => nomatch m), fun i h j z => ?_⟩, List.nodup_nil, (fun p m => nomatch m), rfl, ?_, (by show 0 * 5 < 7 * 3; decide)⟩
  · rw [List.map_nil, List.getElem?_nil] at z
    cases z
  · show _ ∨ (!w.params.followText "set-order") = true
    cases w.params.followText "set-order"
    · exact Or.inr rfl
    · exact Or.inl rfl
theorem loop_tups {I : Addr} {fp wr : List Addr} {G : Array GenState → Array GenState → Prop} {n : Nat} {Pv : Nat → Value → Prop} {St : Nat → Shared → Prop} {R : Result → Shared → Prop}
    (W : WalksS P w A.in1 I fp wr G n Pv St) (S : Addr) (nf : S ∉ fp) (ks : List (Addr × List Int)) (en : n = ks.length) (few : ks.length ≤ topN) (vals : ∀ i v, Pv i v → ∃ p, ks[i]? = some p ∧ v = .ref p.1)
    (h0 : Heap) (each : ∀ p ∈ ks, IsT P w h0 p.2 p.1) (nS : h0.get? S = none) (nw : ∀ b ∈ wr, h0.get? b = none) (hu : A.in1.units < cLine) :
    ∀ (k i : Nat) (s : Shared), n - i = k → i ≤ n → St i s → (∀ b o, h0.get? b = some o → s.heap.get? b = some o) → (∃ L es ep t, Tups P w s.heap S L es ep t ∧ Got ks i L) →
      (∀ s' L es ep t, Moved (S :: wr) G s s' → Tups P w s'.heap S L es ep t → Got ks n L → (∀ b o, h0.get? b = some o → s'.heap.get? b = some o) → R (.ok (.ret .none)) s') →
      codeAny (model P w) A (.builtin "set.update.loop" ⟨[.ref S, .ref I], []⟩) R s := by
  have out : S ∉ wr := fun m => nf (W.sub _ m)
  have sub : ∀ b ∈ wr, b ∈ S :: wr := fun b m => List.mem_cons_of_mem _ m
  have keep : ∀ {s s' : Shared}, Moved wr G s s' → (∀ b o, h0.get? b = some o → s.heap.get? b = some o) → ∀ b o, h0.get? b = some o → s'.heap.get? b = some o := fun mv k b o e =>
    mv.heap b o (fun m => by rw [nw b m] at e; cases e) (k b o e)
  intro k
  induction k with
  | zero =>
    intro i s ek li st kp ⟨L, es, ep, t, T, g⟩ r
    obtain rfl : i = n := by omega
    refine codeAny_builtin PyProof.Rows.F.entry_set_update_loop ?_
    rw [Around.under_plainId PyProof.Rows.F.plain_set_update_loop _]
    show wpAny _ A.in1 (pyNext (.ref I) >>= _) _ _ s
    refine wpAny_bind (W.done s _ _ st fun s' mv => ?_)
    have kp2 := keep mv kp
    show wpAny _ A.in1 (ret Value.none) _ _ s'
    exact wpAny_pure (r s' L es ep t (mv.mono sub) (T.stay (fun o e => mv.heap S o out e) fun p m => isT_keep (each p (List.mem_of_mem_take (g.sub p m))) kp2) g kp2)
  | succ k ih =>
    intro i s ek li st kp ⟨L, es, ep, t, T, g⟩ r
    have lt : i < n := by omega
    refine codeAny_builtin PyProof.Rows.F.entry_set_update_loop ?_
    rw [Around.under_plainId PyProof.Rows.F.plain_set_update_loop _]
    show wpAny _ A.in1 (pyNext (.ref I) >>= _) _ _ s
    refine wpAny_bind (W.item i s _ _ lt st fun v s' pv st2 mv => ?_)
    obtain ⟨p, ep1, rfl⟩ := vals i v pv
    have kp2 := keep mv kp
    have T2 : Tups P w s'.heap S L es ep t := T.stay (fun o e => mv.heap S o out e) fun q m => isT_keep (each q (List.mem_of_mem_take (g.sub q m))) kp2
    have hx : IsT P w s'.heap p.2 p.1 := isT_keep (each p (List.mem_of_getElem? ep1)) kp2
    show wpAny _ A.in1 (holding [Value.ref p.1] (setAdd S (.ref p.1)) >>= _) _ _ s'
    refine wpAny_bind (wpAny_holding ?_)
    unfold setAdd
    refine wpAny_holding (wpAny_bind (wpAny_pyHash_tuple hu hx ?_))
    refine add_one (s := { s' with toks := s'.toks + (p.2.length + 1) }) T2 hx hu (by have := g.len; omega) fun b h2 L2 es2 ep2 t2 sb T3 c1 c2 => ?_
    have g2 : Got ks (i + 1) L2 := by
      by_cases c : p.2 ∈ L.map (·.2)
      · exact c1 c ▸ g.same ep1 c
      · exact g.more ep1 (c2 c)
    have kp3 : ∀ b o, h0.get? b = some o → h2.get? b = some o := fun b o e => (sb.2 b fun z => by rw [z, nS] at e; cases e).trans (kp2 b o e)
    refine wpAny_pure ⟨plainId_quiet PyProof.Rows.F.plain_set_update_loop _, ih (i + 1) _ (by omega) lt (W.frame _ s' _ _ st2 (Nat.le_add_right _ _) fun b m o e => ?_) kp3 ⟨L2, es2, ep2, t2, T3, g2⟩ fun s3 L3 es3 ep3 t3 mv3 T4 g3 kp4 => ?_⟩
    · rw [sb.2 b fun z => nf (z ▸ m)]
      exact e
    · refine r s3 L3 es3 ep3 t3 (Moved.trans W.gtrans ((mv.mono sub).then_heap (Nat.le_add_right _ _) fun b o m e => ?_) mv3) T4 g3 kp4
      rw [sb.2 b fun z => m (z ▸ List.mem_cons_self)]
      exact e
theorem set_of_tups {l : Addr} {items : Array Value} (ks : List (Addr × List Int)) {Q : Value → Shared → Prop} (hh : A.handled = none) (hl : s.heap.IsList l items) (hit : items.toList = ks.map fun p => Value.ref p.1)
    (each : ∀ p ∈ ks, IsT P w s.heap p.2 p.1) (few : ks.length ≤ topN) (hu : A.units + 16 < cLine)
    (h : ∀ (h' : Heap) (tk : Nat) L es ep t, Tups P w h' s.heap.objs.size L es ep t → Got ks ks.length L → (∀ b o, s.heap.get? b = some o → h'.get? b = some o) → Q (.ref s.heap.objs.size) { s with heap := h', toks := tk }) :
    wpAny (model P w) A (call (.type "set") [.ref l]) Q E s := by
  have sz : items.size = ks.length := by
    have z := congrArg List.length hit
    rwa [Array.length_toList, List.length_map] at z
  refine set_shell (fun h' => ∃ L es ep t, Tups P w h' s.heap.objs.size L es ep t ∧ Got ks ks.length L) hh hl (fun A' R hA hU hR => ?_) fun h' tk ⟨L, es, ep, t, T, g⟩ k => h h' tk L es ep t T g k
  have lt0 : l < s.heap.objs.size := by
    obtain ⟨o, ho, _⟩ := hl
    exact Heap.lt_size ho
  have z1 : (s.heap.push (setObj0 w)).objs.size = s.heap.objs.size + 1 := Heap.size_push ..
  have hl1 : (s.heap.push (setObj0 w)).IsList l items := hl.push _
  have nI : l ≠ s.heap.objs.size + 1 := Nat.ne_of_lt (Nat.lt_succ_of_lt lt0)
  have nS : s.heap.objs.size ∉ [s.heap.objs.size + 1, l] := by
    simp only [List.mem_cons, List.not_mem_nil, or_false, not_or]
    exact ⟨Nat.ne_of_lt (Nat.lt_succ_self _), Nat.ne_of_gt lt0⟩
  have vals : ∀ (i : Nat) (v : Value), items[i]? = some v → ∃ p, ks[i]? = some p ∧ v = .ref p.1 := fun i v hv => by
    rw [← Array.getElem?_toList, hit, List.getElem?_map] at hv
    obtain ⟨p, e, rfl⟩ := Option.map_eq_some_iff.mp hv
    exact ⟨p, e, rfl⟩
  have new : ∀ b, s.heap.objs.size ≤ b → s.heap.get? b = none := fun b lb => by
    cases e : s.heap.get? b with
    | none => rfl
    | some o => exact absurd (Heap.lt_size e) (Nat.not_lt.mpr lb)
  have hA1 : A'.in1.handled = none := by simp [hA]
  refine loop_tups ((Walks.list hA1 _ l nI items).toS) s.heap.objs.size nS ks sz few vals s.heap each (new _ (Nat.le_refl _)) (fun b m => new b ?_) (by simp only [Around.in1]; omega) (items.size - 0) 0 _ (by omega) (Nat.zero_le _) ⟨⟨litObj l, ?_, rfl, rfl⟩, hl1.push _⟩
    (fun b o e => Heap.get?_push_of_some _ (Heap.get?_push_of_some _ e)) ⟨[], #[], 0, _, tups_none (Heap.get?_push_of_some _ (Heap.get?_push_size _ rfl)), Got.zero ks⟩ fun s' L es ep t m T g _ => hR s' m ⟨L, es, ep, t, T, sz ▸ g⟩
  · rw [List.mem_singleton.mp m]
    exact Nat.le_succ _
  · rw [← z1]
    exact Heap.get?_push_size _ rfl
end
section
variable {X : Cx}
/-- len(set(xs)), xs a list of tuples of ints -/
def tLenSetT (K : PySem.W.Frag) (ta : TE) : TE := fun σ H Q => ta σ H fun x H1 => ∃ (l : Addr) (ks : List (Addr × List Int)), x = V.ref l ∧ SqL K H1 l (ks.map fun p => V.ref p.1) ∧ (∀ p ∈ ks, SqT K H1 p.1 (p.2.map V.int)) ∧ ks.length ≤ topN ∧
  ∀ D : List (List Int), D.Nodup → (∀ k, k ∈ D ↔ k ∈ ks.map (·.2)) → Q (.int D.length) H1
theorem pe_lenSetT {a : Expr} {ta : TE} {p p2 q pos : Pos} (hc : X.calm = true) (hu : X.A.units + 64 < cLine) (hg : Gl X "len") (hm : X.mg "len" = none) (hg2 : Gl X "set") (hm2 : X.mg "set" = none) (ha : PE X a ta)
    (na : starEach [a] X.env = (false, eval a X.env) :: starEach [] X.env := by rfl) : PE X (.Call (.Name "len" p) [.Call (.Name "set" p2) [a] [] q] [] pos) (tLenSetT X.K ta) := by
  constructor
  intro pins s σ H Q I h
  refine Call_ (ld_blt I hg hm PySem.boot_len (PyProof.Rows.callWith_builtin1 (PyProof.Rows.args_cons ?_ rfl) rfl rfl))
  refine Call_ (ld_blt I hg2 hm2 PyProof.Rows.boot_set (PyProof.Rows.callWith_type1 (PyProof.Rows.args_cons (thn (ha.run pins s σ H _ I h) fun v s1 hv => PyProof.Rows.args_nil ?_) na) na rfl))
  obtain ⟨x, H1, I1, r1, l, ks, rfl, hq, hk, few, q1⟩ := hv
  cases r1
  obtain ⟨its, r, pl, hz⟩ := I1.list hq
  refine set_of_tups (P := X.prog) (w := X.w) ks (I1.ok.hd hc) pl.isList (by simpa using refs_of_vals r) (fun p m => I1.isT (hk p m)) few (by omega) fun h' tk L es ep t T g k => ?_
  refine PyProof.Rows.args_nil ?_
  obtain ⟨o, eo, xo, dt⟩ := T.obj
  have I2 : Inv X pins σ H1 { s1 with heap := h', toks := tk } := I1.kept fun b o e => k b o e
  have ls := rows_size T.rows
  have lL := g.len
  have l300 : ks.length ≤ 300 := few
  refine call_len_set eo xo dt (Tups.fit (s := { s1 with heap := h', toks := tk }) T) (by rw [ls]; omega) ⟨.int L.length, H1, I2.tok _, ⟨_, by rw [ls]⟩, ?_⟩
  have e := q1 (L.map (·.2)) T.once fun z => ⟨fun m => ?_, fun m => ?_⟩
  · rwa [List.length_map] at e
  · obtain ⟨p, mp, rfl⟩ := List.mem_map.mp m
    exact List.mem_map.mpr ⟨p, List.mem_of_mem_take (g.sub p mp), rfl⟩
  · obtain ⟨p, mp, rfl⟩ := List.mem_map.mp m
    exact g.all p (by rwa [List.take_length])
end
end Lg
namespace Lg
open PySem PySem.Spec PyProof.Rows L2
/-! ### a session in the heap -/
def seF (c b : V) : List (Str × V) := [("changes", c), ("branches", b)]
theorem se_changes (c b : V) : (seF c b).lookup ("changes" : Str) = some c := lk_here
theorem se_branches (c b : V) : (seF c b).lookup ("branches" : Str) = some b := (lk_past (by decide +kernel)).trans lk_here
/-- where a session keeps what it changes -/
structure Own3 where
  lc : Addr
  lb : Addr
  bas : List Addr
def Own3.all (o : Own3) : List Addr := o.lc :: o.lb :: o.bas
structure Sess (CH CC CS : Addr) (F H : Hp) (v : V) (o : Own3) (s : Gf11.State) : Prop where
  obj : ∃ a dx, v = .ref a ∧ F a = some (.ins CS dx (seF (.ref o.lc) (.ref o.lb)))
  chs : ∃ cvs, H o.lc = some (.lst cvs) ∧ Paired (ChangeAt CH CC F) cvs s.changes
  brs : H o.lb = some (.lst (o.bas.map V.ref))
  each : Paired (fun a l => H a = some (.lst ((Gf11.toInts l).map V.int))) o.bas s.branches
  free : ∀ b ∈ o.all, F b = none
  nd : o.all.Nodup
/-- a call that may change a session's lists and nothing else that stood -/
structure OpX (F H : Hp) (o : List Addr) (F' H' : Hp) (o' : List Addr) : Prop where
  ff : Same F F'
  fh : Same F' H'
  hh : ∀ b u, H b = some u → b ∉ o → H' b = some u
  al : ∀ b u, H b = some u → ∃ u', H' b = some u'
  nw : ∀ b u, F' b = some u → F b = some u ∨ H b = none
  ow : ∀ b ∈ o', b ∈ o ∨ H b = none
section
variable {F H F1 H1 F2 H2 : Hp} {o o1 o2 : List Addr} {q : Addr} {u : HO}
theorem OpX.refl (h : Same F H) (o : List Addr) : OpX F H o F H o := ⟨Same.refl F, h, fun _ _ e _ => e, fun _ _ e => ⟨_, e⟩, fun _ _ e => .inl e, fun _ m => .inl m⟩
theorem OpX.out (a : OpX F H o F1 H1 o1) (n : H1 q = none) : H q = none := by
  cases e : H q with
  | none => rfl
  | some u =>
    obtain ⟨u', e'⟩ := a.al q u e
    rw [n] at e'
    cases e'
theorem Ext.op (a : Ext F H F1 H1) (o : List Addr) : OpX F H o F1 H1 o := ⟨a.ff, a.fh, fun b u e _ => a.hh b u e, fun b u e => ⟨u, a.hh b u e⟩, a.nw, fun _ m => .inl m⟩
theorem OpX.trans (a : OpX F H o F1 H1 o1) (b : OpX F1 H1 o1 F2 H2 o2) : OpX F H o F2 H2 o2 where
  ff := a.ff.trans b.ff
  fh := b.fh
  hh := fun c u e n => b.hh c u (a.hh c u e n) fun m => by
    rcases a.ow c m with k | k
    · exact n k
    · rw [e] at k
      cases k
  al := fun c u e => by
    obtain ⟨u1, e1⟩ := a.al c u e
    exact b.al c u1 e1
  nw := fun c u e => by
    rcases b.nw c u e with e | e
    · exact a.nw c u e
    · exact .inr (a.out e)
  ow := fun c m => by
    rcases b.ow c m with k | k
    · exact a.ow c k
    · exact .inr (a.out k)
theorem OpX.ext (a : OpX F H o F1 H1 o1) (b : Ext F1 H1 F2 H2) : OpX F H o F2 H2 o1 := a.trans (b.op o1)
theorem OpX.put (a : OpX F H o F1 H1 o1) (m : q ∈ o ∨ H q = none) (n : F1 q = none) : OpX F H o F1 (upd H1 q u) o1 where
  ff := a.ff
  fh := fun b w e => by
    rw [upd_ne fun z => by rw [z, n] at e; cases e]
    exact a.fh b w e
  hh := fun b w e nb => by
    rw [upd_ne fun z => by
      rcases m with m | m
      · exact nb (z ▸ m)
      · rw [z, m] at e
        cases e]
    exact a.hh b w e nb
  al := fun b w e => by
    by_cases z : b = q
    · exact ⟨u, by rw [z, upd_same]⟩
    · rw [upd_ne z]
      exact a.al b w e
  nw := a.nw
  ow := a.ow
theorem OpX.own (a : OpX F H o F1 H1 o1) (m : ∀ b ∈ o2, b ∈ o ∨ H b = none) : OpX F H o F1 H1 o2 := ⟨a.ff, a.fh, a.hh, a.al, a.nw, m⟩
theorem OpX.new (a : OpX F H o F1 H1 o1) (n : H1 q = none) : OpX F H o (upd F1 q u) (upd H1 q u) o1 := a.ext ((Ext.refl a.fh).new n)
theorem OpX.tmp (a : OpX F H o F1 H1 o1) (n : H1 q = none) : OpX F H o F1 (upd H1 q u) o1 := a.ext ((Ext.refl a.fh).tmp n)
theorem OpX.freeze (a : OpX F H o F1 H1 o1) (e : H1 q = some u) (n : F1 q = none) (m : H q = none) : OpX F H o (upd F1 q u) H1 o1 where
  ff := same_new a.ff n
  fh := fun b w k => by
    by_cases c : b = q
    · subst c
      rw [upd_same] at k
      rw [← k]
      exact e
    · rw [upd_ne c] at k
      exact a.fh b w k
  hh := a.hh
  al := a.al
  nw := fun b w k => by
    by_cases c : b = q
    · subst c
      exact .inr m
    · rw [upd_ne c] at k
      exact a.nw b w k
  ow := a.ow
end
section
variable {CH CC CS : Addr} {F H F1 H1 : Hp} {v : V} {o : Own3} {s : Gf11.State}
theorem Sess.ext (S : Sess CH CC CS F H v o s) (X : Ext F H F1 H1) : Sess CH CC CS F1 H1 v o s where
  obj := by
    obtain ⟨a, dx, e, ha⟩ := S.obj
    exact ⟨a, dx, e, X.ff _ _ ha⟩
  chs := by
    obtain ⟨cvs, e, p⟩ := S.chs
    exact ⟨cvs, X.hh _ _ e, Paired.imp (fun v c => ChangeAt.mono X.ff v c) p⟩
  brs := X.hh _ _ S.brs
  each := Paired.imp (fun a l e => X.hh _ _ e) S.each
  free := fun b m => by
    have f := S.free b m
    rcases List.mem_cons.mp m with e | m
    · obtain ⟨cvs, h, _⟩ := S.chs
      exact X.out f (e ▸ h)
    · rcases List.mem_cons.mp m with e | m
      · exact X.out f (e ▸ S.brs)
      · obtain ⟨i, hi⟩ := List.getElem?_of_mem m
        obtain ⟨l, _, h⟩ := Paired.get S.each hi
        exact X.out f h
  nd := S.nd
theorem Sess.stands (S : Sess CH CC CS F H v o s) : ∀ q ∈ o.all, ∃ u, H q = some u := fun q m => by
  rcases List.mem_cons.mp m with e | m
  · obtain ⟨cvs, h, _⟩ := S.chs
    exact ⟨_, e ▸ h⟩
  · rcases List.mem_cons.mp m with e | m
    · exact ⟨_, e ▸ S.brs⟩
    · obtain ⟨i, hi⟩ := List.getElem?_of_mem m
      obtain ⟨l, _, h⟩ := Paired.get S.each hi
      exact ⟨_, h⟩
theorem Sess.changesAt (S : Sess CH CC CS F H v o s) : ChangesAt CH CC F H (.ref o.lc) s.changes := by
  obtain ⟨cvs, e, p⟩ := S.chs
  exact ⟨o.lc, cvs, rfl, e, p⟩
theorem Sess.branchAt (S : Sess CH CC CS F H v o s) {b : Nat} {l : List Nat} (e : s.branches[b]? = some l) : ∃ q, o.bas[b]? = some q ∧ H q = some (.lst ((Gf11.toInts l).map V.int)) := Paired.at (F := fun q l => H q = some (.lst ((Gf11.toInts l).map V.int))) S.each e
theorem Sess.nBr (S : Sess CH CC CS F H v o s) : o.bas.length = s.branches.length := Paired.len S.each
theorem Paired.set2 {α β : Type} {F G : α → β → Prop} {a : α} {b : β} (k : ∀ x y, F x y → G x y) (g : G a b) : ∀ {l : List α} {m : List β} (i : Nat), Paired F l m → Paired G (l.set i a) (m.set i b)
  | _, _, _, .nil => .nil
  | _, _, 0, .cons _ t => .cons g (Paired.imp k t)
  | _, _, i + 1, .cons h t => .cons (k _ _ h) (Paired.set2 k g i t)
theorem Own3.nd3 {o : Own3} (nd : o.all.Nodup) : o.lc ≠ o.lb ∧ o.lc ∉ o.bas ∧ o.lb ∉ o.bas ∧ o.bas.Nodup := by
  obtain ⟨n1, nd1⟩ := List.nodup_cons.mp nd
  obtain ⟨n2, nd2⟩ := List.nodup_cons.mp nd1
  exact ⟨fun z => n1 (z ▸ List.mem_cons_self), fun z => n1 (List.mem_cons_of_mem _ z), n2, nd2⟩
theorem nodup_set {l : List Addr} {q : Addr} (nd : l.Nodup) (nq : q ∉ l) : ∀ i, (l.set i q).Nodup := by
  intro i
  induction l generalizing i with
  | nil => exact List.nodup_nil
  | cons x l ih =>
    obtain ⟨n1, n2⟩ := List.nodup_cons.mp nd
    have q1 : q ≠ x := fun z => nq (z ▸ List.mem_cons_self)
    have q2 : q ∉ l := fun z => nq (List.mem_cons_of_mem _ z)
    cases i with
    | zero => exact List.nodup_cons.mpr ⟨q2, n2⟩
    | succ i =>
      refine List.nodup_cons.mpr ⟨fun z => ?_, ih n2 q2 i⟩
      rcases mem_set z with e | m
      · exact q1 e.symm
      · exact n1 m
/-- a branch's list is another from now on -/
theorem Sess.setBr (S : Sess CH CC CS F H v o s) {b : Nat} {l' : List Nat} {q : Addr} (hq : H q = some (.lst ((Gf11.toInts l').map V.int))) (fq : F q = none) (nq : q ∉ o.all) :
    Sess CH CC CS F (upd H o.lb (.lst ((o.bas.set b q).map V.ref))) v ⟨o.lc, o.lb, o.bas.set b q⟩ { s with branches := s.branches.set b l' } := by
  obtain ⟨ne1, n2, n3, n4⟩ := Own3.nd3 S.nd
  have nqb : q ≠ o.lb := fun z => nq (z ▸ List.mem_cons_of_mem _ List.mem_cons_self)
  have nqc : q ≠ o.lc := fun z => nq (z ▸ List.mem_cons_self)
  have nqs : q ∉ o.bas := fun z => nq (List.mem_cons_of_mem _ (List.mem_cons_of_mem _ z))
  have sub : ∀ {x}, x ∈ o.bas.set b q → x = q ∨ x ∈ o.bas := fun m => mem_set m
  refine ⟨S.obj, ?_, upd_same, ?_, fun x m => ?_, ?_⟩
  · obtain ⟨cvs, h, p⟩ := S.chs
    exact ⟨cvs, by rw [upd_ne ne1]; exact h, p⟩
  · refine Paired.set2 (fun x y h => ?_) (by rw [upd_ne nqb]; exact hq) b (paired_out S.each n3)
    rw [upd_ne h.2]
    exact h.1
  · rcases List.mem_cons.mp m with e | m
    · exact S.free x (e ▸ List.mem_cons_self)
    · rcases List.mem_cons.mp m with e | m
      · exact S.free x (e ▸ List.mem_cons_of_mem _ List.mem_cons_self)
      · rcases sub m with e | m
        · exact e ▸ fq
        · exact S.free x (List.mem_cons_of_mem _ (List.mem_cons_of_mem _ m))
  · refine List.nodup_cons.mpr ⟨fun m => ?_, List.nodup_cons.mpr ⟨fun m => ?_, nodup_set n4 nqs b⟩⟩
    · rcases List.mem_cons.mp m with e | m
      · exact ne1 e
      · rcases sub m with e | m
        · exact nqc e.symm
        · exact n2 m
    · rcases sub m with e | m
      · exact nqb e.symm
      · exact n3 m
/-- a branch more -/
theorem Sess.addBr (S : Sess CH CC CS F H v o s) {l' : List Nat} {q : Addr} (hq : H q = some (.lst ((Gf11.toInts l').map V.int))) (fq : F q = none) (nq : q ∉ o.all) :
    Sess CH CC CS F (upd H o.lb (.lst (o.bas.map V.ref ++ [.ref q]))) v ⟨o.lc, o.lb, o.bas ++ [q]⟩ { s with branches := s.branches ++ [l'] } := by
  obtain ⟨ne1, n2, n3, n4⟩ := Own3.nd3 S.nd
  have nqb : q ≠ o.lb := fun z => nq (z ▸ List.mem_cons_of_mem _ List.mem_cons_self)
  have nqc : q ≠ o.lc := fun z => nq (z ▸ List.mem_cons_self)
  have nqs : q ∉ o.bas := fun z => nq (List.mem_cons_of_mem _ (List.mem_cons_of_mem _ z))
  refine ⟨S.obj, ?_, by rw [upd_same, List.map_append]; rfl, ?_, fun x m => ?_, ?_⟩
  · obtain ⟨cvs, h, p⟩ := S.chs
    exact ⟨cvs, by rw [upd_ne ne1]; exact h, p⟩
  · refine Paired.app (Paired.imp (fun x y h => ?_) (paired_out S.each n3)) (Paired.one (by rw [upd_ne nqb]; exact hq))
    rw [upd_ne h.2]
    exact h.1
  · rcases List.mem_cons.mp m with e | m
    · exact S.free x (e ▸ List.mem_cons_self)
    · rcases List.mem_cons.mp m with e | m
      · exact S.free x (e ▸ List.mem_cons_of_mem _ List.mem_cons_self)
      · rcases List.mem_append.mp m with m | m
        · exact S.free x (List.mem_cons_of_mem _ (List.mem_cons_of_mem _ m))
        · exact List.mem_singleton.mp m ▸ fq
  · refine List.nodup_cons.mpr ⟨fun m => ?_, List.nodup_cons.mpr ⟨fun m => ?_, List.nodup_append.mpr ⟨n4, List.nodup_cons.mpr ⟨(fun z => nomatch z), List.nodup_nil⟩, fun a ha c hc e => ?_⟩⟩⟩
    · rcases List.mem_cons.mp m with e | m
      · exact ne1 e
      · rcases List.mem_append.mp m with m | m
        · exact n2 m
        · exact nqc (List.mem_singleton.mp m).symm
    · rcases List.mem_append.mp m with m | m
      · exact n3 m
      · exact nqb (List.mem_singleton.mp m).symm
    · rw [List.mem_singleton.mp hc] at e
      exact nqs (e ▸ ha)
/-- a change more, in a branch -/
theorem Sess.addCh (S : Sess CH CC CS F H v o s) {b : Nat} {l : List Nat} {q : Addr} {cvs : List V} {cv : V} {c : Gf11.Change} (el : s.branches[b]? = some l) (eq : o.bas[b]? = some q) (hc : H o.lc = some (.lst cvs)) (hcv : ChangeAt CH CC F cv c) (n : Nat) :
    Sess CH CC CS F (upd (upd H o.lc (.lst (cvs ++ [cv]))) q (.lst ((Gf11.toInts l).map V.int ++ [.int n]))) v o ⟨s.changes ++ [c], s.branches.set b (l ++ [n])⟩ := by
  obtain ⟨ne1, n2, n3, n4⟩ := Own3.nd3 S.nd
  have mq := List.mem_of_getElem? eq
  have q1 : o.lc ≠ q := fun z => n2 (z ▸ mq)
  have q2 : o.lb ≠ q := fun z => n3 (z ▸ mq)
  refine ⟨S.obj, ?_, ?_, ?_, S.free, S.nd⟩
  · obtain ⟨cvs', h, p⟩ := S.chs
    rw [hc] at h
    cases h
    exact ⟨_, by rw [upd_ne q1]; exact upd_same, Paired.app p (Paired.one hcv)⟩
  · rw [upd_ne q2, upd_ne ne1.symm]
    exact S.brs
  · refine paired_set b (paired_out S.each n2) n4 eq ?_ fun x y ne h => ?_
    · rw [upd_same]
      unfold Gf11.toInts
      rw [List.map_append, List.map_append]
      rfl
    · rw [upd_ne ne, upd_ne h.2]
      exact h.1
end
/-- an answer -/
def AnsAt (F : Hp) (v : V) (r : Gf11.Result) : Prop := ∃ a, v = .ref a ∧ F a = some (.lst ((r.value :: r.fields).map V.int))
theorem AnsAt.mono {F F' : Hp} (s : Same F F') {v : V} {r : Gf11.Result} (h : AnsAt F v r) : AnsAt F' v r := by
  obtain ⟨a, e, ha⟩ := h
  exact ⟨a, e, s _ _ ha⟩
/-- what is so behind a call: the session is as it should be, the answer is -/
def OpPost (CH CC CS : Addr) (F H : Hp) (v : V) (o : Own3) (r : Gf11.State × Gf11.Result) (Q : VK) : Prop :=
  ∀ (F' H' : Hp) (o' : Own3) (x : V), OpX F H o.all F' H' o'.all → Sess CH CC CS F' H' v o' r.1 → AnsAt F' x r.2 → Q x H'
/-- .. one that changes nothing -/
theorem OpPost.same {CH CC CS : Addr} {F H F' H' : Hp} {v x : V} {o : Own3} {s : Gf11.State} {r : Gf11.Result} {Q : VK} (k : OpPost CH CC CS F H v o (s, r) Q) (S : Sess CH CC CS F H v o s) (X : Ext F H F' H') (a : AnsAt F' x r) : Q x H' := k F' H' o x (X.op _) (S.ext X) a
/-- the constants of operations.py -/
structure TxtO (mg : Str → Option Value) : Prop where
  maxLines : ∃ t, mg "MAX_LINES" = some (.int 8 t)
  maxBytes : ∃ t, mg "MAX_BYTES" = some (.int 12 t)
  maxChanges : ∃ t, mg "MAX_CHANGES" = some (.int 12 t)
  maxBranches : ∃ t, mg "MAX_BRANCHES" = some (.int 5 t)
  over : ∃ t, mg "OVER_LIMITS" = some (.int (-1) t)
  noBranch : ∃ t, mg "NO_BRANCH" = some (.int (-2) t)
  noItem : ∃ t, mg "NO_CHANGE_OR_LINE" = some (.int (-3) t)
  deps : ∃ t, mg "DEPENDENCIES" = some (.int (-4) t)
  confl : ∃ t, mg "CONFLICTS" = some (.int (-5) t)
  same : ∃ t, mg "NOTHING_NEW" = some (.int (-6) t)
  many : ∃ t, mg "TOO_MANY" = some (.int (-8) t)
/-- the classes Session -/
structure TxtS (K : PySem.W.Frag) (CS : Addr) : Prop where
  clS : Cls K CS
  nChanges : NoAttr K CS "changes"
  nBranches : NoAttr K CS "branches"
end Lg
namespace Lg
open PySem PySem.Spec PyProof.Rows L2
section
variable {P : Program} {w : World} {K : PySem.W.Frag} {mg : Str → Option Value} {base : Heap} {CH CC CO CL CS : Addr}
theorem dec_gt (a n : Nat) : decide ((n : Int) < (a : Int)) = decide (n < a) := decide_eq_decide.mpr Int.ofNat_lt
/-! ### exceeds_limits -/
abbrev sExc : Stmt := top 57
def tooMuch (t : List Gf11.Line) : Bool := decide (8 < t.length) || t.any fun x => decide (12 < x.length)
def spExc : Sp := fun vs H Q _ => ∃ (F : Hp) (v : V) (t : List Gf11.Line), Same F H ∧ vs = [v] ∧ LstAt LineAt F v t ∧ t.length ≤ 1000 ∧ ∀ H' : Hp, Ext F H F H' → Q (.bl (tooMuch t)) H'
def nExc : List Str := ["lines", "line"]
theorem scExc : FnScope nExc ["lines"] (defScope sExc) := ⟨rfl, rfl, rfl, by decide +kernel, rfl, by decide +kernel, by decide +kernel⟩
theorem ok_exc {f : Addr} {fd : FuncData} (F : Fun K "exceeds_limits" "exceeds_limits" sExc f fd) (T : Txt K mg CH CC CO CL CS) (TO : TxtO mg) : FnOk P w K mg base CX0 1 f fd ["lines"] spExc := by
  obtain ⟨t1, g1⟩ := TO.maxLines
  obtain ⟨t2, g2⟩ := TO.maxBytes
  refine F.ok scExc (fun vs H Q E h => ?_) (fun cdv A outer s H vs Q E hr h => ⟨_,
    pss_one (ps_ret (pe_or (pe_cmpR op_gt (pe_callB call_len (by rfl) T.len PySem.boot_len (pa_cons (pv 0) pa_nil)) (pe_glob rfl g1 (v := .int 8) ⟨_, rfl⟩) (nomark _)) (pe_one (pe_callB (cr_any rfl) (by rfl) T.any (by decide +kernel) (pa_cons
      (pe_lc (own := [("line", 1)]) (g := gName 1) (tt := tYes) (te := tOp (rI0 fun i j => .bl (decide (j < i))) (tCB (fun xs H Q => ∃ x n, xs = [x] ∧ LenV K x H n ∧ Q (.int n) H) (tCons (tVar 1) tNil)) (tC (.int 12))) (by rfl) scExc.nd (pi_list (pv 0)) (blkOk_by (N := nExc) (sc := defScope sExc) (by decide +kernel)) (fun _ _ _ _ _ => pg_name (i := 1) scExc.nd rfl (Or.inl rfl))
        (fun _ _ _ _ _ => pts_nil) (fun _ _ _ _ _ => pe_cmpR op_gt (pe_callB call_len (by rfl) T.len PySem.boot_len (pa_cons (pv 1) pa_nil)) (pe_glob rfl g2 (v := .int 12) ⟨_, rfl⟩) (nomark _))) pa_nil))))), ?_⟩)
  · obtain ⟨F0, v, t, _, rfl, _⟩ := h
    rfl
  · obtain ⟨F0, v, t, hF, rfl, ⟨a, vs, rfl, ha, pl⟩, lt, k⟩ := h
    have el : vs.length = t.length := Paired.len pl
    refine ⟨_, rfl, _, vs.length, rfl, Or.inl ⟨vs, SqL.of (hF _ _ ha), rfl⟩, _, _, rfl, rfl, _, rfl, ?_⟩
    have e8 : decide ((8 : Int) < (vs.length : Nat)) = decide (8 < t.length) := by
      rw [el]
      exact dec_gt t.length 8
    by_cases c : decide (8 < t.length) = true
    · refine ifT (e8.trans c) ?_
      have z : tooMuch t = true := by
        unfold tooMuch
        rw [c]
        rfl
      have := k H (Ext.refl hF)
      rw [z] at this
      exact this
    · have c' : decide (8 < t.length) = false := by
        cases e : decide (8 < t.length) with
        | false => rfl
        | true => exact absurd e c
      refine ifF (e8.trans c') ⟨_, rfl, a, rfl, ⟨vs, SqL.of (hF _ _ ha)⟩, fun D nD => ?_⟩
      have D0 := hF.free nD
      refine lc_list (K := K) (a := a) (xs := vs) (fun i H2 => ∃ bs, Ext F0 H F0 H2 ∧ H2 D = some (.lst (bs.map V.bl)) ∧ bs = (t.take i).map fun x => decide (12 < x.length))
        ⟨[], (Ext.refl hF).tmp nD, upd_same, rfl⟩ (fun i H2 _ ⟨_, X, _⟩ => SqL.of (X.fh _ _ ha)) ?_ ?_
      · rintro i y H2 hi ⟨bs, X, hD2, eb⟩
        obtain ⟨x, ex, la, rfl, hla⟩ := Paired.get pl hi
        have lb : (bs.map V.bl).length < sizeLine := by
          rw [List.length_map, eb, List.length_map, List.length_take]
          exact Nat.lt_of_le_of_lt (m := 1000) (by omega) (by decide)
        have ln : ((Gf11.toInts x).map V.int).length = x.length := by
          unfold Gf11.toInts
          rw [List.length_map, List.length_map]
        refine ⟨rfl, _, rfl, _, _, rfl, Or.inl ⟨_, SqL.of (X.fh _ _ hla), rfl⟩, _, _, rfl, rfl, _, hD2, lb, bs ++ [decide (12 < x.length)], X.put D0 nD, ?_, ?_⟩
        · rw [upd_same, List.map_append, ln, ← dec_gt x.length 12]
          rfl
        · rw [take_more ex, List.map_append, eb]
          rfl
      · rintro H2 ⟨bs, X, hD2, eb⟩
        rw [el, List.take_length] at eb
        refine ⟨D, bs, rfl, SqL.of hD2, ?_⟩
        have z : tooMuch t = bs.any id := by
          unfold tooMuch
          rw [c', Bool.false_or, eb, List.any_map]
          rfl
        rw [← z]
        exact k H2 X
/-! ### record_change -/
abbrev sRec : Stmt := top 55
def spRec (CH CC CS : Addr) : Sp := fun vs H Q _ => ∃ (F : Hp) (v cv : V) (b : Nat) (o : Own3) (s : Gf11.State) (l : List Nat) (c : Gf11.Change), Same F H ∧ vs = [v, .int b, cv] ∧ Sess CH CC CS F H v o s ∧ s.branches[b]? = some l ∧ ChangeAt CH CC F cv c ∧ s.changes.length ≤ 1000 ∧ l.length ≤ 1000 ∧
  ∀ H' : Hp, OpX F H o.all F H' o.all → Sess CH CC CS F H' v o ⟨s.changes ++ [c], s.branches.set b (l ++ [s.changes.length])⟩ → Q (.int s.changes.length) H'
theorem scRec : FnScope ["session", "branch", "change", "number"] ["session", "branch", "change"] (defScope sRec) := ⟨rfl, rfl, rfl, by decide +kernel, rfl, by decide +kernel, by decide +kernel⟩
theorem ok_rec {f : Addr} {fd : FuncData} (F : Fun K "record_change" "record_change" sRec f fd) (T : Txt K mg CH CC CO CL CS) (TS : TxtS K CS) : FnOk P w K mg base CX0 1 f fd ["session", "branch", "change"] (spRec CH CC CS) := by
  refine F.ok scRec (fun vs H Q E h => ?_) (fun cdv A outer s H vs Q E hr h => ⟨_,
    pss_cons (ps_set (i := 3) scRec.nd rfl (Or.inl rfl) (pe_callB call_len (by rfl) T.len PySem.boot_len (pa_cons (pe_fld (pv 0) rfl) pa_nil)))
    (pss_cons (ps_expr (pe_bm PySem.F.plainAttrs_list PySem.F.slot_list_append PySem.F.type_list_append mt_append (pe_fld (pv 0) rfl) (pa_cons (pv 2) pa_nil)))
    (pss_cons (ps_expr (pe_bm PySem.F.plainAttrs_list PySem.F.slot_list_append PySem.F.type_list_append mt_append (pe_ix ix_list (pe_fld (pv 0) rfl) (pv 1) (fun _ _ => rfl)) (pa_cons (pv 3) pa_nil)))
    (pss_one (ps_ret (pv 3))))), ?_⟩)
  · obtain ⟨F0, v, cv, b, o, s, l, c, _, rfl, _⟩ := h
    rfl
  · obtain ⟨F0, v, cv, b, o, st, l, c, hF, rfl, S, el, hcv, ls, ll, k⟩ := h
    obtain ⟨a, dx, rfl, ha⟩ := S.obj
    obtain ⟨cvs, hc, pc⟩ := S.chs
    have lc : cvs.length = st.changes.length := Paired.len pc
    obtain ⟨q, eq, hq⟩ := S.branchAt el
    obtain ⟨ne1, n2, n3, n4⟩ := Own3.nd3 S.nd
    have mq := List.mem_of_getElem? eq
    have al : a ≠ o.lc := fun z => by
      have := S.free o.lc List.mem_cons_self
      rw [← z, ha] at this
      cases this
    have aq : q ≠ o.lc := fun z => n2 (z ▸ mq)
    have hl2 : ((Gf11.toInts l).map V.int).length < sizeLine := by
      unfold Gf11.toInts
      rw [List.length_map, List.length_map]
      exact Nat.lt_of_le_of_lt ll (by decide)
    refine ⟨_, rfl, a, CS, dx, _, _, rfl, hF _ _ ha, TS.clS, TS.nChanges, se_changes _ _, _, cvs.length, rfl, Or.inl ⟨_, SqL.of hc, rfl⟩, ?_⟩
    refine ⟨_, rfl, a, CS, dx, _, _, rfl, hF _ _ ha, TS.clS, TS.nChanges, se_changes _ _, Or.inl ⟨rfl, _, SqL.of hc⟩, _, rfl, o.lc, cvs, cv, rfl, rfl, hc, Nat.lt_of_le_of_lt (by rw [lc]; exact ls) (by decide : 1000 < sizeLine), ?_⟩
    have hbs : upd H o.lc (.lst (cvs ++ [cv])) o.lb = some (.lst (o.bas.map V.ref)) := by
      rw [upd_ne ne1.symm]
      exact S.brs
    refine ⟨_, rfl, a, CS, dx, _, _, rfl, by rw [upd_ne al]; exact hF _ _ ha, TS.clS, TS.nBranches, se_branches _ _, _, rfl, o.lb, _, _, .ref q, rfl, rfl, SqL.of hbs, atI_nat (by rw [List.getElem?_map, eq]; rfl), Or.inl ⟨rfl, _, SqL.of (by rw [upd_ne aq]; exact hq)⟩, _, rfl, q, _, _, rfl, rfl, by rw [upd_ne aq]; exact hq, hl2, ?_⟩
    have S2 := S.addCh el eq hc hcv st.changes.length
    rw [lc]
    have f1 := S.free o.lc List.mem_cons_self
    have f2 := S.free q (List.mem_cons_of_mem _ (List.mem_cons_of_mem _ mq))
    exact ⟨_, rfl, k _ (((OpX.refl hF o.all).put (.inl List.mem_cons_self) f1).put (.inl (List.mem_cons_of_mem _ (List.mem_cons_of_mem _ mq))) f2) S2⟩
end
end Lg
namespace Lg
open PySem PySem.Spec PyProof.Rows L2
abbrev nV (l : List Nat) : List V := (Gf11.toInts l).map V.int
theorem nV_len (l : List Nat) : (nV l).length = l.length := by
  unfold nV Gf11.toInts
  rw [List.length_map, List.length_map]
theorem nV_app (l m : List Nat) : nV (l ++ m) = nV l ++ nV m := by
  unfold nV Gf11.toInts
  rw [List.map_append, List.map_append]
theorem flat_nV (l : List Nat) : (nV l).all flatV = true := by
  unfold nV Gf11.toInts
  rw [List.all_eq_true]
  intro x m
  obtain ⟨i, _, rfl⟩ := List.mem_map.mp m
  rfl
theorem inV_nV (n : Nat) : ∀ l : List Nat, inV (.int n) (nV l) = l.contains n
  | [] => rfl
  | a :: l => by
    show (eqV (.int a) (.int n) || inV (.int n) (nV l)) = _
    rw [inV_nV n l, List.contains_cons]
    congr 1
    show decide ((a : Int) = (n : Int)) = (n == a)
    by_cases h : a = n
    · subst h
      simp
    · have h2 : (n == a) = false := beq_eq_false_iff_ne.mpr (Ne.symm h)
      rw [h2, decide_eq_false]
      omega
theorem nV_get {l : List Nat} {i : Nat} {v : V} (h : (nV l)[i]? = some v) : ∃ m, l[i]? = some m ∧ v = .int (m : Int) := nat_at h
section
variable {P : Program} {w : World} {K : PySem.W.Frag} {mg : Str → Option Value} {base : Heap} {CH CC CO CL CS : Addr}
/-- an operation on a branch -/
def spB (CH CC CS : Addr) (f : Gf11.State → Nat → Gf11.State × Gf11.Result) : Sp := fun vs H Q _ => ∃ (F : Hp) (v : V) (b : Nat) (o : Own3) (s : Gf11.State) (l : List Nat), Same F H ∧ vs = [v, .int b] ∧ Sess CH CC CS F H v o s ∧ Good s ∧ s.branches[b]? = some l ∧ OpPost CH CC CS F H v o (f s b) Q
/-- .. with a number more -/
def spB2 (CH CC CS : Addr) (f : Gf11.State → Nat → Nat → Gf11.State × Gf11.Result) : Sp := fun vs H Q _ => ∃ (F : Hp) (v : V) (b c : Nat) (o : Own3) (s : Gf11.State) (l : List Nat), Same F H ∧ vs = [v, .int b, .int c] ∧ Sess CH CC CS F H v o s ∧ Good s ∧ s.branches[b]? = some l ∧ OpPost CH CC CS F H v o (f s b c) Q
/-! ### make_branch -/
abbrev sMkb : Stmt := top 56
theorem scMkb : FnScope ["session", "branch"] ["session", "branch"] (defScope sMkb) := ⟨rfl, rfl, rfl, by decide +kernel, rfl, by decide +kernel, by decide +kernel⟩
theorem ok_mkb {f : Addr} {fd : FuncData} (F : Fun K "make_branch" "make_branch" sMkb f fd) (T : Txt K mg CH CC CO CL CS) (TO : TxtO mg) (TS : TxtS K CS) : FnOk P w K mg base CX0 1 f fd ["session", "branch"] (spB CH CC CS fun s b => Gf11.step s (.branch b)) := by
  obtain ⟨t1, g1⟩ := TO.maxBranches
  obtain ⟨t2, g2⟩ := TO.many
  refine F.ok scMkb (fun vs H Q E h => ?_) (fun cdv A outer s H vs Q E hr h => ⟨_,
    pss_cons (ps_if (pt_cmpR op_ge (pe_callB call_len (by rfl) T.len PySem.boot_len (pa_cons (pe_fld (pv 0) rfl) pa_nil)) (pe_glob rfl g1 (v := .int 5) ⟨_, rfl⟩) (nomark _)) (pss_one (ps_ret (pe_lst (pa_cons (pe_glob rfl g2 (v := .int (-8)) ⟨_, rfl⟩) pa_nil)))) pss_nil)
    (pss_cons (ps_expr (pe_bm PySem.F.plainAttrs_list PySem.F.slot_list_append PySem.F.type_list_append mt_append (pe_fld (pv 0) rfl) (pa_cons (pe_callTy call_list_of (by rfl) T.list (by decide +kernel) (pa_cons (pe_ix ix_list (pe_fld (pv 0) rfl) (pv 1) (fun _ _ => rfl)) pa_nil)) pa_nil)))
    (pss_one (ps_ret (pe_lst (pa_cons (pe_op op_sub (pe_callB call_len (by rfl) T.len PySem.boot_len (pa_cons (pe_fld (pv 0) rfl) pa_nil)) pe_int) pa_nil))))), ?_⟩)
  · obtain ⟨F0, v, b, o, s, l, _, rfl, _⟩ := h
    rfl
  · obtain ⟨F0, v, b, o, st, l, hF, rfl, S, G, el, k⟩ := h
    have ek : Gf11.step st (.branch b) = if Gf11.MAX_BRANCHES ≤ st.branches.length then (st, Gf11.ok (-8)) else ({ st with branches := st.branches ++ [l] }, Gf11.natResult st.branches.length) := by
      show Gf11.withBranch st b _ = _
      unfold Gf11.withBranch
      rw [el]
    have k' : OpPost CH CC CS F0 H v o (Gf11.step st (.branch b)) Q := k
    rw [ek] at k'
    obtain ⟨a, dx, rfl, ha⟩ := S.obj
    obtain ⟨q, eq, hq⟩ := S.branchAt el
    have nb := S.nBr
    have b5 := G.brs
    have lb : (o.bas.map V.ref).length = st.branches.length := by rw [List.length_map, nb]
    have m5 : Gf11.MAX_BRANCHES = 5 := rfl
    refine ⟨_, rfl, a, CS, dx, _, _, rfl, hF _ _ ha, TS.clS, TS.nBranches, se_branches _ _, _, st.branches.length, rfl, Or.inl ⟨_, SqL.of S.brs, lb.symm⟩, _, _, rfl, rfl, _, rfl, ?_⟩
    by_cases c : Gf11.MAX_BRANCHES ≤ st.branches.length
    · rw [if_pos c] at k'
      refine ifT (decide_eq_true (show (5 : Int) ≤ (st.branches.length : Int) by omega)) ⟨by show 1 ≤ sizeLine; decide, fun t nt => ?_⟩
      have X := (Ext.refl hF).new nt (o := .lst [.int (-8)])
      exact k'.same S X ⟨t, rfl, upd_same⟩
    · rw [if_neg c] at k'
      refine ifF (decide_eq_false (show ¬ (5 : Int) ≤ (st.branches.length : Int) by omega)) ?_
      refine ⟨_, rfl, a, CS, dx, _, _, rfl, hF _ _ ha, TS.clS, TS.nBranches, se_branches _ _, Or.inl ⟨rfl, _, SqL.of S.brs⟩, _, rfl, a, CS, dx, _, _, rfl, hF _ _ ha, TS.clS, TS.nBranches, se_branches _ _, _, rfl, o.lb, _, _, .ref q, rfl, rfl, SqL.of S.brs, atI_nat (by rw [List.getElem?_map, eq]; rfl), q, _, rfl, Or.inl (SqL.of hq), fun n nn => ?_⟩
      have X1 := (Ext.refl hF).tmp nn (o := .lst (nV l))
      have S1 := S.ext X1
      have n0 := hF.free nn
      have nin : n ∉ o.all := fun m => by
        obtain ⟨u, e⟩ := S.stands n m
        rw [nn] at e
        cases e
      have S2 := S1.addBr upd_same n0 nin
      have fl := S.free o.lb (List.mem_cons_of_mem _ List.mem_cons_self)
      have O2 := ((X1.op o.all).put (q := o.lb) (u := .lst (o.bas.map V.ref ++ [.ref n])) (.inl (List.mem_cons_of_mem _ List.mem_cons_self)) fl).own (o2 := Own3.all ⟨o.lc, o.lb, o.bas ++ [n]⟩) fun b m => by
        rcases List.mem_cons.mp m with e | m
        · exact .inl (e ▸ List.mem_cons_self)
        · rcases List.mem_cons.mp m with e | m
          · exact .inl (e ▸ List.mem_cons_of_mem _ List.mem_cons_self)
          · rcases List.mem_append.mp m with m | m
            · exact .inl (List.mem_cons_of_mem _ (List.mem_cons_of_mem _ m))
            · exact .inr (List.mem_singleton.mp m ▸ nn)
      refine ⟨o.lb, _, _, rfl, rfl, S1.brs, Nat.lt_of_le_of_lt (m := 5) (by omega) (by decide), ?_⟩
      have e3 : ((o.bas.map V.ref ++ [V.ref n]).length : Int) - 1 = (st.branches.length : Int) := by
        rw [List.length_append, lb]
        show ((st.branches.length + 1 : Nat) : Int) - 1 = _
        omega
      refine ⟨_, rfl, a, CS, dx, _, _, rfl, O2.fh _ _ ha, TS.clS, TS.nBranches, se_branches _ _, _, (o.bas.map V.ref ++ [V.ref n]).length, rfl, Or.inl ⟨_, SqL.of upd_same, rfl⟩, _, _, rfl, rfl, by show 1 ≤ sizeLine; decide, fun t nt => ?_⟩
      have X3 := (Ext.refl O2.fh).new nt (o := .lst [.int ((o.bas.map V.ref ++ [V.ref n]).length - 1)])
      refine k' _ _ _ _ (O2.ext X3) (S2.ext X3) ⟨t, rfl, ?_⟩
      rw [upd_same, e3]
      rfl
end
end Lg
namespace Lg
open PySem PySem.Spec PyProof.Rows L2
theorem ixN_nat {n j : Nat} (h : j < n) : ixN n (j : Int) = some j := by
  unfold ixN
  rw [if_pos (by omega), if_pos (by omega), Int.toNat_natCast]
theorem sorted_to {l t : List Nat} {ns : List Int} (nd : l.Nodup) (up : Up t) (m : ∀ x, x ∈ t ↔ x ∈ l) (p : ns.Perm (nInts l)) (s : ns.Pairwise (· ≤ ·)) : ns = nInts t := by
  have nd1 : (nInts l).Nodup := List.pairwise_map.mpr (List.Pairwise.imp (fun h e => h (by omega)) nd)
  have nd2 : ns.Nodup := p.nodup_iff.mpr nd1
  have lt : ns.Pairwise (· < ·) := List.Pairwise.imp (fun h => by omega) (List.Pairwise.and s nd2)
  refine upI_ext lt (up_ints up) fun x => ?_
  rw [p.mem_iff, mem_ints, mem_ints]
  exact ⟨fun ⟨n, h, e⟩ => ⟨n, (m n).mpr h, e⟩, fun ⟨n, h, e⟩ => ⟨n, (m n).mp h, e⟩⟩
section
variable {CH CC CS : Addr} {F H F1 H1 : Hp} {v : V} {o : Own3} {s : Gf11.State}
theorem own_set {b : Nat} {n : Addr} (nn : H n = none) : ∀ x ∈ Own3.all ⟨o.lc, o.lb, o.bas.set b n⟩, x ∈ o.all ∨ H x = none := fun x m => by
  rcases List.mem_cons.mp m with e | m
  · exact .inl (e ▸ List.mem_cons_self)
  · rcases List.mem_cons.mp m with e | m
    · exact .inl (e ▸ List.mem_cons_of_mem _ List.mem_cons_self)
    · rcases mem_set m with e | m
      · exact .inr (e ▸ nn)
      · exact .inl (List.mem_cons_of_mem _ (List.mem_cons_of_mem _ m))
/-- session.branches[b] = n -/
theorem Sess.put (S : Sess CH CC CS F1 H1 v o s) (S0 : Sess CH CC CS F H v o s) (O : OpX F H o.all F1 H1 o.all) {b : Nat} {l' : List Nat} {n : Addr} (hn : H1 n = some (.lst (nV l'))) (fn : F1 n = none) (nn : H n = none) :
    Sess CH CC CS F1 (upd H1 o.lb (.lst ((o.bas.map V.ref).set b (.ref n)))) v ⟨o.lc, o.lb, o.bas.set b n⟩ { s with branches := s.branches.set b l' } ∧
    OpX F H o.all F1 (upd H1 o.lb (.lst ((o.bas.map V.ref).set b (.ref n)))) (Own3.all ⟨o.lc, o.lb, o.bas.set b n⟩) := by
  have nin : n ∉ o.all := fun m => by
    obtain ⟨u, e⟩ := S0.stands n m
    rw [nn] at e
    cases e
  have e : (o.bas.map V.ref).set b (.ref n) = (o.bas.set b n).map V.ref := List.map_set.symm
  rw [e]
  exact ⟨S.setBr hn fn nin, (O.put (.inl (List.mem_cons_of_mem _ List.mem_cons_self)) (S.free _ (List.mem_cons_of_mem _ List.mem_cons_self))).own (own_set nn)⟩
end
section
variable {P : Program} {w : World} {K : PySem.W.Frag} {mg : Str → Option Value} {base : Heap} {CH CC CO CL CS : Addr}
/-! ### merge_branch -/
abbrev sMer : Stmt := top 62
def nMer : List Str := ["session", "branch", "other_branch", "members", "others", "added", "number"]
theorem scMer : FnScope nMer ["session", "branch", "other_branch"] (defScope sMer) := ⟨rfl, rfl, rfl, by decide +kernel, rfl, by decide +kernel, by decide +kernel⟩
theorem merge_len {l r : List Nat} (hl : Up l) (hr : Up r) : (r.foldl (fun l p => Gf11.insertNat p l) l).length = l.length + (r.filter fun q => !l.contains q).length := by
  have p : (r.foldl (fun l p => Gf11.insertNat p l) l).Perm (l ++ r.filter fun q => !l.contains q) := by
    refine (List.perm_ext_iff_of_nodup (up_nodup (up_fold_insert hl)) (List.nodup_append.mpr ⟨up_nodup hl, List.Pairwise.filter _ (up_nodup hr), fun a ha c hc e => ?_⟩)).mpr fun x => ?_
    · subst e
      have := (List.mem_filter.mp hc).2
      simp [ha] at this
    · rw [mem_fold_insert, List.mem_append, List.mem_filter]
      by_cases h : x ∈ l <;> simp [h]
  rw [p.length_eq, List.length_append]
theorem ok_mer {f : Addr} {fd : FuncData} (F : Fun K "merge_branch" "merge_branch" sMer f fd) (T : Txt K mg CH CC CO CL CS) (TS : TxtS K CS) :
    FnOk P w K mg base CX0 1 f fd ["session", "branch", "other_branch"] (fun vs H Q _ => ∃ (F : Hp) (v : V) (b c : Nat) (o : Own3) (s : Gf11.State) (l r : List Nat), Same F H ∧ vs = [v, .int b, .int c] ∧ Sess CH CC CS F H v o s ∧ Good s ∧ s.branches[b]? = some l ∧ s.branches[c]? = some r ∧ OpPost CH CC CS F H v o (Gf11.step s (.merge b c)) Q) := by
  refine F.ok scMer (fun vs H Q E h => ?_) (fun cdv A outer s H vs Q E hr h => ⟨_,
    pss_cons (ps_set (i := 3) scMer.nd rfl (Or.inr rfl) (pe_ix ix_list (pe_fld (pv 0) rfl) (pv 1) (fun _ _ => rfl)))
    (pss_cons (ps_set (i := 4) scMer.nd rfl (Or.inl rfl) (pe_ix ix_list (pe_fld (pv 0) rfl) (pv 2) (fun _ _ => rfl)))
    (pss_cons (ps_setLc (i := 5) (own := [("number", 6)]) (g := gName 6) (tt := tTest (tOp (rIn K true) (tVar 6) (tVar 3))) (te := tVar 6) rfl scMer.nd rfl rfl (sw_true rfl rfl rfl (by decide +kernel)) (pi_list (pv 4))
        (blkOk_by (N := nMer) (sc := defScope sMer) (by decide +kernel)) (fun _ _ _ _ _ => pg_name (i := 6) scMer.nd rfl (Or.inl rfl)) (fun _ _ _ _ _ => pts_one (pt_cmpR op_notIn_seq (pv 6) (pv 3) (by rfl))) (fun _ _ _ _ _ => pv 6))
    (pss_cons (ps_asg (pe_callB cr_sortedI (by rfl) T.sorted (by decide +kernel) (pa_cons (pe_op op_cat (pv 3) (pv 5)) pa_nil)) (pg_sub (pe_fld (pv 0) rfl) (pv 1) set_list))
    (pss_one (ps_ret (pe_lst (pa_cons (pe_callB call_len (by rfl) T.len PySem.boot_len (pa_cons (pv 5) pa_nil)) pa_nil))))))), ?_⟩)
  · obtain ⟨F0, v, b, c, o, s, l, r, _, rfl, _⟩ := h
    rfl
  · obtain ⟨F0, v, b, c, o, st, l, r, hF, rfl, S, G, el, er, k⟩ := h
    obtain ⟨a, dx, rfl, ha⟩ := S.obj
    obtain ⟨q, eq, hq⟩ := S.branchAt el
    obtain ⟨q2, eq2, hq2⟩ := S.branchAt er
    obtain ⟨ul, xl, ll⟩ := G.members el
    obtain ⟨ur, xr, lr⟩ := G.members er
    have l12 := G.few
    have nb := S.nBr
    have eb := (List.getElem?_eq_some_iff.mp el).1
    have at1 : atI (o.bas.map V.ref) (b : Int) = some (.ref q) := atI_nat (by rw [List.getElem?_map, eq]; rfl)
    have at2 : atI (o.bas.map V.ref) (c : Int) = some (.ref q2) := atI_nat (by rw [List.getElem?_map, eq2]; rfl)
    refine ⟨_, rfl, a, CS, dx, _, _, rfl, hF _ _ ha, TS.clS, TS.nBranches, se_branches _ _, _, rfl, o.lb, _, _, _, rfl, rfl, SqL.of S.brs, at1, ?_⟩
    refine ⟨_, rfl, a, CS, dx, _, _, rfl, hF _ _ ha, TS.clS, TS.nBranches, se_branches _ _, _, rfl, o.lb, _, _, _, rfl, rfl, SqL.of S.brs, at2, ?_⟩
    refine ⟨_, rfl, q2, rfl, ⟨_, SqL.of hq2⟩, fun D nD => ?_⟩
    have X0 := (Ext.refl hF).tmp nD (o := .lst [])
    have nF := hF.free nD
    refine lc_list (K := K) (a := q2) (xs := nV r) (fun i H2 => Ext F0 H F0 H2 ∧ H2 D = some (.lst (nV ((r.take i).filter fun x => !l.contains x))))
      ⟨X0, upd_same⟩ (fun i H2 _ ⟨X, _⟩ => SqL.of (X.hh _ _ hq2)) ?_ ?_
    · rintro i y H2 hi ⟨X, hD⟩
      obtain ⟨m, em, rfl⟩ := nV_get hi
      refine ⟨rfl, _, rfl, _, rfl, q, _, rfl, Or.inl (SqL.of (X.hh _ _ hq)), rfl, flat_nV l, _, rfl, ?_⟩
      rw [inV_nV]
      have tk : (r.take (i + 1)).filter (fun x => !l.contains x) = (r.take i).filter (fun x => !l.contains x) ++ if (!l.contains m) = true then [m] else [] := by
        rw [take_more em, List.filter_append]
        congr 1
        by_cases h : (!l.contains m) = true
        · rw [if_pos h, List.filter_cons, if_pos h]
          rfl
        · rw [if_neg h, List.filter_cons, if_neg h]
          rfl
      show if (!l.contains m) = true then _ else _
      by_cases h : (!l.contains m) = true
      · rw [if_pos h] at tk ⊢
        refine ⟨_, rfl, _, hD, ?_, X.put nF nD, ?_⟩
        · rw [nV_len]
          have h1 := List.length_filter_le (fun x => !l.contains x) (r.take i)
          rw [List.length_take] at h1
          exact Nat.lt_of_le_of_lt (m := 12) (by omega) (by decide)
        · rw [upd_same, tk, nV_app]
          rfl
      · rw [if_neg h] at tk ⊢
        rw [List.append_nil] at tk
        exact ⟨X, by rw [tk]; exact hD⟩
    · rintro H2 ⟨X, hD⟩
      rw [nV_len, List.take_length] at hD
      have la : (r.filter fun x => !l.contains x).length ≤ r.length := List.length_filter_le _ _
      refine ⟨_, rfl, _, rfl, q, D, _, _, rfl, rfl, X.hh _ _ hq, hD, ?_, fun n1 nn1 => ?_⟩
      · rw [nV_len, nV_len]
        exact Nat.le_trans (m := 24) (by omega) (by decide)
      have X1 := X.tmp nn1 (o := .lst (nV l ++ nV (r.filter fun x => !l.contains x)))
      rw [← nV_app] at X1 ⊢
      refine ⟨n1, nInts (l ++ r.filter fun x => !l.contains x), rfl, SqL.of upd_same, fun ns n2 pm so nn2 => ?_⟩
      have X2 := X1.tmp nn2 (o := .lst (ns.map V.int))
      have ens : ns = nInts (r.foldl (fun l p => Gf11.insertNat p l) l) := by
        refine sorted_to (List.nodup_append.mpr ⟨up_nodup ul, List.Pairwise.filter _ (up_nodup ur), fun x hx y hy e => ?_⟩) (up_fold_insert ul) (fun x => ?_) pm so
        · subst e
          have := (List.mem_filter.mp hy).2
          simp [hx] at this
        · rw [mem_fold_insert, List.mem_append, List.mem_filter]
          by_cases h : x ∈ l <;> simp [h]
      have S2 := S.ext X2
      have f2 := X1.fh.free nn2
      have h2 := X1.hh.free nn2
      obtain ⟨S3, O3⟩ := S2.put S (X2.op _) (b := b) (l' := r.foldl (fun l p => Gf11.insertNat p l) l) (n := n2) (by rw [upd_same, ens]; rfl) f2 h2
      refine ⟨_, rfl, a, CS, dx, _, _, rfl, X2.fh _ _ ha, TS.clS, TS.nBranches, se_branches _ _, _, rfl, o.lb, _, _, b, rfl, rfl, S2.brs, ixN_nat (by rw [List.length_map]; omega), ?_⟩
      have hD3 : upd (upd (upd H2 n1 (.lst (nV (l ++ r.filter fun x => !l.contains x)))) n2 (.lst (ns.map V.int))) o.lb (.lst ((o.bas.map V.ref).set b (.ref n2))) D = some (.lst (nV (r.filter fun x => !l.contains x))) := by
        have x1 : D ≠ o.lb := fun z => by
          have := S.brs
          rw [← z, nD] at this
          cases this
        rw [upd_ne x1]
        exact (same_new (same_new (Same.refl H2) nn1) nn2) _ _ hD
      refine ⟨_, rfl, _, (r.filter fun x => !l.contains x).length, rfl, Or.inl ⟨_, SqL.of hD3, (nV_len _).symm⟩, by show 1 ≤ sizeLine; decide, fun t nt => ?_⟩
      have X4 := (Ext.refl O3.fh).new nt (o := .lst [.int (r.filter fun x => !l.contains x).length])
      have ek : Gf11.step st (.merge b c) = ({ st with branches := st.branches.set b (r.foldl (fun l p => Gf11.insertNat p l) l) }, Gf11.natResult ((r.foldl (fun l p => Gf11.insertNat p l) l).length - l.length)) := by
        show Gf11.withBranch st b (fun l => Gf11.withBranch st c _) = _
        unfold Gf11.withBranch
        rw [el, er]
      have k' : OpPost CH CC CS F0 H (.ref a) o (Gf11.step st (.merge b c)) Q := k
      rw [ek, merge_len ul ur, Nat.add_sub_cancel_left] at k'
      exact k' _ _ _ _ (O3.ext X4) (S3.ext X4) ⟨t, rfl, upd_same⟩
end
end Lg
namespace Lg
open PySem PySem.Spec PyProof.Rows L2
theorem filter_more {α : Type} {p : α → Bool} {l : List α} {i : Nat} {x : α} (e : l[i]? = some x) : (l.take (i + 1)).filter p = (l.take i).filter p ++ if p x = true then [x] else [] := by
  rw [take_more e, List.filter_append]
  congr 1
  by_cases h : p x = true
  · rw [if_pos h, List.filter_cons, if_pos h]
    rfl
  · rw [if_neg h, List.filter_cons, if_neg h]
    rfl
theorem good_dep {s : Gf11.State} (G : Good s) {p : Nat} {c : Gf11.Change} (e : s.changes[p]? = some c) : c.hunks.length ≤ 1000 ∧ c.deleted.length ≤ 1000 ∧ Up (Gf11.dependencies c) ∧ (∀ x ∈ Gf11.dependencies c, x < p) ∧ (Gf11.dependencies c).length ≤ 12 ∧ (Gf11.insertedLines c).length ≤ 8 := by
  have ok := G.chg p c e
  have h8 := ok.few
  have h96 := ok.ndel
  have lt := (List.getElem?_eq_some_iff.mp e).1
  have f12 := G.few
  have dl := up_len p (up_sortNumbers _) (dep_mem ok)
  exact ⟨by omega, by omega, up_sortNumbers _, dep_mem ok, by have : (Gf11.dependencies c).length ≤ p := dl; omega, ok.lines⟩
section
variable {P : Program} {w : World} {K : PySem.W.Frag} {mg : Str → Option Value} {base : Heap} {CH CC CO CL CS : Addr}
/-! ### apply_change -/
abbrev sApp : Stmt := top 61
def nApp : List Str := ["session", "branch", "change", "members", "needed", "missing", "number"]
theorem scApp : FnScope nApp ["session", "branch", "change"] (defScope sApp) := ⟨rfl, rfl, rfl, by decide +kernel, rfl, by decide +kernel, by decide +kernel⟩
theorem ok_app {f fD : Addr} {fd fdD : FuncData} (F : Fun K "apply_change" "apply_change" sApp f fd) (T : Txt K mg CH CC CO CL CS) (TO : TxtO mg) (TS : TxtS K CS) (FD : Fun K "dependencies" "dependencies" sDep fD fdD) (gD : mg "dependencies" = some (.ref fD)) :
    FnOk P w K mg base CX0 2 f fd ["session", "branch", "change"] (spB2 CH CC CS fun s b p => Gf11.step s (.apply b p)) := by
  have GD : FnOk P w K mg base CX0 1 fD fdD ["change"] (spDep CH CC) := ok_dep FD T
  have bD : Binds K fdD ["change"] [] := FD.binds fun _ _ _ _ _ _ us hl => match us, hl with | [_], _ => rfl
  obtain ⟨t1, g1⟩ := TO.noItem
  obtain ⟨t2, g2⟩ := TO.same
  obtain ⟨t3, g3⟩ := TO.deps
  refine F.ok scApp (fun vs H Q E h => ?_) (fun cdv A outer s H vs Q E hr h => ⟨_,
    pss_cons (ps_set (i := 3) scApp.nd rfl (Or.inr rfl) (pe_ix ix_list (pe_fld (pv 0) rfl) (pv 1) (fun _ _ => rfl)))
    (pss_cons (ps_if (pt_cmpR op_ge (pv 2) (pe_callB call_len (by rfl) T.len PySem.boot_len (pa_cons (pe_fld (pv 0) rfl) pa_nil)) (nomark _)) (pss_one (ps_ret (pe_lst (pa_cons (pe_glob rfl g1 (v := .int (-3)) ⟨_, rfl⟩) pa_nil)))) pss_nil)
    (pss_cons (ps_if (pt_cmpR op_in_seq (pv 2) (pv 3) (by rfl)) (pss_one (ps_ret (pe_lst (pa_cons (pe_glob rfl g2 (v := .int (-6)) ⟨_, rfl⟩) pa_nil)))) pss_nil)
    (pss_cons (ps_set (i := 4) scApp.nd rfl (Or.inl rfl) (pe_call GD hr (by rfl) gD FD.kp bD .nil pass0 (pa_cons (pe_ix ix_list (pe_fld (pv 0) rfl) (pv 2) (fun _ _ => rfl)) pa_nil)))
    (pss_cons (ps_setLc (i := 5) (own := [("number", 6)]) (g := gName 6) (tt := tTest (tOp (rIn K true) (tVar 6) (tVar 3))) (te := tVar 6) rfl scApp.nd rfl rfl (sw_true rfl rfl rfl (by decide +kernel)) (pi_list (pv 4))
        (blkOk_by (N := nApp) (sc := defScope sApp) (by decide +kernel)) (fun _ _ _ _ _ => pg_name (i := 6) scApp.nd rfl (Or.inl rfl)) (fun _ _ _ _ _ => pts_one (pt_cmpR op_notIn_seq (pv 6) (pv 3) (by rfl))) (fun _ _ _ _ _ => pv 6))
    (pss_cons (ps_if (pt_truth (pv 5) (by intro _; rfl)) (pss_one (ps_ret (pe_op op_cat (pe_lst (pa_cons (pe_glob rfl g3 (v := .int (-4)) ⟨_, rfl⟩) (pa_cons (pe_callB call_len (by rfl) T.len PySem.boot_len (pa_cons (pv 5) pa_nil)) pa_nil))) (pv 5)))) pss_nil)
    (pss_cons (ps_asg (pe_callB cr_sortedI (by rfl) T.sorted (by decide +kernel) (pa_cons (pe_op op_cat (pv 3) (pe_lst (pa_cons (pv 2) pa_nil))) pa_nil)) (pg_sub (pe_fld (pv 0) rfl) (pv 1) set_list))
    (pss_one (ps_ret (pe_lst (pa_cons (pe_callB call_len (by rfl) T.len PySem.boot_len (pa_cons (pe_ix ix_list (pe_fld (pv 0) rfl) (pv 1) (fun _ _ => rfl)) pa_nil)) pa_nil)))))))))), ?_⟩)
  · obtain ⟨F0, v, b, c, o, s, l, _, rfl, _⟩ := h
    rfl
  · obtain ⟨F0, v, b, p, o, st, l, hF, rfl, S, G, el, k⟩ := h
    obtain ⟨a, dx, rfl, ha⟩ := S.obj
    obtain ⟨q, eq, hq⟩ := S.branchAt el
    obtain ⟨ul, xl, ll⟩ := G.members el
    obtain ⟨cvs, hc, pc⟩ := S.chs
    have lc : cvs.length = st.changes.length := Paired.len pc
    have l12 := G.few
    have nb := S.nBr
    have eb := (List.getElem?_eq_some_iff.mp el).1
    have at1 : atI (o.bas.map V.ref) (b : Int) = some (.ref q) := atI_nat (by rw [List.getElem?_map, eq]; rfl)
    have ek : Gf11.step st (.apply b p) = if st.changes.length ≤ p then (st, Gf11.ok (-3)) else if l.contains p = true then (st, Gf11.ok (-6)) else
        if (Gf11.missingDependencies st l p).isEmpty = false then (st, ⟨-4, Gf11.toInts ((Gf11.missingDependencies st l p).length :: Gf11.missingDependencies st l p)⟩) else ({ st with branches := st.branches.set b (Gf11.insertNat p l) }, Gf11.natResult (l.length + 1)) := by
      show Gf11.withBranch st b _ = _
      unfold Gf11.withBranch
      rw [el]
    have k' : OpPost CH CC CS F0 H (.ref a) o (Gf11.step st (.apply b p)) Q := k
    rw [ek] at k'
    refine ⟨_, rfl, a, CS, dx, _, _, rfl, hF _ _ ha, TS.clS, TS.nBranches, se_branches _ _, _, rfl, o.lb, _, _, _, rfl, rfl, SqL.of S.brs, at1, ?_⟩
    -- if change >= len(session.changes)
    refine ⟨_, rfl, _, rfl, a, CS, dx, _, _, rfl, hF _ _ ha, TS.clS, TS.nChanges, se_changes _ _, _, st.changes.length, rfl, Or.inl ⟨_, SqL.of hc, lc.symm⟩, _, _, rfl, rfl, _, rfl, ?_⟩
    by_cases c1 : st.changes.length ≤ p
    · rw [if_pos c1] at k'
      refine ifT (decide_eq_true (show (st.changes.length : Int) ≤ (p : Int) by omega)) ⟨by show 1 ≤ sizeLine; decide, fun t nt => ?_⟩
      exact k'.same S ((Ext.refl hF).new nt (o := .lst [.int (-3)])) ⟨t, rfl, upd_same⟩
    rw [if_neg c1] at k'
    refine ifF (decide_eq_false (show ¬ (st.changes.length : Int) ≤ (p : Int) by omega)) ?_
    -- if change in members
    refine ⟨_, rfl, _, rfl, q, _, rfl, Or.inl (SqL.of hq), rfl, flat_nV l, _, rfl, ?_⟩
    rw [inV_nV]
    by_cases c2 : l.contains p = true
    · rw [if_pos c2] at k'
      refine ifT c2 ⟨by show 1 ≤ sizeLine; decide, fun t nt => ?_⟩
      exact k'.same S ((Ext.refl hF).new nt (o := .lst [.int (-6)])) ⟨t, rfl, upd_same⟩
    rw [if_neg c2] at k'
    refine ifF (by simpa using c2) ?_
    -- needed = dependencies(session.changes[change])
    have ec := List.getElem?_eq_getElem (show p < st.changes.length by omega)
    generalize st.changes[p] = ch at ec
    obtain ⟨cv, ecv, hcv⟩ := Paired.at (F := ChangeAt CH CC F0) pc ec
    obtain ⟨d1, d2, d3, d4, d5, d6⟩ := good_dep G ec
    have em : Gf11.missingDependencies st l p = (Gf11.dependencies ch).filter fun q => !l.contains q := by
      unfold Gf11.missingDependencies
      rw [ec]
      rfl
    rw [em] at k'
    refine ⟨_, rfl, a, CS, dx, _, _, rfl, hF _ _ ha, TS.clS, TS.nChanges, se_changes _ _, _, rfl, o.lc, _, _, _, rfl, rfl, SqL.of hc, atI_nat ecv, F0, cv, ch, hF, rfl, hcv, d1, d2, Nat.lt_of_le_of_lt d5 (by decide), fun F1 H1 nv X1 hnv => ?_⟩
    obtain ⟨q2, rfl, hq2⟩ := hnv
    have S1 := S.ext X1
    -- missing
    refine ⟨_, rfl, q2, rfl, ⟨_, SqL.of (X1.fh _ _ hq2)⟩, fun D nD => ?_⟩
    have nF := X1.fh.free nD
    have nH := X1.hh.free nD
    refine lc_list (K := K) (a := q2) (xs := nV (Gf11.dependencies ch)) (fun i H2 => Ext F0 H F1 H2 ∧ H2 D = some (.lst (nV (((Gf11.dependencies ch).take i).filter fun x => !l.contains x))))
      ⟨X1.tmp nD, upd_same⟩ (fun i H2 _ ⟨X, _⟩ => SqL.of (X.fh _ _ hq2)) ?_ ?_
    · rintro i y H2 hi ⟨X, hD⟩
      obtain ⟨m, em, rfl⟩ := nV_get hi
      refine ⟨rfl, _, rfl, _, rfl, q, _, rfl, Or.inl (SqL.of (X.hh _ _ hq)), rfl, flat_nV l, _, rfl, ?_⟩
      rw [inV_nV]
      have tk := filter_more (p := fun x => !l.contains x) em
      show if (!l.contains m) = true then _ else _
      by_cases h : (!l.contains m) = true
      · rw [if_pos h] at tk ⊢
        refine ⟨_, rfl, _, hD, ?_, X.put nF nH, ?_⟩
        · rw [nV_len]
          have h1 := List.length_filter_le (fun x => !l.contains x) ((Gf11.dependencies ch).take i)
          rw [List.length_take] at h1
          exact Nat.lt_of_le_of_lt (m := 12) (by omega) (by decide)
        · rw [upd_same, tk, nV_app]
          rfl
      · rw [if_neg h] at tk ⊢
        rw [List.append_nil] at tk
        exact ⟨X, by rw [tk]; exact hD⟩
    · rintro H2 ⟨X, hD⟩
      rw [nV_len, List.take_length] at hD
      have la : ((Gf11.dependencies ch).filter fun x => !l.contains x).length ≤ (Gf11.dependencies ch).length := List.length_filter_le _ _
      generalize (Gf11.dependencies ch).filter (fun x => !l.contains x) = mis at hD la k'
      have S2 := S.ext X
      -- if missing
      refine ⟨_, rfl, _, Or.inl ⟨_, SqL.of hD, rfl⟩, ?_⟩
      cases mis with
      | cons m0 mis =>
        rw [if_pos (show (m0 :: mis).isEmpty = false from rfl)] at k'
        refine ifT rfl ⟨_, rfl, _, _, rfl, Or.inl ⟨_, SqL.of hD, rfl⟩, by show 2 ≤ sizeLine; decide, fun n1 nn1 => ?_⟩
        have X3 := X.tmp nn1 (o := .lst [.int (-4), .int (nV (m0 :: mis)).length])
        refine ⟨_, rfl, n1, D, _, _, rfl, rfl, upd_same, same_new (Same.refl H2) nn1 _ _ hD, ?_, fun n2 nn2 => ?_⟩
        · rw [nV_len]
          exact Nat.le_trans (m := 2 + 12) (Nat.add_le_add (Nat.le_refl 2) (by omega)) (by decide)
        · refine k'.same S (X3.new nn2 (o := .lst ([.int (-4), .int (nV (m0 :: mis)).length] ++ nV (m0 :: mis)))) ⟨n2, rfl, ?_⟩
          rw [upd_same, nV_len]
          rfl
      | nil =>
        rw [if_neg (by simp)] at k'
        refine ifF rfl ?_
        refine ⟨_, rfl, _, rfl, by show 1 ≤ sizeLine; decide, fun n0 nn0 => ?_⟩
        have X0 := X.tmp nn0 (o := .lst [.int p])
        refine ⟨q, n0, nV l, nV [p], rfl, rfl, X0.hh _ _ hq, upd_same, ?_, fun n1 nn1 => ?_⟩
        · rw [nV_len, nV_len]
          exact Nat.le_trans (m := 24) (by have : [p].length = 1 := rfl; omega) (by decide)
        have X1' := X0.tmp nn1 (o := .lst (nV l ++ nV [p]))
        rw [← nV_app] at X1' ⊢
        refine ⟨n1, nInts (l ++ [p]), rfl, SqL.of upd_same, fun ns n2 pm so nn2 => ?_⟩
        have X2 := X1'.tmp nn2 (o := .lst (ns.map V.int))
        have np : p ∉ l := fun m => c2 (by simpa using m)
        have nd : (l ++ [p]).Nodup := List.nodup_append.mpr ⟨up_nodup ul, List.nodup_cons.mpr ⟨(fun z => nomatch z), List.nodup_nil⟩, fun x hx y hy e => np (by rw [List.mem_singleton.mp hy] at e; exact e ▸ hx)⟩
        have mm : ∀ x, x ∈ Gf11.insertNat p l ↔ x ∈ l ++ [p] := fun x => by
          rw [mem_insertNat, List.mem_append, List.mem_singleton]
          exact Or.comm
        have ens : ns = nInts (Gf11.insertNat p l) := sorted_to nd (up_insertNat ul) mm pm so
        have eli : (Gf11.insertNat p l).length = l.length + 1 := by
          have := ((List.perm_ext_iff_of_nodup (up_nodup (up_insertNat ul)) nd).mpr mm).length_eq
          rwa [List.length_append] at this
        have f2 := X1'.fh.free nn2
        have h2 := X1'.hh.free nn2
        have S3 := S.ext X2
        have hn2 : upd (upd (upd H2 n0 (.lst [.int p])) n1 (.lst (nV (l ++ [p])))) n2 (.lst (ns.map V.int)) n2 = some (.lst (nV (Gf11.insertNat p l))) := by
          rw [upd_same, ens]
          rfl
        obtain ⟨S4, O4⟩ := S3.put S (X2.op _) (b := b) hn2 f2 h2
        refine ⟨_, rfl, a, CS, dx, _, _, rfl, X2.fh _ _ (X2.ff _ _ ha), TS.clS, TS.nBranches, se_branches _ _, _, rfl, o.lb, _, _, b, rfl, rfl, S3.brs, ixN_nat (by rw [List.length_map]; omega), ?_⟩
        have hb4 := S4.brs
        obtain ⟨q4, eq4, hq4⟩ := S4.branchAt (b := b) (l := Gf11.insertNat p l) (by
          show (st.branches.set b _)[b]? = _
          rw [List.getElem?_set, if_pos rfl, if_pos eb])
        refine ⟨_, rfl, a, CS, dx, _, _, rfl, O4.fh _ _ (O4.ff _ _ ha), TS.clS, TS.nBranches, se_branches _ _, _, rfl, o.lb, _, _, .ref q4, rfl, rfl, SqL.of upd_same, atI_nat (by
          rw [← List.map_set, List.getElem?_map, eq4]
          rfl), _, (nV (Gf11.insertNat p l)).length, rfl, Or.inl ⟨_, SqL.of hq4, rfl⟩, by show 1 ≤ sizeLine; decide, fun t nt => ?_⟩
        have X5 := (Ext.refl O4.fh).new nt (o := .lst [.int (nV (Gf11.insertNat p l)).length])
        refine k' _ _ _ _ (O4.ext X5) (S4.ext X5) ⟨t, rfl, ?_⟩
        rw [upd_same, nV_len, eli]
        rfl
end
end Lg
namespace Lg
open PySem PySem.Spec PyProof.Rows L2
section
variable {P : Program} {w : World} {K : PySem.W.Frag} {mg : Str → Option Value} {base : Heap} {CH CC CO CL CS : Addr}
/-! ### revert_change -/
abbrev sRev : Stmt := top 63
def nRev : List Str := ["session", "branch", "change", "members", "depending", "number"]
theorem scRev : FnScope nRev ["session", "branch", "change"] (defScope sRev) := ⟨rfl, rfl, rfl, by decide +kernel, rfl, by decide +kernel, by decide +kernel⟩
theorem filter_ne_len {p : Nat} : ∀ {l : List Nat}, l.Nodup → p ∈ l → (l.filter fun q => q != p).length = l.length - 1
  | [], _, m => nomatch m
  | a :: l, nd, m => by
    obtain ⟨n1, n2⟩ := List.nodup_cons.mp nd
    rw [List.filter_cons]
    by_cases h : a = p
    · subst h
      have e : (l.filter fun q => q != a) = l := List.filter_eq_self.mpr fun y hy => bne_iff_ne.mpr fun z => n1 (z ▸ hy)
      rw [if_neg (by simp), e, List.length_cons, Nat.add_sub_cancel]
    · rw [if_pos (bne_iff_ne.mpr h), List.length_cons]
      rcases List.mem_cons.mp m with e | m
      · exact absurd e.symm h
      · rw [filter_ne_len n2 m, List.length_cons]
        have := List.length_pos_of_mem m
        omega
theorem ok_rev {f fD : Addr} {fd fdD : FuncData} (F : Fun K "revert_change" "revert_change" sRev f fd) (T : Txt K mg CH CC CO CL CS) (TO : TxtO mg) (TS : TxtS K CS) (FD : Fun K "dependencies" "dependencies" sDep fD fdD) (gD : mg "dependencies" = some (.ref fD)) :
    FnOk P w K mg base CX0 2 f fd ["session", "branch", "change"] (spB2 CH CC CS fun s b p => Gf11.step s (.revert b p)) := by
  have GD : FnOk P w K mg base CX0 1 fD fdD ["change"] (spDep CH CC) := ok_dep FD T
  have bD : Binds K fdD ["change"] [] := FD.binds fun _ _ _ _ _ _ us hl => match us, hl with | [_], _ => rfl
  obtain ⟨t2, g2⟩ := TO.same
  obtain ⟨t3, g3⟩ := TO.deps
  refine F.ok scRev (fun vs H Q E h => ?_) (fun cdv A outer s H vs Q E hr h => ⟨_,
    pss_cons (ps_set (i := 3) scRev.nd rfl (Or.inl rfl) (pe_ix ix_list (pe_fld (pv 0) rfl) (pv 1) (fun _ _ => rfl)))
    (pss_cons (ps_if (pt_cmpR op_notIn_seq (pv 2) (pv 3) (by rfl)) (pss_one (ps_ret (pe_lst (pa_cons (pe_glob rfl g2 (v := .int (-6)) ⟨_, rfl⟩) pa_nil)))) pss_nil)
    (pss_cons (ps_setLc (i := 4) (own := [("number", 5)]) (g := gName 5) (tt := tTest (tOp (rIn K false) (tVar 2) (tCall (spDep CH CC) [] E0 (tCons (tOp (rIxL K) (tFld K (tVar 0) "changes") (tVar 5)) tNil)))) (te := tVar 5) rfl scRev.nd rfl rfl (sw_true rfl rfl rfl (by decide +kernel)) (pi_list (pv 3))
        (blkOk_by (N := nRev) (sc := defScope sRev) (by decide +kernel)) (fun _ _ _ _ _ => pg_name (i := 5) scRev.nd rfl (Or.inl rfl))
        (fun _ _ _ _ _ => pts_one (pt_cmpR op_in_seq (pv 2) (pe_call GD hr (by rfl) gD FD.kp bD .nil pass0 (pa_cons (pe_ix ix_list (pe_fld (pv 0) rfl) (pv 5) (fun _ _ => rfl)) pa_nil)) (by rfl))) (fun _ _ _ _ _ => pv 5))
    (pss_cons (ps_if (pt_truth (pv 4) (by intro _; rfl)) (pss_one (ps_ret (pe_op op_cat (pe_lst (pa_cons (pe_glob rfl g3 (v := .int (-4)) ⟨_, rfl⟩) (pa_cons (pe_callB call_len (by rfl) T.len PySem.boot_len (pa_cons (pv 4) pa_nil)) pa_nil))) (pv 4)))) pss_nil)
    (pss_cons (ps_asg (pe_lc (own := [("number", 5)]) (g := gName 5) (tt := tTest (tOp rNe (tVar 5) (tVar 2))) (te := tVar 5) (by rfl) scRev.nd (pi_list (pv 3)) (blkOk_by (N := nRev) (sc := defScope sRev) (by decide +kernel)) (fun _ _ _ _ _ => pg_name (i := 5) scRev.nd rfl (Or.inl rfl))
        (fun _ _ _ _ _ => pts_one (pt_cmpR op_ne (pv 5) (pv 2) (nomark _))) (fun _ _ _ _ _ => pv 5)) (pg_sub (pe_fld (pv 0) rfl) (pv 1) set_list))
    (pss_one (ps_ret (pe_lst (pa_cons (pe_callB call_len (by rfl) T.len PySem.boot_len (pa_cons (pe_ix ix_list (pe_fld (pv 0) rfl) (pv 1) (fun _ _ => rfl)) pa_nil)) pa_nil)))))))), ?_⟩)
  · obtain ⟨F0, v, b, c, o, s, l, _, rfl, _⟩ := h
    rfl
  · obtain ⟨F0, v, b, p, o, st, l, hF, rfl, S, G, el, k⟩ := h
    obtain ⟨a, dx, rfl, ha⟩ := S.obj
    obtain ⟨q, eq, hq⟩ := S.branchAt el
    obtain ⟨ul, xl, ll⟩ := G.members el
    obtain ⟨cvs, hc, pc⟩ := S.chs
    have lc : cvs.length = st.changes.length := Paired.len pc
    have l12 := G.few
    have nb := S.nBr
    have eb := (List.getElem?_eq_some_iff.mp el).1
    have at1 : atI (o.bas.map V.ref) (b : Int) = some (.ref q) := atI_nat (by rw [List.getElem?_map, eq]; rfl)
    have ek : Gf11.step st (.revert b p) = if l.contains p = false then (st, Gf11.ok (-6)) else
        if (Gf11.dependents st l p).isEmpty = false then (st, ⟨-4, Gf11.toInts ((Gf11.dependents st l p).length :: Gf11.dependents st l p)⟩) else ({ st with branches := st.branches.set b (l.filter fun q => q != p) }, Gf11.natResult (l.length - 1)) := by
      show Gf11.withBranch st b _ = _
      unfold Gf11.withBranch
      rw [el]
    have k' : OpPost CH CC CS F0 H (.ref a) o (Gf11.step st (.revert b p)) Q := k
    rw [ek] at k'
    refine ⟨_, rfl, a, CS, dx, _, _, rfl, hF _ _ ha, TS.clS, TS.nBranches, se_branches _ _, _, rfl, o.lb, _, _, _, rfl, rfl, SqL.of S.brs, at1, ?_⟩
    -- if change not in members
    refine ⟨_, rfl, _, rfl, q, _, rfl, Or.inl (SqL.of hq), rfl, flat_nV l, _, rfl, ?_⟩
    rw [inV_nV]
    by_cases c2 : l.contains p = false
    · rw [if_pos c2] at k'
      refine ifT (by rw [c2]; rfl) ⟨by show 1 ≤ sizeLine; decide, fun t nt => ?_⟩
      exact k'.same S ((Ext.refl hF).new nt (o := .lst [.int (-6)])) ⟨t, rfl, upd_same⟩
    rw [if_neg c2] at k'
    have c3 : l.contains p = true := by
      cases e : l.contains p with
      | true => rfl
      | false => exact absurd e c2
    have mp : p ∈ l := by simpa using c3
    refine ifF (by rw [c3]; rfl) ?_
    -- depending
    refine ⟨_, rfl, q, rfl, ⟨_, SqL.of hq⟩, fun D nD => ?_⟩
    have nF := hF.free nD
    refine lc_list (K := K) (a := q) (xs := nV l) (fun i H2 => ∃ F2, Ext F0 H F2 H2 ∧ F2 D = none ∧ H2 D = some (.lst (nV (Gf11.dependents st (l.take i) p))))
      ⟨F0, (Ext.refl hF).tmp nD, nF, upd_same⟩ (fun i H2 _ ⟨_, X, _, _⟩ => SqL.of (X.hh _ _ hq)) ?_ ?_
    · rintro i y H2 hi ⟨F2, X, fD, hD⟩
      obtain ⟨m, em, rfl⟩ := nV_get hi
      have lm := xl m (List.mem_of_getElem? em)
      have ec := List.getElem?_eq_getElem lm
      generalize st.changes[m] = ch at ec
      obtain ⟨cv, ecv, hcv⟩ := Paired.at (F := ChangeAt CH CC F0) pc ec
      obtain ⟨d1, d2, d3, d4, d5, d6⟩ := good_dep G ec
      refine ⟨rfl, _, rfl, _, rfl, a, CS, dx, _, _, rfl, X.fh _ _ (X.ff _ _ ha), TS.clS, TS.nChanges, se_changes _ _, _, rfl, o.lc, _, _, _, rfl, rfl, SqL.of (X.hh _ _ hc), atI_nat ecv, F2, cv, ch, X.fh, rfl, ChangeAt.mono X.ff _ _ hcv, d1, d2, Nat.lt_of_le_of_lt d5 (by decide), fun F3 H3 nv X3 hnv => ?_⟩
      obtain ⟨q2, rfl, hq2⟩ := hnv
      have X4 := X.trans X3
      have hD3 := X3.hh _ _ hD
      have fD3 := X3.out fD hD
      refine ⟨q2, _, rfl, Or.inl (SqL.of (X3.fh _ _ hq2)), rfl, flat_nV _, _, rfl, ?_⟩
      have tk : Gf11.dependents st (l.take (i + 1)) p = Gf11.dependents st (l.take i) p ++ if (Gf11.dependencies ch).contains p = true then [m] else [] := by
        unfold Gf11.dependents
        rw [filter_more em, ec]
        rfl
      show if inV (.int p) (nV (Gf11.dependencies ch)) = true then _ else _
      rw [inV_nV]
      by_cases h : (Gf11.dependencies ch).contains p = true
      · rw [if_pos h] at tk ⊢
        refine ⟨_, rfl, _, hD3, ?_, F3, X4.put fD3 nD, fD3, ?_⟩
        · rw [nV_len]
          have h1 : (Gf11.dependents st (l.take i) p).length ≤ (l.take i).length := List.length_filter_le _ _
          rw [List.length_take] at h1
          exact Nat.lt_of_le_of_lt (m := 12) (by omega) (by decide)
        · rw [upd_same, tk, nV_app]
          rfl
      · rw [if_neg h] at tk ⊢
        rw [List.append_nil] at tk
        exact ⟨F3, X4, fD3, by rw [tk]; exact hD3⟩
    · rintro H2 ⟨F2, X, fD, hD⟩
      rw [nV_len, List.take_length] at hD
      have la : (Gf11.dependents st l p).length ≤ l.length := List.length_filter_le _ _
      generalize Gf11.dependents st l p = mis at hD la k'
      have S2 := S.ext X
      -- if depending
      refine ⟨_, rfl, _, Or.inl ⟨_, SqL.of hD, rfl⟩, ?_⟩
      cases mis with
      | cons m0 mis =>
        rw [if_pos (show (m0 :: mis).isEmpty = false from rfl)] at k'
        refine ifT rfl ⟨_, rfl, _, _, rfl, Or.inl ⟨_, SqL.of hD, rfl⟩, by show 2 ≤ sizeLine; decide, fun n1 nn1 => ?_⟩
        have X3 := X.tmp nn1 (o := .lst [.int (-4), .int (nV (m0 :: mis)).length])
        refine ⟨_, rfl, n1, D, _, _, rfl, rfl, upd_same, same_new (Same.refl H2) nn1 _ _ hD, ?_, fun n2 nn2 => ?_⟩
        · rw [nV_len]
          exact Nat.le_trans (m := 2 + 12) (Nat.add_le_add (Nat.le_refl 2) (by omega)) (by decide)
        · refine k'.same S (X3.new nn2 (o := .lst ([.int (-4), .int (nV (m0 :: mis)).length] ++ nV (m0 :: mis)))) ⟨n2, rfl, ?_⟩
          rw [upd_same, nV_len]
          rfl
      | nil =>
        rw [if_neg (by simp)] at k'
        refine ifF rfl ?_
        refine ⟨_, rfl, q, rfl, ⟨_, SqL.of (X.hh _ _ hq)⟩, fun D2 nD2 => ?_⟩
        have nF2 := X.fh.free nD2
        have nH2 := X.hh.free nD2
        refine lc_list (K := K) (a := q) (xs := nV l) (fun i H3 => Ext F0 H F2 H3 ∧ H3 D2 = some (.lst (nV ((l.take i).filter fun q => q != p))))
          ⟨X.tmp nD2, upd_same⟩ (fun i H3 _ ⟨X3, _⟩ => SqL.of (X3.hh _ _ hq)) ?_ ?_
        · rintro i y H3 hi ⟨X3, hD3⟩
          obtain ⟨m, em, rfl⟩ := nV_get hi
          have tk := filter_more (p := fun q => q != p) em
          have dm : (!decide (V.int (m : Int) = V.int (p : Int))) = (m != p) := by
            rw [dec_vint]
            rfl
          refine ⟨rfl, _, rfl, _, rfl, rfl, _, rfl, ?_⟩
          show if (!decide (V.int (m : Int) = V.int (p : Int))) = true then _ else _
          rw [dm]
          by_cases h : (m != p) = true
          · rw [if_pos h] at tk ⊢
            refine ⟨_, rfl, _, hD3, ?_, X3.put nF2 nH2, ?_⟩
            · rw [nV_len]
              have h1 := List.length_filter_le (fun q => q != p) (l.take i)
              rw [List.length_take] at h1
              exact Nat.lt_of_le_of_lt (m := 12) (by omega) (by decide)
            · rw [upd_same, tk, nV_app]
              rfl
          · rw [if_neg h] at tk ⊢
            rw [List.append_nil] at tk
            exact ⟨X3, by rw [tk]; exact hD3⟩
        · rintro H3 ⟨X3, hD3⟩
          rw [nV_len, List.take_length] at hD3
          have S3 := S.ext X3
          obtain ⟨S4, O4⟩ := S3.put S (X3.op _) (b := b) hD3 nF2 nH2
          refine ⟨_, rfl, a, CS, dx, _, _, rfl, X3.fh _ _ (X3.ff _ _ ha), TS.clS, TS.nBranches, se_branches _ _, _, rfl, o.lb, _, _, b, rfl, rfl, S3.brs, ixN_nat (by rw [List.length_map]; omega), ?_⟩
          obtain ⟨q4, eq4, hq4⟩ := S4.branchAt (b := b) (l := l.filter fun q => q != p) (by
            show (st.branches.set b _)[b]? = _
            rw [List.getElem?_set, if_pos rfl, if_pos eb])
          refine ⟨_, rfl, a, CS, dx, _, _, rfl, O4.fh _ _ (O4.ff _ _ ha), TS.clS, TS.nBranches, se_branches _ _, _, rfl, o.lb, _, _, .ref q4, rfl, rfl, SqL.of upd_same, atI_nat (by
            rw [← List.map_set, List.getElem?_map, eq4]
            rfl), _, (nV (l.filter fun q => q != p)).length, rfl, Or.inl ⟨_, SqL.of hq4, rfl⟩, by show 1 ≤ sizeLine; decide, fun t nt => ?_⟩
          have X5 := (Ext.refl O4.fh).new nt (o := .lst [.int (nV (l.filter fun q => q != p)).length])
          refine k' _ _ _ _ (O4.ext X5) (S4.ext X5) ⟨t, rfl, ?_⟩
          rw [upd_same, nV_len, filter_ne_len (up_nodup ul) mp]
          rfl
end
end Lg
/-! xs.extend(t), t a tuple -/
namespace Lg
open PySem PySem.Spec PyProof.Rows L2
theorem ext_tup {o : Obj} {l b : Addr} {xs ys : Array Value} {n m : Nat} (hc : o.cls = .type "tuple") (hd : o.data = .seq ys m) (h1 : xs.size + ys.size ≤ sizeLine) :
    Meets (Builtin.«list.extend» ⟨[.ref l, .ref b], []⟩) (fun _ R s => s.heap.get? l = some { cls := .type "list", data := .seq xs n } ∧ s.heap.get? b = some o ∧
      R (.ok (.ret Value.none)) { s with heap := s.heap.update l (Obj.mapSeq fun x => x ++ ys), toks := s.toks }) :=
  .of_wp fun prog w A R s h => by
    obtain ⟨hl, hb, hr⟩ := h
    obtain ⟨cls, dct, dat, slt⟩ := o
    obtain rfl : cls = .type "tuple" := hc
    obtain rfl : dat = .seq ys m := hd
    have big : (xs ++ ys).size ≤ sizeLine + 1 := by
      rw [Array.size_append]
      omega
    have small : ¬ (!xs.isEmpty && Builtin.List.listTooLong (xs.size + ys.size)) = true := by
      rw [notLongL h1, Bool.and_false]
      exact Bool.false_ne_true
    have h1' : xs.size ≤ sizeLine := by omega
    obtain ⟨hp, ge, dr, tk, os⟩ := s
    have g1 := AutoSeq1.sub_tuple_list
    wp_walk using (wpAny_updateSeq hl rfl (hz := h1') (_hz' := big)), AutoSeq1.wpAny_loadPart' hl, AutoSeq1.wpAny_loadPart' hb
    exact ⟨_, rfl, hr⟩
def rExtT : V → List V → Hp → VK → Prop := fun x vs H Q => ∃ l b xs zs, x = .ref l ∧ vs = [.ref b] ∧ H l = some (.lst xs) ∧ H b = some (.tup zs) ∧ xs.length + zs.length ≤ sizeLine ∧ Q .non (upd H l (.lst (xs ++ zs)))
theorem mt_extT {X : Cx} : MtM X "list.extend" rExtT := by
  intro pins s σ H x vs v us Q I rx rv h
  obtain ⟨l, b, xs, zs, rfl, rfl, hl, hb, big, q⟩ := h
  cases rx
  obtain ⟨u, rfl, ru⟩ := rv.one
  cases ru
  obtain ⟨_, its, n, r, len, e⟩ := I.lstM hl
  obtain ⟨us, r2, ⟨o, ho, hc, m, hd⟩, _⟩ := I.tuple (SqT.of hb)
  have len2 := r2.length
  refine call_meets F.slot_list_extend ⟨_, e, rfl⟩ F.entry_list_extend (F.args_list_extend_2 _ _) (ext_tup (l := l) (b := b) (xs := its.toArray) (n := n) hc hd (by rw [List.size_toArray, List.size_toArray]; omega)) ⟨e, ho, ?_⟩
  refine ⟨.non, _, I.lset (its' := its ++ us) hl e (by simp) (r.append r2) ?_, rfl, q⟩
  rw [List.length_append]
  exact big
end Lg
namespace Lg
open PySem PySem.Spec PyProof.Rows L2
section
variable {P : Program} {w : World} {K : PySem.W.Frag} {mg : Str → Option Value} {base : Heap} {CH CC CO CL CS : Addr}
/-! ### encode_lines -/
abbrev sEcl : Stmt := top 70
def nEcl : List Str := ["lines", "numbers", "line"]
theorem scEcl : FnScope nEcl ["lines"] (defScope sEcl) := ⟨rfl, rfl, rfl, by decide +kernel, rfl, by decide +kernel, by decide +kernel⟩
def lns (t : List Gf11.Line) : List Int := t.flatMap Gf11.encodeLine
theorem lns_take {t : List Gf11.Line} {i : Nat} {x : Gf11.Line} (e : t[i]? = some x) : lns (t.take (i + 1)) = lns (t.take i) ++ Gf11.encodeLine x := by
  unfold lns
  rw [take_more e, List.flatMap_append]
  simp
theorem lns_take_le (t : List Gf11.Line) (i : Nat) : (lns (t.take i)).length ≤ (lns t).length := by
  have e : lns t = lns (t.take i) ++ lns (t.drop i) := by
    unfold lns
    rw [← List.flatMap_append, List.take_append_drop]
  rw [e, List.length_append]
  exact Nat.le_add_right _ _
def spEcl : Sp := fun vs H Q _ => ∃ (F : Hp) (v : V) (t : List Gf11.Line), Same F H ∧ vs = [v] ∧ LstAt LineAt F v t ∧ (lns t).length ≤ 100000 ∧
  ∀ (F' H' : Hp) (a : Addr), Ext F H F' H' → F' a = some (.lst ((lns t).map V.int)) → Q (.ref a) H'
theorem ok_ecl {f : Addr} {fd : FuncData} (F : Fun K "encode_lines" "encode_lines" sEcl f fd) (T : Txt K mg CH CC CO CL CS) : FnOk P w K mg base CX0 1 f fd ["lines"] spEcl := by
  refine F.ok scEcl (fun vs H Q E h => ?_) (fun cdv A outer s H vs Q E hr h => ⟨_,
    pss_cons (ps_set (i := 1) scEcl.nd rfl (Or.inl rfl) (pe_lst pa_nil))
    (pss_cons (ps_for PassesOwn.never rfl (pi_list (pv 0)) (pg_name (i := 2) scEcl.nd rfl (Or.inl rfl))
      (pss_cons (ps_expr (pe_bm PySem.F.plainAttrs_list PySem.F.slot_list_append PySem.F.type_list_append mt_append (pv 1) (pa_cons (pe_callB call_len (by rfl) T.len PySem.boot_len (pa_cons (pv 2) pa_nil)) pa_nil)))
      (pss_one (ps_expr (pe_bm PySem.F.plainAttrs_list PySem.F.slot_list_extend PySem.F.type_list_extend mt_extend (pv 1) (pa_cons (pv 2) pa_nil))))))
    (pss_one (ps_ret (pv 1)))), ?_⟩)
  · obtain ⟨F0, v, t, _, rfl, _⟩ := h
    rfl
  · obtain ⟨F0, v, t, hF, rfl, ⟨ta, tvs, rfl, hta, pt⟩, big, k⟩ := h
    refine ⟨by show 0 ≤ sizeLine; decide, fun n nn => ?_⟩
    have X0 := (Ext.refl hF).tmp nn (o := .lst [])
    have fn := hF.free nn
    have ltv : tvs.length = t.length := Paired.len pt
    refine ⟨_, rfl, ta, rfl, ⟨_, SqL.of (X0.fh _ _ hta)⟩, ?_⟩
    refine for_list (K := K) (a := ta) (xs := tvs) (fun i σ H' => ∃ u2, σ = [some (.ref ta), some (.ref n), u2] ∧ Ext F0 H F0 H' ∧ H' n = some (.lst ((lns (t.take i)).map V.int)))
      ⟨none, rfl, X0, upd_same⟩ (fun i σ H' _ ⟨_, _, X, _⟩ => SqL.of (X.fh _ _ hta)) ?_ ?_
    · rintro i y σ H' hi ⟨u2, rfl, X, hu⟩
      obtain ⟨ln, eln, la, rfl, hla⟩ := Paired.get pt hi
      have tk := lns_take eln
      have bd := lns_take_le t (i + 1)
      have el : (Gf11.encodeLine ln).length = ln.length + 1 := by
        unfold Gf11.encodeLine Gf11.toInts
        rw [List.length_cons, List.length_map]
      rw [tk, List.length_append, el] at bd
      have nla : n ≠ la := fun e => by
        rw [e, hla] at fn
        cases fn
      generalize lns (t.take i) = us at hu tk bd
      refine ⟨_, rfl, Or.inl ⟨rfl, _, SqL.of hu⟩, _, rfl, _, ln.length, rfl, Or.inl ⟨_, SqL.of (X.fh _ _ hla), (nV_len _).symm⟩, n, _, _, rfl, rfl, hu, ?_, ?_⟩
      · rw [List.length_map]
        exact Nat.lt_of_le_of_lt (m := 100000) (by omega) (by decide)
      have X5 := X.put fn nn (o := .lst (us.map V.int ++ [.int ln.length]))
      refine ⟨_, rfl, Or.inl ⟨rfl, _, SqL.of upd_same⟩, _, rfl, n, la, _, _, rfl, rfl, upd_same, X5.fh _ _ hla, ?_, ?_⟩
      · show (us.map V.int ++ [V.int ln.length]).length + (nV ln).length ≤ sizeLine
        rw [List.length_append, List.length_map, nV_len]
        exact Nat.le_trans (m := 100000) (by simp only [List.length_cons, List.length_nil]; omega) (by decide)
      refine ⟨_, rfl, X5.put fn nn, ?_⟩
      rw [upd_same, tk]
      unfold Gf11.encodeLine
      rw [List.map_append, List.append_assoc]
      rfl
    · rintro σ H' ⟨u2, rfl, X, hu⟩
      rw [ltv, List.take_length] at hu
      exact ⟨_, rfl, k _ _ _ (X.freeze hu fn nn) upd_same⟩
/-! ### encode_positions -/
abbrev sEcp : Stmt := top 71
def nEcp : List Str := ["positions", "numbers", "position"]
theorem scEcp : FnScope nEcp ["positions"] (defScope sEcp) := ⟨rfl, rfl, rfl, by decide +kernel, rfl, by decide +kernel, by decide +kernel⟩
def pss (t : List Gf11.Position) : List Int := t.flatMap Gf11.encodePosition
theorem pss_take {t : List Gf11.Position} {i : Nat} {x : Gf11.Position} (e : t[i]? = some x) : pss (t.take (i + 1)) = pss (t.take i) ++ Gf11.encodePosition x := by
  unfold pss
  rw [take_more e, List.flatMap_append]
  simp
theorem enc_two (x : Gf11.Position) : (Gf11.encodePosition x).length = 2 := by
  cases x <;> rfl
theorem len_pss (t : List Gf11.Position) : (pss t).length = 2 * t.length := by
  unfold pss
  induction t with
  | nil => rfl
  | cons a t ih =>
    rw [List.flatMap_cons, List.length_append, ih, enc_two, List.length_cons]
    omega
/-- a list or a tuple of positions -/
def spEcp : Sp := fun vs H Q _ => ∃ (F : Hp) (v : V) (t : List Gf11.Position), Same F H ∧ vs = [v] ∧ LstAt PosAt H v t ∧ t.length ≤ 40000 ∧
  ∀ (F' H' : Hp) (a : Addr), Ext F H F' H' → F' a = some (.lst ((pss t).map V.int)) → Q (.ref a) H'
/-- a tuple of things that stand in the heap -/
def TupAt {α : Type} (R : Hp → V → α → Prop) (H : Hp) (v : V) (xs : List α) : Prop := ∃ a vs, v = .ref a ∧ H a = some (.tup vs) ∧ Paired (R H) vs xs
def spEcpT : Sp := fun vs H Q _ => ∃ (F : Hp) (v : V) (t : List Gf11.Position), Same F H ∧ vs = [v] ∧ TupAt PosAt H v t ∧ t.length ≤ 40000 ∧
  ∀ (F' H' : Hp) (a : Addr), Ext F H F' H' → F' a = some (.lst ((pss t).map V.int)) → Q (.ref a) H'
theorem ok_ecp {f : Addr} {fd : FuncData} (F : Fun K "encode_positions" "encode_positions" sEcp f fd) (T : Txt K mg CH CC CO CL CS) : FnOk P w K mg base CX0 1 f fd ["positions"] spEcp := by
  refine F.ok scEcp (fun vs H Q E h => ?_) (fun cdv A outer s H vs Q E hr h => ⟨_,
    pss_cons (ps_set (i := 1) scEcp.nd rfl (Or.inl rfl) (pe_lst pa_nil))
    (pss_cons (ps_for PassesOwn.never rfl (pi_list (pv 0)) (pg_name (i := 2) scEcp.nd rfl (Or.inl rfl))
      (pss_one (ps_expr (pe_bm PySem.F.plainAttrs_list PySem.F.slot_list_extend PySem.F.type_list_extend mt_extT (pv 1) (pa_cons (pv 2) pa_nil)))))
    (pss_one (ps_ret (pv 1)))), ?_⟩)
  · obtain ⟨F0, v, t, _, rfl, _⟩ := h
    rfl
  · obtain ⟨F0, v, t, hF, rfl, ⟨ta, tvs, rfl, hta, pt⟩, big, k⟩ := h
    refine ⟨by show 0 ≤ sizeLine; decide, fun n nn => ?_⟩
    have X0 := (Ext.refl hF).tmp nn (o := .lst [])
    have fn := hF.free nn
    have ltv : tvs.length = t.length := Paired.len pt
    refine ⟨_, rfl, ta, rfl, ⟨_, SqL.of (X0.hh _ _ hta)⟩, ?_⟩
    refine for_list (K := K) (a := ta) (xs := tvs) (fun i σ H' => ∃ u2, σ = [some (.ref ta), some (.ref n), u2] ∧ Ext F0 H F0 H' ∧ H' n = some (.lst ((pss (t.take i)).map V.int)))
      ⟨none, rfl, X0, upd_same⟩ (fun i σ H' _ ⟨_, _, X, _⟩ => SqL.of (X.hh _ _ hta)) ?_ ?_
    · rintro i y σ H' hi ⟨u2, rfl, X, hu⟩
      obtain ⟨ln, eln, la, rfl, hla⟩ := Paired.get pt hi
      have tk := pss_take eln
      have bd := len_pss (t.take i)
      rw [List.length_take] at bd
      generalize pss (t.take i) = us at hu tk bd
      refine ⟨_, rfl, Or.inl ⟨rfl, _, SqL.of hu⟩, _, rfl, n, la, _, _, rfl, rfl, hu, X.hh _ _ hla, ?_, ?_⟩
      · rw [List.length_map, List.length_map, enc_two]
        exact Nat.le_trans (m := 100000) (by omega) (by decide)
      refine ⟨_, rfl, X.put fn nn, ?_⟩
      rw [upd_same, tk, List.map_append]
    · rintro σ H' ⟨u2, rfl, X, hu⟩
      rw [ltv, List.take_length] at hu
      exact ⟨_, rfl, k _ _ _ (X.freeze hu fn nn) upd_same⟩
theorem ok_ecpT {f : Addr} {fd : FuncData} (F : Fun K "encode_positions" "encode_positions" sEcp f fd) (T : Txt K mg CH CC CO CL CS) : FnOk P w K mg base CX0 1 f fd ["positions"] spEcpT := by
  refine F.ok scEcp (fun vs H Q E h => ?_) (fun cdv A outer s H vs Q E hr h => ⟨_,
    pss_cons (ps_set (i := 1) scEcp.nd rfl (Or.inl rfl) (pe_lst pa_nil))
    (pss_cons (ps_for PassesOwn.never rfl (pi_tup (pv 0)) (pg_name (i := 2) scEcp.nd rfl (Or.inl rfl))
      (pss_one (ps_expr (pe_bm PySem.F.plainAttrs_list PySem.F.slot_list_extend PySem.F.type_list_extend mt_extT (pv 1) (pa_cons (pv 2) pa_nil)))))
    (pss_one (ps_ret (pv 1)))), ?_⟩)
  · obtain ⟨F0, v, t, _, rfl, _⟩ := h
    rfl
  · obtain ⟨F0, v, t, hF, rfl, ⟨ta, tvs, rfl, hta, pt⟩, big, k⟩ := h
    refine ⟨by show 0 ≤ sizeLine; decide, fun n nn => ?_⟩
    have X0 := (Ext.refl hF).tmp nn (o := .lst [])
    have fn := hF.free nn
    have ltv : tvs.length = t.length := Paired.len pt
    refine ⟨_, rfl, ta, rfl, ⟨_, SqT.of (X0.hh _ _ hta)⟩, ?_⟩
    refine for_tup (K := K) (a := ta) (xs := tvs) (fun i σ H' => ∃ u2, σ = [some (.ref ta), some (.ref n), u2] ∧ Ext F0 H F0 H' ∧ H' n = some (.lst ((pss (t.take i)).map V.int)))
      ⟨none, rfl, X0, upd_same⟩ (fun i σ H' _ ⟨_, _, X, _⟩ => SqT.of (X.hh _ _ hta)) ?_ ?_
    · rintro i y σ H' hi ⟨u2, rfl, X, hu⟩
      obtain ⟨ln, eln, la, rfl, hla⟩ := Paired.get pt hi
      have tk := pss_take eln
      have bd := len_pss (t.take i)
      rw [List.length_take] at bd
      generalize pss (t.take i) = us at hu tk bd
      refine ⟨_, rfl, Or.inl ⟨rfl, _, SqL.of hu⟩, _, rfl, n, la, _, _, rfl, rfl, hu, X.hh _ _ hla, ?_, ?_⟩
      · rw [List.length_map, List.length_map, enc_two]
        exact Nat.le_trans (m := 100000) (by omega) (by decide)
      refine ⟨_, rfl, X.put fn nn, ?_⟩
      rw [upd_same, tk, List.map_append]
    · rintro σ H' ⟨u2, rfl, X, hu⟩
      rw [ltv, List.take_length] at hu
      exact ⟨_, rfl, k _ _ _ (X.freeze hu fn nn) upd_same⟩
end
end Lg
/-! The mathematics: what a change needs, in however many steps. -/
namespace Lg
open Gf11
inductive Needs (s : State) (p : Nat) : Nat → Prop
  | self : Needs s p p
  | more {q r : Nat} : Needs s p q → r ∈ Gf13.dependenciesOf s q → Needs s p r
section
variable {s : State}
def wider (s : State) (l : List Nat) : List Nat := (l.flatMap (Gf13.dependenciesOf s)).foldl (fun r q => insertNat q r) l
theorem closure_wider (f : Nat) (l : List Nat) : Gf13.closure s (f + 1) l = Gf13.closure s f (wider s l) := rfl
theorem mem_wider {l : List Nat} {x : Nat} : x ∈ wider s l ↔ (∃ y ∈ l, x ∈ Gf13.dependenciesOf s y) ∨ x ∈ l := by
  unfold wider
  rw [mem_fold_insert, List.mem_flatMap]
theorem closure_more {x : Nat} : ∀ (f : Nat) (l : List Nat), x ∈ Gf13.closure s f l → x ∈ Gf13.closure s (f + 1) l
  | 0, l, h => mem_wider.mpr (.inr h)
  | f + 1, l, h => closure_more f (wider s l) h
theorem closure_le {x : Nat} {l : List Nat} {f g : Nat} (h : x ∈ Gf13.closure s f l) (le : f ≤ g) : x ∈ Gf13.closure s g l := by
  induction le with
  | refl => exact h
  | step _ ih => exact closure_more _ _ ih
theorem closure_dep {x r : Nat} (d : r ∈ Gf13.dependenciesOf s x) : ∀ (f : Nat) (l : List Nat), x ∈ Gf13.closure s f l → r ∈ Gf13.closure s (f + 1) l
  | 0, l, h => mem_wider.mpr (.inl ⟨x, h, d⟩)
  | f + 1, l, h => closure_dep d f (wider s l) h
theorem closure_needs {p : Nat} : ∀ (f : Nat) (l : List Nat), (∀ x ∈ l, Needs s p x) → ∀ x ∈ Gf13.closure s f l, Needs s p x
  | 0, l, h => h
  | f + 1, l, h => closure_needs f (wider s l) fun x m => by
    rcases mem_wider.mp m with ⟨y, hy, d⟩ | m
    · exact .more (h y hy) d
    · exact h x m
theorem needs_closure (G : Good s) {p q : Nat} (h : Needs s p q) : q ≤ p ∧ q ∈ Gf13.closure s (p - q) [p] := by
  induction h with
  | self => exact ⟨Nat.le_refl _, by rw [Nat.sub_self]; exact List.mem_cons_self⟩
  | @more q r _ d ih =>
    have lt := deps_lt G d
    exact ⟨by omega, closure_le (closure_dep d _ _ ih.2) (by omega)⟩
theorem mem_all (G : Good s) {p q : Nat} : q ∈ Gf13.allDependencies s p ↔ Needs s p q := by
  constructor
  · exact closure_needs (p + 1) [p] (fun x m => by rw [List.mem_singleton.mp m]; exact .self) q
  · intro h
    exact closure_le (needs_closure G h).2 (by omega)
/-- what a walk downwards holds: those above (from e on) have been looked at -/
structure Down (s : State) (p e : Nat) (N : List Nat) : Prop where
  nd : N.Nodup
  ok : ∀ q ∈ N, Needs s p q
  self : p ∈ N
  cl : ∀ m r, e ≤ m → m ∈ N → r ∈ Gf13.dependenciesOf s m → r ∈ N
theorem Down.start (s : State) (p : Nat) : Down s p (p + 1) [p] :=
  ⟨List.nodup_cons.mpr ⟨(fun z => nomatch z), List.nodup_nil⟩, fun q m => by rw [List.mem_singleton.mp m]; exact .self, List.mem_cons_self, fun m r h1 h2 _ => by
    rw [List.mem_singleton.mp h2] at h1
    omega⟩
theorem Down.skip {p e : Nat} {N : List Nat} (h : Down s p (e + 1) N) (n : e ∉ N) : Down s p e N :=
  ⟨h.nd, h.ok, h.self, fun m r h1 h2 d => by
    rcases Nat.lt_or_ge e m with c | c
    · exact h.cl m r c h2 d
    · have : m = e := by omega
      exact absurd (this ▸ h2) n⟩
/-- one number more, if it isn't there yet -/
def with1 (N : List Nat) (q : Nat) : List Nat := if q ∈ N then N else N ++ [q]
theorem mem_with1 {N : List Nat} {q x : Nat} : x ∈ with1 N q ↔ x ∈ N ∨ x = q := by
  unfold with1
  by_cases c : q ∈ N
  · rw [if_pos c]
    exact ⟨.inl, fun h => h.elim id fun e => e ▸ c⟩
  · rw [if_neg c, List.mem_append, List.mem_singleton]
theorem nodup_with1 {N : List Nat} {q : Nat} (h : N.Nodup) : (with1 N q).Nodup := by
  unfold with1
  by_cases c : q ∈ N
  · rw [if_pos c]
    exact h
  · rw [if_neg c]
    exact List.nodup_append.mpr ⟨h, List.nodup_cons.mpr ⟨(fun z => nomatch z), List.nodup_nil⟩, fun x hx y hy e => c (by rw [List.mem_singleton.mp hy] at e; exact e ▸ hx)⟩
def withAll (N : List Nat) (l : List Nat) : List Nat := l.foldl with1 N
theorem mem_withAll {x : Nat} : ∀ {l N : List Nat}, x ∈ withAll N l ↔ x ∈ N ∨ x ∈ l
  | [], N => by simp [withAll]
  | q :: l, N => by
    show x ∈ withAll (with1 N q) l ↔ _
    rw [mem_withAll, mem_with1, List.mem_cons, or_assoc]
theorem nodup_withAll : ∀ {l N : List Nat}, N.Nodup → (withAll N l).Nodup
  | [], _, h => h
  | q :: l, N, h => nodup_withAll (l := l) (nodup_with1 h)
theorem withAll_snoc (N l : List Nat) (q : Nat) : withAll N (l ++ [q]) = with1 (withAll N l) q := by
  unfold withAll
  rw [List.foldl_append]
  rfl
theorem Down.take (G : Good s) {p e : Nat} {N : List Nat} (h : Down s p (e + 1) N) (m : e ∈ N) : Down s p e (withAll N (Gf13.dependenciesOf s e)) :=
  ⟨nodup_withAll h.nd, fun q hq => by
    rcases mem_withAll.mp hq with hq | hq
    · exact h.ok q hq
    · exact .more (h.ok e m) hq, mem_withAll.mpr (.inl h.self), fun k r h1 h2 d => by
    rcases mem_withAll.mp h2 with h2 | h2
    · rcases Nat.lt_or_ge e k with c | c
      · exact mem_withAll.mpr (.inl (h.cl k r c h2 d))
      · have : k = e := by omega
        exact mem_withAll.mpr (.inr (this ▸ d))
    · have := deps_lt G h2
      omega⟩
theorem Down.done (G : Good s) {p : Nat} {N : List Nat} (h : Down s p 0 N) : N.Perm (Gf13.allDependencies s p) := by
  refine (List.perm_ext_iff_of_nodup h.nd (up_nodup (all_lt G).1)).mpr fun q => ?_
  rw [mem_all G]
  refine ⟨h.ok q, fun n => ?_⟩
  induction n with
  | self => exact h.self
  | more _ d ih => exact h.cl _ _ (Nat.zero_le _) ih d
theorem needs_le (G : Good s) {p q : Nat} (h : Needs s p q) : q ≤ p := (needs_closure G h).1
theorem len_all (G : Good s) {p : Nat} : (Gf13.allDependencies s p).length ≤ p + 1 := up_len _ (all_lt G).1 (all_lt G).2
theorem Down.len (G : Good s) {p e : Nat} {N : List Nat} (h : Down s p e N) : N.length ≤ p + 1 := by
  refine nodup_len (m := List.range (p + 1)) h.nd (fun x m => List.mem_range.mpr ?_) |> fun q => by rwa [List.length_range] at q
  have := needs_le G (h.ok x m)
  omega
end
end Lg
/-! sorted(d.keys()), the keys whole numbers, any number of them -/
namespace Lg
open PySem PySem.Spec PyProof.Rows L2
section
open PySem.W
variable {prog : Program} {w : World} {A : Around} {E : Value → Shared → Prop} {s : Shared} {r d : Addr} {es : Array DictEntry} {ep : Nat} {Q : Value → Shared → Prop}
/-- any list whose items are those of an array of ints, place by place -/
theorem ints_place {f : Nat → Int} : ∀ (n : Nat) (l : List Value) (i : Nat), l.length = n → (∀ (j : Nat) (v : Value), l[j]? = some v → ∃ t : Tok, v = Value.int (f (i + j)) t) → IntsAre l ((List.range' i n).map f)
  | 0, l, i, h, _ => by
    rw [List.length_eq_zero_iff.mp h]
    exact .nil
  | n + 1, [], i, h, _ => by cases h
  | n + 1, v :: l, i, h, k => by
    obtain ⟨t, rfl⟩ := k 0 v rfl
    have ih := ints_place (f := f) n l (i + 1) (Nat.succ.inj h) fun j u e => by
      obtain ⟨t, e'⟩ := k (j + 1) u e
      exact ⟨t, by rw [e', show i + (j + 1) = i + 1 + j by omega]⟩
    rw [List.range'_succ, List.map_cons]
    exact .cons _ _ ih
theorem sorted_view (hlast : ∃ o, s.heap.get? r = some o ∧ r + 1 = s.heap.objs.size) (hh : A.handled = none) (hok : KdlKeysView s.heap r d ∧ s.heap.DictRaw d es ep) (hn : es.size ≤ sizeLine) {ns : List Int} (hns : ns.length = es.size) (hi : ∀ i (h : i < es.size), ∃ t : Tok, es[i].key = Value.int (ns.getD i 0) t)
    (h : ∀ (h' : Heap) (tk : Nat) (p : Addr) (out : List Value) (n : Nat) (ms : List Int), (∀ b o, s.heap.get? b = some o → h'.get? b = some o) → s.heap.objs.size ≤ p → h'.get? p = some (seqObj "list" out.toArray n) → IntsAre out ms → ms.Perm ns → ms.Pairwise (· ≤ ·) → Q (.ref p) { s with heap := h', toks := tk }) :
    wpAny (model prog w) A (call (.builtin "sorted") [.ref r]) Q E s := by
  refine Calls.call_function_entry kind_sorted plain_sorted entry_sorted (args_sorted1 _) ?_
  unfold Builtin.«sorted»
  refine wpAny_bind (m := checkCount "sorted" 1 1 _) (wpAny_pure ?_)
  refine wpAny_bind (kdu_collect (A := A.in1) KdlSrc.rawKeys hh hok hn fun h' tk acc hk hacc => ?_)
  have hl : acc.toList.length = es.size := by rw [Array.length_toList]; exact hacc.1
  refine wpAny_bind (wpAny_newList ?_ (by rw [hl]; exact hn))
  have hI : IntsAre acc.toList ns := by
    have e := ints_place (f := fun i => ns.getD i 0) es.size acc.toList 0 hl fun j v ej => by
      obtain ⟨hj, ev⟩ := hacc.2 j v (by rw [← Array.getElem?_toList]; exact ej)
      obtain ⟨t, et⟩ := hi j hj
      exact ⟨t, by rw [ev, et, Nat.zero_add]⟩
    have e2 : (List.range' 0 es.size).map (fun i => ns.getD i 0) = ns := by
      refine List.ext_getElem (by rw [List.length_map, List.length_range', hns]) fun i h1 h2 => ?_
      rw [List.getElem_map, List.getElem_range', List.getD_eq_getElem?_getD, Nat.zero_add, Nat.one_mul, List.getElem?_eq_getElem h2]
      rfl
    rw [e2] at e
    exact e
  have hoL : (h'.push (seqObj "list" acc.toList.toArray 0)).get? h'.objs.size = some (seqObj "list" acc.toList.toArray 0) := Heap.get?_push_size _ rfl
  show wpAny _ _ _ _ _ { s with heap := h'.push (seqObj "list" acc.toList.toArray 0), toks := tk }
  refine wpAny_bind (wpAny_holding (wpAny_call_entry slot_list_sort ⟨_, hoL, rfl⟩ entry_list_sort
    (SrtO.list_sort_ord SrtO.swo_int hoL (by rw [hl]; exact hn) (fun h2 => SrtO.ints_sortable hI h2) fun out h1 h2 => ⟨_, rfl, ?_⟩) (args_list_sort _)))
  obtain ⟨k1, k2, k3⟩ := SrtO.ints_out hI h1 h2
  obtain ⟨e', he'⟩ := sortedHeap_at (vs := acc.toList) (out := out.toArray) hoL
  have le : s.heap.objs.size ≤ h'.objs.size := by
    obtain ⟨o, ho, e⟩ := hlast
    exact e ▸ Heap.lt_size (hk _ _ ho)
  refine wpAny_pure ⟨_, rfl, h _ _ _ out e' _ (fun b o q => ?_) le he' k1 k2 k3⟩
  have q1 := hk b o q
  have q2 : (h'.push (seqObj "list" acc.toList.toArray 0)).get? b = some o := Heap.get?_push_of_some _ q1
  rw [sortedHeap_old (Nat.ne_of_lt (Heap.lt_size q1)) (Heap.lt_size q2)]
  exact q2
end
section
variable {X : Cx} {e : Expr} {td : TE} {x : Str} {p pos apos cpos : Pos}
/-- sorted(d.keys()) -/
def tSortedK (td : TE) : TE := fun σ H Q => td σ H fun x H1 => ∃ (d : Addr) (kvs : List (L2.Key × V)) (ns : List Int), x = .ref d ∧ H1 d = some (.dK kvs) ∧ kvs.map (·.1) = ns.map Sum.inl ∧
  ∀ (ms : List Int) (q : Addr), ms.Perm ns → ms.Pairwise (· ≤ ·) → H1 q = none → Q (.ref q) (upd H1 q (.lst (ms.map V.int)))
theorem pe_sortedK (hc : X.calm = true) (hg : Gl X "sorted") (hm : X.mg "sorted" = none) (hv : bootBuiltins ("sorted" : Str) = some (.builtin "sorted")) (he : PE X e td)
    (hbase : attributeBase e "keys" X.env (eval e X.env) = eval e X.env := by rfl) (hline : (apos.endLine == cpos.line) = true := by rfl)
    (hs : starEach [Expr.Call (.Attribute e "keys" apos) [] [] cpos] X.env = (false, eval (.Call (.Attribute e "keys" apos) [] [] cpos) X.env) :: starEach [] X.env := by rfl) :
    PE X (.Call (.Name "sorted" p) [.Call (.Attribute e "keys" apos) [] [] cpos] [] pos) (tSortedK td) := by
  refine ⟨fun pins s σ H Q I h => ?_⟩
  refine wpAny_Call_Name_kw (ld_blt I hg hm hv ?_ (by decide) (by decide))
  refine PyProof.Rows.callWith_builtin1 ?_ hs rfl
  rw [hs]
  show wpAny _ _ (spliced ((false, eval (.Call (.Attribute e "keys" apos) [] [] cpos) X.env) :: backTo pos (starEach [] X.env))) _ _ s
  refine Calls.spliced_cons ?_
  refine wpAny_Call_method (T := "dict") (id := "dict.keys") hbase rfl hline F.plainAttrs_dict F.slot_dict_keys F.type_dict_keys (thn (he.run pins s σ H _ I h) fun u s1 ⟨x, H1, I1, rx, d, kvs, ns, ex, hd, hk, q⟩ => ?_)
  subst ex
  obtain rfl : u = Value.ref d := rx
  obtain ⟨z, hs', vs', kv, dd⟩ := dk_of I1.hok hd
  refine ⟨dd.typeIs, dd.mapOf.noDict, ?_⟩
  have hgt : (s1.heap.push { cls := .type "dict_keys", data := .fields #[.ref d] }).get? s1.heap.objs.size = some { cls := .type "dict_keys", data := .fields #[.ref d] } := Heap.get?_push_size _ rfl
  have hvw : PySem.W.KdlKeysView (s1.heap.push { cls := .type "dict_keys", data := .fields #[.ref d] }) s1.heap.objs.size d := ⟨_, hgt, rfl, rfl⟩
  obtain ⟨es, ep, hr, hsz, hen⟩ := dd.raw
  have lv : kvs.length = vs'.length := kv.length
  have lns : ns.length = kvs.length := by
    have := congrArg List.length hk
    rw [List.length_map, List.length_map] at this
    exact this.symm
  have kk : vs'.map (·.1) = ns.map Sum.inl := kv.keys.symm.trans hk
  show wpAny _ _ (callWith cpos (.builtin "dict.keys") [.ref d] [] []) _ X.xe s1
  refine method_meetsIn F.slot_dict_keys F.entry_dict_keys rfl (PySem.evalArgs_none ⟨rfl, dd.typeIs, F.args_dict_keys_1 _, _, PySem.W.kdl_meets_keys (mixKind X.prog X.w) d hs', ⟨vs', dd⟩, ?_⟩)
  refine Calls.spliced_nil ?_
  refine sorted_view (s := { s1 with heap := s1.heap.push { cls := .type "dict_keys", data := .fields #[.ref d] } }) ⟨_, hgt, (size_push' _ _).symm⟩ (I1.ok.hd hc) ⟨hvw, hr.push _⟩ (by omega) (ns := ns) (by omega) (fun i hi => ?_) fun h' tk p' out n ms keep hp' hl hI hm hS => ?_
  · have hi' : i < vs'.length := by omega
    have e1 : vs'[i]? = some (vs'[i].1, vs'[i].2) := List.getElem?_eq_getElem hi'
    obtain ⟨a1, _⟩ := hen i hi _ _ e1
    have e2 : (vs'.map (·.1))[i]? = some vs'[i].1 := by rw [List.getElem?_map, List.getElem?_eq_getElem hi']; rfl
    rw [kk, List.getElem?_map, List.getElem?_eq_getElem (show i < ns.length by omega)] at e2
    have e3 : vs'[i].1 = Sum.inl ns[i] := (Option.some.inj e2).symm
    rw [e3] at a1
    rw [List.getD_eq_getElem?_getD, List.getElem?_eq_getElem (show i < ns.length by omega)]
    rcases keyIs_shape (show keyIs (Sum.inl ns[i]) es[i].key = true from a1) with ⟨j, t, k1, k2⟩ | ⟨y, t, k1, k2⟩
    · cases k1
      exact ⟨t, k2⟩
    · cases k1
  · have hlen : (ms.map V.int).length ≤ sizeLine := by
      rw [List.length_map, hm.length_eq]
      omega
    have hsz1 : s1.heap.objs.size ≤ p' := Nat.le_trans (by rw [size_push']; exact Nat.le_succ _) hp'
    exact ⟨.ref p', upd H1 p' (.lst (ms.map V.int)), I1.laid (t' := tk) (fun b o e => keep b o (Heap.get?_push_of_some _ e)) hsz1 ⟨hlen, out, n, vals_of_ints hI, hl⟩, rfl, q _ _ hm hS (I1.hok.fresh hsz1)⟩
end
end Lg
namespace Lg
open PySem PySem.Spec PyProof.Rows L2
/-! ### a dict of True, its keys whole numbers -/
def dU (N : List Nat) : List (L2.Key × V) := N.map fun (q : Nat) => ((Sum.inl (q : Int) : L2.Key), V.bl true)
theorem dU_len (N : List Nat) : (dU N).length = N.length := List.length_map _
theorem dU_keys (N : List Nat) : (dU N).map (·.1) = (nInts N).map Sum.inl := by
  unfold dU nInts Gf11.toInts
  rw [List.map_map, List.map_map]
  rfl
theorem dU_val (q : Nat) : ∀ N : List Nat, valV (dU N) (Sum.inl (q : Int)) = if q ∈ N then some (V.bl true) else none
  | [] => rfl
  | a :: N => by
    have ih := dU_val q N
    show valV (((Sum.inl (a : Int) : L2.Key), V.bl true) :: dU N) _ = _
    by_cases h : a = q
    · rw [h, valV_pos rfl, if_pos List.mem_cons_self]
    · have ne : ¬ ((Sum.inl (a : Int) : L2.Key), V.bl true).1 = Sum.inl (q : Int) := fun e => h (by
        injection e with e
        omega)
      rw [valV_neg ne, ih]
      by_cases m : q ∈ N
      · rw [if_pos m, if_pos (List.mem_cons_of_mem _ m)]
      · rw [if_neg m, if_neg fun z => by
          rcases List.mem_cons.mp z with e | e
          · exact h e.symm
          · exact m e]
theorem dU_put (N : List Nat) (q : Nat) : putK (dU N) (Sum.inl (q : Int)) (V.bl true) = dU (with1 N q) := by
  unfold with1
  by_cases m : q ∈ N
  · rw [if_pos m]
    unfold putK
    rw [valV_any, dU_val, if_pos m, if_pos (show (some (V.bl true)).isSome = true from rfl)]
    unfold dU
    rw [List.map_map]
    refine List.map_congr_left fun a _ => ?_
    show (if (Sum.inl (a : Int) : L2.Key) = Sum.inl (q : Int) then ((Sum.inl (a : Int) : L2.Key), V.bl true) else _) = _
    split <;> rfl
  · rw [if_neg m, putK_new _ (by rw [dU_val, if_neg m])]
    unfold dU
    rw [List.map_append]
    rfl
theorem len_with1 (N : List Nat) (q : Nat) : (with1 N q).length ≤ N.length + 1 := by
  unfold with1
  split
  · omega
  · rw [List.length_append]
    exact Nat.le_refl _
theorem len_withAll : ∀ (l N : List Nat), (withAll N l).length ≤ N.length + l.length
  | [], N => Nat.le_refl _
  | q :: l, N => by
    have h := len_withAll l (with1 N q)
    have h1 := len_with1 N q
    show (withAll (with1 N q) l).length ≤ _
    rw [List.length_cons]
    omega
section
variable {P : Program} {w : World} {K : PySem.W.Frag} {mg : Str → Option Value} {base : Heap} {CH CC CO CL CS : Addr}
/-! ### requirements -/
abbrev sReq : Stmt := top 27
def nReq : List Str := ["changes", "number", "needed", "earlier", "dependency"]
theorem scReq : FnScope nReq ["changes", "number"] (defScope sReq) := ⟨rfl, rfl, rfl, by decide +kernel, rfl, by decide +kernel, by decide +kernel⟩
def spReq (CH CC : Addr) : Sp := fun vs H Q _ => ∃ (F : Hp) (v : V) (n : Nat) (s : Gf11.State), Same F H ∧ vs = [v, .int n] ∧ ChangesAt CH CC F H v s.changes ∧ Good s ∧ n < s.changes.length ∧
  ∀ (F' H' : Hp) (r : V), Ext F H F' H' → LineAt F' r (Gf13.allDependencies s n) → Q r H'
theorem ok_req {f fD : Addr} {fd fdD : FuncData} (F : Fun K "requirements" "requirements" sReq f fd) (T : Txt K mg CH CC CO CL CS) (FD : Fun K "dependencies" "dependencies" sDep fD fdD) (gD : mg "dependencies" = some (.ref fD)) :
    FnOk P w K mg base CX0 2 f fd ["changes", "number"] (spReq CH CC) := by
  have GD : FnOk P w K mg base CX0 1 fD fdD ["change"] (spDep CH CC) := ok_dep FD T
  have bD : Binds K fdD ["change"] [] := FD.binds fun _ _ _ _ _ _ us hl => match us, hl with | [_], _ => rfl
  refine F.ok scReq (fun vs H Q E h => ?_) (fun cdv A outer s H vs Q E hr h => ⟨_,
    pss_cons (ps_set (i := 2) scReq.nd rfl (Or.inl rfl) (pe_disp (pps_cons (pv 1) pe_bl pps_nil) rfl rfl (by intro h; cases h) (by decide)))
    (pss_cons (ps_for PassesOwn.never rfl (pi_range3 (by rfl) T.range (pa_cons (pv 1) (pa_cons (pe_un un_neg pe_int) (pa_cons (pe_un un_neg pe_int) pa_nil)))) (pg_name (i := 3) scReq.nd rfl (Or.inl rfl))
      (pss_one (ps_if (pt_cmp (pc_din (hu_of hr) (pv 3) (pv 2)) (by rfl))
        (pss_one (ps_for PassesOwn.never rfl (pi_list (pe_call GD hr (by rfl) gD FD.kp bD .nil pass0 (pa_cons (pe_ix ix_list (pv 0) (pv 3) (fun _ _ => rfl)) pa_nil))) (pg_name (i := 4) scReq.nd rfl (Or.inl rfl))
          (pss_one (ps_dput (hu_of hr) (pv 2) (pv 4) pe_bl rfl))))
        pss_nil)))
    (pss_one (ps_ret (pe_sortedK rfl (by rfl) T.sorted (by decide +kernel) (pv 2))))), ?_⟩)
  · obtain ⟨F0, v, n, st, _, rfl, _⟩ := h
    rfl
  · obtain ⟨F0, v, n, st, hF, rfl, ⟨ca, cvs, rfl, hc, pc⟩, G, lt, k⟩ := h
    have l12 := G.few
    intro D nD
    have D0 := hF.free nD
    have X0 := (Ext.refl hF).tmp nD (o := .dK [])
    refine ⟨_, rfl, upd_same, [((Sum.inl (n : Int) : L2.Key), V.bl true)], rfl, Nat.le_add_left 1 14, ?_⟩
    have X1 := X0.put D0 nD (o := .dK (dU [n]))
    refine ⟨_, rfl, _, rfl, _, rfl, _, _, _, _, rfl, RgC.neg (by omega) (by omega) (by decide) (by decide), ?_⟩
    refine for_rangeC (lo := (n : Int)) (c := -1) (n := ((n : Int) - -1).toNat) (fun t σ H' => ∃ F2 u3 u4 N, σ = [some (.ref ca), some (.int n), some (.ref D), u3, u4] ∧ Ext F0 H F2 H' ∧ F2 D = none ∧ H' D = some (.dK (dU N)) ∧ Down st n (n + 1 - t) N)
      ⟨F0, none, none, [n], rfl, X1, D0, upd_same, Down.start st n⟩ ?_ ?_
    · rintro t σ H' ht ⟨F2, u3, u4, N, rfl, X, fD, hD, dw⟩
      have e1 : (n : Int) + (t : Nat) * -1 = ((n - t : Nat) : Int) := by omega
      have e2 : n + 1 - t = (n - t) + 1 := by omega
      have e3 : n + 1 - (t + 1) = n - t := by omega
      rw [e1]
      rw [e2] at dw
      rw [e3]
      have le : n - t ≤ n := by omega
      generalize n - t = e at dw le
      refine ⟨_, rfl, _, rfl, D, _, rfl, DGet.k (k := Sum.inl (e : Int)) hD, _, rfl, ?_⟩
      rw [dU_val]
      by_cases m : e ∈ N
      · rw [if_pos m]
        have ec := List.getElem?_eq_getElem (show e < st.changes.length by omega)
        generalize st.changes[e] = ch at ec
        obtain ⟨cv, ecv, hcv⟩ := Paired.at (F := ChangeAt CH CC F0) pc ec
        obtain ⟨d1, d2, d3, d4, d5, d6⟩ := good_dep G ec
        have ed : Gf13.dependenciesOf st e = Gf11.dependencies ch := by
          unfold Gf13.dependenciesOf
          rw [ec]
          rfl
        have lN := dw.len G
        refine ifT rfl ⟨_, rfl, _, rfl, ca, _, _, _, rfl, rfl, SqL.of (X.hh _ _ hc), atI_nat ecv, F2, cv, ch, X.fh, rfl, ChangeAt.mono X.ff _ _ hcv, d1, d2, Nat.lt_of_le_of_lt d5 (by decide), fun F3 H3 nv X3 hnv => ?_⟩
        obtain ⟨q2, rfl, hq2⟩ := hnv
        have X4 := X.trans X3
        have hD3 := X3.hh _ _ hD
        have fD3 := X3.out fD hD
        refine ⟨q2, rfl, ⟨_, SqL.of (X3.fh _ _ hq2)⟩, ?_⟩
        refine for_list (K := K) (a := q2) (xs := nV (Gf11.dependencies ch)) (fun i σ H4 => ∃ u4, σ = [some (.ref ca), some (.int n), some (.ref D), some (.int e), u4] ∧ Ext F0 H F3 H4 ∧ H4 D = some (.dK (dU (withAll N ((Gf11.dependencies ch).take i)))))
          ⟨u4, rfl, X4, hD3⟩ (fun i σ H4 _ ⟨_, _, Y, _⟩ => SqL.of (Y.fh _ _ hq2)) ?_ ?_
        · rintro i y σ H4 hi ⟨u4, rfl, Y, hD4⟩
          obtain ⟨q, eq, rfl⟩ := nV_get hi
          have bd := len_withAll ((Gf11.dependencies ch).take i) N
          rw [List.length_take] at bd
          refine ⟨_, rfl, _, rfl, D, _, rfl, DPut.k (k := Sum.inl (q : Int)) hD4 (by rw [dU_len]; exact Nat.lt_of_le_of_lt (m := 100) (by omega) (by decide)), ?_⟩
          refine ⟨_, rfl, Y.put fD3 nD, ?_⟩
          rw [upd_same, dU_put, take_more eq, withAll_snoc]
        · rintro σ H4 ⟨u4, rfl, Y, hD4⟩
          rw [nV_len, List.take_length, ← ed] at hD4
          exact ⟨F3, _, _, _, rfl, Y, fD3, hD4, dw.take G m⟩
      · rw [if_neg m]
        exact ifF rfl ⟨F2, _, _, N, rfl, X, fD, hD, dw.skip m⟩
    · rintro σ H' ⟨F2, u3, u4, N, rfl, X, fD, hD, dw⟩
      have e0 : n + 1 - ((n : Int) - -1).toNat = 0 := by omega
      rw [e0] at dw
      refine ⟨_, rfl, D, _, nInts N, rfl, hD, dU_keys N, fun ms q pm so nq => ?_⟩
      have pN := dw.done G
      have em : ms = nInts (Gf13.allDependencies st n) := sorted_to dw.nd (all_lt G).1 (fun x => (pN.mem_iff).symm) pm so
      refine k _ _ _ (X.new nq (o := .lst (ms.map V.int))) ⟨q, rfl, ?_⟩
      rw [upd_same, em]
      rfl
end
end Lg
namespace Lg
open PySem PySem.Spec PyProof.Rows L2
/-- a function of a module -/
structure Cd (K : PySem.W.Frag) (mg : Str → Option Value) (n : Str) (s : Stmt) where
  f : Addr
  d : FuncData
  F : Fun K n n s f d
  g : mg n = some (.ref f)
/-- an __init__ -/
structure Ci (K : PySem.W.Frag) (C : Addr) (q : Str) (s : Stmt) where
  f : Addr
  d : FuncData
  F : Fun K "__init__" q s f d
  M : Mk K C f
structure Lib (K : PySem.W.Frag) (mg : Str → Option Value) (CH CC CO : Addr) where
  ins : Cd K mg "inserted_lines" sIns
  cha : Cd K mg "chains" sCha
  dep : Cd K mg "dependencies" sDep
  vis : Cd K mg "visible_lines" sVis
  nxt : Cd K mg "next_positions" sNxt
  pre : Cd K mg "preceded_positions" sPre
  isp : Cd K mg "is_preceded" sIsp
  ord : Cd K mg "order_lines" sOrd
  cnf : Cd K mg "find_conflicts" sCnf
  con : Cd K mg "find_content" sCon
  tex : Cd K mg "line_texts" sTex
  cnt : Cd K mg "kept_counts" sCnt
  mkh : Cd K mg "make_hunks" sMkh
  dif : Cd K mg "difference" sDif
  exc : Cd K mg "exceeds_limits" sExc
  recd : Cd K mg "record_change" sRec
  req : Cd K mg "requirements" sReq
  ecl : Cd K mg "encode_lines" sEcl
  ecp : Cd K mg "encode_positions" sEcp
  iH : Ci K CH "Hunk.__init__" sIH
  iC : Ci K CC "Change.__init__" sIC
  iO : Ci K CO "Content.__init__" sIO
section
variable {P : Program} {w : World} {K : PySem.W.Frag} {mg : Str → Option Value} {base : Heap} {CH CC CO CL CS : Addr}
theorem Lib.okCon (L : Lib K mg CH CC CO) (T : Txt K mg CH CC CO CL CS) : FnOk P w K mg base CX0 3 L.con.f L.con.d ["changes", "members"] (spCon CH CC CO) :=
  ok_con L.con.F T L.nxt.F L.nxt.g L.cha.F L.cha.g L.vis.F L.vis.g L.ins.F L.ins.g L.pre.F L.pre.g L.ord.F L.ord.g L.isp.F L.isp.g L.cnf.F L.cnf.g L.iO.M L.iO.F
theorem Lib.okTex (L : Lib K mg CH CC CO) (T : Txt K mg CH CC CO CL CS) : FnOk P w K mg base CX0 2 L.tex.f L.tex.d ["changes", "lines"] (spTex CH CC) := ok_tex L.tex.F T L.ins.F L.ins.g
theorem Lib.okDif (L : Lib K mg CH CC CO) (T : Txt K mg CH CC CO CL CS) : FnOk P w K mg base CX0 4 L.dif.f L.dif.d ["positions", "old", "new"] (spDif CH CC) :=
  ok_dif L.dif.F T L.cnt.F L.cnt.g L.mkh.F L.mkh.g L.iH.M L.iH.F L.iC.M L.iC.F
theorem Lib.okReq (L : Lib K mg CH CC CO) (T : Txt K mg CH CC CO CL CS) : FnOk P w K mg base CX0 2 L.req.f L.req.d ["changes", "number"] (spReq CH CC) := ok_req L.req.F T L.dep.F L.dep.g
theorem Lib.okEcl (L : Lib K mg CH CC CO) (T : Txt K mg CH CC CO CL CS) : FnOk P w K mg base CX0 1 L.ecl.f L.ecl.d ["lines"] spEcl := ok_ecl L.ecl.F T
theorem Lib.okEcp (L : Lib K mg CH CC CO) (T : Txt K mg CH CC CO CL CS) : FnOk P w K mg base CX0 1 L.ecp.f L.ecp.d ["positions"] spEcp := ok_ecp L.ecp.F T
theorem Lib.okEcpT (L : Lib K mg CH CC CO) (T : Txt K mg CH CC CO CL CS) : FnOk P w K mg base CX0 1 L.ecp.f L.ecp.d ["positions"] spEcpT := ok_ecpT L.ecp.F T
theorem Lib.okIns (L : Lib K mg CH CC CO) (T : Txt K mg CH CC CO CL CS) : FnOk P w K mg base CX0 1 L.ins.f L.ins.d ["change"] (spIns CH CC) := ok_ins L.ins.F T
theorem Lib.okDep (L : Lib K mg CH CC CO) (T : Txt K mg CH CC CO CL CS) : FnOk P w K mg base CX0 1 L.dep.f L.dep.d ["change"] (spDep CH CC) := ok_dep L.dep.F T
end
theorem Paired.empty {α β : Type} {F : α → β → Prop} : ∀ {l : List α} {m : List β}, Paired F l m → l.isEmpty = m.isEmpty
  | _, _, .nil => rfl
  | _, _, .cons _ _ => rfl
/-- what is known of a content -/
structure ConOk (cs : List Gf11.Change) (con : List (Gf11.Position × Gf11.Line) × List (Gf11.Position × Gf11.Position)) : Prop where
  len : con.1.length ≤ 96
  inn : ∀ x ∈ con.1, ∃ p c i, cs[p]? = some c ∧ x.1 = .line p i ∧ (Gf11.insertedLines c)[i]? = some x.2
  wid : ∀ x ∈ con.1, x.2.length ≤ 12
  cf : con.2.length ≤ 96 * 96
theorem con_ok {s : Gf11.State} (G : Good s) {b : Nat} {l : List Nat} (el : s.branches[b]? = some l) : BrOk s.changes l ∧ ConOk s.changes (Gf11.content s.changes l) := by
  obtain ⟨ul, xl, ll⟩ := G.members el
  obtain ⟨rk, hb, R⟩ := G.rank
  have bok : BrOk s.changes l := ⟨G.few, G.chg, ul, xl⟩
  have perm : (Gf11.content s.changes l).1.Perm (Gf11.visibleLines s.changes l) := content_perm R (up_nodup ul)
  have lvis := len_vis bok
  have lcon := perm.length_eq
  have inn : ∀ x ∈ (Gf11.content s.changes l).1, ∃ p c i, s.changes[p]? = some c ∧ x.1 = .line p i ∧ (Gf11.insertedLines c)[i]? = some x.2 := fun x m => by
    obtain ⟨p, _, c, i, e1, e2, e3⟩ := mem_visible (perm.mem_iff.mp m)
    exact ⟨p, c, i, e1, by rw [e2], e3⟩
  refine ⟨bok, by omega, inn, fun x m => ?_, ?_⟩
  · obtain ⟨p, c, i, e1, _, e3⟩ := inn x m
    exact (G.chg p c e1).width _ (List.mem_of_getElem? e3)
  · refine Nat.le_trans (List.length_filter_le _ _) (Nat.le_trans (len_pairs ((Gf11.content s.changes l).1.map fun x => x.1)) ?_)
    rw [List.length_map]
    exact Nat.mul_le_mul (by omega) (by omega)
theorem lns_len : ∀ {t : List Gf11.Line}, (∀ x ∈ t, x.length ≤ 12) → (lns t).length ≤ 13 * t.length
  | [], _ => Nat.zero_le _
  | a :: t, h => by
    have ih := lns_len (t := t) fun x m => h x (List.mem_cons_of_mem _ m)
    have ha := h a List.mem_cons_self
    have e : lns (a :: t) = Gf11.encodeLine a ++ lns t := rfl
    have el : (Gf11.encodeLine a).length = a.length + 1 := by
      unfold Gf11.encodeLine Gf11.toInts
      rw [List.length_cons, List.length_map]
    rw [e, List.length_append, el, List.length_cons]
    omega
end Lg
namespace Lg
open PySem PySem.Spec PyProof.Rows L2
section
variable {P : Program} {w : World} {K : PySem.W.Frag} {mg : Str → Option Value} {base : Heap} {CH CC CO CL CS : Addr}
/-! ### write_lines -/
abbrev sWri : Stmt := top 58
def nWri : List Str := ["session", "branch", "lines", "content", "old"]
theorem scWri : FnScope nWri ["session", "branch", "lines"] (defScope sWri) := ⟨rfl, rfl, rfl, by decide +kernel, rfl, by decide +kernel, by decide +kernel⟩
def spWri (CH CC CS : Addr) : Sp := fun vs H Q _ => ∃ (F : Hp) (v tv : V) (b : Nat) (o : Own3) (s : Gf11.State) (l : List Nat) (t : List Gf11.Line), Same F H ∧ vs = [v, .int b, tv] ∧ Sess CH CC CS F H v o s ∧ Good s ∧ s.branches[b]? = some l ∧ LstAt LineAt F tv t ∧ t.length ≤ 1000 ∧ OpPost CH CC CS F H v o (Gf11.step s (.write b t)) Q
theorem tooMuch_iff (t : List Gf11.Line) : tooMuch t = true ↔ (Gf11.MAX_LINES < t.length ∨ t.any (fun x => decide (Gf11.MAX_LINE < x.length)) = true) := by
  unfold tooMuch
  rw [Bool.or_eq_true, decide_eq_true_eq]
  rfl
theorem ok_wri {f : Addr} {fd : FuncData} (F : Fun K "write_lines" "write_lines" sWri f fd) (T : Txt K mg CH CC CO CL CS) (TO : TxtO mg) (TS : TxtS K CS) (L : Lib K mg CH CC CO) :
    FnOk P w K mg base CX0 5 f fd ["session", "branch", "lines"] (spWri CH CC CS) := by
  have GE : FnOk P w K mg base CX0 1 L.exc.f L.exc.d ["lines"] spExc := ok_exc L.exc.F T TO
  have GC : FnOk P w K mg base CX0 3 L.con.f L.con.d ["changes", "members"] (spCon CH CC CO) := L.okCon T
  have GT : FnOk P w K mg base CX0 2 L.tex.f L.tex.d ["changes", "lines"] (spTex CH CC) := L.okTex T
  have GD : FnOk P w K mg base CX0 4 L.dif.f L.dif.d ["positions", "old", "new"] (spDif CH CC) := L.okDif T
  have GR : FnOk P w K mg base CX0 1 L.recd.f L.recd.d ["session", "branch", "change"] (spRec CH CC CS) := ok_rec L.recd.F T TS
  have bE : Binds K L.exc.d ["lines"] [] := L.exc.F.binds fun _ _ _ _ _ _ us hl => match us, hl with | [_], _ => rfl
  have bC : Binds K L.con.d ["changes", "members"] [] := L.con.F.binds fun _ _ _ _ _ _ us hl => match us, hl with | [_, _], _ => rfl
  have bT : Binds K L.tex.d ["changes", "lines"] [] := L.tex.F.binds fun _ _ _ _ _ _ us hl => match us, hl with | [_, _], _ => rfl
  have bD : Binds K L.dif.d ["positions", "old", "new"] [] := L.dif.F.binds fun _ _ _ _ _ _ us hl => match us, hl with | [_, _, _], _ => rfl
  have bR : Binds K L.recd.d ["session", "branch", "change"] [] := L.recd.F.binds fun _ _ _ _ _ _ us hl => match us, hl with | [_, _, _], _ => rfl
  obtain ⟨t1, g1⟩ := TO.over
  obtain ⟨t2, g2⟩ := TO.confl
  obtain ⟨t3, g3⟩ := TO.same
  obtain ⟨t4, g4⟩ := TO.maxChanges
  obtain ⟨t5, g5⟩ := TO.many
  refine F.ok scWri (fun vs H Q E h => ?_) (fun cdv A outer s H vs Q E hr h => ⟨_,
    pss_cons (ps_if (pt_val (pe_call GE (hr.mono (by decide)) (by rfl) L.exc.g L.exc.F.kp bE .nil pass0 (pa_cons (pv 2) pa_nil)) (by intro _; rfl)) (pss_one (ps_ret (pe_lst (pa_cons (pe_glob rfl g1 (v := .int (-1)) ⟨_, rfl⟩) pa_nil)))) pss_nil)
    (pss_cons (ps_set (i := 3) scWri.nd rfl (Or.inl rfl) (pe_call GC (hr.mono (by decide)) (by rfl) L.con.g L.con.F.kp bC .nil pass0 (pa_cons (pe_fld (pv 0) rfl) (pa_cons (pe_ix ix_list (pe_fld (pv 0) rfl) (pv 1) (fun _ _ => rfl)) pa_nil))))
    (pss_cons (ps_if (pt_truth (pe_fld (pv 3) rfl) (by intro _; rfl)) (pss_one (ps_ret (pe_lst (pa_cons (pe_glob rfl g2 (v := .int (-5)) ⟨_, rfl⟩) pa_nil)))) pss_nil)
    (pss_cons (ps_set (i := 4) scWri.nd rfl (Or.inl rfl) (pe_call GT (hr.mono (by decide)) (by rfl) L.tex.g L.tex.F.kp bT .nil pass0 (pa_cons (pe_fld (pv 0) rfl) (pa_cons (pe_fld (pv 3) rfl) pa_nil))))
    (pss_cons (ps_if (pt_cmpR (op_eqD hr.units) (pv 4) (pv 2) (nomark _)) (pss_one (ps_ret (pe_lst (pa_cons (pe_glob rfl g3 (v := .int (-6)) ⟨_, rfl⟩) pa_nil)))) pss_nil)
    (pss_cons (ps_if (pt_cmpR op_ge (pe_callB call_len (by rfl) T.len PySem.boot_len (pa_cons (pe_fld (pv 0) rfl) pa_nil)) (pe_glob rfl g4 (v := .int 12) ⟨_, rfl⟩) (nomark _)) (pss_one (ps_ret (pe_lst (pa_cons (pe_glob rfl g5 (v := .int (-8)) ⟨_, rfl⟩) pa_nil)))) pss_nil)
    (pss_one (ps_ret (pe_lst (pa_cons (pe_call GR (hr.mono (by decide)) (by rfl) L.recd.g L.recd.F.kp bR .nil pass0 (pa_cons (pv 0) (pa_cons (pv 1) (pa_cons (pe_call GD hr (by rfl) L.dif.g L.dif.F.kp bD .nil pass0 (pa_cons (pe_fld (pv 3) rfl) (pa_cons (pv 4) (pa_cons (pv 2) pa_nil)))) pa_nil)))) pa_nil))))))))), ?_⟩)
  · obtain ⟨F0, v, tv, b, o, s, l, t, _, rfl, _⟩ := h
    rfl
  · obtain ⟨F0, v, tv, b, o, st, l, t, hF, rfl, S, G, el, htv, lt, k⟩ := h
    obtain ⟨a, dx, rfl, ha⟩ := S.obj
    obtain ⟨q, eq, hq⟩ := S.branchAt el
    obtain ⟨ul, xl, ll⟩ := G.members el
    obtain ⟨rk, hb, R⟩ := G.rank
    have l12 := G.few
    have at1 : atI (o.bas.map V.ref) (b : Int) = some (.ref q) := atI_nat (by rw [List.getElem?_map, eq]; rfl)
    have ek : Gf11.step st (.write b t) = if Gf11.MAX_LINES < t.length ∨ t.any (fun x => decide (Gf11.MAX_LINE < x.length)) = true then (st, Gf11.ok (-1)) else
        if (Gf11.content st.changes l).2.isEmpty = false then (st, Gf11.ok (-5)) else
        if (Gf11.changeBetween (Gf11.content st.changes l).1 t).hunks.isEmpty = true ∧ (Gf11.changeBetween (Gf11.content st.changes l).1 t).deleted.isEmpty = true then (st, Gf11.ok (-6)) else Gf11.record st b l (Gf11.changeBetween (Gf11.content st.changes l).1 t) := by
      show Gf11.withBranch st b _ = _
      unfold Gf11.withBranch
      rw [el]
    have k' : OpPost CH CC CS F0 H (.ref a) o (Gf11.step st (.write b t)) Q := k
    rw [ek] at k'
    refine ⟨_, rfl, F0, tv, t, hF, rfl, htv, lt, fun H1 X1 => ⟨_, rfl, ?_⟩⟩
    by_cases c0 : tooMuch t = true
    · rw [if_pos ((tooMuch_iff t).mp c0)] at k'
      refine ifT c0 ⟨by show 1 ≤ sizeLine; decide, fun n nn => ?_⟩
      exact k'.same S (X1.new nn (o := .lst [.int (-1)])) ⟨n, rfl, upd_same⟩
    rw [if_neg fun z => c0 ((tooMuch_iff t).mpr z)] at k'
    have ln : t.length ≤ 8 ∧ ∀ x ∈ t, x.length ≤ 12 := by
      refine ⟨Nat.le_of_not_lt fun z => c0 ((tooMuch_iff t).mpr (.inl z)), fun x m => Nat.le_of_not_lt fun z => c0 ((tooMuch_iff t).mpr (.inr (List.any_eq_true.mpr ⟨x, m, decide_eq_true z⟩)))⟩
    refine ifF (by simpa using c0) ?_
    have S1 := S.ext X1
    have bok : BrOk st.changes l := ⟨G.few, G.chg, ul, xl⟩
    refine ⟨_, rfl, a, CS, dx, _, _, rfl, X1.fh _ _ ha, TS.clS, TS.nChanges, se_changes _ _, _, rfl, a, CS, dx, _, _, rfl, X1.fh _ _ ha, TS.clS, TS.nBranches, se_branches _ _, _, rfl, o.lb, _, _, _, rfl, rfl, SqL.of S1.brs, at1, F0, .ref o.lc, .ref q, st.changes, l, rk, X1.fh, rfl, S1.changesAt, ⟨q, rfl, X1.hh _ _ hq⟩, bok, R, fun F2 H2 cv X2' hcv => ?_⟩
    have X2 := X1.trans X2'
    have perm : (Gf11.content st.changes l).1.Perm (Gf11.visibleLines st.changes l) := content_perm R (up_nodup ul)
    have lvis := len_vis bok
    have lcon := perm.length_eq
    have inn : ∀ x ∈ (Gf11.content st.changes l).1, ∃ p c i, st.changes[p]? = some c ∧ x.1 = .line p i ∧ (Gf11.insertedLines c)[i]? = some x.2 := fun x m => by
      obtain ⟨p, _, c, i, e1, e2, e3⟩ := mem_visible (perm.mem_iff.mp m)
      exact ⟨p, c, i, e1, by rw [e2], e3⟩
    have eb := between_target (Gf11.content st.changes l).1 t
    rw [eb] at k'
    generalize Gf11.content st.changes l = con at hcv k' perm lcon inn
    have ts := target_same (ps := con.1.map fun x => x.1) (old := con.1.map fun x => x.2) (new := t) (by rw [List.length_map, List.length_map])
    obtain ⟨ca, cdx, ov, cfv, rfl, hca, hov, hcf⟩ := hcv
    obtain ⟨cfa, cfs, rfl, hcfa, pcf⟩ := hcf
    have lcfs : cfs.length = con.2.length := Paired.len pcf
    have S2 := S.ext X2
    refine ⟨_, rfl, ca, CO, cdx, _, _, rfl, X2.fh _ _ hca, T.clO, T.nConflicts, co_conflicts _ _, _, Or.inl ⟨_, SqL.of (X2.fh _ _ hcfa), rfl⟩, ?_⟩
    by_cases c1 : con.2.isEmpty = false
    · rw [if_pos c1] at k'
      have ne : cfs.isEmpty = false := by
        cases cfs with
        | nil =>
          have : con.2 = [] := List.length_eq_zero_iff.mp lcfs.symm
          rw [this] at c1
          cases c1
        | cons => rfl
      refine ifT (by rw [ne]; rfl) ⟨by show 1 ≤ sizeLine; decide, fun n nn => ?_⟩
      exact k'.same S (X2.new nn (o := .lst [.int (-5)])) ⟨n, rfl, upd_same⟩
    rw [if_neg c1] at k'
    have em : cfs.isEmpty = true := by
      have : con.2 = [] := by
        cases e : con.2 with
        | nil => rfl
        | cons x y =>
          rw [e] at c1
          exact absurd rfl c1
      rw [this] at lcfs
      rw [List.length_eq_zero_iff.mp lcfs]
      rfl
    refine ifF (by rw [em]; rfl) ?_
    obtain ⟨oa, os, rfl, hoa, po⟩ := hov
    -- old = line_texts(..)
    refine ⟨_, rfl, a, CS, dx, _, _, rfl, X2.fh _ _ (X2.ff _ _ ha), TS.clS, TS.nChanges, se_changes _ _, _, rfl, ca, CO, cdx, _, _, rfl, X2.fh _ _ hca, T.clO, T.nOrder, co_order _ _, F2, .ref o.lc, .ref oa, st.changes, con.1, X2.fh, rfl, S2.changesAt, ⟨oa, os, rfl, hoa, po⟩, inn, (fun p c e => Nat.le_trans (G.chg p c e).lines (by decide)), by omega, fun F3 H3 xv X3' hxv => ?_⟩
    have X3 := X2.trans X3'
    have S3 := S.ext X3
    obtain ⟨xa, xs, rfl, hxa, px⟩ := hxv
    obtain ⟨ta, tvs, rfl, hta, pt⟩ := htv
    have pt3 : Paired (LineAt F3) tvs t := Paired.imp (fun v x h => LineAt.mono X3.ff v x h) pt
    -- if old == lines
    refine ⟨_, rfl, _, rfl, dText (con.1.map fun x => x.2), dText t, Dp.lst (SqL.of (X3.fh _ _ hxa)) (dp_all (R := LineAt H3) (fun v x h => dp_line h) (Paired.imp (fun v x h => LineAt.mono X3.fh v x h) px)), Dp.lst (SqL.of (X3.fh _ _ (X3.ff _ _ hta))) (dp_all (R := LineAt H3) (fun v x h => dp_line h) (Paired.imp (fun v x h => LineAt.mono X3.fh v x h) pt3)), shaped_list _ line_lay _, shaped_list _ line_lay _, _, rfl, ?_⟩
    have edt : PyData.eqv (dText (con.1.map fun x => x.2)) (dText t) = decide ((con.1.map fun x => x.2) = t) := eqv_text _ _
    rw [edt]
    have iff6 : ((target (con.1.map fun x => x.1) (con.1.map fun x => x.2) t).hunks.isEmpty = true ∧ (target (con.1.map fun x => x.1) (con.1.map fun x => x.2) t).deleted.isEmpty = true) ↔ (con.1.map fun x => x.2) = t := by
      rw [List.isEmpty_iff, List.isEmpty_iff]
      exact ts
    by_cases c2 : (con.1.map fun x => x.2) = t
    · rw [if_pos (iff6.mpr c2)] at k'
      refine ifT (decide_eq_true c2) ⟨by show 1 ≤ sizeLine; decide, fun n nn => ?_⟩
      exact k'.same S (X3.new nn (o := .lst [.int (-6)])) ⟨n, rfl, upd_same⟩
    rw [if_neg fun z => c2 (iff6.mp z)] at k'
    refine ifF (decide_eq_false c2) ?_
    -- if len(session.changes) >= MAX_CHANGES
    obtain ⟨cvs, hc3, pc3⟩ := S3.chs
    have lc3 : cvs.length = st.changes.length := Paired.len pc3
    have m12 : Gf11.MAX_CHANGES = 12 := rfl
    refine ⟨_, rfl, a, CS, dx, _, _, rfl, X3.fh _ _ (X3.ff _ _ ha), TS.clS, TS.nChanges, se_changes _ _, _, st.changes.length, rfl, Or.inl ⟨_, SqL.of hc3, lc3.symm⟩, _, _, rfl, rfl, _, rfl, ?_⟩
    unfold Gf11.record at k'
    by_cases c3 : Gf11.MAX_CHANGES ≤ st.changes.length
    · rw [if_pos c3] at k'
      refine ifT (decide_eq_true (show (12 : Int) ≤ (st.changes.length : Int) by omega)) ⟨by show 1 ≤ sizeLine; decide, fun n nn => ?_⟩
      exact k'.same S (X3.new nn (o := .lst [.int (-8)])) ⟨n, rfl, upd_same⟩
    rw [if_neg c3] at k'
    refine ifF (decide_eq_false (show ¬ (12 : Int) ≤ (st.changes.length : Int) by omega)) ?_
    -- record_change(session, branch, difference(content.order, old, lines))
    have po3 : Paired (PosAt F3) os (con.1.map fun x => x.1) := Paired.imp (fun v x h => PosAt.mono X3'.ff v x h) po
    refine ⟨_, rfl, _, rfl, _, rfl, ca, CO, cdx, _, _, rfl, X3'.hh _ _ (X2.fh _ _ hca), T.clO, T.nOrder, co_order _ _, _, rfl, _, rfl, F3, .ref oa, .ref xa, .ref ta, _, _, t, X3.fh, rfl, ⟨oa, os, rfl, X3'.ff _ _ hoa, po3⟩, ⟨xa, xs, rfl, hxa, px⟩, ⟨ta, tvs, rfl, X3.ff _ _ hta, pt3⟩, by rw [List.length_map, List.length_map], by rw [List.length_map]; omega, by omega, fun F4 H4 dv X4' hdv => ?_⟩
    have X4 := X3.trans X4'
    have S4 := S.ext X4
    refine ⟨F4, .ref a, dv, b, o, st, l, _, X4.fh, rfl, S4, el, hdv, by omega, by omega, fun H5 O5 S5 => ?_⟩
    refine ⟨by show 1 ≤ sizeLine; decide, fun n nn => ?_⟩
    have X6 := (Ext.refl O5.fh).new nn (o := .lst [.int st.changes.length])
    exact k' _ _ _ _ ((X4.op _).trans (O5.ext X6)) (S5.ext X6) ⟨n, rfl, upd_same⟩
end
end Lg
namespace Lg
open PySem PySem.Spec PyProof.Rows L2
theorem pos_keys {F : Hp} : ∀ {vs : List V} {rs : List Gf11.Position}, Paired (PosAt F) vs rs → ∃ ks : List (Addr × List Int), vs = ks.map (fun p => V.ref p.1) ∧ ks.map (·.2) = rs.map Gf11.encodePosition ∧ ∀ p ∈ ks, F p.1 = some (.tup (p.2.map V.int))
  | _, _, .nil => ⟨[], rfl, rfl, fun p m => nomatch m⟩
  | _, _, .cons h t => by
    obtain ⟨ks, e1, e2, e3⟩ := pos_keys t
    obtain ⟨a, rfl, ha⟩ := h
    refine ⟨(a, Gf11.encodePosition _) :: ks, by rw [e1]; rfl, by rw [List.map_cons, List.map_cons, e2], fun p m => ?_⟩
    rcases List.mem_cons.mp m with e | m
    · rw [e]
      exact ha
    · exact e3 p m
theorem nodup_dups : ∀ (n : Nat) (l : List Gf11.Position), l.length ≤ n → l.eraseDups.Nodup
  | _, [], _ => by
    rw [List.eraseDups_nil]
    exact List.nodup_nil
  | 0, _ :: _, h => absurd h (by simp)
  | n + 1, a :: l, h => by
    rw [List.eraseDups_cons]
    refine List.nodup_cons.mpr ⟨fun m => ?_, nodup_dups n _ ?_⟩
    · have := mem_eraseDups.mp m
      have := (List.mem_filter.mp this).2
      simp at this
    · have := List.length_filter_le (fun b => !b == a) l
      rw [List.length_cons] at h
      omega
theorem dups_len {rs : List Gf11.Position} {D : List (List Int)} (nd : D.Nodup) (m : ∀ k, k ∈ D ↔ k ∈ rs.map Gf11.encodePosition) : D.length = rs.eraseDups.length := by
  have n2 : (rs.eraseDups.map Gf11.encodePosition).Nodup := List.pairwise_map.mpr (List.Pairwise.imp (fun h e => h (enc_inj e)) (nodup_dups _ rs (Nat.le_refl _)))
  have p := (List.perm_ext_iff_of_nodup nd n2).mpr fun k => by
    rw [m k, List.mem_map, List.mem_map]
    exact ⟨fun ⟨x, h, e⟩ => ⟨x, mem_eraseDups.mpr h, e⟩, fun ⟨x, h, e⟩ => ⟨x, mem_eraseDups.mp h, e⟩⟩
  rw [p.length_eq, List.length_map]
theorem dups_le : ∀ (n : Nat) (l : List Gf11.Position), l.length ≤ n → l.eraseDups.length ≤ l.length
  | _, [], _ => by
    rw [List.eraseDups_nil]
    exact Nat.le_refl _
  | 0, _ :: _, h => absurd h (by simp)
  | n + 1, a :: l, h => by
    have h1 := List.length_filter_le (fun b => !b == a) l
    rw [List.length_cons] at h
    have h2 := dups_le n (l.filter fun b => !b == a) (by omega)
    rw [List.eraseDups_cons, List.length_cons, List.length_cons]
    omega
theorem units65 {k : Nat} {A : Around} (r : Room k A) : A.units + 65 < cLine := by
  have := r.un
  omega
def canDel (rs vis : List Gf11.Position) : Bool := !rs.isEmpty && (decide (rs.eraseDups.length = rs.length) && rs.all fun r => vis.any fun x => x == r)
section
variable {P : Program} {w : World} {K : PySem.W.Frag} {mg : Str → Option Value} {base : Heap} {CH CC CO CL CS : Addr}
/-! ### can_be_deleted -/
abbrev sCbd : Stmt := top 59
def nCbd : List Str := ["lines", "visible", "line"]
theorem scCbd : FnScope nCbd ["lines", "visible"] (defScope sCbd) := ⟨rfl, rfl, rfl, by decide +kernel, rfl, by decide +kernel, by decide +kernel⟩
def spCbd : Sp := fun vs H Q _ => ∃ (F : Hp) (lv vv : V) (rs vis : List Gf11.Position), Same F H ∧ vs = [lv, vv] ∧ LstAt PosAt F lv rs ∧ LstAt PosAt F vv vis ∧ rs.length ≤ topN ∧ ∀ H' : Hp, Ext F H F H' → Q (.bl (canDel rs vis)) H'
theorem ok_cbd {f : Addr} {fd : FuncData} (F : Fun K "can_be_deleted" "can_be_deleted" sCbd f fd) (T : Txt K mg CH CC CO CL CS) : FnOk P w K mg base CX0 1 f fd ["lines", "visible"] spCbd := by
  refine F.ok scCbd (fun vs H Q E h => ?_) (fun cdv A outer s H vs Q E hr h => ⟨_,
    pss_cons (ps_if (PW.pt (pw_or (pt_not (pt_truth (pv 0) (by intro _; rfl))) (pw_or1 (pt_cmpR op_lt (pe_lenSetT rfl hr.units (by rfl) T.len (by rfl) T.set (pv 0)) (pe_callB call_len (by rfl) T.len PySem.boot_len (pa_cons (pv 0) pa_nil)) (nomark _))))) (pss_one (ps_ret pe_bl)) pss_nil)
    (pss_one (ps_ret (pe_callB (cr_all rfl) (by rfl) T.all (by decide +kernel) (pa_cons
      (pe_lc (own := [("line", 2)]) (g := gName 2) (tt := tYes) (te := tOp (rInD K) (tVar 2) (tVar 1)) (by rfl) scCbd.nd (pi_list (pv 0)) (blkOk_by (N := nCbd) (sc := defScope sCbd) (by decide +kernel)) (fun _ _ _ _ _ => pg_name (i := 2) scCbd.nd rfl (Or.inl rfl))
        (fun _ _ _ _ _ => pts_nil) (fun _ _ _ _ _ => pe_cmpR (op_inD (units65 hr)) (pv 2) (pv 1) (by rfl))) pa_nil)))), ?_⟩)
  · obtain ⟨F0, lv, vv, rs, vis, _, rfl, _⟩ := h
    rfl
  · obtain ⟨F0, lv, vv, rs, vis, hF, rfl, ⟨la, lvs, rfl, hla, pl⟩, ⟨va, vvs, rfl, hva, pvv⟩, ln, k⟩ := h
    have el : lvs.length = rs.length := Paired.len pl
    obtain ⟨ks, e1, e2, e3⟩ := pos_keys pl
    have lk : ks.length = rs.length := by rw [← el, e1, List.length_map]
    refine ⟨_, rfl, _, Or.inl ⟨_, SqL.of (hF _ _ hla), rfl⟩, ?_⟩
    by_cases c1 : rs.isEmpty = true
    · have em : lvs.isEmpty = true := by
        rw [List.isEmpty_iff] at c1 ⊢
        rw [c1] at el
        exact List.length_eq_zero_iff.mp el
      have z : canDel rs vis = false := by
        unfold canDel
        rw [c1]
        rfl
      refine ifT (by rw [em]; rfl) (ifT rfl ?_)
      have := k H (Ext.refl hF)
      rw [z] at this
      exact this
    have ne : lvs.isEmpty = false := by
      cases e : lvs.isEmpty with
      | false => rfl
      | true =>
        rw [List.isEmpty_iff.mp e] at el
        exact absurd (List.isEmpty_iff.mpr (List.length_eq_zero_iff.mp el.symm)) c1
    refine ifF (by rw [ne]; rfl) ⟨_, rfl, la, ks, rfl, by rw [← e1]; exact SqL.of (hF _ _ hla), fun p m => SqT.of (hF _ _ (e3 p m)), by omega, fun D nd mD => ?_⟩
    rw [e2] at mD
    have lD := dups_len nd mD
    have dl := dups_le _ rs (Nat.le_refl _)
    refine ⟨_, rfl, _, lvs.length, rfl, Or.inl ⟨_, SqL.of (hF _ _ hla), rfl⟩, _, _, rfl, rfl, _, rfl, ?_⟩
    by_cases c2 : rs.eraseDups.length = rs.length
    · refine ifF (decide_eq_false (show ¬ ((D.length : Nat) : Int) < ((lvs.length : Nat) : Int) by omega)) ?_
      refine ⟨_, rfl, la, rfl, ⟨_, SqL.of (hF _ _ hla)⟩, fun B nB => ?_⟩
      have B0 := hF.free nB
      refine lc_list (K := K) (a := la) (xs := lvs) (fun i H2 => ∃ bs, Ext F0 H F0 H2 ∧ H2 B = some (.lst (bs.map V.bl)) ∧ bs = (rs.take i).map fun r => vis.any fun x => x == r)
        ⟨[], (Ext.refl hF).tmp nB, upd_same, rfl⟩ (fun i H2 _ ⟨_, X, _⟩ => SqL.of (X.fh _ _ hla)) ?_ ?_
      · rintro i y H2 hi ⟨bs, X, hB, eb⟩
        obtain ⟨x, ex, hx⟩ := Paired.get pl hi
        have lb : (bs.map V.bl).length < sizeLine := by
          rw [List.length_map, eb, List.length_map, List.length_take]
          have l300 : rs.length ≤ 300 := ln
          exact Nat.lt_of_le_of_lt (m := 300) (by omega) (by decide)
        refine ⟨rfl, _, rfl, _, rfl, dPos x, vis.map dPos, dp_pos (PosAt.mono X.fh _ _ hx), Dp.lst (SqL.of (X.fh _ _ hva)) (dp_all (R := PosAt H2) (fun v x h => dp_pos h) (Paired.imp (fun v x h => PosAt.mono X.fh v x h) pvv)), shaped_pos _, shaped_list _ pos_lay _, _, hB, lb, bs ++ [vis.any fun z => z == x], X.put B0 nB, ?_, ?_⟩
        · rw [upd_same, List.map_append]
          have e : (vis.map dPos).any (fun z => PyData.eqv z (dPos x)) = vis.any fun z => z == x := by
            rw [List.any_map]
            congr 1
            funext z
            show PyData.eqv (dPos z) (dPos x) = (z == x)
            rw [eqv_pos]
            rfl
          rw [e]
          rfl
        · rw [take_more ex, List.map_append, eb]
          rfl
      · rintro H2 ⟨bs, X, hB, eb⟩
        rw [el, List.take_length] at eb
        refine ⟨B, bs, rfl, SqL.of hB, ?_⟩
        have z : canDel rs vis = bs.all id := by
          unfold canDel
          rw [eb, decide_eq_true c2, List.all_map]
          cases h : rs.isEmpty with
          | true => exact absurd h c1
          | false => rfl
        rw [← z]
        exact k H2 X
    · have z : canDel rs vis = false := by
        unfold canDel
        rw [decide_eq_false c2, Bool.false_and, Bool.and_false]
      refine ifT (decide_eq_true (show ((D.length : Nat) : Int) < ((lvs.length : Nat) : Int) by omega)) ?_
      have := k H (Ext.refl hF)
      rw [z] at this
      exact this
end
end Lg
namespace Lg
open PySem PySem.Spec PyProof.Rows L2
section
variable {P : Program} {w : World} {K : PySem.W.Frag} {mg : Str → Option Value} {base : Heap} {CH CC CO CL CS : Addr}
/-! ### delete_lines -/
abbrev sDel : Stmt := top 60
theorem scDel : FnScope ["session", "branch", "lines", "visible"] ["session", "branch", "lines"] (defScope sDel) := ⟨rfl, rfl, rfl, by decide +kernel, rfl, by decide +kernel, by decide +kernel⟩
def spDel (CH CC CS : Addr) : Sp := fun vs H Q _ => ∃ (F : Hp) (v lv : V) (b : Nat) (o : Own3) (s : Gf11.State) (l : List Nat) (rs : List Gf11.Position), Same F H ∧ vs = [v, .int b, lv] ∧ Sess CH CC CS F H v o s ∧ Good s ∧ s.branches[b]? = some l ∧ LstAt PosAt F lv rs ∧ rs.length ≤ topN ∧ OpPost CH CC CS F H v o (Gf11.step s (.delete b rs)) Q
theorem canDel_iff (rs : List Gf11.Position) (vl : List (Gf11.Position × Gf11.Line)) : canDel rs (vl.map (·.1)) = false ↔ (rs.isEmpty = true ∨ rs.eraseDups.length ≠ rs.length ∨ rs.any (fun r => !vl.any fun x => x.1 == r) = true) := by
  have e : (rs.all fun r => (vl.map (·.1)).any fun x => x == r) = !rs.any fun r => !vl.any fun x => x.1 == r := by
    rw [List.not_any_eq_all_not]
    congr 1
    funext r
    rw [List.any_map, Bool.not_not]
    rfl
  unfold canDel
  rw [e]
  cases rs.isEmpty with
  | true => simp
  | false =>
    by_cases h : rs.eraseDups.length = rs.length
    · simp [h]
    · simp [h]
theorem ok_del {f fB : Addr} {fd fdB : FuncData} (F : Fun K "delete_lines" "delete_lines" sDel f fd) (T : Txt K mg CH CC CO CL CS) (TO : TxtO mg) (TS : TxtS K CS) (L : Lib K mg CH CC CO)
    (FB : Fun K "can_be_deleted" "can_be_deleted" sCbd fB fdB) (gB : mg "can_be_deleted" = some (.ref fB)) :
    FnOk P w K mg base CX0 3 f fd ["session", "branch", "lines"] (spDel CH CC CS) := by
  have GV : FnOk P w K mg base CX0 2 L.vis.f L.vis.d ["changes", "members"] (spVis CH CC) := ok_vis L.vis.F T L.ins.F L.ins.g
  have GB : FnOk P w K mg base CX0 1 fB fdB ["lines", "visible"] spCbd := ok_cbd FB T
  have GR : FnOk P w K mg base CX0 1 L.recd.f L.recd.d ["session", "branch", "change"] (spRec CH CC CS) := ok_rec L.recd.F T TS
  have GC : FnOk P w K mg base CX0 1 L.iC.f L.iC.d ["self", "hunks", "deleted"] (spI2 CC chF) := ok_iC L.iC.F T
  have bV : Binds K L.vis.d ["changes", "members"] [] := L.vis.F.binds fun _ _ _ _ _ _ us hl => match us, hl with | [_, _], _ => rfl
  have bB : Binds K fdB ["lines", "visible"] [] := FB.binds fun _ _ _ _ _ _ us hl => match us, hl with | [_, _], _ => rfl
  have bR : Binds K L.recd.d ["session", "branch", "change"] [] := L.recd.F.binds fun _ _ _ _ _ _ us hl => match us, hl with | [_, _, _], _ => rfl
  have bC : Binds K L.iC.d ["self", "hunks", "deleted"] [] := L.iC.F.binds fun _ _ _ _ _ _ us hl => match us, hl with | [_, _, _], _ => rfl
  obtain ⟨t1, g1⟩ := TO.noItem
  obtain ⟨t4, g4⟩ := TO.maxChanges
  obtain ⟨t5, g5⟩ := TO.many
  refine F.ok scDel (fun vs H Q E h => ?_) (fun cdv A outer s H vs Q E hr h => ⟨_,
    pss_cons (ps_set (i := 3) scDel.nd rfl (Or.inl rfl) (pe_call GV (hr.mono (by decide)) (by rfl) L.vis.g L.vis.F.kp bV .nil pass0 (pa_cons (pe_fld (pv 0) rfl) (pa_cons (pe_ix ix_list (pe_fld (pv 0) rfl) (pv 1) (fun _ _ => rfl)) pa_nil))))
    (pss_cons (ps_if (pt_not (pt_val (pe_call GB (hr.mono (by decide)) (by rfl) gB FB.kp bB .nil pass0 (pa_cons (pv 2) (pa_cons (pv 3) pa_nil))) (by intro _; rfl))) (pss_one (ps_ret (pe_lst (pa_cons (pe_glob rfl g1 (v := .int (-3)) ⟨_, rfl⟩) pa_nil)))) pss_nil)
    (pss_cons (ps_if (pt_cmpR op_ge (pe_callB call_len (by rfl) T.len PySem.boot_len (pa_cons (pe_fld (pv 0) rfl) pa_nil)) (pe_glob rfl g4 (v := .int 12) ⟨_, rfl⟩) (nomark _)) (pss_one (ps_ret (pe_lst (pa_cons (pe_glob rfl g5 (v := .int (-8)) ⟨_, rfl⟩) pa_nil)))) pss_nil)
    (pss_one (ps_ret (pe_lst (pa_cons (pe_call GR (hr.mono (by decide)) (by rfl) L.recd.g L.recd.F.kp bR .nil pass0 (pa_cons (pv 0) (pa_cons (pv 1) (pa_cons (pe_make L.iC.M GC (hr.mono (by decide)) (by rfl) T.gC bC .nil pass0 (pa_cons (pe_lst pa_nil) (pa_cons (pv 2) pa_nil))) pa_nil)))) pa_nil)))))), ?_⟩)
  · obtain ⟨F0, v, lv, b, o, s, l, rs, _, rfl, _⟩ := h
    rfl
  · obtain ⟨F0, v, lv, b, o, st, l, rs, hF, rfl, S, G, el, hlv, lrs, k⟩ := h
    obtain ⟨a, dx, rfl, ha⟩ := S.obj
    obtain ⟨q, eq, hq⟩ := S.branchAt el
    obtain ⟨ul, xl, ll⟩ := G.members el
    have l12 := G.few
    have at1 : atI (o.bas.map V.ref) (b : Int) = some (.ref q) := atI_nat (by rw [List.getElem?_map, eq]; rfl)
    have ek : Gf11.step st (.delete b rs) = if rs.isEmpty = true ∨ rs.eraseDups.length ≠ rs.length ∨ rs.any (fun r => !(Gf11.visibleLines st.changes l).any fun x => x.1 == r) = true then (st, Gf11.ok (-3)) else Gf11.record st b l ⟨[], rs⟩ := by
      show Gf11.withBranch st b _ = _
      unfold Gf11.withBranch
      rw [el]
    have k' : OpPost CH CC CS F0 H (.ref a) o (Gf11.step st (.delete b rs)) Q := k
    rw [ek] at k'
    have bok : BrOk st.changes l := ⟨G.few, G.chg, ul, xl⟩
    refine ⟨_, rfl, a, CS, dx, _, _, rfl, hF _ _ ha, TS.clS, TS.nChanges, se_changes _ _, _, rfl, a, CS, dx, _, _, rfl, hF _ _ ha, TS.clS, TS.nBranches, se_branches _ _, _, rfl, o.lb, _, _, _, rfl, rfl, SqL.of S.brs, at1, F0, .ref o.lc, .ref q, st.changes, l, hF, rfl, S.changesAt, ⟨q, rfl, hq⟩, bok, fun F1 H1 vv X1 hvv => ?_⟩
    have hlv1 : LstAt PosAt F1 lv rs := hlv.mono (fun s => PosAt.mono s) X1.ff
    refine ⟨_, rfl, _, rfl, F1, lv, vv, rs, _, X1.fh, rfl, hlv1, hvv, lrs, fun H2 X2' => ⟨_, rfl, ?_⟩⟩
    have X2 := X1.trans X2'
    have S2 := S.ext X2
    by_cases c1 : canDel rs ((Gf11.visibleLines st.changes l).map (·.1)) = false
    · rw [if_pos ((canDel_iff rs _).mp c1)] at k'
      refine ifT (by rw [c1]; rfl) ⟨by show 1 ≤ sizeLine; decide, fun n nn => ?_⟩
      exact k'.same S (X2.new nn (o := .lst [.int (-3)])) ⟨n, rfl, upd_same⟩
    rw [if_neg fun z => c1 ((canDel_iff rs _).mpr z)] at k'
    refine ifF (by simpa using c1) ?_
    obtain ⟨cvs, hc2, pc2⟩ := S2.chs
    have lc2 : cvs.length = st.changes.length := Paired.len pc2
    have m12 : Gf11.MAX_CHANGES = 12 := rfl
    refine ⟨_, rfl, a, CS, dx, _, _, rfl, X2.fh _ _ (X2.ff _ _ ha), TS.clS, TS.nChanges, se_changes _ _, _, st.changes.length, rfl, Or.inl ⟨_, SqL.of hc2, lc2.symm⟩, _, _, rfl, rfl, _, rfl, ?_⟩
    unfold Gf11.record at k'
    by_cases c3 : Gf11.MAX_CHANGES ≤ st.changes.length
    · rw [if_pos c3] at k'
      refine ifT (decide_eq_true (show (12 : Int) ≤ (st.changes.length : Int) by omega)) ⟨by show 1 ≤ sizeLine; decide, fun n nn => ?_⟩
      exact k'.same S (X2.new nn (o := .lst [.int (-8)])) ⟨n, rfl, upd_same⟩
    rw [if_neg c3] at k'
    refine ifF (decide_eq_false (show ¬ (12 : Int) ≤ (st.changes.length : Int) by omega)) ?_
    refine ⟨_, rfl, _, rfl, by show 0 ≤ sizeLine; decide, fun h0 nh => ?_⟩
    have X3 := X2.new nh (o := .lst [])
    refine ⟨_, rfl, fun x cdx nx nd' nex => ⟨x, cdx, .ref h0, lv, rfl, upd_same, fun H4 e4 k4 => ⟨rfl, ?_⟩⟩⟩
    obtain ⟨X4, S34⟩ := X3.made nx nd' e4 k4
    have S4 := S.ext X4
    have SF : Same (upd F1 h0 (.lst [])) (upd (upd F1 h0 (.lst [])) x (.ins CC cdx (chF (.ref h0) lv))) := same_new (Same.refl _) (X3.fh.free nx)
    have hh0 : (upd (upd F1 h0 (.lst [])) x (.ins CC cdx (chF (.ref h0) lv))) h0 = some (.lst []) := SF _ _ upd_same
    have SF1 : Same F1 (upd F1 h0 (.lst [])) := same_new (Same.refl _) (X2.fh.free nh)
    have hlv4 : LstAt PosAt (upd (upd F1 h0 (.lst [])) x (.ins CC cdx (chF (.ref h0) lv))) lv rs := (hlv1.mono (fun s => PosAt.mono s) SF1).mono (fun s => PosAt.mono s) SF
    refine ⟨_, .ref a, .ref x, b, o, st, l, ⟨[], rs⟩, X4.fh, rfl, S4, el, ⟨x, cdx, .ref h0, lv, rfl, upd_same, ⟨h0, [], rfl, hh0, .nil⟩, hlv4⟩, by omega, by omega, fun H5 O5 S5 => ?_⟩
    refine ⟨by show 1 ≤ sizeLine; decide, fun n nn => ?_⟩
    have X6 := (Ext.refl O5.fh).new nn (o := .lst [.int st.changes.length])
    exact k' _ _ _ _ ((X4.op _).trans (O5.ext X6)) (S5.ext X6) ⟨n, rfl, upd_same⟩
end
end Lg
namespace Lg
/-! ### the calls, one behind another -/
theorem shape_row {p : Int} {n k : Nat} (h : PyGf13.shape p = some (n, k)) : 0 ≤ p ∧ p ≤ 13 ∧ n ≤ 3 ∧ ((k = 1 ∧ (p = 1 ∨ p = 2)) ∨ (k = 0 ∧ p ≠ 1 ∧ p ≠ 2)) := by
  unfold PyGf13.shape at h
  by_cases h0 : p = 0
  · rw [if_pos h0] at h
    cases h
    exact ⟨by omega, by omega, by omega, .inr ⟨rfl, by omega, by omega⟩⟩
  rw [if_neg h0] at h
  by_cases h1 : p = 1
  · rw [if_pos h1] at h
    cases h
    exact ⟨by omega, by omega, by omega, .inl ⟨rfl, by omega⟩⟩
  rw [if_neg h1] at h
  by_cases h2 : p = 2
  · rw [if_pos h2] at h
    cases h
    exact ⟨by omega, by omega, by omega, .inl ⟨rfl, by omega⟩⟩
  rw [if_neg h2] at h
  by_cases h3 : p = 3
  · rw [if_pos h3] at h
    cases h
    exact ⟨by omega, by omega, by omega, .inr ⟨rfl, by omega, by omega⟩⟩
  rw [if_neg h3] at h
  by_cases h4 : p = 4
  · rw [if_pos h4] at h
    cases h
    exact ⟨by omega, by omega, by omega, .inr ⟨rfl, by omega, by omega⟩⟩
  rw [if_neg h4] at h
  by_cases h5 : p = 5
  · rw [if_pos h5] at h
    cases h
    exact ⟨by omega, by omega, by omega, .inr ⟨rfl, by omega, by omega⟩⟩
  rw [if_neg h5] at h
  by_cases h6 : p = 6
  · rw [if_pos h6] at h
    cases h
    exact ⟨by omega, by omega, by omega, .inr ⟨rfl, by omega, by omega⟩⟩
  rw [if_neg h6] at h
  by_cases h7 : p = 7
  · rw [if_pos h7] at h
    cases h
    exact ⟨by omega, by omega, by omega, .inr ⟨rfl, by omega, by omega⟩⟩
  rw [if_neg h7] at h
  by_cases h8 : p = 8
  · rw [if_pos h8] at h
    cases h
    exact ⟨by omega, by omega, by omega, .inr ⟨rfl, by omega, by omega⟩⟩
  rw [if_neg h8] at h
  by_cases h9 : p = 9
  · rw [if_pos h9] at h
    cases h
    exact ⟨by omega, by omega, by omega, .inr ⟨rfl, by omega, by omega⟩⟩
  rw [if_neg h9] at h
  by_cases h10 : p = 10
  · rw [if_pos h10] at h
    cases h
    exact ⟨by omega, by omega, by omega, .inr ⟨rfl, by omega, by omega⟩⟩
  rw [if_neg h10] at h
  by_cases h11 : p = 11
  · rw [if_pos h11] at h
    cases h
    exact ⟨by omega, by omega, by omega, .inr ⟨rfl, by omega, by omega⟩⟩
  rw [if_neg h11] at h
  by_cases h12 : p = 12
  · rw [if_pos h12] at h
    cases h
    exact ⟨by omega, by omega, by omega, .inr ⟨rfl, by omega, by omega⟩⟩
  rw [if_neg h12] at h
  by_cases h13 : p = 13
  · rw [if_pos h13] at h
    cases h
    exact ⟨by omega, by omega, by omega, .inr ⟨rfl, by omega, by omega⟩⟩
  rw [if_neg h13] at h
  cases h
theorem drop_cons {l : List Int} {i : Nat} {p : Int} {r : List Int} (h : l.drop i = p :: r) : l[i]? = some p ∧ r = l.drop (i + 1) ∧ i < l.length := by
  have lt : i < l.length := by
    rcases Nat.lt_or_ge i l.length with c | c
    · exact c
    · rw [List.drop_of_length_le c] at h
      cases h
  rw [List.drop_eq_getElem_cons lt] at h
  injection h with h1 h2
  exact ⟨by rw [List.getElem?_eq_getElem lt, h1], h2.symm, lt⟩
theorem take_of_drop {l r : List Int} {i n : Nat} (h : r = l.drop i) (ln : n ≤ r.length) : i + n ≤ l.length ∨ n = 0 := by
  rw [h, List.length_drop] at ln
  omega
/-- one call and the place behind it -/
theorem calls_step {l : List Int} {f i : Nat} {rest : List (List (List Int))} (h : PyFlat.calls PyGf13.shape f (l.drop i) = some rest) (lt : i < l.length) :
    ∃ (p : Int) (n k : Nat) (rest' : List (List (List Int))) (f' : Nat), l[i]? = some p ∧ PyGf13.shape p = some (n, k) ∧ i + 1 + n ≤ l.length ∧
      ((k = 0 ∧ rest = [p :: (l.drop (i + 1)).take n] :: rest' ∧ PyFlat.calls PyGf13.shape f' (l.drop (i + 1 + n)) = some rest') ∨
       (k = 1 ∧ ∃ m : Nat, l[i + 1 + n]? = some (m : Int) ∧ i + 1 + n + 1 + m ≤ l.length ∧ rest = [p :: (l.drop (i + 1)).take n, (l.drop (i + 1 + n + 1)).take m] :: rest' ∧ PyFlat.calls PyGf13.shape f' (l.drop (i + 1 + n + 1 + m)) = some rest')) := by
  rw [List.drop_eq_getElem_cons lt] at h
  cases f with
  | zero => cases h
  | succ f =>
    have h' : (match PyFlat.call PyGf13.shape (l[i] :: l.drop (i + 1)) with
      | none => none
      | some (c, t) => match PyFlat.calls PyGf13.shape f t with
        | none => none
        | some cs => some (c :: cs)) = some rest := h
    cases e1 : PyFlat.call PyGf13.shape (l[i] :: l.drop (i + 1)) with
    | none =>
      rw [e1] at h'
      cases h'
    | some ct =>
      obtain ⟨c, t⟩ := ct
      rw [e1] at h'
      cases e2 : PyFlat.calls PyGf13.shape f t with
      | none =>
        simp only [e2] at h'
        cases h'
      | some cs =>
        simp only [e2] at h'
        cases h'
        have e1' : (match PyGf13.shape l[i] with
          | none => none
          | some (n, k) => if (l.drop (i + 1)).length < n then none else match PyFlat.rows k ((l.drop (i + 1)).drop n) with
            | none => none
            | some (xs, t) => some ((l[i] :: (l.drop (i + 1)).take n) :: xs, t)) = some (c, t) := e1
        cases e3 : PyGf13.shape l[i] with
        | none =>
          rw [e3] at e1'
          cases e1'
        | some nk =>
          obtain ⟨n, k⟩ := nk
          simp only [e3] at e1'
          by_cases ln : (l.drop (i + 1)).length < n
          · rw [if_pos ln] at e1'
            cases e1'
          · rw [if_neg ln, List.drop_drop] at e1'
            rw [List.length_drop] at ln
            refine ⟨l[i], n, k, cs, f, List.getElem?_eq_getElem lt, e3, by omega, ?_⟩
            rcases (shape_row e3).2.2.2 with ⟨rfl, _⟩ | ⟨rfl, _⟩
            · right
              refine ⟨rfl, ?_⟩
              cases e4 : PyFlat.row (l.drop (i + 1 + n)) with
              | none =>
                have e5 : PyFlat.rows 1 (l.drop (i + 1 + n)) = none := by
                  show (match PyFlat.row (l.drop (i + 1 + n)) with
                    | none => none
                    | some (x, s) => _) = none
                  rw [e4]
                rw [e5] at e1'
                cases e1'
              | some xt =>
                obtain ⟨x, s⟩ := xt
                have e5 : PyFlat.rows 1 (l.drop (i + 1 + n)) = some ([x], s) := by
                  show (match PyFlat.row (l.drop (i + 1 + n)) with
                    | none => none
                    | some (x, s) => match PyFlat.rows 0 s with
                      | none => none
                      | some (xs, t) => some (x :: xs, t)) = some ([x], s)
                  rw [e4]
                  rfl
                rw [e5] at e1'
                cases e1'
                cases e6 : l.drop (i + 1 + n) with
                | nil =>
                  rw [e6] at e4
                  cases e4
                | cons m r =>
                  obtain ⟨g1, g2, g3⟩ := drop_cons e6
                  rw [e6] at e4
                  have e4' : (if 0 ≤ m ∧ m.toNat ≤ r.length then some (r.take m.toNat, r.drop m.toNat) else none) = some _ := e4
                  by_cases c : 0 ≤ m ∧ m.toNat ≤ r.length
                  · rw [if_pos c] at e4'
                    cases e4'
                    refine ⟨m.toNat, ?_, ?_, ?_, ?_⟩
                    · rw [g1, Int.toNat_of_nonneg c.1]
                    · have := c.2
                      rw [g2, List.length_drop] at this
                      omega
                    · rw [g2]
                    · rw [g2, List.drop_drop] at e2
                      exact e2
                  · rw [if_neg c] at e4'
                    cases e4'
            · left
              have e5 : PyFlat.rows 0 (l.drop (i + 1 + n)) = some ([], l.drop (i + 1 + n)) := rfl
              rw [e5] at e1'
              cases e1'
              exact ⟨rfl, rfl, e2⟩
/-- at the end -/
theorem calls_end {l : List Int} {f i : Nat} {rest : List (List (List Int))} (h : PyFlat.calls PyGf13.shape f (l.drop i) = some rest) (ge : l.length ≤ i) : rest = [] := by
  rw [List.drop_of_length_le ge] at h
  cases f with
  | zero =>
    cases h
    rfl
  | succ f =>
    cases h
    rfl
end Lg
namespace Lg
open PySem PySem.Spec PyProof.Rows L2
def caF (p l r : V) : List (Str × V) := [("operation", p), ("plain", l), ("row", r)]
theorem ca_operation (p l r : V) : (caF p l r).lookup ("operation" : Str) = some p := lk_here
theorem ca_plain (p l r : V) : (caF p l r).lookup ("plain" : Str) = some l := (lk_past (by decide +kernel)).trans lk_here
theorem ca_row (p l r : V) : (caF p l r).lookup ("row" : Str) = some r := (lk_past (by decide +kernel)).trans ((lk_past (by decide +kernel)).trans lk_here)
/-- a call: its number and plain numbers, its row (none: empty) -/
def CallAt (CL : Addr) (F : Hp) (v : V) (c : List (List Int)) : Prop := ∃ (a dx pl rw : Addr) (p : Int) (xs r : List Int), v = .ref a ∧ F a = some (.ins CL dx (caF (.int p) (.ref pl) (.ref rw))) ∧ F pl = some (.lst (xs.map V.int)) ∧ F rw = some (.lst (r.map V.int)) ∧
  c.headD [] = p :: xs ∧ (c.drop 1).headD [] = r
theorem CallAt.mono {CL : Addr} {F F' : Hp} (s : Same F F') (v : V) (c : List (List Int)) (h : CallAt CL F v c) : CallAt CL F' v c := by
  obtain ⟨a, dx, pl, rw, p, xs, r, e, h1, h2, h3, h4⟩ := h
  exact ⟨a, dx, pl, rw, p, xs, r, e, s _ _ h1, s _ _ h2, s _ _ h3, h4⟩
/-- the constants of calls.py -/
structure TxtC (K : PySem.W.Frag) (mg : Str → Option Value) (CL : Addr) (cnts brs : List Nat) : Prop where
  clL : Cls K CL
  nOp : NoAttr K CL "operation"
  nPlain : NoAttr K CL "plain"
  nRow : NoAttr K CL "row"
  gL : mg "Call" = some (.ref CL)
  write : ∃ t, mg "WRITE" = some (.int 1 t)
  delete : ∃ t, mg "DELETE" = some (.int 2 t)
  plain : ∃ a, mg "PLAIN_COUNTS" = some (.ref a) ∧ ∀ H, SqT K H a (nV cnts)
  branch : ∃ a, mg "BRANCH_COUNTS" = some (.ref a) ∧ ∀ H, SqT K H a (nV brs)
section
variable {P : Program} {w : World} {K : PySem.W.Frag} {mg : Str → Option Value} {base : Heap} {CH CC CO CL CS : Addr} {cnts brs : List Nat}
/-! ### Call -/
abbrev sIL : Stmt := inClass (top 16) 0
theorem scIL : FnScope ["self", "operation", "plain", "row"] ["self", "operation", "plain", "row"] (defScope sIL) := ⟨rfl, rfl, rfl, by decide +kernel, rfl, by decide +kernel, by decide +kernel⟩
theorem put_ca (b f l : V) : putF "row" l (putF "plain" f (putF "operation" b [])) = caF b f l := by
  have e1 : putF "plain" f (putF "operation" b []) = ([("operation", b), ("plain", f)] : List (Str × V)) := put_past (by decide +kernel)
  rw [e1]
  exact (put_past (by decide +kernel)).trans (congrArg _ (put_past (by decide +kernel)))
theorem ok_iL {f : Addr} {fd : FuncData} (F : Fun K "__init__" "Call.__init__" sIL f fd) (TC : TxtC K mg CL cnts brs) : FnOk P w K mg base CX0 1 f fd ["self", "operation", "plain", "row"] (spI3 CL caF) := by
  refine F.ok scIL (fun vs H Q E h => ?_) (fun cdv A outer s H vs Q E hr h => ⟨_, pss_cons (ps_fld (pv 0) (pv 1) rfl) (pss_cons (ps_fld (pv 0) (pv 2) rfl) (pss_one (ps_fld (pv 0) (pv 3) rfl))), ?_⟩)
  · obtain ⟨p, dx, a, b, c, rfl, _⟩ := h
    rfl
  · obtain ⟨p, dx, a, b, c, rfl, hp, k⟩ := h
    refine ⟨_, rfl, _, rfl, p, CL, dx, [], rfl, hp, TC.clL, TC.nOp, (by show 0 < 1000; decide), ?_⟩
    refine ⟨_, rfl, _, rfl, p, CL, dx, _, rfl, upd_same, TC.clL, TC.nPlain, (by show 1 < 1000; decide), ?_⟩
    refine ⟨_, rfl, _, rfl, p, CL, dx, _, rfl, upd_same, TC.clL, TC.nRow, (by show 2 < 1000; decide), ?_⟩
    refine k _ (Eq.trans upd_same (congrArg (fun q => some (HO.ins CL dx q)) (put_ca a b c))) fun q o e hq => ?_
    rw [upd_ne hq, upd_ne hq, upd_ne hq]
    exact e
/-! ### named_branches -/
abbrev sNbr : Stmt := top 18
theorem scNbr : FnScope ["call"] ["call"] (defScope sNbr) := ⟨rfl, rfl, rfl, by decide +kernel, rfl, by decide +kernel, by decide +kernel⟩
def spNbr (CL : Addr) (brs : List Nat) : Sp := fun vs H Q _ => ∃ (F : Hp) (v : V) (c : List (List Int)) (p : Nat) (xs : List Int) (n : Nat), Same F H ∧ vs = [v] ∧ CallAt CL F v c ∧ c.headD [] = (p : Int) :: xs ∧ brs[p]? = some n ∧ n ≤ xs.length ∧
  ∀ (F' H' : Hp) (a : Addr), Ext F H F' H' → F' a = some (.lst ((xs.take n).map V.int)) → Q (.ref a) H'
theorem ok_nbr {f : Addr} {fd : FuncData} (F : Fun K "named_branches" "named_branches" sNbr f fd) (TC : TxtC K mg CL cnts brs) : FnOk P w K mg base CX0 1 f fd ["call"] (spNbr CL brs) := by
  obtain ⟨ta, ga, ha⟩ := TC.branch
  refine F.ok scNbr (fun vs H Q E h => ?_) (fun cdv A outer s H vs Q E hr h => ⟨_,
    pss_one (ps_ret (pe_slice sl_list (pe_fld (pv 0) rfl) po_none (po_some (pe_ix ix_tup (pe_glob rfl ga (v := .ref ta) rfl) (pe_fld (pv 0) rfl) (fun _ _ => rfl))))), ?_⟩)
  · obtain ⟨F0, v, c, p, xs, n, _, rfl, _⟩ := h
    rfl
  · obtain ⟨F0, v, c, p, xs, n, hF, rfl, ⟨a, dx, pl, rw1, p', xs', r, rfl, h1, h2, h3, h4, h5⟩, e, en, ln, k⟩ := h
    rw [e] at h4
    cases h4
    refine ⟨_, rfl, a, CL, dx, _, _, rfl, hF _ _ h1, TC.clL, TC.nPlain, ca_plain _ _ _, _, rfl, a, CL, dx, _, _, rfl, hF _ _ h1, TC.clL, TC.nOp, ca_operation _ _ _, ta, _, _, .int n, rfl, rfl, ha _, atI_nat (by
      unfold nV Gf11.toInts
      rw [List.getElem?_map, List.getElem?_map, en]
      rfl), _, rfl, pl, _, rfl, SqL.of (hF _ _ h2), fun q nq => ?_⟩
    refine k _ _ _ ((Ext.refl hF).new nq) ?_
    rw [upd_same, cut_to (by rw [List.length_map]; exact ln), List.map_take]
end
end Lg
namespace Lg
open PySem PySem.Spec PyProof.Rows L2
section
variable {P : Program} {w : World} {K : PySem.W.Frag} {mg : Str → Option Value} {base : Heap} {CH CC CO CL CS : Addr} {cnts brs : List Nat}
/-! ### encoded_lines -/
abbrev sEnl : Stmt := top 19
def nEnl : List Str := ["count", "row", "lines", "place", "first"]
theorem scEnl : FnScope nEnl ["count", "row"] (defScope sEnl) := ⟨rfl, rfl, rfl, by decide +kernel, rfl, by decide +kernel, by decide +kernel⟩
theorem decode_step {n : Nat} {l : List Nat} {t : List (List Nat)} (h : Gf13Neutral.decodeLines (n + 1) l = some t) : ∃ k r t', l = k :: r ∧ k ≤ r.length ∧ t = r.take k :: t' ∧ Gf13Neutral.decodeLines n (r.drop k) = some t' := by
  cases l with
  | nil => cases h
  | cons k r =>
    have h' : (if k ≤ r.length then (Gf13Neutral.decodeLines n (r.drop k)).map fun z => r.take k :: z else none) = some t := h
    by_cases c : k ≤ r.length
    · rw [if_pos c] at h'
      obtain ⟨t', e1, e2⟩ := Option.map_eq_some_iff.mp h'
      exact ⟨k, r, t', rfl, c, e2.symm, e1⟩
    · rw [if_neg c] at h'
      cases h'
theorem decode_len : ∀ {n : Nat} {l : List Nat} {t : List (List Nat)}, Gf13Neutral.decodeLines n l = some t → t.length = n
  | 0, [], t, h => by
    cases h
    rfl
  | 0, _ :: _, t, h => by cases h
  | n + 1, l, t, h => by
    obtain ⟨k, r, t', _, _, rfl, h2⟩ := decode_step h
    rw [List.length_cons, decode_len h2]
def spEnl : Sp := fun vs H Q _ => ∃ (F : Hp) (v : V) (n : Nat) (l : List Nat) (t : List (List Nat)), Same F H ∧ vs = [.int n, v] ∧ LineAt F v l ∧ Gf13Neutral.decodeLines n l = some t ∧ n ≤ 1000 ∧
  ∀ (F' H' : Hp) (r : V), Ext F H F' H' → LstAt LineAt F' r t → Q r H'
theorem toInts_drop (l : List Nat) (k : Nat) : (nV l).drop k = nV (l.drop k) := by
  unfold nV Gf11.toInts
  rw [List.map_drop, List.map_drop]
theorem toInts_take (l : List Nat) (k : Nat) : (nV l).take k = nV (l.take k) := by
  unfold nV Gf11.toInts
  rw [List.map_take, List.map_take]
theorem nV_at {l : List Nat} {i n : Nat} (h : l[i]? = some n) : (nV l)[i]? = some (.int (n : Int)) := by
  unfold nV Gf11.toInts
  rw [List.getElem?_map, List.getElem?_map, h]
  rfl
theorem ok_enl {f : Addr} {fd : FuncData} (F : Fun K "read_lines" "read_lines" sEnl f fd) (T : Txt K mg CH CC CO CL CS) : FnOk P w K mg base CX0 1 f fd ["count", "row"] spEnl := by
  refine F.ok scEnl (fun vs H Q E h => ?_) (fun cdv A outer s H vs Q E hr h => ⟨_,
    pss_cons (ps_set (i := 2) scEnl.nd rfl (Or.inl rfl) (pe_lst pa_nil))
    (pss_cons (ps_set (i := 3) scEnl.nd rfl (Or.inl rfl) pe_int)
    (pss_cons (ps_while PassesOwn.never (pt_cmpR op_lt (pe_callB call_len (by rfl) T.len PySem.boot_len (pa_cons (pv 2) pa_nil)) (pv 0) (nomark _))
      (pss_cons (ps_set (i := 4) scEnl.nd rfl (Or.inl rfl) (pe_op op_add (pv 3) pe_int))
      (pss_cons (ps_set (i := 3) scEnl.nd rfl (Or.inl rfl) (pe_op op_add (pv 4) (pe_ix ix_list (pv 1) (pv 3) (fun _ _ => rfl))))
      (pss_one (ps_expr (pe_bm PySem.F.plainAttrs_list PySem.F.slot_list_append PySem.F.type_list_append mt_append (pv 2) (pa_cons (pe_slice sl_list (pv 1) (po_some (pv 4)) (po_some (pv 3))) pa_nil)))))))
    (pss_one (ps_ret (pv 2))))), ?_⟩)
  · obtain ⟨F0, v, n, l, t, _, rfl, _⟩ := h
    rfl
  · obtain ⟨F0, v, n, l, t, hF, rfl, ⟨ra, rfl, hra⟩, ht, ln, k⟩ := h
    have lt := decode_len ht
    refine ⟨by show 0 ≤ sizeLine; decide, fun fl nf => ?_⟩
    have X0 := (Ext.refl hF).tmp nf (o := .lst [])
    have f0 := hF.free nf
    refine ⟨fun m σ H' => ∃ F' u4 us, ∃ i : Nat, ∃ dn rest, σ = [some (.int n), some (.ref ra), some (.ref fl), some (.int i), u4] ∧ Ext F0 H F' H' ∧ F' fl = none ∧ H' fl = some (.lst us) ∧ Paired (LineAt F') us dn ∧ t = dn ++ rest ∧ Gf13Neutral.decodeLines rest.length (l.drop i) = some rest ∧ i ≤ l.length ∧ m = rest.length,
      ⟨_, F0, none, [], 0, [], t, rfl, X0, f0, upd_same, .nil, rfl, by rw [lt]; exact ht, Nat.zero_le _, rfl⟩, ?_⟩
    rintro m σ H' ⟨F', u4, us, i, dn, rest, rfl, X, ff, hu, pu, et, hd, li, rfl⟩
    have lu : us.length = dn.length := Paired.len pu
    have lsum : dn.length + rest.length = n := by rw [← lt, et, List.length_append]
    refine ⟨_, rfl, _, us.length, rfl, Or.inl ⟨_, SqL.of hu, rfl⟩, _, rfl, _, _, rfl, rfl, _, rfl, ?_⟩
    cases rest with
    | nil =>
      have e0 : decide ((us.length : Int) < (n : Int)) = false := decide_eq_false (by
        have : dn.length + 0 = n := lsum
        omega)
      rw [e0]
      refine iteF ?_
      have Z := X.freeze hu ff nf
      rw [List.append_nil] at et
      subst et
      exact ⟨_, rfl, k _ _ _ Z ⟨fl, us, rfl, upd_same, Paired.imp (fun v x h => LineAt.mono (same_new (Same.refl F') ff) v x h) pu⟩⟩
    | cons t0 rest =>
      have lsum' : dn.length + (rest.length + 1) = n := lsum
      have e1 : decide ((us.length : Int) < (n : Int)) = true := decide_eq_true (by omega)
      rw [e1]
      obtain ⟨kk, r, t', e2, lk, e3, hd2⟩ := decode_step (n := rest.length) hd
      cases e3
      have li2 : i < l.length := by
        rcases Nat.lt_or_ge i l.length with c | c
        · exact c
        · rw [List.drop_of_length_le c] at e2
          cases e2
      rw [List.drop_eq_getElem_cons li2] at e2
      injection e2 with e4 e5
      have ei : l[i]? = some kk := by rw [List.getElem?_eq_getElem li2, e4]
      have lr : r.length = l.length - (i + 1) := by rw [← e5, List.length_drop]
      have hra' := X.fh _ _ (X.ff _ _ hra)
      refine iteT ⟨_, fun _ _ h => h, ?_⟩
      refine ⟨_, rfl, _, _, rfl, rfl, _, rfl, _, rfl, _, rfl, ra, _, _, .int kk, rfl, rfl, SqL.of hra', atI_nat (nV_at ei), _, _, rfl, rfl, ?_⟩
      refine ⟨_, rfl, Or.inl ⟨rfl, _, SqL.of hu⟩, _, rfl, _, rfl, _, rfl, _, rfl, _, rfl, ra, _, rfl, SqL.of hra', fun q nq => ?_⟩
      have X2 := X.new nq (o := .lst (cutV (nV l) (some ((i : Int) + 1)) (some ((i : Int) + 1 + (kk : Int)))))
      have qf : fl ≠ q := ne_new hu nq
      have cut : cutV (nV l) (some ((i : Int) + 1)) (some ((i : Int) + 1 + (kk : Int))) = nV (r.take kk) := by
        have a1 : (i : Int) + 1 = ((i + 1 : Nat) : Int) := by omega
        have a2 : (i : Int) + 1 + (kk : Int) = ((i + 1 + kk : Nat) : Int) := by omega
        rw [a2, a1, cut_both (by rw [nV_len]; omega) (by rw [nV_len]; omega), toInts_drop, toInts_take, e5, Nat.add_sub_cancel_left]
      refine ⟨fl, us, _, rfl, rfl, by rw [upd_ne qf]; exact hu, Nat.lt_of_le_of_lt (m := 1000) (by omega) (by decide), ?_⟩
      refine ⟨rest.length, Nat.lt_succ_self _, upd F' q (.lst (cutV (nV l) (some ((i : Int) + 1)) (some ((i : Int) + 1 + (kk : Int))))), some (.int ((i : Int) + 1)), us ++ [.ref q], i + 1 + kk, dn ++ [r.take kk], rest, ?_, X2.put (by rw [upd_ne qf]; exact ff) nf, by rw [upd_ne qf]; exact ff, upd_same, ?_, ?_, ?_, by omega, rfl⟩
      · have a2 : (i : Int) + 1 + (kk : Int) = ((i + 1 + kk : Nat) : Int) := by omega
        rw [← a2]
        rfl
      · exact Paired.app (Paired.imp (fun v x h => LineAt.mono (same_new (Same.refl F') (X.fh.free nq)) v x h) pu) (Paired.one ⟨q, rfl, by rw [upd_same, cut]⟩)
      · rw [et, List.append_assoc]
        rfl
      · rw [← e5, List.drop_drop] at hd2
        exact hd2
/-! ### encoded_pairs -/
abbrev sEnp : Stmt := top 20
theorem scEnp : FnScope ["row", "place"] ["row"] (defScope sEnp) := ⟨rfl, rfl, rfl, by decide +kernel, rfl, by decide +kernel, by decide +kernel⟩
def spEnp : Sp := fun vs H Q _ => ∃ (F : Hp) (v : V) (l : List Nat) (rs : List Gf11.Position), Same F H ∧ vs = [v] ∧ LineAt F v l ∧ Gf13Neutral.decodePositions l = some rs ∧ l.length ≤ 2000 ∧
  ∀ (F' H' : Hp) (r : V), Ext F H F' H' → LstAt PosAt F' r rs → Q r H'
theorem pairs_get : ∀ {l : List Nat} {rs : List Gf11.Position}, Gf13Neutral.decodePositions l = some rs → l.length = 2 * rs.length ∧ ∀ i, i < rs.length → ∃ a b, l[2 * i]? = some a ∧ l[2 * i + 1]? = some b ∧ rs[i]? = some (.line a b)
  | [], rs, h => by
    cases h
    exact ⟨rfl, fun i l => absurd l (Nat.not_lt_zero _)⟩
  | [_], rs, h => by cases h
  | a :: b :: l, rs, h => by
    have h' : (Gf13Neutral.decodePositions l).map (fun r => Gf11.Position.line a b :: r) = some rs := h
    obtain ⟨r, e1, e2⟩ := Option.map_eq_some_iff.mp h'
    subst e2
    obtain ⟨h1, h2⟩ := pairs_get e1
    refine ⟨by rw [List.length_cons, List.length_cons, List.length_cons, h1]; omega, fun i li => ?_⟩
    cases i with
    | zero => exact ⟨a, b, rfl, rfl, rfl⟩
    | succ i =>
      obtain ⟨x, y, g1, g2, g3⟩ := h2 i (Nat.lt_of_succ_lt_succ li)
      refine ⟨x, y, ?_, ?_, g3⟩
      · have : 2 * (i + 1) = 2 * i + 1 + 1 := by omega
        rw [this]
        exact g1
      · have : 2 * (i + 1) + 1 = 2 * i + 1 + 1 + 1 := by omega
        rw [this]
        exact g2
theorem step2 {n : Nat} (h : n ≤ 2000) : RgC 0 ((2 * n : Nat) : Int) 2 n := by
  have sz : Builtin.Range.rangeSize 0 ((2 * n : Nat) : Int) 2 = (n : Int) := by
    rw [rangeSize_pos (by omega) (by omega)]
    omega
  refine ⟨by decide, by decide, ?_, sz⟩
  unfold Builtin.Range.small
  rw [sz]
  simp [Builtin.Range.rangeFitsLong]
  omega
theorem ok_enp {f : Addr} {fd : FuncData} (F : Fun K "read_pairs" "read_pairs" sEnp f fd) (T : Txt K mg CH CC CO CL CS) : FnOk P w K mg base CX0 1 f fd ["row"] spEnp := by
  refine F.ok scEnp (fun vs H Q E h => ?_) (fun cdv A outer s H vs Q E hr h => ⟨_,
    pss_one (ps_ret (pe_lc (own := [("place", 1)]) (g := gName 1) (tt := tYes) (te := tTup (tCons (tOp (rIxL K) (tVar 0) (tVar 1)) (tCons (tOp (rIxL K) (tVar 0) (tOp (rI0 fun i j => .int (i + j)) (tVar 1) (tC (.int 1)))) tNil))) (by rfl) scEnp.nd
      (pi_range3 (by rfl) T.range (pa_cons pe_int (pa_cons (pe_callB call_len (by rfl) T.len PySem.boot_len (pa_cons (pv 0) pa_nil)) (pa_cons pe_int pa_nil)))) (blkOk_by (N := ["row", "place"]) (sc := defScope sEnp) (by decide +kernel)) (fun _ _ _ _ _ => pg_name (i := 1) scEnp.nd rfl (Or.inl rfl))
      (fun _ _ _ _ _ => pts_nil) (fun _ _ _ _ _ => pe_tup (pa_cons (pe_ix ix_list (pv 0) (pv 1) (fun _ _ => rfl)) (pa_cons (pe_ix ix_list (pv 0) (pe_op op_add (pv 1) pe_int) (fun _ _ => rfl)) pa_nil))))), ?_⟩)
  · obtain ⟨F0, v, l, rs, _, rfl, _⟩ := h
    rfl
  · obtain ⟨F0, v, l, rs, hF, rfl, ⟨ra, rfl, hra⟩, hrs, ll, k⟩ := h
    obtain ⟨l2, get⟩ := pairs_get hrs
    refine ⟨_, rfl, _, (nV l).length, rfl, Or.inl ⟨_, SqL.of (hF _ _ hra), rfl⟩, _, _, _, _, rfl, by rw [nV_len, l2]; exact step2 (by omega), fun D nD => ?_⟩
    have D0 := hF.free nD
    refine lc_it (walk_rangeC (lo := 0) (c := 2) (n := rs.length)) (fun i H2 => ∃ F2 us, Ext F0 H F2 H2 ∧ F2 D = none ∧ H2 D = some (.lst us) ∧ Paired (PosAt F2) us (rs.take i)) ⟨F0, [], (Ext.refl hF).tmp nD, D0, upd_same, .nil⟩ (fun _ _ _ _ => trivial) ?_ ?_
    · rintro i x H2 H3 hi ⟨F2, us, X, fD, hD, pu⟩ ⟨rfl, rfl⟩
      obtain ⟨a, b, g1, g2, g3⟩ := get i hi
      have hra' := X.fh _ _ (X.ff _ _ hra)
      have i1 : (0 : Int) + (i : Nat) * 2 = ((2 * i : Nat) : Int) := by omega
      have i2 : (0 : Int) + (i : Nat) * 2 + 1 = ((2 * i + 1 : Nat) : Int) := by omega
      refine ⟨rfl, _, rfl, _, rfl, ra, _, _, .int a, rfl, rfl, SqL.of hra', by rw [i1]; exact atI_nat (nV_at g1), _, rfl, _, rfl, _, _, rfl, rfl, ra, _, _, .int b, rfl, rfl, SqL.of hra', by rw [i2]; exact atI_nat (nV_at g2), by show 2 ≤ sizeLine; decide, fun t nt => ?_⟩
      have X2 := X.new nt (o := .tup [.int a, .int b])
      have tD : D ≠ t := ne_new hD nt
      refine ⟨us, by rw [upd_ne tD]; exact hD, ?_, _, us ++ [.ref t], X2.put (by rw [upd_ne tD]; exact fD) nD, by rw [upd_ne tD]; exact fD, upd_same, ?_⟩
      · rw [Paired.len pu, List.length_take]
        exact Nat.lt_of_le_of_lt (m := 2000) (by omega) (by decide)
      · rw [take_more g3]
        exact Paired.app (Paired.imp (fun v x h => PosAt.mono (same_new (Same.refl F2) (X.fh.free nt)) v x h) pu) (Paired.one ⟨t, rfl, by rw [upd_same, pos_line]⟩)
    · rintro H2 ⟨F2, us, X, fD, hD, pu⟩
      rw [List.take_length] at pu
      have Z := X.freeze hD fD nD
      exact k _ _ _ Z ⟨D, us, rfl, upd_same, Paired.imp (fun v x h => PosAt.mono (same_new (Same.refl F2) fD) v x h) pu⟩
end
end Lg
namespace Lg
open PySem PySem.Spec PyProof.Rows L2
section
variable {P : Program} {w : World} {K : PySem.W.Frag} {mg : Str → Option Value} {base : Heap} {CH CC CO CL CS : Addr} {cnts brs : List Nat}
/-! ### read_calls -/
abbrev sRdc : Stmt := top 17
def nRdc : List Str := ["numbers", "found", "place", "operation", "first", "plain", "row"]
theorem scRdc : FnScope nRdc ["numbers"] (defScope sRdc) := ⟨rfl, rfl, rfl, by decide +kernel, rfl, by decide +kernel, by decide +kernel⟩
/-- the counts are those of the document, as far as it goes -/
def CntsOk (cnts : List Nat) (rest : List (List (List Int))) : Prop := ∀ c ∈ rest, ∀ (p : Int) (xs : List Int) (n k : Nat), c.headD [] = p :: xs → PyGf13.shape p = some (n, k) → ∃ q : Nat, p = (q : Int) ∧ cnts[q]? = some n
def spRdc (K : PySem.W.Frag) (CL : Addr) (cnts : List Nat) : Sp := fun vs H Q _ => ∃ (F : Hp) (a : Addr) (l : List Int) (raws : List (List (List Int))), Same F H ∧ vs = [.ref a] ∧ SqL K H a (l.map V.int) ∧ PyFlat.calls PyGf13.shape l.length l = some raws ∧ CntsOk cnts raws ∧ l.length ≤ 100000 ∧
  ∀ (F' H' : Hp) (r : V), Ext F H F' H' → LstAt (CallAt CL) F' r raws → Q r H'
theorem ints_at {l : List Int} {i : Nat} {n : Int} (h : l[i]? = some n) : (l.map V.int)[i]? = some (.int n) := by
  rw [List.getElem?_map, h]
  rfl
theorem cut_ints {l : List Int} {k m : Nat} (h1 : k ≤ l.length) (h2 : m ≤ l.length) : cutV (l.map V.int) (some (k : Int)) (some (m : Int)) = ((l.drop k).take (m - k)).map V.int := by
  rw [cut_both (by rw [List.length_map]; exact h1) (by rw [List.length_map]; exact h2), List.map_take, List.map_drop]
theorem dec_vi (a b : Int) : decide (V.int a = V.int b) = decide (a = b) := by
  by_cases h : a = b
  · subst h
    simp
  · rw [decide_eq_false h, decide_eq_false]
    intro e
    injection e with e
    exact h e
theorem ok_rdc {f fG : Addr} {fd fdG : FuncData} (F : Fun K "read_calls" "read_calls" sRdc f fd) (T : Txt K mg CH CC CO CL CS) (TC : TxtC K mg CL cnts brs) (M : Mk K CL fG) (FG : Fun K "__init__" "Call.__init__" sIL fG fdG) :
    FnOk P w K mg base CX0 3 f fd ["numbers"] (spRdc K CL cnts) := by
  have GG : FnOk P w K mg base CX0 1 fG fdG ["self", "operation", "plain", "row"] (spI3 CL caF) := ok_iL FG TC
  have bG : Binds K fdG ["self", "operation", "plain", "row"] [] := FG.binds fun _ _ _ _ _ _ us hl => match us, hl with | [_, _, _, _], _ => rfl
  obtain ⟨t1, g1⟩ := TC.write
  obtain ⟨t2, g2⟩ := TC.delete
  obtain ⟨ta, gt, htt⟩ := TC.plain
  refine F.ok scRdc (fun vs H Q E h => ?_) (fun cdv A outer s H vs Q E hr h => ⟨_,
    pss_cons (ps_set (i := 1) scRdc.nd rfl (Or.inl rfl) (pe_lst pa_nil))
    (pss_cons (ps_set (i := 2) scRdc.nd rfl (Or.inl rfl) pe_int)
    (pss_cons (ps_while PassesOwn.never (pt_cmpR op_lt (pv 2) (pe_callB call_len (by rfl) T.len PySem.boot_len (pa_cons (pv 0) pa_nil)) (nomark _))
      (pss_cons (ps_set (i := 3) scRdc.nd rfl (Or.inl rfl) (pe_ix ix_list (pv 0) (pv 2) (fun _ _ => rfl)))
      (pss_cons (ps_set (i := 4) scRdc.nd rfl (Or.inl rfl) (pe_op op_add (pv 2) pe_int))
      (pss_cons (ps_set (i := 2) scRdc.nd rfl (Or.inl rfl) (pe_op op_add (pv 4) (pe_ix ix_tup (pe_glob rfl gt (v := .ref ta) rfl) (pv 3) (fun _ _ => rfl))))
      (pss_cons (ps_set (i := 5) scRdc.nd rfl (Or.inl rfl) (pe_slice sl_list (pv 0) (po_some (pv 4)) (po_some (pv 2))))
      (pss_cons (ps_set (i := 6) scRdc.nd rfl (Or.inl rfl) (pe_lst pa_nil))
      (pss_cons (ps_if (PW.pt (pw_or (pt_cmpR op_eq (pv 3) (pe_glob rfl g1 (v := .int 1) ⟨_, rfl⟩) (nomark _)) (pw_or1 (pt_cmpR op_eq (pv 3) (pe_glob rfl g2 (v := .int 2) ⟨_, rfl⟩) (nomark _)))))
        (pss_cons (ps_set (i := 4) scRdc.nd rfl (Or.inl rfl) (pe_op op_add (pv 2) pe_int))
        (pss_cons (ps_set (i := 2) scRdc.nd rfl (Or.inl rfl) (pe_op op_add (pv 4) (pe_ix ix_list (pv 0) (pv 2) (fun _ _ => rfl))))
        (pss_one (ps_set (i := 6) scRdc.nd rfl (Or.inl rfl) (pe_slice sl_list (pv 0) (po_some (pv 4)) (po_some (pv 2)))))))
        pss_nil)
      (pss_one (ps_expr (pe_bm PySem.F.plainAttrs_list PySem.F.slot_list_append PySem.F.type_list_append mt_append (pv 1) (pa_cons (pe_make M GG (hr.mono (by decide)) (by rfl) TC.gL bG .nil pass0 (pa_cons (pv 3) (pa_cons (pv 5) (pa_cons (pv 6) pa_nil)))) pa_nil)))))))))))
    (pss_one (ps_ret (pv 1))))), ?_⟩)
  · obtain ⟨F0, a, l, raws, _, rfl, _⟩ := h
    rfl
  · obtain ⟨F0, a, l, raws, hF, rfl, ha, hraws, cok, ll, k⟩ := h
    refine ⟨by show 0 ≤ sizeLine; decide, fun fl nf => ?_⟩
    have X0 := (Ext.refl hF).tmp nf (o := .lst [])
    have f0 := hF.free nf
    refine ⟨fun m σ H' => ∃ F' u3 u4 u5 u6 us, ∃ i g : Nat, ∃ dn rest, σ = [some (.ref a), some (.ref fl), some (.int i), u3, u4, u5, u6] ∧ Ext F0 H F' H' ∧ F' fl = none ∧ H' fl = some (.lst us) ∧ Paired (CallAt CL F') us dn ∧ raws = dn ++ rest ∧ PyFlat.calls PyGf13.shape g (l.drop i) = some rest ∧ dn.length ≤ i ∧ i ≤ l.length ∧ m = l.length - i,
      ⟨_, F0, none, none, none, none, [], 0, l.length, [], raws, rfl, X0, f0, upd_same, .nil, rfl, hraws, Nat.le_refl _, Nat.zero_le _, rfl⟩, ?_⟩
    rintro m σ H' ⟨F', u3, u4, u5, u6, us, i, g, dn, rest, rfl, X, ff, hu, pu, er, hc, ld, li, rfl⟩
    have lu : us.length = dn.length := Paired.len pu
    have ha' := X.hh.seq ha
    refine ⟨_, rfl, _, rfl, _, (l.map V.int).length, rfl, Or.inl ⟨_, ha', rfl⟩, _, _, rfl, rfl, _, rfl, ?_⟩
    by_cases c : i < l.length
    · rw [show decide ((i : Int) < ((l.map V.int).length : Int)) = true from decide_eq_true (by rw [List.length_map]; omega)]
      obtain ⟨p, n, kk, rest', g', ep, es, ln, alt⟩ := calls_step hc c
      have hp : ∃ q : Nat, p = (q : Int) ∧ cnts[q]? = some n := by
        rcases alt with ⟨_, e1, _⟩ | ⟨_, mm, _, _, e1, _⟩
        · exact cok _ (by rw [er, e1]; exact List.mem_append_right _ List.mem_cons_self) p _ n kk rfl es
        · exact cok _ (by rw [er, e1]; exact List.mem_append_right _ List.mem_cons_self) p _ n kk rfl es
      obtain ⟨q, rfl, ecn⟩ := hp
      obtain ⟨_, _, _, kinds⟩ := shape_row es
      refine iteT ⟨_, fun _ _ h => h, ?_⟩
      -- operation, first, place
      refine ⟨_, rfl, _, rfl, a, _, _, .int q, rfl, rfl, ha', atI_nat (ints_at ep), _, rfl, _, _, rfl, rfl, _, rfl, _, rfl, ta, _, _, .int n, rfl, rfl, htt _, atI_nat (nV_at ecn), _, _, rfl, rfl, ?_⟩
      -- plain = numbers[first:place]
      refine ⟨_, rfl, _, rfl, _, rfl, _, rfl, _, rfl, a, _, rfl, ha', fun pl npl => ?_⟩
      have a1 : (i : Int) + 1 = ((i + 1 : Nat) : Int) := by omega
      have a2 : (i : Int) + 1 + (n : Int) = ((i + 1 + n : Nat) : Int) := by omega
      have cut : cutV (l.map V.int) (some ((i : Int) + 1)) (some ((i : Int) + 1 + (n : Int))) = ((l.drop (i + 1)).take n).map V.int := by
        rw [a2, a1, cut_ints (by omega) (by omega), Nat.add_sub_cancel_left]
      have X1 := X.new npl (o := .lst (cutV (l.map V.int) (some ((i : Int) + 1)) (some ((i : Int) + 1 + (n : Int)))))
      have fpl : fl ≠ pl := ne_new hu npl
      -- row = []
      refine ⟨by show 0 ≤ sizeLine; decide, fun r0 nr0 => ?_⟩
      have X2 := X1.new nr0 (o := .lst [])
      have hu1 : upd H' pl (.lst (cutV (l.map V.int) (some ((i : Int) + 1)) (some ((i : Int) + 1 + (n : Int))))) fl = some (.lst us) := by rw [upd_ne fpl]; exact hu
      have fr0 : fl ≠ r0 := ne_new hu1 nr0
      have ff2 : upd (upd F' pl (.lst (cutV (l.map V.int) (some ((i : Int) + 1)) (some ((i : Int) + 1 + (n : Int)))))) r0 (.lst []) fl = none := by rw [upd_ne fr0, upd_ne fpl]; exact ff
      have hu2 : upd (upd H' pl (.lst (cutV (l.map V.int) (some ((i : Int) + 1)) (some ((i : Int) + 1 + (n : Int)))))) r0 (.lst []) fl = some (.lst us) := by rw [upd_ne fr0]; exact hu1
      have hpl2 : upd (upd F' pl (.lst (cutV (l.map V.int) (some ((i : Int) + 1)) (some ((i : Int) + 1 + (n : Int)))))) r0 (.lst []) pl = some (.lst (((l.drop (i + 1)).take n).map V.int)) := by
        rw [upd_ne (ne_new (H := upd H' pl _) upd_same nr0), upd_same, cut]
      have hr02 : upd (upd F' pl (.lst (cutV (l.map V.int) (some ((i : Int) + 1)) (some ((i : Int) + 1 + (n : Int)))))) r0 (.lst []) r0 = some (.lst []) := upd_same
      have S2 : Same F' (upd (upd F' pl (.lst (cutV (l.map V.int) (some ((i : Int) + 1)) (some ((i : Int) + 1 + (n : Int)))))) r0 (.lst [])) := same_new (same_new (Same.refl F') (X.fh.free npl)) (X1.fh.free nr0)
      generalize upd (upd F' pl (.lst (cutV (l.map V.int) (some ((i : Int) + 1)) (some ((i : Int) + 1 + (n : Int)))))) r0 (.lst []) = F2 at X2 ff2 hpl2 hr02 S2 ⊢
      generalize upd (upd H' pl (.lst (cutV (l.map V.int) (some ((i : Int) + 1)) (some ((i : Int) + 1 + (n : Int)))))) r0 (.lst []) = H2 at X2 hu2 ⊢
      have ha2 := X2.hh.seq ha
      have lus : us.length < sizeLine := Nat.lt_of_le_of_lt (m := 100000) (by omega) (by decide)
      have d1 : decide (V.int (q : Int) = V.int 1) = decide ((q : Int) = 1) := dec_vi _ _
      have d2 : decide (V.int (q : Int) = V.int 2) = decide ((q : Int) = 2) := dec_vi _ _
      -- if operation == WRITE or operation == DELETE
      refine ⟨_, rfl, rfl, _, rfl, ?_⟩
      rcases kinds with ⟨rfl, hq⟩ | ⟨rfl, hq1, hq2⟩
      · rcases alt with ⟨z, _⟩ | ⟨_, mm, em, lm, e1, hc'⟩
        · cases z
        subst e1
        have b1 : (i : Int) + 1 + (n : Int) + 1 = ((i + 1 + n + 1 : Nat) : Int) := by omega
        have b2 : (i : Int) + 1 + (n : Int) + 1 + (mm : Int) = ((i + 1 + n + 1 + mm : Nat) : Int) := by omega
        have cut2 : cutV (l.map V.int) (some ((i : Int) + 1 + (n : Int) + 1)) (some ((i : Int) + 1 + (n : Int) + 1 + (mm : Int))) = ((l.drop (i + 1 + n + 1)).take mm).map V.int := by
          rw [b2, b1, cut_ints (by omega) (by omega), Nat.add_sub_cancel_left]
        refine hq.elim (fun e => ifT (d1.trans (decide_eq_true e)) ?_) (fun e => ifF (d1.trans (decide_eq_false (by omega))) ⟨_, rfl, rfl, _, rfl, ifT (d2.trans (decide_eq_true e)) ?_⟩)
        all_goals
          refine ⟨_, rfl, _, _, rfl, rfl, _, rfl, _, rfl, _, rfl, a, _, _, .int mm, rfl, rfl, ha2, (by rw [a2]; exact atI_nat (ints_at em)), _, _, rfl, rfl, ?_⟩
          refine ⟨_, rfl, _, rfl, _, rfl, _, rfl, _, rfl, a, _, rfl, ha2, fun r1 nr1 => ?_⟩
          have X3 := X2.new nr1 (o := .lst (cutV (l.map V.int) (some ((i : Int) + 1 + (n : Int) + 1)) (some ((i : Int) + 1 + (n : Int) + 1 + (mm : Int)))))
          have fr1 : fl ≠ r1 := ne_new hu2 nr1
          have hu3 : upd H2 r1 (.lst (cutV (l.map V.int) (some ((i : Int) + 1 + (n : Int) + 1)) (some ((i : Int) + 1 + (n : Int) + 1 + (mm : Int))))) fl = some (.lst us) := by rw [upd_ne fr1]; exact hu2
          have S3 : Same F2 (upd F2 r1 (.lst (cutV (l.map V.int) (some ((i : Int) + 1 + (n : Int) + 1)) (some ((i : Int) + 1 + (n : Int) + 1 + (mm : Int)))))) := same_new (Same.refl F2) (X2.fh.free nr1)
          have hr1 : upd F2 r1 (.lst (cutV (l.map V.int) (some ((i : Int) + 1 + (n : Int) + 1)) (some ((i : Int) + 1 + (n : Int) + 1 + (mm : Int))))) r1 = some (.lst (((l.drop (i + 1 + n + 1)).take mm).map V.int)) := by rw [upd_same, cut2]
          have ff3 : upd F2 r1 (.lst (cutV (l.map V.int) (some ((i : Int) + 1 + (n : Int) + 1)) (some ((i : Int) + 1 + (n : Int) + 1 + (mm : Int))))) fl = none := by rw [upd_ne fr1]; exact ff2
          refine ⟨_, rfl, Or.inl ⟨rfl, _, SqL.of hu3⟩, _, rfl, _, rfl, _, rfl, ?_⟩
          intro x cdx nx nd' nex
          refine ⟨x, cdx, .int q, .ref pl, .ref r1, rfl, upd_same, fun H5 e5 k5 => ⟨rfl, ?_⟩⟩
          obtain ⟨W, S5⟩ := X3.made nx nd' e5 k5
          have hx := ne_new hu3 nx
          have S6 : Same (upd F2 r1 (.lst (cutV (l.map V.int) (some ((i : Int) + 1 + (n : Int) + 1)) (some ((i : Int) + 1 + (n : Int) + 1 + (mm : Int)))))) (upd (upd F2 r1 (.lst (cutV (l.map V.int) (some ((i : Int) + 1 + (n : Int) + 1)) (some ((i : Int) + 1 + (n : Int) + 1 + (mm : Int)))))) x (.ins CL cdx (caF (.int q) (.ref pl) (.ref r1)))) := same_new (Same.refl _) (X3.fh.free nx)
          refine ⟨fl, us, _, rfl, rfl, S5 _ _ hu3, lus, ?_⟩
          refine ⟨l.length - (i + 1 + n + 1 + mm), by omega, _, some (.int q), some (.int ((i : Int) + 1 + (n : Int) + 1)), some (.ref pl), some (.ref r1), us ++ [.ref x], i + 1 + n + 1 + mm, g', dn ++ [[(q : Int) :: (l.drop (i + 1)).take n, (l.drop (i + 1 + n + 1)).take mm]], rest', ?_, W.put (by rw [upd_ne hx]; exact ff3) nf, by rw [upd_ne hx]; exact ff3, upd_same, ?_, ?_, hc', ?_, lm, rfl⟩
          · rw [← b2]
            rfl
          · exact Paired.app (Paired.imp (fun v x h => CallAt.mono ((S2.trans S3).trans S6) v x h) pu) (Paired.one ⟨x, cdx, pl, r1, q, _, _, rfl, upd_same, S6 _ _ (S3 _ _ hpl2), S6 _ _ hr1, rfl, rfl⟩)
          · rw [er, List.append_assoc]
            rfl
          · rw [List.length_append, List.length_singleton]
            omega
      · rcases alt with ⟨_, e1, hc'⟩ | ⟨z, _⟩
        · subst e1
          refine ifF (d1.trans (decide_eq_false hq1)) ⟨_, rfl, rfl, _, rfl, ifF (d2.trans (decide_eq_false hq2)) ?_⟩
          -- found.append(Call(operation, plain, row))
          refine ⟨_, rfl, Or.inl ⟨rfl, _, SqL.of hu2⟩, _, rfl, _, rfl, _, rfl, ?_⟩
          intro x cdx nx nd' nex
          refine ⟨x, cdx, .int q, .ref pl, .ref r0, rfl, upd_same, fun H5 e5 k5 => ⟨rfl, ?_⟩⟩
          obtain ⟨W, S5⟩ := X2.made nx nd' e5 k5
          have hx := ne_new hu2 nx
          have S6 : Same F2 (upd F2 x (.ins CL cdx (caF (.int q) (.ref pl) (.ref r0)))) := same_new (Same.refl F2) (X2.fh.free nx)
          refine ⟨fl, us, _, rfl, rfl, S5 _ _ hu2, lus, ?_⟩
          refine ⟨l.length - (i + 1 + n), by omega, _, some (.int q), some (.int ((i : Int) + 1)), some (.ref pl), some (.ref r0), us ++ [.ref x], i + 1 + n, g', dn ++ [[(q : Int) :: (l.drop (i + 1)).take n]], rest', ?_, W.put (by rw [upd_ne hx]; exact ff2) nf, by rw [upd_ne hx]; exact ff2, upd_same, ?_, ?_, hc', ?_, ln, rfl⟩
          · rw [← a2]
            rfl
          · exact Paired.app (Paired.imp (fun v x h => CallAt.mono (S2.trans S6) v x h) pu) (Paired.one ⟨x, cdx, pl, r0, q, _, [], rfl, upd_same, S6 _ _ hpl2, S6 _ _ hr02, rfl, rfl⟩)
          · rw [er, List.append_assoc]
            rfl
          · rw [List.length_append, List.length_singleton]
            omega
        · cases z
    · rw [show decide ((i : Int) < ((l.map V.int).length : Int)) = false from decide_eq_false (by rw [List.length_map]; omega)]
      refine iteF ?_
      have e := calls_end hc (by omega)
      rw [e, List.append_nil] at er
      subst er
      have Z := X.freeze hu ff nf
      exact ⟨_, rfl, k _ _ _ Z ⟨fl, us, rfl, upd_same, Paired.imp (fun v x h => CallAt.mono (same_new (Same.refl F') ff) v x h) pu⟩⟩
end
end Lg
namespace Lg
/-! ### what a call means -/
abbrev nI (l : List Nat) : List Int := Gf11.toInts l
inductive Means : List (List Int) → Gf13.Call → Prop
  | branch (b : Nat) : Means [[0, b]] (.base (.branch b))
  | write (b n : Nat) (r : List Nat) (t : List (List Nat)) (ln : n ≤ 398) (lr : r.length ≤ 398) (h : Gf13Neutral.decodeLines n r = some t) : Means [[1, b, n], nI r] (.base (.write b t))
  | delete (b : Nat) (r : List Nat) (t : List Gf11.Position) (lr : r.length ≤ 398) (h : Gf13Neutral.decodePositions r = some t) : Means [[2, b], nI r] (.base (.delete b t))
  | apply (b p : Nat) : Means [[3, b, p]] (.base (.apply b p))
  | merge (b p : Nat) : Means [[4, b, p]] (.base (.merge b p))
  | revert (b p : Nat) : Means [[5, b, p]] (.base (.revert b p))
  | show_ (b : Nat) : Means [[6, b]] (.base (.show_ b))
  | lines (b : Nat) : Means [[7, b]] (.base (.lines b))
  | change (b : Nat) : Means [[8, b]] (.base (.change b))
  | requirements (b : Nat) : Means [[9, b]] (.requirements b)
  | applyWith (b p : Nat) : Means [[10, b, p]] (.applyWithDependencies b p)
  | revertWith (b p : Nat) : Means [[11, b, p]] (.revertWithDependents b p)
  | explain (b p i : Nat) : Means [[12, b, p, i]] (.explain b p i)
  | blame (b : Nat) : Means [[13, b]] (.blame b)
theorem rows_len : ∀ {k : Nat} {l : List Int} {xs : List (List Int)} {t : List Int}, PyFlat.rows k l = some (xs, t) → xs.length = k
  | 0, l, xs, t, h => by
    cases h
    rfl
  | k + 1, l, xs, t, h => by
    unfold PyFlat.rows at h
    split at h
    · cases h
    · split at h
      · cases h
      · rename_i e
        cases h
        rw [List.length_cons, rows_len e]
theorem calls_form : ∀ {f : Nat} {l : List Int} {raws : List (List (List Int))}, PyFlat.calls PyGf13.shape f l = some raws → ∀ c ∈ raws, ∃ (p : Int) (n k : Nat) (xs : List Int) (rs : List (List Int)), c = (p :: xs) :: rs ∧ PyGf13.shape p = some (n, k) ∧ xs.length = n ∧ rs.length = k
  | _, [], raws, h, c, m => by
    unfold PyFlat.calls at h
    cases h
    cases m
  | 0, _ :: _, raws, h, c, m => by
    unfold PyFlat.calls at h
    cases h
  | f + 1, p :: r, raws, h, c, m => by
    unfold PyFlat.calls at h
    split at h
    · cases h
    · rename_i c0 t e0
      split at h
      · cases h
      · rename_i cs e1
        cases h
        rcases List.mem_cons.mp m with e | m
        · subst e
          have e0' : (match PyGf13.shape p with
            | none => none
            | some (n, k) => if r.length < n then none else match PyFlat.rows k (r.drop n) with
              | none => none
              | some (xs, t) => some ((p :: r.take n) :: xs, t)) = some (c, t) := e0
          cases es : PyGf13.shape p with
          | none =>
            rw [es] at e0'
            cases e0'
          | some nk =>
            obtain ⟨n, k⟩ := nk
            simp only [es] at e0'
            by_cases ln : r.length < n
            · rw [if_pos ln] at e0'
              cases e0'
            · rw [if_neg ln] at e0'
              cases er : PyFlat.rows k (r.drop n) with
              | none =>
                simp only [er] at e0'
                cases e0'
              | some xt =>
                obtain ⟨xs, t'⟩ := xt
                simp only [er] at e0'
                cases e0'
                exact ⟨p, n, k, r.take n, xs, rfl, es, by rw [List.length_take]; omega, rows_len er⟩
        · exact calls_form e1 c m
theorem to_nat {lo hi x : Int} (h : PyInside.within lo hi x = true) (l0 : 0 ≤ lo) : x = (x.toNat : Int) ∧ (x.toNat : Int) ≤ hi := by
  unfold PyInside.within at h
  rw [Bool.and_eq_true, decide_eq_true_eq, decide_eq_true_eq] at h
  omega
theorem row_nat {hi : Int} {r : List Int} (h : r.all (PyInside.within 0 hi) = true) : r = nI (r.map Int.toNat) := by
  unfold nI Gf11.toInts
  rw [List.map_map]
  refine (List.map_id r).symm.trans (List.map_congr_left fun x m => ?_)
  exact (to_nat (List.all_eq_true.mp h x m) (Int.le_refl 0)).1
theorem len1 {l : List Int} (h : l.length = 1) : ∃ a, l = [a] := match l, h with
  | [a], _ => ⟨a, rfl⟩
theorem len2 {l : List Int} (h : l.length = 2) : ∃ a b, l = [a, b] := match l, h with
  | [a, b], _ => ⟨a, b, rfl⟩
theorem len3 {l : List Int} (h : l.length = 3) : ∃ a b c, l = [a, b, c] := match l, h with
  | [a, b, c], _ => ⟨a, b, c, rfl⟩
theorem rows0 {l : List (List Int)} (h : l.length = 0) : l = [] := List.length_eq_zero_iff.mp h
theorem rows1 {l : List (List Int)} (h : l.length = 1) : ∃ a, l = [a] := match l, h with
  | [a], _ => ⟨a, rfl⟩
theorem nat_map (r : List Nat) : (nI r).map Int.toNat = r := by
  unfold nI Gf11.toInts
  rw [List.map_map]
  exact (List.map_congr_left fun x _ => Int.toNat_natCast x).trans (List.map_id r)
theorem nat1 {hi x : Int} {b : List (Int × Int)} {xs : List Int} (h : PyInside.each ((0, hi) :: b) (x :: xs) = true) : x = (x.toNat : Int) ∧ (x.toNat : Int) ≤ hi ∧ PyInside.each b xs = true := by
  have h' : (PyInside.within 0 hi x && PyInside.each b xs) = true := h
  rw [Bool.and_eq_true] at h'
  have := to_nat h'.1 (Int.le_refl 0)
  exact ⟨this.1, this.2, h'.2⟩
theorem map_some {α β : Type} {o : Option α} {f : α → β} {y : β} (h : o.map f = some y) : ∃ x, o = some x ∧ y = f x := by
  obtain ⟨x, a, b⟩ := Option.map_eq_some_iff.mp h
  exact ⟨x, a, b.symm⟩
theorem in_call {bs : List (Int × Int)} {ls : List (Int × Int × Nat × Nat)} {p : Int} {xs : List Int} {rs : List (List Int)} (h : PyInside.call PyGf13.bound ((p :: xs) :: rs) = true) (e : PyGf13.bound p = (bs, ls)) : PyInside.each bs xs = true ∧ PyInside.lists ls rs = true := by
  have h' : (PyInside.each (PyGf13.bound p).1 xs && PyInside.lists (PyGf13.bound p).2 rs) = true := h
  rw [e, Bool.and_eq_true] at h'
  exact h'
theorem one_row {lo hi : Int} {a b : Nat} {r : List Int} (h : PyInside.lists [(lo, hi, a, b)] [r] = true) : r.length ≤ b ∧ r.all (PyInside.within lo hi) = true := by
  have h' : (decide (a ≤ r.length) && decide (r.length ≤ b) && r.all (PyInside.within lo hi) && true) = true := h
  rw [Bool.and_true, Bool.and_eq_true, Bool.and_eq_true, decide_eq_true_eq, decide_eq_true_eq] at h'
  exact ⟨h'.1.2, h'.2⟩
theorem means_of {c : List (List Int)} (form : ∃ (p : Int) (n k : Nat) (xs : List Int) (rs : List (List Int)), c = (p :: xs) :: rs ∧ PyGf13.shape p = some (n, k) ∧ xs.length = n ∧ rs.length = k)
    (ins : PyInside.call PyGf13.bound c = true) (ask : Gf13Neutral.asked1 ((PyGf13.whole c).headD []) = true) : ∃ x, Means c x ∧ Gf13Neutral.callOf ((PyGf13.whole c).headD []) = some x := by
  obtain ⟨p, n, k, xs, rs, rfl, es, lx, lr⟩ := form
  obtain ⟨y, ey⟩ := Option.isSome_iff_exists.mp ask
  refine ⟨y, ?_, ey⟩
  have dy : Gf13Neutral.decodeCall ((PyGf13.whole ((p :: xs) :: rs)).headD []) = some y := by
    unfold Gf13Neutral.callOf at ey
    split at ey
    · cases ey
    · exact ey
  unfold PyGf13.shape at es
  by_cases h0 : p = 0
  · subst h0
    rw [if_pos rfl] at es
    cases es
    obtain ⟨a, rfl⟩ := len1 lx
    cases rows0 lr
    obtain ⟨i1, _⟩ := in_call ins rfl
    obtain ⟨ea, _, _⟩ := nat1 i1
    have d : ((Gf13Neutral.naturals 1000000 [a]).map fun _ => Gf11.Call.branch a.toNat).map Gf13.Call.base = some y := dy
    obtain ⟨_, d1, rfl⟩ := map_some d
    obtain ⟨_, _, rfl⟩ := map_some d1
    rw [ea]
    exact Means.branch _
  rw [if_neg h0] at es
  by_cases h1 : p = 1
  · subst h1
    rw [if_pos rfl] at es
    cases es
    obtain ⟨a, n, rfl⟩ := len2 lx
    obtain ⟨r, rfl⟩ := rows1 lr
    obtain ⟨i1, i2⟩ := in_call ins rfl
    obtain ⟨ea, _, i3⟩ := nat1 i1
    obtain ⟨en, ln, _⟩ := nat1 i3
    obtain ⟨lr2, ar⟩ := one_row i2
    have er := row_nat ar
    have d : ((Gf13Neutral.shortNaturals (a :: n :: r)).bind fun l => if n ≤ 400 then (Gf13Neutral.decodeLines n.toNat (l.drop 2)).map fun t => Gf11.Call.write a.toNat t else none).map Gf13.Call.base = some y := dy
    obtain ⟨z, d1, rfl⟩ := map_some d
    obtain ⟨l, d2, d3⟩ := Option.bind_eq_some_iff.mp d1
    have el : l = (a :: n :: r).map Int.toNat := by
      unfold Gf13Neutral.shortNaturals Gf13Neutral.naturals at d2
      split at d2
      · split at d2
        · cases d2
          rfl
        · cases d2
      · cases d2
    subst el
    rw [if_pos (by omega)] at d3
    obtain ⟨t, d4, rfl⟩ := map_some d3
    have d5 : Gf13Neutral.decodeLines n.toNat (r.map Int.toNat) = some t := d4
    have g := Means.write a.toNat n.toNat (r.map Int.toNat) t (by omega) (by rw [List.length_map]; exact lr2) d5
    rw [← er, ← ea, ← en] at g
    exact g
  rw [if_neg h1] at es
  by_cases h2 : p = 2
  · subst h2
    rw [if_pos rfl] at es
    cases es
    obtain ⟨a, rfl⟩ := len1 lx
    obtain ⟨r, rfl⟩ := rows1 lr
    obtain ⟨i1, i2⟩ := in_call ins rfl
    obtain ⟨ea, _, _⟩ := nat1 i1
    obtain ⟨lr2, ar⟩ := one_row i2
    have er := row_nat ar
    have d : ((Gf13Neutral.shortNaturals (a :: r)).bind fun l => (Gf13Neutral.decodePositions (l.drop 1)).map fun t => Gf11.Call.delete a.toNat t).map Gf13.Call.base = some y := dy
    obtain ⟨z, d1, rfl⟩ := map_some d
    obtain ⟨l, d2, d3⟩ := Option.bind_eq_some_iff.mp d1
    have el : l = (a :: r).map Int.toNat := by
      unfold Gf13Neutral.shortNaturals Gf13Neutral.naturals at d2
      split at d2
      · split at d2
        · cases d2
          rfl
        · cases d2
      · cases d2
    subst el
    obtain ⟨t, d4, rfl⟩ := map_some d3
    have d5 : Gf13Neutral.decodePositions (r.map Int.toNat) = some t := d4
    have g := Means.delete a.toNat (r.map Int.toNat) t (by rw [List.length_map]; exact lr2) d5
    rw [← er, ← ea] at g
    exact g
  rw [if_neg h2] at es
  by_cases h3 : p = 3
  · subst h3
    rw [if_pos rfl] at es
    cases es
    obtain ⟨a, b, rfl⟩ := len2 lx
    cases rows0 lr
    obtain ⟨i1, _⟩ := in_call ins rfl
    obtain ⟨ea, _, i2⟩ := nat1 i1
    obtain ⟨eb, _, i3⟩ := nat1 i2
    have d : ((Gf13Neutral.naturals 1000000 [a, b]).map fun _ => Gf11.Call.apply a.toNat b.toNat).map Gf13.Call.base = some y := dy
    obtain ⟨_, d1, rfl⟩ := map_some d
    obtain ⟨_, _, rfl⟩ := map_some d1
    have g := Means.apply a.toNat b.toNat
    rw [← ea, ← eb] at g
    exact g
  rw [if_neg h3] at es
  by_cases h4 : p = 4
  · subst h4
    rw [if_pos rfl] at es
    cases es
    obtain ⟨a, b, rfl⟩ := len2 lx
    cases rows0 lr
    obtain ⟨i1, _⟩ := in_call ins rfl
    obtain ⟨ea, _, i2⟩ := nat1 i1
    obtain ⟨eb, _, i3⟩ := nat1 i2
    have d : ((Gf13Neutral.naturals 1000000 [a, b]).map fun _ => Gf11.Call.merge a.toNat b.toNat).map Gf13.Call.base = some y := dy
    obtain ⟨_, d1, rfl⟩ := map_some d
    obtain ⟨_, _, rfl⟩ := map_some d1
    have g := Means.merge a.toNat b.toNat
    rw [← ea, ← eb] at g
    exact g
  rw [if_neg h4] at es
  by_cases h5 : p = 5
  · subst h5
    rw [if_pos rfl] at es
    cases es
    obtain ⟨a, b, rfl⟩ := len2 lx
    cases rows0 lr
    obtain ⟨i1, _⟩ := in_call ins rfl
    obtain ⟨ea, _, i2⟩ := nat1 i1
    obtain ⟨eb, _, i3⟩ := nat1 i2
    have d : ((Gf13Neutral.naturals 1000000 [a, b]).map fun _ => Gf11.Call.revert a.toNat b.toNat).map Gf13.Call.base = some y := dy
    obtain ⟨_, d1, rfl⟩ := map_some d
    obtain ⟨_, _, rfl⟩ := map_some d1
    have g := Means.revert a.toNat b.toNat
    rw [← ea, ← eb] at g
    exact g
  rw [if_neg h5] at es
  by_cases h6 : p = 6
  · subst h6
    rw [if_pos rfl] at es
    cases es
    obtain ⟨a, rfl⟩ := len1 lx
    cases rows0 lr
    obtain ⟨i1, _⟩ := in_call ins rfl
    obtain ⟨ea, _, i2⟩ := nat1 i1
    have d : ((Gf13Neutral.naturals 1000000 [a]).map fun _ => Gf11.Call.show_ a.toNat).map Gf13.Call.base = some y := dy
    obtain ⟨_, d1, rfl⟩ := map_some d
    obtain ⟨_, _, rfl⟩ := map_some d1
    have g := Means.show_ a.toNat
    rw [← ea] at g
    exact g
  rw [if_neg h6] at es
  by_cases h7 : p = 7
  · subst h7
    rw [if_pos rfl] at es
    cases es
    obtain ⟨a, rfl⟩ := len1 lx
    cases rows0 lr
    obtain ⟨i1, _⟩ := in_call ins rfl
    obtain ⟨ea, _, i2⟩ := nat1 i1
    have d : ((Gf13Neutral.naturals 1000000 [a]).map fun _ => Gf11.Call.lines a.toNat).map Gf13.Call.base = some y := dy
    obtain ⟨_, d1, rfl⟩ := map_some d
    obtain ⟨_, _, rfl⟩ := map_some d1
    have g := Means.lines a.toNat
    rw [← ea] at g
    exact g
  rw [if_neg h7] at es
  by_cases h8 : p = 8
  · subst h8
    rw [if_pos rfl] at es
    cases es
    obtain ⟨a, rfl⟩ := len1 lx
    cases rows0 lr
    obtain ⟨i1, _⟩ := in_call ins rfl
    obtain ⟨ea, _, i2⟩ := nat1 i1
    have d : ((Gf13Neutral.naturals 1000000 [a]).map fun _ => Gf11.Call.change a.toNat).map Gf13.Call.base = some y := dy
    obtain ⟨_, d1, rfl⟩ := map_some d
    obtain ⟨_, _, rfl⟩ := map_some d1
    have g := Means.change a.toNat
    rw [← ea] at g
    exact g
  rw [if_neg h8] at es
  by_cases h9 : p = 9
  · subst h9
    rw [if_pos rfl] at es
    cases es
    obtain ⟨a, rfl⟩ := len1 lx
    cases rows0 lr
    obtain ⟨i1, _⟩ := in_call ins rfl
    obtain ⟨ea, _, i2⟩ := nat1 i1
    have d : ((Gf13Neutral.naturals 1000000 [a]).map fun _ => Gf13.Call.requirements a.toNat) = some y := dy
    obtain ⟨_, _, rfl⟩ := map_some d
    have g := Means.requirements a.toNat
    rw [← ea] at g
    exact g
  rw [if_neg h9] at es
  by_cases h10 : p = 10
  · subst h10
    rw [if_pos rfl] at es
    cases es
    obtain ⟨a, b, rfl⟩ := len2 lx
    cases rows0 lr
    obtain ⟨i1, _⟩ := in_call ins rfl
    obtain ⟨ea, _, i2⟩ := nat1 i1
    obtain ⟨eb, _, i3⟩ := nat1 i2
    have d : ((Gf13Neutral.naturals 1000000 [a, b]).map fun _ => Gf13.Call.applyWithDependencies a.toNat b.toNat) = some y := dy
    obtain ⟨_, _, rfl⟩ := map_some d
    have g := Means.applyWith a.toNat b.toNat
    rw [← ea, ← eb] at g
    exact g
  rw [if_neg h10] at es
  by_cases h11 : p = 11
  · subst h11
    rw [if_pos rfl] at es
    cases es
    obtain ⟨a, b, rfl⟩ := len2 lx
    cases rows0 lr
    obtain ⟨i1, _⟩ := in_call ins rfl
    obtain ⟨ea, _, i2⟩ := nat1 i1
    obtain ⟨eb, _, i3⟩ := nat1 i2
    have d : ((Gf13Neutral.naturals 1000000 [a, b]).map fun _ => Gf13.Call.revertWithDependents a.toNat b.toNat) = some y := dy
    obtain ⟨_, _, rfl⟩ := map_some d
    have g := Means.revertWith a.toNat b.toNat
    rw [← ea, ← eb] at g
    exact g
  rw [if_neg h11] at es
  by_cases h12 : p = 12
  · subst h12
    rw [if_pos rfl] at es
    cases es
    obtain ⟨a, b, c, rfl⟩ := len3 lx
    cases rows0 lr
    obtain ⟨i1, _⟩ := in_call ins rfl
    obtain ⟨ea, _, i2⟩ := nat1 i1
    obtain ⟨eb, _, i3⟩ := nat1 i2
    obtain ⟨ec, _, i4⟩ := nat1 i3
    have d : ((Gf13Neutral.naturals 1000000 [a, b, c]).map fun _ => Gf13.Call.explain a.toNat b.toNat c.toNat) = some y := dy
    obtain ⟨_, _, rfl⟩ := map_some d
    have g := Means.explain a.toNat b.toNat c.toNat
    rw [← ea, ← eb, ← ec] at g
    exact g
  rw [if_neg h12] at es
  by_cases h13 : p = 13
  · subst h13
    rw [if_pos rfl] at es
    cases es
    obtain ⟨a, rfl⟩ := len1 lx
    cases rows0 lr
    obtain ⟨i1, _⟩ := in_call ins rfl
    obtain ⟨ea, _, i2⟩ := nat1 i1
    have d : ((Gf13Neutral.naturals 1000000 [a]).map fun _ => Gf13.Call.blame a.toNat) = some y := dy
    obtain ⟨_, _, rfl⟩ := map_some d
    have g := Means.blame a.toNat
    rw [← ea] at g
    exact g
  rw [if_neg h13] at es
  cases es
end Lg
namespace Lg
theorem asked_parts {l : List Int} (h : PyGf13.answers_asked l = true) : ∃ raws, PyFlat.calls PyGf13.shape l.length l = some raws ∧ raws.length ≤ 30 ∧
    (∀ c ∈ raws, ∃ x, Means c x ∧ Gf13Neutral.callOf ((PyGf13.whole c).headD []) = some x) ∧
    PyGf13.answers l = PyFlat.told (PyFlat.played (fun s c => Gf13Neutral.step s (c.headD [])) Gf13Neutral.start (raws.map PyGf13.whole)) ∧
    Gf13Neutral.resultLength Gf13Neutral.start ((raws.map PyGf13.whole).map fun c => c.headD []) ≤ 1000000 := by
  unfold PyGf13.answers_asked at h
  cases e : PyFlat.calls PyGf13.shape l.length l with
  | none =>
    rw [e] at h
    cases h
  | some raws =>
    simp only [e, Bool.and_eq_true] at h
    obtain ⟨⟨⟨⟨_, h30⟩, hin⟩, hask⟩, _⟩ := h
    have h30' : raws.length ≤ 30 := by
      unfold PyFlat.atMost at h30
      exact of_decide_eq_true h30
    have hin' : ∀ c ∈ raws, PyInside.call PyGf13.bound c = true := List.all_eq_true.mp hin
    unfold Gf13Neutral.asked at hask
    rw [Bool.and_eq_true, Bool.and_eq_true, Bool.and_eq_true] at hask
    obtain ⟨ha, _, _, hr⟩ := hask
    refine ⟨raws, rfl, h30', fun c m => means_of (calls_form e c m) (hin' c m) ?_, ?_, of_decide_eq_true hr⟩
    · exact List.all_eq_true.mp ha _ (List.mem_map.mpr ⟨PyGf13.whole c, List.mem_map.mpr ⟨c, m, rfl⟩, rfl⟩)
    · unfold PyGf13.answers PyGf13.calls
      rw [e]
theorem step_of {s : Gf13.State} {c : List Int} {x : Gf13.Call} (h : Gf13Neutral.callOf c = some x) : Gf13Neutral.step s c = ((Gf13.step s x).1, Gf13Neutral.encode (Gf13.step s x).2) := by
  unfold Gf13Neutral.step
  rw [h]
/-- the answers, call by call -/
def given : Gf13.State → List Gf13.Call → List Int
  | _, [] => []
  | s, x :: xs => (((Gf13.step s x).2.fields.length + 1 : Nat) : Int) :: (Gf13.step s x).2.value :: (Gf13.step s x).2.fields ++ given (Gf13.step s x).1 xs
def after : Gf13.State → List Gf13.Call → Gf13.State
  | s, [] => s
  | s, x :: xs => after (Gf13.step s x).1 xs
theorem given_snoc (x : Gf13.Call) : ∀ (xs : List Gf13.Call) (s : Gf13.State), given s (xs ++ [x]) = given s xs ++ ((((Gf13.step (after s xs) x).2.fields.length + 1 : Nat) : Int) :: (Gf13.step (after s xs) x).2.value :: (Gf13.step (after s xs) x).2.fields)
  | [], s => by
    show _ :: _ :: _ ++ [] = [] ++ _
    rw [List.append_nil, List.nil_append]
    rfl
  | y :: xs, s => by
    have ih := given_snoc x xs (Gf13.step s y).1
    show _ :: _ :: _ ++ given _ (xs ++ [x]) = (_ :: _ :: _ ++ given _ xs) ++ _
    rw [ih, List.append_assoc]
    rfl
theorem after_snoc (x : Gf13.Call) : ∀ (xs : List Gf13.Call) (s : Gf13.State), after s (xs ++ [x]) = (Gf13.step (after s xs) x).1
  | [], s => rfl
  | y :: xs, s => after_snoc x xs (Gf13.step s y).1
theorem good_after : ∀ (xs : List Gf13.Call) (s : Gf13.State), Good s → Good (after s xs)
  | [], s, h => h
  | x :: xs, s, h => good_after xs _ (good_step h x)
theorem told_given : ∀ {raws : List (List (List Int))} {xs : List Gf13.Call} (s : Gf13.State), raws.length = xs.length → (∀ (i : Nat) (c : List (List Int)) (x : Gf13.Call), raws[i]? = some c → xs[i]? = some x → Gf13Neutral.callOf ((PyGf13.whole c).headD []) = some x) →
    PyFlat.told (PyFlat.played (fun s c => Gf13Neutral.step s (c.headD [])) s (raws.map PyGf13.whole)) = given s xs ∧
    (given s xs).length = Gf13Neutral.resultLength s ((raws.map PyGf13.whole).map fun c => c.headD []) + xs.length
  | [], [], s, _, _ => ⟨rfl, rfl⟩
  | c :: raws, x :: xs, s, hl, h => by
    have e := step_of (s := s) (h 0 c x rfl rfl)
    obtain ⟨h1, h2⟩ := told_given (raws := raws) (xs := xs) (Gf13.step s x).1 (Nat.succ.inj hl) fun i c x a b => h (i + 1) c x a b
    constructor
    · show PyFlat.told ((Gf13Neutral.step s ((PyGf13.whole c).headD [])).2 :: PyFlat.played _ (Gf13Neutral.step s ((PyGf13.whole c).headD [])).1 (raws.map PyGf13.whole)) = _
      rw [e]
      show (((Gf13Neutral.encode (Gf13.step s x).2).length : Nat) : Int) :: Gf13Neutral.encode (Gf13.step s x).2 ++ PyFlat.told (PyFlat.played _ (Gf13.step s x).1 (raws.map PyGf13.whole)) = _
      rw [h1]
      rfl
    · show (_ :: _ :: _ ++ given (Gf13.step s x).1 xs).length = (Gf13Neutral.step s ((PyGf13.whole c).headD [])).2.length + Gf13Neutral.resultLength (Gf13Neutral.step s ((PyGf13.whole c).headD [])).1 _ + (xs.length + 1)
      rw [e]
      show _ = (Gf13Neutral.encode (Gf13.step s x).2).length + Gf13Neutral.resultLength (Gf13.step s x).1 ((raws.map PyGf13.whole).map fun c => c.headD []) + (xs.length + 1)
      rw [List.length_append, h2, List.length_cons, List.length_cons]
      unfold Gf13Neutral.encode
      rw [List.length_cons]
      omega
  | [], _ :: _, s, hl, _ => by cases hl
  | _ :: _, [], s, hl, _ => by cases hl
end Lg
namespace Lg
open PySem PySem.Spec PyProof.Rows L2
section
variable {P : Program} {w : World} {K : PySem.W.Frag} {mg : Str → Option Value} {base : Heap} {CH CC CO CL CS : Addr} {cnts brs : List Nat}
/-! ### Session -/
abbrev sIS : Stmt := inClass (top 54) 0
theorem scIS : FnScope ["self"] ["self"] (defScope sIS) := ⟨rfl, rfl, rfl, by decide +kernel, rfl, by decide +kernel, by decide +kernel⟩
theorem put_se (c b : V) : putF "branches" b (putF "changes" c []) = seF c b := put_past (by decide +kernel)
def spIS (CS : Addr) : Sp := fun vs H Q _ => ∃ (p dx : Addr), vs = [.ref p] ∧ H p = some (.ins CS dx []) ∧
  ∀ (H' : Hp) (lc b0 lb : Addr), H' p = some (.ins CS dx (seF (.ref lc) (.ref lb))) → H' lc = some (.lst []) → H' lb = some (.lst [.ref b0]) → H' b0 = some (.lst []) → lc ≠ lb → lc ≠ b0 → lb ≠ b0 → H lc = none → H lb = none → H b0 = none →
    (∀ q o, H q = some o → q ≠ p → H' q = some o) → Q .non H'
theorem ok_iS {f : Addr} {fd : FuncData} (F : Fun K "__init__" "Session.__init__" sIS f fd) (TS : TxtS K CS) : FnOk P w K mg base CX0 1 f fd ["self"] (spIS CS) := by
  refine F.ok scIS (fun vs H Q E h => ?_) (fun cdv A outer s H vs Q E hr h => ⟨_, pss_cons (ps_fld (pv 0) (pe_lst pa_nil) rfl) (pss_one (ps_fld (pv 0) (pe_lst (pa_cons (pe_lst pa_nil) pa_nil)) rfl)), ?_⟩)
  · obtain ⟨p, dx, rfl, _⟩ := h
    rfl
  · obtain ⟨p, dx, rfl, hp, k⟩ := h
    refine ⟨by show 0 ≤ sizeLine; decide, fun lc n1 => ?_⟩
    have p1 : p ≠ lc := ne_new hp n1
    refine ⟨_, rfl, p, CS, dx, [], rfl, by rw [upd_ne p1]; exact hp, TS.clS, TS.nChanges, (by show 0 < 1000; decide), ?_⟩
    refine ⟨by show 0 ≤ sizeLine; decide, fun b0 n2 => ⟨by show 1 ≤ sizeLine; decide, fun lb n3 => ?_⟩⟩
    have u1 : upd (upd H lc (.lst [])) p (.ins CS dx (putF "changes" (.ref lc) [])) lc = some (.lst []) := by rw [upd_ne p1.symm, upd_same]
    have u2 : upd (upd H lc (.lst [])) p (.ins CS dx (putF "changes" (.ref lc) [])) p = some (.ins CS dx (putF "changes" (.ref lc) [])) := upd_same
    have c1 : lc ≠ b0 := ne_new u1 n2
    have c2 : p ≠ b0 := ne_new u2 n2
    have v1 := same_new (o := HO.lst []) (Same.refl _) n2 _ _ u1
    have v2 := same_new (o := HO.lst []) (Same.refl _) n2 _ _ u2
    have d1 : lc ≠ lb := ne_new v1 n3
    have d2 : p ≠ lb := ne_new v2 n3
    have d3 : b0 ≠ lb := ne_new upd_same n3
    have s0 : ∀ q o, H q = some o → q ≠ p → upd (upd H lc (.lst [])) p (.ins CS dx (putF "changes" (.ref lc) [])) q = some o := fun q o e ne => by
      rw [upd_ne ne, upd_ne (ne_new e n1)]
      exact e
    have s1 : ∀ q o, H q = some o → q ≠ p → upd (upd (upd H lc (.lst [])) p (.ins CS dx (putF "changes" (.ref lc) []))) b0 (.lst []) q = some o := fun q o e ne => same_new (Same.refl _) n2 _ _ (s0 q o e ne)
    refine ⟨_, rfl, p, CS, dx, _, rfl, same_new (Same.refl _) n3 _ _ v2, TS.clS, TS.nBranches, (by show 1 < 1000; decide), ?_⟩
    have fr : ∀ {q : Addr}, q ≠ p → upd (upd H lc (.lst [])) p (.ins CS dx (putF "changes" (.ref lc) [])) q = none → H q = none := fun {q} ne e => by
      cases h : H q with
      | none => rfl
      | some o =>
        rw [s0 q o h ne] at e
        cases e
    refine k _ lc b0 lb (Eq.trans upd_same (congrArg (fun q => some (HO.ins CS dx q)) (put_se _ _))) ?_ ?_ ?_ d1 c1 d3.symm n1 ?_ (fr c2.symm n2) fun q o e ne => ?_
    · rw [upd_ne p1.symm]
      exact same_new (Same.refl _) n3 _ _ v1
    · rw [upd_ne d2.symm, upd_same]
    · rw [upd_ne c2.symm, upd_ne d3, upd_same]
    · refine fr d2.symm ?_
      cases h : upd (upd H lc (.lst [])) p (.ins CS dx (putF "changes" (.ref lc) [])) lb with
      | none => rfl
      | some o =>
        have := same_new (o := HO.lst []) (Same.refl _) n2 _ _ h
        rw [n3] at this
        cases this
    · rw [upd_ne ne]
      exact same_new (Same.refl _) n3 _ _ (s1 q o e ne)
/-! ### answers -/
/-- what answer_call does -/
def spAnc (CH CC CL CS : Addr) : Sp := fun vs H Q _ => ∃ (F : Hp) (v cv : V) (c : List (List Int)) (x : Gf13.Call) (o : Own3) (s : Gf13.State), Same F H ∧ vs = [v, cv] ∧ Sess CH CC CS F H v o s ∧ Good s ∧ CallAt CL F cv c ∧ Means c x ∧ OpPost CH CC CS F H v o (Gf13.step s x) Q
theorem sess_upd {F H : Hp} {v : V} {o : Own3} {s : Gf11.State} {g : Addr} {u : HO} (S : Sess CH CC CS F H v o s) (n : g ∉ o.all) : Sess CH CC CS F (upd H g u) v o s := by
  have ne : ∀ {b : Addr}, b ∈ o.all → b ≠ g := fun m e => n (e ▸ m)
  refine ⟨S.obj, ?_, ?_, ?_, S.free, S.nd⟩
  · obtain ⟨cvs, h, p⟩ := S.chs
    exact ⟨cvs, by rw [upd_ne (ne List.mem_cons_self)]; exact h, p⟩
  · rw [upd_ne (ne (List.mem_cons_of_mem _ List.mem_cons_self))]
    exact S.brs
  · have nb : g ∉ o.bas := fun m => n (List.mem_cons_of_mem _ (List.mem_cons_of_mem _ m))
    exact Paired.imp (fun a l h => by rw [upd_ne h.2]; exact h.1) (paired_out S.each nb)
end
end Lg
namespace Lg
open PySem PySem.Spec PyProof.Rows L2
theorem given_take : ∀ (xs : List Gf13.Call) (s : Gf13.State) (i : Nat), (given s (xs.take i)).length ≤ (given s xs).length
  | [], s, i => by
    rw [List.take_nil]
    exact Nat.le_refl _
  | x :: xs, s, 0 => Nat.zero_le _
  | x :: xs, s, i + 1 => by
    have ih := given_take xs (Gf13.step s x).1 i
    show (_ :: _ :: _ ++ given _ (xs.take i)).length ≤ (_ :: _ :: _ ++ given _ xs).length
    rw [List.length_append, List.length_append]
    omega
theorem pick_calls : ∀ {raws : List (List (List Int))}, (∀ c ∈ raws, ∃ x, Means c x ∧ Gf13Neutral.callOf ((PyGf13.whole c).headD []) = some x) → ∃ xs : List Gf13.Call, Paired (fun c x => Means c x ∧ Gf13Neutral.callOf ((PyGf13.whole c).headD []) = some x) raws xs
  | [], _ => ⟨[], .nil⟩
  | c :: raws, h => by
    obtain ⟨x, hx⟩ := h c List.mem_cons_self
    obtain ⟨xs, p⟩ := pick_calls fun c m => h c (List.mem_cons_of_mem _ m)
    exact ⟨x :: xs, .cons hx p⟩
section
variable {P : Program} {w : World} {K : PySem.W.Frag} {mg : Str → Option Value} {base : Heap} {CH CC CO CL CS : Addr} {cnts brs : List Nat}
abbrev sAnc : Stmt := top 79
abbrev sAns : Stmt := top 80
def nAns : List Str := ["calls", "session", "given", "call", "answer"]
theorem scAns : FnScope nAns ["calls"] (defScope sAns) := ⟨rfl, rfl, rfl, by decide +kernel, rfl, by decide +kernel, by decide +kernel⟩
def spAns (K : PySem.W.Frag) : Sp := fun vs H Q _ => ∃ (a : Addr) (l : List Int), vs = [.ref a] ∧ SqL K H a (l.map V.int) ∧ PyGf13.answers_asked l = true ∧ l.length ≤ 100000 ∧
  ∀ (H' : Hp) (p : Addr), H' p = some (.lst ((PyGf13.answers l).map V.int)) → Q (.ref p) H'
theorem ok_ans {f fA fR fG fS : Addr} {fd fdA fdR fdG fdS : FuncData} {kA : Nat} (F : Fun K "answers" "answers" sAns f fd) (T : Txt K mg CH CC CO CL CS) (TS : TxtS K CS) (TC : TxtC K mg CL cnts brs)
    (gS : mg "Session" = some (.ref CS)) (MS : Mk K CS fS) (FS : Fun K "__init__" "Session.__init__" sIS fS fdS)
    (FR : Fun K "read_calls" "read_calls" sRdc fR fdR) (gR : mg "read_calls" = some (.ref fR)) (ML : Mk K CL fG) (FG : Fun K "__init__" "Call.__init__" sIL fG fdG)
    (FA : Fun K "answer_call" "answer_call" sAnc fA fdA) (gA : mg "answer_call" = some (.ref fA)) (GA : FnOk P w K mg base CX0 kA fA fdA ["session", "call"] (spAnc CH CC CL CS)) (k3 : 3 ≤ kA)
    (hcn : ∀ (p : Int) (n k : Nat), PyGf13.shape p = some (n, k) → ∃ q : Nat, p = (q : Int) ∧ cnts[q]? = some n) :
    FnOk P w K mg base CX0 (kA + 1) f fd ["calls"] (spAns K) := by
  have GS : FnOk P w K mg base CX0 1 fS fdS ["self"] (spIS CS) := ok_iS FS TS
  have GR : FnOk P w K mg base CX0 3 fR fdR ["numbers"] (spRdc K CL cnts) := ok_rdc FR T TC ML FG
  have bS : Binds K fdS ["self"] [] := FS.binds fun _ _ _ _ _ _ us hl => match us, hl with | [_], _ => rfl
  have bR : Binds K fdR ["numbers"] [] := FR.binds fun _ _ _ _ _ _ us hl => match us, hl with | [_], _ => rfl
  have bA : Binds K fdA ["session", "call"] [] := FA.binds fun _ _ _ _ _ _ us hl => match us, hl with | [_, _], _ => rfl
  refine F.ok scAns (fun vs H Q E h => ?_) (fun cdv A outer s H vs Q E hr h => ⟨_,
    pss_cons (ps_set (i := 1) scAns.nd rfl (Or.inl rfl) (pe_make0 MS GS (hr.mono (by omega)) (by rfl) gS bS .nil pass0))
    (pss_cons (ps_set (i := 2) scAns.nd rfl (Or.inl rfl) (pe_lst pa_nil))
    (pss_cons (ps_for PassesOwn.never rfl (pi_list (pe_call GR (hr.mono (by omega)) (by rfl) gR FR.kp bR .nil pass0 (pa_cons (pv 0) pa_nil))) (pg_name (i := 3) scAns.nd rfl (Or.inl rfl))
      (pss_cons (ps_set (i := 4) scAns.nd rfl (Or.inl rfl) (pe_call GA hr (by rfl) gA FA.kp bA .nil pass0 (pa_cons (pv 1) (pa_cons (pv 3) pa_nil))))
      (pss_cons (ps_expr (pe_bm PySem.F.plainAttrs_list PySem.F.slot_list_append PySem.F.type_list_append mt_append (pv 2) (pa_cons (pe_callB call_len (by rfl) T.len PySem.boot_len (pa_cons (pv 4) pa_nil)) pa_nil)))
      (pss_one (ps_expr (pe_bm PySem.F.plainAttrs_list PySem.F.slot_list_extend PySem.F.type_list_extend mt_extend (pv 2) (pa_cons (pv 4) pa_nil)))))))
    (pss_one (ps_ret (pv 2))))), ?_⟩)
  · obtain ⟨a, l, rfl, _⟩ := h
    rfl
  · obtain ⟨a, l, rfl, hl, ask, ll, k⟩ := h
    obtain ⟨raws, e1, l30, hm, e2, e3⟩ := asked_parts ask
    obtain ⟨xs, pxs⟩ := pick_calls hm
    have lx : raws.length = xs.length := Paired.len pxs
    obtain ⟨tg, tl⟩ := told_given (raws := raws) (xs := xs) Gf13Neutral.start lx fun i c x a b => by
      obtain ⟨x', ex', hx'⟩ := Paired.get pxs a
      rw [b] at ex'
      cases ex'
      exact hx'.2
    rw [tg] at e2
    have tot : (given Gf13Neutral.start xs).length ≤ 1000030 := by omega
    rw [e2] at k
    -- session = Session()
    intro x dx nx nd' nex
    refine ⟨x, dx, rfl, upd_same, fun H1 lc b0 lb ex elc elb eb0 d1 d2 d3 nlc nlb nb0 keep => ⟨rfl, ?_⟩⟩
    have up : ∀ {q : Addr}, q ≠ x → upd (upd H dx (.own x)) x (.ins CS dx []) q = none → H q = none := fun {q} ne e => by
      rw [upd_ne ne] at e
      by_cases c : q = dx
      · rw [c]
        exact nd'
      · rw [upd_ne c] at e
        exact e
    have s1 : Same H H1 := fun b u e => keep b u (by rw [upd_ne (ne_new e nx), upd_ne (ne_new e nd')]; exact e) (ne_new e nx)
    have xlc : lc ≠ x := fun z => by
      rw [z, upd_same] at nlc
      cases nlc
    have xlb : lb ≠ x := fun z => by
      rw [z, upd_same] at nlb
      cases nlb
    have xb0 : b0 ≠ x := fun z => by
      rw [z, upd_same] at nb0
      cases nb0
    have S1 : Sess CH CC CS (upd (fun _ => none) x (.ins CS dx (seF (.ref lc) (.ref lb)))) H1 (.ref x) ⟨lc, lb, [b0]⟩ Gf13Neutral.start := by
      refine ⟨⟨x, dx, rfl, upd_same⟩, ⟨[], elc, .nil⟩, elb, Paired.one eb0, fun b m => ?_, ?_⟩
      · have : b ≠ x := by
          rcases List.mem_cons.mp m with e | m
          · exact e ▸ xlc
          · rcases List.mem_cons.mp m with e | m
            · exact e ▸ xlb
            · exact List.mem_singleton.mp m ▸ xb0
        rw [upd_ne this]
      · show [lc, lb, b0].Nodup
        simp [d1, d2, d3]
    have f1 : Same (upd (fun _ => none) x (.ins CS dx (seF (.ref lc) (.ref lb)))) H1 := fun b u e => by
      by_cases c : b = x
      · subst c
        rw [upd_same] at e
        cases e
        exact ex
      · rw [upd_ne c] at e
        cases e
    generalize upd (fun _ => none) x (.ins CS dx (seF (.ref lc) (.ref lb))) = F1 at S1 f1
    -- given = []
    refine ⟨by show 0 ≤ sizeLine; decide, fun g ng => ?_⟩
    have X2 := (Ext.refl f1).tmp ng (o := .lst [])
    have S2 := S1.ext X2
    have fg := f1.free ng
    -- read_calls(calls)
    refine ⟨_, rfl, F1, a, l, raws, X2.fh, rfl, (s1.trans X2.hh).seq hl, e1, fun c m p ys n kk hd hs => hcn p n kk hs, ll, fun F3 H3 rv X3 hrv => ?_⟩
    obtain ⟨ra, rvs, rfl, hra, prv⟩ := hrv
    have S3 := S2.ext X3
    have g3 : H3 g = some (.lst []) := X3.hh _ _ upd_same
    have fg3 := X3.out fg upd_same
    have ng3 : g ∉ Own3.all ⟨lc, lb, [b0]⟩ := fun m => by
      obtain ⟨u, e⟩ := S1.stands g m
      rw [ng] at e
      cases e
    have lrv : rvs.length = raws.length := Paired.len prv
    refine ⟨ra, rfl, ⟨_, SqL.of (X3.fh _ _ hra)⟩, ?_⟩
    refine for_list (K := K) (a := ra) (xs := rvs) (fun i σ H' => ∃ F' o' u3 u4, σ = [some (.ref a), some (.ref x), some (.ref g), u3, u4] ∧ Same F3 F' ∧ Same F' H' ∧ Sess CH CC CS F' H' (.ref x) o' (after Gf13Neutral.start (xs.take i)) ∧ g ∉ o'.all ∧ F' g = none ∧ H' g = some (.lst ((given Gf13Neutral.start (xs.take i)).map V.int)))
      ⟨F3, _, none, none, rfl, Same.refl F3, X3.fh, S3, ng3, fg3, g3⟩ (fun i σ H' _ ⟨_, _, _, _, _, s, t, _⟩ => SqL.of (t _ _ (s _ _ hra))) ?_ ?_
    · rintro i y σ H' hi ⟨F', o', u3, u4, rfl, sF, sH, S, go, fg', hg⟩
      obtain ⟨c, ec, hc⟩ := Paired.get prv hi
      obtain ⟨z, ez, hz, _⟩ := Paired.get pxs ec
      have tk : xs.take (i + 1) = xs.take i ++ [z] := take_more ez
      have bound := given_take xs Gf13Neutral.start (i + 1)
      rw [tk, given_snoc] at bound
      rw [List.length_append, List.length_cons, List.length_cons] at bound
      -- answer = answer_call(session, call)
      refine ⟨_, rfl, _, rfl, F', .ref x, y, c, z, o', _, sH, rfl, S, good_after _ _ good_init, CallAt.mono sF _ _ hc, hz, fun F4 H4 o4 r O4 S4 A4 => ?_⟩
      obtain ⟨ra4, rfl, hr4⟩ := A4
      have hg4 := O4.hh _ _ hg go
      have go4 : g ∉ o4.all := fun m => by
        rcases O4.ow g m with e | e
        · exact go e
        · rw [hg] at e
          cases e
      have fg4 : F4 g = none := by
        cases e : F4 g with
        | none => rfl
        | some u =>
          rcases O4.nw g u e with q | q
          · rw [fg'] at q
            cases q
          · rw [hg] at q
            cases q
      have nra : ra4 ≠ g := fun e => by
        rw [e, fg4] at hr4
        cases hr4
      have eg : given Gf13Neutral.start (xs.take (i + 1)) = given Gf13Neutral.start (xs.take i) ++ ((((Gf13.step (after Gf13Neutral.start (xs.take i)) z).2.fields.length + 1 : Nat) : Int) :: (Gf13.step (after Gf13Neutral.start (xs.take i)) z).2.value :: (Gf13.step (after Gf13Neutral.start (xs.take i)) z).2.fields) := by rw [tk, given_snoc]
      have ea : after Gf13Neutral.start (xs.take (i + 1)) = (Gf13.step (after Gf13Neutral.start (xs.take i)) z).1 := by rw [tk, after_snoc]
      generalize Gf13.step (after Gf13Neutral.start (xs.take i)) z = st at S4 hr4 bound eg ea
      generalize given Gf13Neutral.start (xs.take i) = us at hg4 bound eg
      refine ⟨_, rfl, Or.inl ⟨rfl, _, SqL.of hg4⟩, _, rfl, _, ((st.2.value :: st.2.fields).map V.int).length, rfl, Or.inl ⟨_, SqL.of (O4.fh _ _ hr4), rfl⟩, g, _, _, rfl, rfl, hg4, ?_, ?_⟩
      · rw [List.length_map]
        exact Nat.lt_of_le_of_lt (m := 1000030) (by omega) (by decide)
      refine ⟨_, rfl, Or.inl ⟨rfl, _, SqL.of upd_same⟩, _, rfl, g, ra4, _, _, rfl, rfl, upd_same, by rw [upd_ne nra]; exact O4.fh _ _ hr4, ?_, ?_⟩
      · show (us.map V.int ++ [_]).length + ((st.2.value :: st.2.fields).map V.int).length ≤ sizeLine
        rw [List.length_append, List.length_map, List.length_map, List.length_cons, List.length_cons, List.length_nil]
        exact Nat.le_trans (m := 1000030) (by omega) (by decide)
      refine ⟨F4, o4, _, _, rfl, sF.trans O4.ff, same_put (same_put O4.fh fg4) fg4, ?_, go4, fg4, ?_⟩
      · rw [ea]
        exact sess_upd (sess_upd S4 go4) go4
      · have el : ((st.2.value :: st.2.fields).map V.int).length = st.2.fields.length + 1 := by rw [List.length_map, List.length_cons]
        rw [upd_same, eg, List.map_append, List.append_assoc, el]
        rfl
    · rintro σ H' ⟨F', o', u3, u4, rfl, sF, sH, S, go, fg', hg⟩
      rw [lrv, lx, List.take_length] at hg
      exact ⟨_, rfl, k H' g hg⟩
end
end Lg
namespace Lg
open PySem PySem.Spec PyProof.Rows L2
section
variable {P : Program} {w : World} {K : PySem.W.Frag} {mg : Str → Option Value} {base : Heap} {CH CC CO CL CS : Addr}
/-! ### show_text -/
abbrev sSho : Stmt := top 72
def nSho : List Str := ["session", "branch", "content"]
theorem scSho : FnScope nSho ["session", "branch"] (defScope sSho) := ⟨rfl, rfl, rfl, by decide +kernel, rfl, by decide +kernel, by decide +kernel⟩
theorem ok_sho {f : Addr} {fd : FuncData} (F : Fun K "show_text" "show_text" sSho f fd) (T : Txt K mg CH CC CO CL CS) (TO : TxtO mg) (TS : TxtS K CS) (L : Lib K mg CH CC CO) :
    FnOk P w K mg base CX0 4 f fd ["session", "branch"] (spB CH CC CS fun s b => Gf11.step s (.show_ b)) := by
  have GC : FnOk P w K mg base CX0 3 L.con.f L.con.d ["changes", "members"] (spCon CH CC CO) := L.okCon T
  have bC : Binds K L.con.d ["changes", "members"] [] := L.con.F.binds fun _ _ _ _ _ _ us hl => match us, hl with | [_, _], _ => rfl
  have GT : FnOk P w K mg base CX0 2 L.tex.f L.tex.d ["changes", "lines"] (spTex CH CC) := L.okTex T
  have GE : FnOk P w K mg base CX0 1 L.ecl.f L.ecl.d ["lines"] spEcl := L.okEcl T
  have bT : Binds K L.tex.d ["changes", "lines"] [] := L.tex.F.binds fun _ _ _ _ _ _ us hl => match us, hl with | [_, _], _ => rfl
  have bE : Binds K L.ecl.d ["lines"] [] := L.ecl.F.binds fun _ _ _ _ _ _ us hl => match us, hl with | [_], _ => rfl
  obtain ⟨t1, g1⟩ := TO.confl
  refine F.ok scSho (fun vs H Q E h => ?_) (fun cdv A outer s H vs Q E hr h => ⟨_,
    pss_cons (ps_set (i := 2) scSho.nd rfl (Or.inl rfl) (pe_call GC hr (by rfl) L.con.g L.con.F.kp bC .nil pass0 (pa_cons (pe_fld (pv 0) rfl) (pa_cons (pe_ix ix_list (pe_fld (pv 0) rfl) (pv 1) (fun _ _ => rfl)) pa_nil))))
    (pss_cons (ps_if (pt_truth (pe_fld (pv 2) rfl) (by intro _; rfl)) (pss_one (ps_ret (pe_lst (pa_cons (pe_glob rfl g1 (v := .int (-5)) ⟨_, rfl⟩) (pa_cons (pe_callB call_len (by rfl) T.len PySem.boot_len (pa_cons (pe_fld (pv 2) rfl) pa_nil)) pa_nil))))) pss_nil)
    (pss_one (ps_ret (pe_op op_cat (pe_lst (pa_cons (pe_callB call_len (by rfl) T.len PySem.boot_len (pa_cons (pe_fld (pv 2) rfl) pa_nil)) pa_nil))
      (pe_call GE (hr.mono (by decide)) (by rfl) L.ecl.g L.ecl.F.kp bE .nil pass0 (pa_cons (pe_call GT (hr.mono (by decide)) (by rfl) L.tex.g L.tex.F.kp bT .nil pass0 (pa_cons (pe_fld (pv 0) rfl) (pa_cons (pe_fld (pv 2) rfl) pa_nil))) pa_nil)))))), ?_⟩)
  · obtain ⟨F0, v, b, o, s, l, _, rfl, _⟩ := h
    rfl
  · obtain ⟨F0, v, b, o, st, l, hF, rfl, S, G, el, k⟩ := h
    obtain ⟨a, dx, rfl, ha⟩ := S.obj
    obtain ⟨q, eq, hq⟩ := S.branchAt el
    obtain ⟨rk, hb, R⟩ := G.rank
    have at1 : atI (o.bas.map V.ref) (b : Int) = some (.ref q) := atI_nat (by rw [List.getElem?_map, eq]; rfl)
    have ek : Gf11.step st (.show_ b) = (st, if (Gf11.content st.changes l).2.isEmpty = false then ⟨-5, Gf11.toInts [(Gf11.content st.changes l).2.length]⟩ else ⟨(((Gf11.content st.changes l).1.length : Nat) : Int), (Gf11.content st.changes l).1.flatMap fun x => Gf11.encodeLine x.2⟩) := by
      show Gf11.withBranch st b _ = _
      unfold Gf11.withBranch
      rw [el]
    have k' : OpPost CH CC CS F0 H (.ref a) o (Gf11.step st (.show_ b)) Q := k
    rw [ek] at k'
    obtain ⟨bok, cok⟩ := con_ok G el
    refine ⟨_, rfl, a, CS, dx, _, _, rfl, hF _ _ ha, TS.clS, TS.nChanges, se_changes _ _, _, rfl, a, CS, dx, _, _, rfl, hF _ _ ha, TS.clS, TS.nBranches, se_branches _ _, _, rfl, o.lb, _, _, _, rfl, rfl, SqL.of S.brs, at1, F0, .ref o.lc, .ref q, st.changes, l, rk, hF, rfl, S.changesAt, ⟨q, rfl, hq⟩, bok, R, fun F1 H1 cv X1 hcv => ?_⟩
    generalize Gf11.content st.changes l = con at hcv k' cok
    obtain ⟨ca, cdx, ov, cfv, rfl, hca, hov, hcf⟩ := hcv
    obtain ⟨cfa, cfs, rfl, hcfa, pcf⟩ := hcf
    have lcfs : cfs.length = con.2.length := Paired.len pcf
    have S1 := S.ext X1
    refine ⟨_, rfl, ca, CO, cdx, _, _, rfl, X1.fh _ _ hca, T.clO, T.nConflicts, co_conflicts _ _, _, Or.inl ⟨_, SqL.of (X1.fh _ _ hcfa), rfl⟩, ?_⟩
    by_cases c1 : con.2.isEmpty = false
    · rw [if_pos c1] at k'
      have ne : cfs.isEmpty = false := by rw [Paired.empty pcf]; exact c1
      refine ifT (by rw [ne]; rfl) ⟨_, rfl, ca, CO, cdx, _, _, rfl, X1.fh _ _ hca, T.clO, T.nConflicts, co_conflicts _ _, _, con.2.length, rfl, Or.inl ⟨_, SqL.of (X1.fh _ _ hcfa), lcfs.symm⟩, by show 2 ≤ sizeLine; decide, fun t nt => ?_⟩
      refine k'.same S (X1.new nt (o := .lst [.int (-5), .int con.2.length])) ⟨t, rfl, ?_⟩
      rw [upd_same]
      rfl
    rw [if_neg c1] at k'
    have em : cfs.isEmpty = true := by
      rw [Paired.empty pcf]
      simpa using c1
    refine ifF (by rw [em]; rfl) ?_
    obtain ⟨oa, os, rfl, hoa, po⟩ := hov
    have los : os.length = con.1.length := by
      have := Paired.len po
      rwa [List.length_map] at this
    refine ⟨_, rfl, ca, CO, cdx, _, _, rfl, X1.fh _ _ hca, T.clO, T.nOrder, co_order _ _, _, con.1.length, rfl, Or.inl ⟨_, SqL.of (X1.fh _ _ hoa), los.symm⟩, by show 1 ≤ sizeLine; decide, fun n nn => ?_⟩
    have X2 := X1.tmp nn (o := .lst [.int con.1.length])
    have S2 := S.ext X2
    refine ⟨_, rfl, a, CS, dx, _, _, rfl, X2.fh _ _ (X2.ff _ _ ha), TS.clS, TS.nChanges, se_changes _ _, _, rfl, ca, CO, cdx, _, _, rfl, X2.fh _ _ hca, T.clO, T.nOrder, co_order _ _, F1, .ref o.lc, .ref oa, st.changes, con.1, X2.fh, rfl, S2.changesAt, ⟨oa, os, rfl, hoa, po⟩, cok.inn, (fun p c e => Nat.le_trans (G.chg p c e).lines (by decide)), Nat.le_trans cok.len (by decide), fun F3 H3 tv X3 htv => ?_⟩
    have sz : (lns (con.1.map (·.2))).length ≤ 13 * 96 := by
      refine Nat.le_trans (lns_len fun x m => ?_) ?_
      · obtain ⟨z, hz, rfl⟩ := List.mem_map.mp m
        exact cok.wid z hz
      · rw [List.length_map]
        exact Nat.mul_le_mul (Nat.le_refl _) cok.len
    refine ⟨F3, tv, con.1.map (·.2), X3.fh, rfl, htv, Nat.le_trans sz (by decide), fun F4 H4 ea X4 hea => ?_⟩
    refine ⟨n, ea, _, _, rfl, rfl, X4.hh _ _ (X3.hh _ _ upd_same), X4.fh _ _ hea, ?_, fun p np => ?_⟩
    · rw [List.length_map]
      exact Nat.le_trans (m := 1 + 13 * 96) (Nat.add_le_add (Nat.le_refl 1) sz) (by decide)
    refine k'.same S (((X2.trans X3).trans X4).new np (o := .lst ([.int con.1.length] ++ (lns (con.1.map (·.2))).map V.int))) ⟨p, rfl, ?_⟩
    rw [upd_same]
    unfold lns
    rw [List.flatMap_map]
    rfl
/-! ### blame_text -/
abbrev sBla : Stmt := top 77
def nBla : List Str := ["session", "branch", "content", "line"]
theorem scBla : FnScope nBla ["session", "branch"] (defScope sBla) := ⟨rfl, rfl, rfl, by decide +kernel, rfl, by decide +kernel, by decide +kernel⟩
def chOf (x : Gf11.Position × Gf11.Line) : Nat := match x.1 with
  | .line p _ => p
  | _ => 0
theorem ok_bla {f : Addr} {fd : FuncData} (F : Fun K "blame_text" "blame_text" sBla f fd) (T : Txt K mg CH CC CO CL CS) (TO : TxtO mg) (TS : TxtS K CS) (L : Lib K mg CH CC CO) :
    FnOk P w K mg base CX0 4 f fd ["session", "branch"] (spB CH CC CS fun s b => Gf13.step s (.blame b)) := by
  have GC : FnOk P w K mg base CX0 3 L.con.f L.con.d ["changes", "members"] (spCon CH CC CO) := L.okCon T
  have bC : Binds K L.con.d ["changes", "members"] [] := L.con.F.binds fun _ _ _ _ _ _ us hl => match us, hl with | [_, _], _ => rfl
  obtain ⟨t1, g1⟩ := TO.confl
  refine F.ok scBla (fun vs H Q E h => ?_) (fun cdv A outer s H vs Q E hr h => ⟨_,
    pss_cons (ps_set (i := 2) scBla.nd rfl (Or.inl rfl) (pe_call GC hr (by rfl) L.con.g L.con.F.kp bC .nil pass0 (pa_cons (pe_fld (pv 0) rfl) (pa_cons (pe_ix ix_list (pe_fld (pv 0) rfl) (pv 1) (fun _ _ => rfl)) pa_nil))))
    (pss_cons (ps_if (pt_truth (pe_fld (pv 2) rfl) (by intro _; rfl)) (pss_one (ps_ret (pe_lst (pa_cons (pe_glob rfl g1 (v := .int (-5)) ⟨_, rfl⟩) (pa_cons (pe_callB call_len (by rfl) T.len PySem.boot_len (pa_cons (pe_fld (pv 2) rfl) pa_nil)) pa_nil))))) pss_nil)
    (pss_one (ps_ret (pe_op op_cat (pe_lst (pa_cons (pe_callB call_len (by rfl) T.len PySem.boot_len (pa_cons (pe_fld (pv 2) rfl) pa_nil)) pa_nil))
      (pe_lc (own := [("line", 3)]) (g := gName 3) (tt := tYes) (te := tOp (rIxT K) (tVar 3) (tC (.int 0))) (by rfl) scBla.nd (pi_list (pe_fld (pv 2) rfl)) (blkOk_by (N := nBla) (sc := defScope sBla) (by decide +kernel)) (fun _ _ _ _ _ => pg_name (i := 3) scBla.nd rfl (Or.inl rfl))
        (fun _ _ _ _ _ => pts_nil) (fun _ _ _ _ _ => pe_ix ix_tup (pv 3) pe_int (fun _ _ => rfl))))))), ?_⟩)
  · obtain ⟨F0, v, b, o, s, l, _, rfl, _⟩ := h
    rfl
  · obtain ⟨F0, v, b, o, st, l, hF, rfl, S, G, el, k⟩ := h
    obtain ⟨a, dx, rfl, ha⟩ := S.obj
    obtain ⟨q, eq, hq⟩ := S.branchAt el
    obtain ⟨rk, hb, R⟩ := G.rank
    have at1 : atI (o.bas.map V.ref) (b : Int) = some (.ref q) := atI_nat (by rw [List.getElem?_map, eq]; rfl)
    have ek : Gf13.step st (.blame b) = (st, if (Gf11.content st.changes l).2.isEmpty = false then ⟨-5, Gf11.toInts [(Gf11.content st.changes l).2.length]⟩ else Gf13.listResult ((Gf11.content st.changes l).1.map chOf)) := by
      show Gf13.withBranch st b _ = _
      unfold Gf13.withBranch
      rw [el]
      rfl
    have k' : OpPost CH CC CS F0 H (.ref a) o (Gf13.step st (.blame b)) Q := k
    rw [ek] at k'
    obtain ⟨bok, cok⟩ := con_ok G el
    refine ⟨_, rfl, a, CS, dx, _, _, rfl, hF _ _ ha, TS.clS, TS.nChanges, se_changes _ _, _, rfl, a, CS, dx, _, _, rfl, hF _ _ ha, TS.clS, TS.nBranches, se_branches _ _, _, rfl, o.lb, _, _, _, rfl, rfl, SqL.of S.brs, at1, F0, .ref o.lc, .ref q, st.changes, l, rk, hF, rfl, S.changesAt, ⟨q, rfl, hq⟩, bok, R, fun F1 H1 cv X1 hcv => ?_⟩
    generalize Gf11.content st.changes l = con at hcv k' cok
    obtain ⟨ca, cdx, ov, cfv, rfl, hca, hov, hcf⟩ := hcv
    obtain ⟨cfa, cfs, rfl, hcfa, pcf⟩ := hcf
    have lcfs : cfs.length = con.2.length := Paired.len pcf
    have S1 := S.ext X1
    refine ⟨_, rfl, ca, CO, cdx, _, _, rfl, X1.fh _ _ hca, T.clO, T.nConflicts, co_conflicts _ _, _, Or.inl ⟨_, SqL.of (X1.fh _ _ hcfa), rfl⟩, ?_⟩
    by_cases c1 : con.2.isEmpty = false
    · rw [if_pos c1] at k'
      have ne : cfs.isEmpty = false := by rw [Paired.empty pcf]; exact c1
      refine ifT (by rw [ne]; rfl) ⟨_, rfl, ca, CO, cdx, _, _, rfl, X1.fh _ _ hca, T.clO, T.nConflicts, co_conflicts _ _, _, con.2.length, rfl, Or.inl ⟨_, SqL.of (X1.fh _ _ hcfa), lcfs.symm⟩, by show 2 ≤ sizeLine; decide, fun t nt => ?_⟩
      refine k'.same S (X1.new nt (o := .lst [.int (-5), .int con.2.length])) ⟨t, rfl, ?_⟩
      rw [upd_same]
      rfl
    rw [if_neg c1] at k'
    have em : cfs.isEmpty = true := by
      rw [Paired.empty pcf]
      simpa using c1
    refine ifF (by rw [em]; rfl) ?_
    obtain ⟨oa, os, rfl, hoa, po⟩ := hov
    have los : os.length = con.1.length := by
      have := Paired.len po
      rwa [List.length_map] at this
    refine ⟨_, rfl, ca, CO, cdx, _, _, rfl, X1.fh _ _ hca, T.clO, T.nOrder, co_order _ _, _, con.1.length, rfl, Or.inl ⟨_, SqL.of (X1.fh _ _ hoa), los.symm⟩, by show 1 ≤ sizeLine; decide, fun n nn => ?_⟩
    have X2 := X1.tmp nn (o := .lst [.int con.1.length])
    have n2 := X2.fh
    refine ⟨_, rfl, ca, CO, cdx, _, _, rfl, X2.fh _ _ hca, T.clO, T.nOrder, co_order _ _, oa, rfl, ⟨_, SqL.of (X2.fh _ _ hoa)⟩, fun D nD => ?_⟩
    have nF := X2.fh.free nD
    have nH := X2.hh.free nD
    have nn2 : upd H1 n (.lst [.int con.1.length]) n = some (.lst [.int con.1.length]) := upd_same
    have nDn : n ≠ D := ne_new nn2 nD
    refine lc_list (K := K) (a := oa) (xs := os) (fun i H2 => Ext F0 H F1 H2 ∧ H2 n = some (.lst [.int con.1.length]) ∧ H2 D = some (.lst (nV ((con.1.take i).map chOf))))
      ⟨X2.tmp nD, by rw [upd_ne nDn]; exact upd_same, upd_same⟩ (fun i H2 _ ⟨X, _⟩ => SqL.of (X.fh _ _ hoa)) ?_ ?_
    · rintro i y H2 hi ⟨X, hn, hD⟩
      obtain ⟨x, ex, t, rfl, ht⟩ := Paired.get po hi
      rw [List.getElem?_map] at ex
      obtain ⟨z, ez, rfl⟩ := Option.map_eq_some_iff.mp ex
      obtain ⟨p, c, j, e1, e2, e3⟩ := cok.inn z (List.mem_of_getElem? ez)
      have ep : chOf z = p := by
        unfold chOf
        rw [e2]
      rw [e2, pos_line] at ht
      have cl := cok.len
      refine ⟨rfl, _, rfl, t, _, 0, _, rfl, rfl, SqT.of (X.fh _ _ ht), atI_nat (j := 0) rfl, _, hD, ?_, X.put nF nH, by rw [upd_ne nDn]; exact hn, ?_⟩
      · rw [nV_len, List.length_map, List.length_take]
        exact Nat.lt_of_le_of_lt (m := 96) (by omega) (by decide)
      · rw [upd_same, take_more ez, List.map_append, nV_app]
        show _ = some (HO.lst (nV _ ++ nV [chOf z]))
        rw [ep]
        rfl
    · rintro H2 ⟨X, hn, hD⟩
      rw [los, List.take_length] at hD
      refine ⟨n, D, _, _, rfl, rfl, hn, hD, ?_, fun p np => ?_⟩
      · rw [nV_len, List.length_map]
        exact Nat.le_trans (m := 1 + 96) (Nat.add_le_add (Nat.le_refl 1) cok.len) (by decide)
      · refine k'.same S (X.new np (o := .lst ([.int con.1.length] ++ nV (con.1.map chOf)))) ⟨p, rfl, ?_⟩
        rw [upd_same]
        unfold Gf13.listResult
        rw [List.length_map]
        rfl
end
end Lg
namespace Lg
open PySem PySem.Spec PyProof.Rows L2
section
variable {P : Program} {w : World} {K : PySem.W.Frag} {mg : Str → Option Value} {base : Heap} {CH CC CO CL CS : Addr}
/-! ### list_lines -/
abbrev sLis : Stmt := top 73
def nLis : List Str := ["session", "branch", "content", "told", "pair"]
theorem scLis : FnScope nLis ["session", "branch"] (defScope sLis) := ⟨rfl, rfl, rfl, by decide +kernel, rfl, by decide +kernel, by decide +kernel⟩
def cfls (t : List (Gf11.Position × Gf11.Position)) : List Int := t.flatMap fun x => Gf11.encodePosition x.1 ++ Gf11.encodePosition x.2
theorem len_cfls : ∀ t : List (Gf11.Position × Gf11.Position), (cfls t).length = 4 * t.length
  | [] => rfl
  | x :: t => by
    have ih := len_cfls t
    have e : cfls (x :: t) = (Gf11.encodePosition x.1 ++ Gf11.encodePosition x.2) ++ cfls t := rfl
    rw [e, List.length_append, List.length_append, enc_two, enc_two, ih, List.length_cons]
    omega
theorem cfls_take {t : List (Gf11.Position × Gf11.Position)} {i : Nat} {x : Gf11.Position × Gf11.Position} (e : t[i]? = some x) : cfls (t.take (i + 1)) = cfls (t.take i) ++ pss [x.1, x.2] := by
  unfold cfls pss
  rw [take_more e, List.flatMap_append]
  simp
theorem ok_lis {f : Addr} {fd : FuncData} (F : Fun K "list_lines" "list_lines" sLis f fd) (T : Txt K mg CH CC CO CL CS) (TS : TxtS K CS) (L : Lib K mg CH CC CO) :
    FnOk P w K mg base CX0 4 f fd ["session", "branch"] (spB CH CC CS fun s b => Gf11.step s (.lines b)) := by
  have GC : FnOk P w K mg base CX0 3 L.con.f L.con.d ["changes", "members"] (spCon CH CC CO) := L.okCon T
  have bC : Binds K L.con.d ["changes", "members"] [] := L.con.F.binds fun _ _ _ _ _ _ us hl => match us, hl with | [_, _], _ => rfl
  have GP : FnOk P w K mg base CX0 1 L.ecp.f L.ecp.d ["positions"] spEcp := L.okEcp T
  have GQ : FnOk P w K mg base CX0 1 L.ecp.f L.ecp.d ["positions"] spEcpT := L.okEcpT T
  have bP : Binds K L.ecp.d ["positions"] [] := L.ecp.F.binds fun _ _ _ _ _ _ us hl => match us, hl with | [_], _ => rfl
  refine F.ok scLis (fun vs H Q E h => ?_) (fun cdv A outer s H vs Q E hr h => ⟨_,
    pss_cons (ps_set (i := 2) scLis.nd rfl (Or.inl rfl) (pe_call GC hr (by rfl) L.con.g L.con.F.kp bC .nil pass0 (pa_cons (pe_fld (pv 0) rfl) (pa_cons (pe_ix ix_list (pe_fld (pv 0) rfl) (pv 1) (fun _ _ => rfl)) pa_nil))))
    (pss_cons (ps_set (i := 3) scLis.nd rfl (Or.inl rfl) (pe_op op_cat (pe_lst (pa_cons (pe_callB call_len (by rfl) T.len PySem.boot_len (pa_cons (pe_fld (pv 2) rfl) pa_nil)) pa_nil))
      (pe_call GP (hr.mono (by decide)) (by rfl) L.ecp.g L.ecp.F.kp bP .nil pass0 (pa_cons (pe_fld (pv 2) rfl) pa_nil))))
    (pss_cons (ps_expr (pe_bm PySem.F.plainAttrs_list PySem.F.slot_list_append PySem.F.type_list_append mt_append (pv 3) (pa_cons (pe_callB call_len (by rfl) T.len PySem.boot_len (pa_cons (pe_fld (pv 2) rfl) pa_nil)) pa_nil)))
    (pss_cons (ps_for PassesOwn.never rfl (pi_list (pe_fld (pv 2) rfl)) (pg_name (i := 4) scLis.nd rfl (Or.inl rfl))
      (pss_one (ps_expr (pe_bm PySem.F.plainAttrs_list PySem.F.slot_list_extend PySem.F.type_list_extend mt_extend (pv 3) (pa_cons (pe_call GQ (hr.mono (by decide)) (by rfl) L.ecp.g L.ecp.F.kp bP .nil pass0 (pa_cons (pv 4) pa_nil)) pa_nil)))))
    (pss_one (ps_ret (pv 3)))))), ?_⟩)
  · obtain ⟨F0, v, b, o, s, l, _, rfl, _⟩ := h
    rfl
  · obtain ⟨F0, v, b, o, st, l, hF, rfl, S, G, el, k⟩ := h
    obtain ⟨a, dx, rfl, ha⟩ := S.obj
    obtain ⟨q, eq, hq⟩ := S.branchAt el
    obtain ⟨rk, hb, R⟩ := G.rank
    have at1 : atI (o.bas.map V.ref) (b : Int) = some (.ref q) := atI_nat (by rw [List.getElem?_map, eq]; rfl)
    have ek : Gf11.step st (.lines b) = (st, ⟨(((Gf11.content st.changes l).1.length : Nat) : Int), ((Gf11.content st.changes l).1.flatMap fun x => Gf11.encodePosition x.1) ++ ((((Gf11.content st.changes l).2.length : Nat) : Int) :: cfls (Gf11.content st.changes l).2)⟩) := by
      show Gf11.withBranch st b _ = _
      unfold Gf11.withBranch
      rw [el]
      rfl
    have k' : OpPost CH CC CS F0 H (.ref a) o (Gf11.step st (.lines b)) Q := k
    rw [ek] at k'
    obtain ⟨bok, cok⟩ := con_ok G el
    refine ⟨_, rfl, a, CS, dx, _, _, rfl, hF _ _ ha, TS.clS, TS.nChanges, se_changes _ _, _, rfl, a, CS, dx, _, _, rfl, hF _ _ ha, TS.clS, TS.nBranches, se_branches _ _, _, rfl, o.lb, _, _, _, rfl, rfl, SqL.of S.brs, at1, F0, .ref o.lc, .ref q, st.changes, l, rk, hF, rfl, S.changesAt, ⟨q, rfl, hq⟩, bok, R, fun F1 H1 cv X1 hcv => ?_⟩
    generalize Gf11.content st.changes l = con at hcv k' cok
    obtain ⟨ca, cdx, ov, cfv, rfl, hca, hov, hcf⟩ := hcv
    obtain ⟨cfa, cfs, rfl, hcfa, pcf⟩ := hcf
    have lcfs : cfs.length = con.2.length := Paired.len pcf
    obtain ⟨oa, os, rfl, hoa, po⟩ := hov
    have los : os.length = con.1.length := by
      have := Paired.len po
      rwa [List.length_map] at this
    have cl := cok.len
    have ccf := cok.cf
    refine ⟨_, rfl, ca, CO, cdx, _, _, rfl, X1.fh _ _ hca, T.clO, T.nOrder, co_order _ _, _, con.1.length, rfl, Or.inl ⟨_, SqL.of (X1.fh _ _ hoa), los.symm⟩, by show 1 ≤ sizeLine; decide, fun n nn => ?_⟩
    have X2 := X1.tmp nn (o := .lst [.int con.1.length])
    refine ⟨_, rfl, ca, CO, cdx, _, _, rfl, X2.fh _ _ hca, T.clO, T.nOrder, co_order _ _, F1, .ref oa, con.1.map (·.1), X2.fh, rfl, ⟨oa, os, rfl, X2.fh _ _ hoa, Paired.imp (fun v x => PosAt.mono X2.fh v x) po⟩, by rw [List.length_map]; omega, fun F3 H3 ea X3 hea => ?_⟩
    have lp := len_pss (con.1.map (·.1))
    rw [List.length_map] at lp
    have X4 := X2.trans X3
    refine ⟨n, ea, _, _, rfl, rfl, X3.hh _ _ upd_same, X3.fh _ _ hea, ?_, fun D nD => ?_⟩
    · rw [List.length_map]
      exact Nat.le_trans (m := 1 + 2 * 96) (Nat.add_le_add (Nat.le_refl 1) (by omega)) (by decide)
    have fD := X4.fh.free nD
    have hDn := X4.hh.free nD
    have X5 := X4.tmp nD (o := .lst ([.int con.1.length] ++ (pss (con.1.map (·.1))).map V.int))
    have up3 : ∀ {c u}, F1 c = some u → F3 c = some u := fun e => X3.ff _ _ e
    refine ⟨_, rfl, Or.inl ⟨rfl, _, SqL.of upd_same⟩, _, rfl, ca, CO, cdx, _, _, rfl, X5.fh _ _ (up3 hca), T.clO, T.nConflicts, co_conflicts _ _, _, con.2.length, rfl, Or.inl ⟨_, SqL.of (X5.fh _ _ (up3 hcfa)), lcfs.symm⟩, D, _, _, rfl, rfl, upd_same, ?_, ?_⟩
    · show ([V.int con.1.length] ++ (pss (con.1.map (·.1))).map V.int).length < sizeLine
      rw [List.length_append, List.length_map]
      exact Nat.lt_of_le_of_lt (m := 1 + 2 * 96) (Nat.add_le_add (Nat.le_refl 1) (by omega)) (by decide)
    have X6 := X5.put fD hDn (o := .lst (([.int con.1.length] ++ (pss (con.1.map (·.1))).map V.int) ++ [.int con.2.length]))
    refine ⟨_, rfl, ca, CO, cdx, _, _, rfl, X6.fh _ _ (up3 hca), T.clO, T.nConflicts, co_conflicts _ _, cfa, rfl, ⟨_, SqL.of (X6.fh _ _ (up3 hcfa))⟩, ?_⟩
    refine for_list (K := K) (a := cfa) (xs := cfs) (fun i σ H' => ∃ F2 u4, σ = [some (.ref a), some (.int b), some (.ref ca), some (.ref D), u4] ∧ Ext F0 H F2 H' ∧ Same F3 F2 ∧ F2 D = none ∧ H' D = some (.lst ((((con.1.length : Int) :: pss (con.1.map (·.1))) ++ ((con.2.length : Int) :: cfls (con.2.take i))).map V.int)))
      ⟨F3, none, rfl, X6, Same.refl F3, fD, ?_⟩ (fun i σ H' _ ⟨_, _, _, X, s, _⟩ => SqL.of (X.fh _ _ (s _ _ (up3 hcfa)))) ?_ ?_
    · rw [upd_same, List.map_append, List.map_cons, List.map_cons]
      rfl
    · rintro i y σ H' hi ⟨F2, u4, rfl, X, sF, fD2, hD⟩
      obtain ⟨x, ex, t, a1, b1, rfl, ht, p1, p2⟩ := Paired.get pcf hi
      have up2 : Same F1 H' := fun c u e => X.fh _ _ (sF _ _ (up3 e))
      have lc4 := len_cfls (con.2.take i)
      rw [List.length_take] at lc4
      have tk := cfls_take ex
      refine ⟨_, rfl, Or.inl ⟨rfl, _, SqL.of hD⟩, _, rfl, F2, .ref t, [x.1, x.2], X.fh, rfl, ⟨t, [a1, b1], rfl, up2 _ _ ht, .cons (PosAt.mono up2 _ _ p1) (.cons (PosAt.mono up2 _ _ p2) .nil)⟩, by show 2 ≤ 40000; decide, fun F4 H4 ea4 X4' hea4 => ?_⟩
      have fD4 := X4'.out fD2 hD
      refine ⟨D, ea4, _, _, rfl, rfl, X4'.hh _ _ hD, X4'.fh _ _ hea4, ?_, ?_⟩
      · rw [List.length_map, List.length_map, len_pss, List.length_append, List.length_cons, List.length_cons, lp, lc4]
        exact Nat.le_trans (m := 2 * 96 + 1 + (4 * (96 * 96) + 1) + 4) (by simp only [List.length_cons, List.length_nil]; omega) (by decide)
      · refine ⟨F4, _, rfl, (X.trans X4').put fD4 hDn, sF.trans X4'.ff, fD4, ?_⟩
        rw [upd_same, tk, ← List.map_append, List.append_assoc, List.cons_append]
        rfl
    · rintro σ H' ⟨F2, u4, rfl, X, sF, fD2, hD⟩
      rw [lcfs, List.take_length] at hD
      have Z := X.freeze hD fD2 hDn
      refine ⟨_, rfl, k'.same S Z ⟨D, rfl, ?_⟩⟩
      rw [upd_same]
      unfold pss
      rw [List.flatMap_map]
      rfl
end
end Lg
namespace Lg
open PySem PySem.Spec PyProof.Rows L2
section
variable {P : Program} {w : World} {K : PySem.W.Frag} {mg : Str → Option Value} {base : Heap} {CH CC CO CL CS : Addr}
/-! ### describe_change -/
abbrev sDes : Stmt := top 74
def nDes : List Str := ["session", "number", "change", "told", "hunk", "needed"]
theorem scDes : FnScope nDes ["session", "number"] (defScope sDes) := ⟨rfl, rfl, rfl, by decide +kernel, rfl, by decide +kernel, by decide +kernel⟩
/-- an operation on a change's number, whether there is such a change or not -/
def spN (CH CC CS : Addr) (f : Gf11.State → Nat → Gf11.State × Gf11.Result) : Sp := fun vs H Q _ => ∃ (F : Hp) (v : V) (n : Nat) (o : Own3) (s : Gf11.State), Same F H ∧ vs = [v, .int n] ∧ Sess CH CC CS F H v o s ∧ Good s ∧ OpPost CH CC CS F H v o (f s n) Q
def hkt (h : Gf11.Hunk) : List Int := pss [h.before, h.after] ++ ((h.lines.length : Int) :: lns h.lines)
def hks (t : List Gf11.Hunk) : List Int := t.flatMap hkt
theorem hks_take {t : List Gf11.Hunk} {i : Nat} {x : Gf11.Hunk} (e : t[i]? = some x) : hks (t.take (i + 1)) = hks (t.take i) ++ hkt x := by
  unfold hks
  rw [take_more e, List.flatMap_append]
  simp
theorem len_hks : ∀ {t : List Gf11.Hunk}, (∀ h ∈ t, (lns h.lines).length ≤ 104) → (hks t).length ≤ 109 * t.length
  | [], _ => Nat.zero_le _
  | x :: t, h => by
    have ih := len_hks (t := t) fun y m => h y (List.mem_cons_of_mem _ m)
    have hx := h x List.mem_cons_self
    have e : hks (x :: t) = hkt x ++ hks t := rfl
    have e2 : (hkt x).length = 4 + ((lns x.lines).length + 1) := by
      unfold hkt
      rw [List.length_append, len_pss, List.length_cons]
      rfl
    rw [e, List.length_append, e2, List.length_cons]
    omega
theorem lns_hunk {p : Nat} {c : Gf11.Change} (ok : ChangeOk p c) : ∀ h ∈ c.hunks, (lns h.lines).length ≤ 104 := fun h m => by
  have sub : ∀ x ∈ h.lines, x ∈ Gf11.insertedLines c := fun x hx => List.mem_flatMap.mpr ⟨h, m, hx⟩
  have l1 : h.lines.length ≤ (Gf11.insertedLines c).length := by
    obtain ⟨x, y, e⟩ := List.append_of_mem m
    have e2 : Gf11.insertedLines c = x.flatMap (fun h => h.lines) ++ (h.lines ++ y.flatMap fun h => h.lines) := by
      unfold Gf11.insertedLines
      rw [e, List.flatMap_append, List.flatMap_cons]
    rw [e2, List.length_append, List.length_append]
    omega
  have l8 := ok.lines
  have := lns_len fun x hx => ok.width x (sub x hx)
  omega
theorem ok_des {f : Addr} {fd : FuncData} (F : Fun K "describe_change" "describe_change" sDes f fd) (T : Txt K mg CH CC CO CL CS) (TO : TxtO mg) (TS : TxtS K CS) (L : Lib K mg CH CC CO) :
    FnOk P w K mg base CX0 4 f fd ["session", "number"] (spN CH CC CS fun s p => Gf11.step s (.change p)) := by
  have GP : FnOk P w K mg base CX0 1 L.ecp.f L.ecp.d ["positions"] spEcp := L.okEcp T
  have GE : FnOk P w K mg base CX0 1 L.ecl.f L.ecl.d ["lines"] spEcl := L.okEcl T
  have GD : FnOk P w K mg base CX0 1 L.dep.f L.dep.d ["change"] (spDep CH CC) := L.okDep T
  have bP : Binds K L.ecp.d ["positions"] [] := L.ecp.F.binds fun _ _ _ _ _ _ us hl => match us, hl with | [_], _ => rfl
  have bE : Binds K L.ecl.d ["lines"] [] := L.ecl.F.binds fun _ _ _ _ _ _ us hl => match us, hl with | [_], _ => rfl
  have bD : Binds K L.dep.d ["change"] [] := L.dep.F.binds fun _ _ _ _ _ _ us hl => match us, hl with | [_], _ => rfl
  obtain ⟨t1, g1⟩ := TO.noItem
  refine F.ok scDes (fun vs H Q E h => ?_) (fun cdv A outer s H vs Q E hr h => ⟨_,
    pss_cons (ps_if (pt_cmpR op_ge (pv 1) (pe_callB call_len (by rfl) T.len PySem.boot_len (pa_cons (pe_fld (pv 0) rfl) pa_nil)) (nomark _)) (pss_one (ps_ret (pe_lst (pa_cons (pe_glob rfl g1 (v := .int (-3)) ⟨_, rfl⟩) pa_nil)))) pss_nil)
    (pss_cons (ps_set (i := 2) scDes.nd rfl (Or.inl rfl) (pe_ix ix_list (pe_fld (pv 0) rfl) (pv 1) (fun _ _ => rfl)))
    (pss_cons (ps_set (i := 3) scDes.nd rfl (Or.inl rfl) (pe_lst (pa_cons (pe_callB call_len (by rfl) T.len PySem.boot_len (pa_cons (pe_fld (pv 2) rfl) pa_nil)) pa_nil)))
    (pss_cons (ps_for PassesOwn.never rfl (pi_list (pe_fld (pv 2) rfl)) (pg_name (i := 4) scDes.nd rfl (Or.inl rfl))
      (pss_cons (ps_expr (pe_bm PySem.F.plainAttrs_list PySem.F.slot_list_extend PySem.F.type_list_extend mt_extend (pv 3) (pa_cons (pe_call GP (hr.mono (by decide)) (by rfl) L.ecp.g L.ecp.F.kp bP .nil pass0 (pa_cons (pe_lst (pa_cons (pe_fld (pv 4) rfl) (pa_cons (pe_fld (pv 4) rfl) pa_nil))) pa_nil)) pa_nil)))
      (pss_cons (ps_expr (pe_bm PySem.F.plainAttrs_list PySem.F.slot_list_append PySem.F.type_list_append mt_append (pv 3) (pa_cons (pe_callB call_len (by rfl) T.len PySem.boot_len (pa_cons (pe_fld (pv 4) rfl) pa_nil)) pa_nil)))
      (pss_one (ps_expr (pe_bm PySem.F.plainAttrs_list PySem.F.slot_list_extend PySem.F.type_list_extend mt_extend (pv 3) (pa_cons (pe_call GE (hr.mono (by decide)) (by rfl) L.ecl.g L.ecl.F.kp bE .nil pass0 (pa_cons (pe_fld (pv 4) rfl) pa_nil)) pa_nil)))))))
    (pss_cons (ps_expr (pe_bm PySem.F.plainAttrs_list PySem.F.slot_list_append PySem.F.type_list_append mt_append (pv 3) (pa_cons (pe_callB call_len (by rfl) T.len PySem.boot_len (pa_cons (pe_fld (pv 2) rfl) pa_nil)) pa_nil)))
    (pss_cons (ps_expr (pe_bm PySem.F.plainAttrs_list PySem.F.slot_list_extend PySem.F.type_list_extend mt_extend (pv 3) (pa_cons (pe_call GP (hr.mono (by decide)) (by rfl) L.ecp.g L.ecp.F.kp bP .nil pass0 (pa_cons (pe_fld (pv 2) rfl) pa_nil)) pa_nil)))
    (pss_cons (ps_set (i := 5) scDes.nd rfl (Or.inl rfl) (pe_call GD (hr.mono (by decide)) (by rfl) L.dep.g L.dep.F.kp bD .nil pass0 (pa_cons (pv 2) pa_nil)))
    (pss_one (ps_ret (pe_op op_cat (pe_op op_cat (pv 3) (pe_lst (pa_cons (pe_callB call_len (by rfl) T.len PySem.boot_len (pa_cons (pv 5) pa_nil)) pa_nil))) (pv 5)))))))))), ?_⟩)
  · obtain ⟨F0, v, n, o, s, _, rfl, _⟩ := h
    rfl
  · obtain ⟨F0, v, n, o, st, hF, rfl, S, G, k⟩ := h
    obtain ⟨a, dx, rfl, ha⟩ := S.obj
    obtain ⟨cvs, hc, pc⟩ := S.chs
    have lc : cvs.length = st.changes.length := Paired.len pc
    have k' : OpPost CH CC CS F0 H (.ref a) o (st, match st.changes[n]? with
      | none => Gf11.ok (-3)
      | some c => ⟨((c.hunks.length : Nat) : Int), hks c.hunks ++ (((c.deleted.length : Nat) : Int) :: (pss c.deleted ++ Gf11.toInts ((Gf11.dependencies c).length :: Gf11.dependencies c)))⟩) Q := by
      have e : Gf11.step st (.change n) = (st, match st.changes[n]? with
        | none => Gf11.ok (-3)
        | some c => ⟨((c.hunks.length : Nat) : Int), hks c.hunks ++ (((c.deleted.length : Nat) : Int) :: (pss c.deleted ++ Gf11.toInts ((Gf11.dependencies c).length :: Gf11.dependencies c)))⟩) := by
        show (st, _) = (st, _)
        refine congrArg (Prod.mk st) ?_
        cases st.changes[n]? with
        | none => rfl
        | some c =>
          have eh : hks c.hunks = c.hunks.flatMap fun h => Gf11.encodePosition h.before ++ (Gf11.encodePosition h.after ++ (((h.lines.length : Nat) : Int) :: h.lines.flatMap Gf11.encodeLine)) := by
            unfold hks
            refine congrArg (fun g => c.hunks.flatMap g) (funext fun h => ?_)
            unfold hkt pss lns
            simp
          show _ = (⟨_, hks c.hunks ++ _⟩ : Gf11.Result)
          rw [eh]
          rfl
      rw [← e]
      exact k
    refine ⟨_, rfl, _, rfl, a, CS, dx, _, _, rfl, hF _ _ ha, TS.clS, TS.nChanges, se_changes _ _, _, st.changes.length, rfl, Or.inl ⟨_, SqL.of hc, lc.symm⟩, _, _, rfl, rfl, _, rfl, ?_⟩
    by_cases c1 : st.changes.length ≤ n
    · rw [List.getElem?_eq_none c1] at k'
      refine ifT (decide_eq_true (show (st.changes.length : Int) ≤ (n : Int) by omega)) ⟨by show 1 ≤ sizeLine; decide, fun t nt => ?_⟩
      exact k'.same S ((Ext.refl hF).new nt (o := .lst [.int (-3)])) ⟨t, rfl, upd_same⟩
    refine ifF (decide_eq_false (show ¬ (st.changes.length : Int) ≤ (n : Int) by omega)) ?_
    have ec := List.getElem?_eq_getElem (show n < st.changes.length by omega)
    generalize st.changes[n] = ch at ec
    rw [ec] at k'
    have k' : OpPost CH CC CS F0 H (.ref a) o (st, ⟨((ch.hunks.length : Nat) : Int), hks ch.hunks ++ (((ch.deleted.length : Nat) : Int) :: (pss ch.deleted ++ Gf11.toInts ((Gf11.dependencies ch).length :: Gf11.dependencies ch)))⟩) Q := k'
    obtain ⟨cv, ecv, hcv⟩ := Paired.at (F := ChangeAt CH CC F0) pc ec
    obtain ⟨d1, d2, d3, d4, d5, d6⟩ := good_dep G ec
    have cok := G.chg n ch ec
    have h8 := cok.few
    have h96 := cok.ndel
    have lh := lns_hunk cok
    have hcv' := hcv
    obtain ⟨xa, xdx, hv, dv, rfl, hxa, ⟨ha1, hvs, rfl, hha1, ph⟩, ⟨da1, dvs, rfl, hda1, pd⟩⟩ := hcv
    have lhv : hvs.length = ch.hunks.length := Paired.len ph
    have ldv : dvs.length = ch.deleted.length := Paired.len pd
    refine ⟨_, rfl, a, CS, dx, _, _, rfl, hF _ _ ha, TS.clS, TS.nChanges, se_changes _ _, _, rfl, o.lc, _, _, _, rfl, rfl, SqL.of hc, atI_nat ecv, ?_⟩
    refine ⟨_, rfl, xa, CC, xdx, _, _, rfl, hF _ _ hxa, T.clC, T.nHunks, ch_hunks _ _, _, ch.hunks.length, rfl, Or.inl ⟨_, SqL.of (hF _ _ hha1), lhv.symm⟩, by show 1 ≤ sizeLine; decide, fun D nD => ?_⟩
    have fD0 := hF.free nD
    have X0 := (Ext.refl hF).tmp nD (o := .lst [.int ch.hunks.length])
    refine ⟨_, rfl, xa, CC, xdx, _, _, rfl, X0.fh _ _ hxa, T.clC, T.nHunks, ch_hunks _ _, ha1, rfl, ⟨_, SqL.of (X0.fh _ _ hha1)⟩, ?_⟩
    refine for_list (K := K) (a := ha1) (xs := hvs) (fun i σ H' => ∃ F2 u4, σ = [some (.ref a), some (.int n), some (.ref xa), some (.ref D), u4, none] ∧ Ext F0 H F2 H' ∧ F2 D = none ∧ H' D = some (.lst (((ch.hunks.length : Int) :: hks (ch.hunks.take i)).map V.int)))
      ⟨F0, none, rfl, X0, fD0, upd_same⟩ (fun i σ H' _ ⟨_, _, _, X, _⟩ => SqL.of (X.fh _ _ (X.ff _ _ hha1))) ?_ ?_
    · rintro i y σ H' hi ⟨F2, u4, rfl, X, fD, hD⟩
      obtain ⟨hk, ehk, a2, dx2, bb, ff, ll, rfl, ha2, pb, pf, hll⟩ := Paired.get ph hi
      obtain ⟨la, lvs, rfl, hla, pl⟩ := id hll
      have llv : lvs.length = hk.lines.length := Paired.len pl
      have tk := hks_take ehk
      have mh := List.mem_of_getElem? ehk
      have lnh := lh hk mh
      have hl8 : hk.lines.length ≤ 104 := by
        have e : ∀ t : List Gf11.Line, t.length ≤ (lns t).length := fun t => by
          induction t with
          | nil => exact Nat.zero_le _
          | cons x t ih =>
            have e : lns (x :: t) = Gf11.encodeLine x ++ lns t := rfl
            rw [e, List.length_append]
            have : 1 ≤ (Gf11.encodeLine x).length := Nat.le_add_left 1 _
            rw [List.length_cons]
            omega
        exact Nat.le_trans (e _) lnh
      have bd : (hks (ch.hunks.take i)).length ≤ 109 * 8 := by
        refine Nat.le_trans (len_hks fun h m => lh h (List.mem_of_mem_take m)) (Nat.mul_le_mul (Nat.le_refl _) ?_)
        rw [List.length_take]
        omega
      generalize hks (ch.hunks.take i) = us at hD tk bd
      have up : Same F0 H' := fun c u e => X.fh _ _ (X.ff _ _ e)
      -- told.extend(encode_positions([hunk.before, hunk.after]))
      refine ⟨_, rfl, Or.inl ⟨rfl, _, SqL.of hD⟩, _, rfl, a2, CH, dx2, _, _, rfl, up _ _ ha2, T.clH, T.nBefore, hk_before _ _ _, _, rfl, a2, CH, dx2, _, _, rfl, up _ _ ha2, T.clH, T.nAfter, hk_after _ _ _, by show 2 ≤ sizeLine; decide, fun m nm => ?_⟩
      have X1 := X.tmp nm (o := .lst [bb, ff])
      have up1 : Same F0 (upd H' m (.lst [bb, ff])) := fun c u e => X1.fh _ _ (X.ff _ _ e)
      have hD1 := same_new (o := HO.lst [bb, ff]) (Same.refl H') nm _ _ hD
      refine ⟨F2, .ref m, [hk.before, hk.after], X1.fh, rfl, ⟨m, [bb, ff], rfl, upd_same, .cons (PosAt.mono up1 _ _ pb) (.cons (PosAt.mono up1 _ _ pf) .nil)⟩, by show 2 ≤ 40000; decide, fun F4 H4 ea X4 hea => ?_⟩
      have X5 := X1.trans X4
      have fD4 := X4.out fD hD1
      have hD4 := X4.hh _ _ hD1
      refine ⟨D, ea, _, _, rfl, rfl, hD4, X4.fh _ _ hea, ?_, ?_⟩
      · rw [List.length_map, List.length_map, len_pss, List.length_cons]
        exact Nat.le_trans (m := 109 * 8 + 1 + 4) (by simp only [List.length_cons, List.length_nil]; omega) (by decide)
      have X6 := X5.put fD4 nD (o := .lst ((((ch.hunks.length : Int) :: us).map V.int) ++ (pss [hk.before, hk.after]).map V.int))
      have up6 := fun {c u} (e : F0 c = some u) => X6.fh _ _ (X5.ff _ _ e)
      -- told.append(len(hunk.inserted))
      refine ⟨_, rfl, Or.inl ⟨rfl, _, SqL.of upd_same⟩, _, rfl, a2, CH, dx2, _, _, rfl, up6 ha2, T.clH, T.nInserted, hk_inserted _ _ _, _, hk.lines.length, rfl, Or.inl ⟨_, SqL.of (up6 hla), llv.symm⟩, D, _, _, rfl, rfl, upd_same, ?_, ?_⟩
      · rw [List.length_append, List.length_map, List.length_map, len_pss, List.length_cons]
        exact Nat.lt_of_le_of_lt (m := 109 * 8 + 1 + 4) (by simp only [List.length_cons, List.length_nil]; omega) (by decide)
      have X7 := X6.put fD4 nD (o := .lst (((((ch.hunks.length : Int) :: us).map V.int) ++ (pss [hk.before, hk.after]).map V.int) ++ [.int hk.lines.length]))
      have up7 := fun {c u} (e : F0 c = some u) => X7.fh _ _ (X5.ff _ _ e)
      have hll7 : LstAt LineAt F4 (.ref la) hk.lines := LstAt.mono (fun s => LineAt.mono s) X5.ff hll
      -- told.extend(encode_lines(hunk.inserted))
      refine ⟨_, rfl, Or.inl ⟨rfl, _, SqL.of upd_same⟩, _, rfl, a2, CH, dx2, _, _, rfl, up7 ha2, T.clH, T.nInserted, hk_inserted _ _ _, F4, .ref la, hk.lines, X7.fh, rfl, hll7, Nat.le_trans lnh (by decide), fun F8 H8 ea8 X8 hea8 => ?_⟩
      have fD8 := X8.out fD4 upd_same
      refine ⟨D, ea8, _, _, rfl, rfl, X8.hh _ _ upd_same, X8.fh _ _ hea8, ?_, ?_⟩
      · rw [List.length_append, List.length_append, List.length_map, List.length_map, List.length_map, len_pss, List.length_cons]
        exact Nat.le_trans (m := 109 * 8 + 1 + 4 + 1 + 104) (by simp only [List.length_cons, List.length_nil]; omega) (by decide)
      refine ⟨F8, _, rfl, (X7.trans X8).put fD8 nD, fD8, ?_⟩
      rw [upd_same, tk]
      unfold hkt
      simp only [List.map_append, List.map_cons, List.append_assoc, List.cons_append, List.nil_append]
    · rintro σ H' ⟨F2, u4, rfl, X, fD, hD⟩
      rw [lhv, List.take_length] at hD
      have bd : (hks ch.hunks).length ≤ 109 * 8 := Nat.le_trans (len_hks lh) (Nat.mul_le_mul (Nat.le_refl _) h8)
      have ld5 : (Gf11.dependencies ch).length ≤ 12 := d5
      generalize hks ch.hunks = us at hD bd k'
      have up := fun {c u} (e : F0 c = some u) => X.fh _ _ (X.ff _ _ e)
      -- told.append(len(change.deleted))
      refine ⟨_, rfl, Or.inl ⟨rfl, _, SqL.of hD⟩, _, rfl, xa, CC, xdx, _, _, rfl, up hxa, T.clC, T.nDeleted, ch_deleted _ _, _, ch.deleted.length, rfl, Or.inl ⟨_, SqL.of (up hda1), ldv.symm⟩, D, _, _, rfl, rfl, hD, ?_, ?_⟩
      · rw [List.length_map, List.length_cons]
        exact Nat.lt_of_le_of_lt (m := 109 * 8 + 1) (by omega) (by decide)
      have X1 := X.put fD nD (o := .lst ((((ch.hunks.length : Int) :: us).map V.int) ++ [.int ch.deleted.length]))
      have up1 := fun {c u} (e : F0 c = some u) => X1.fh _ _ (X.ff _ _ e)
      -- told.extend(encode_positions(change.deleted))
      refine ⟨_, rfl, Or.inl ⟨rfl, _, SqL.of upd_same⟩, _, rfl, xa, CC, xdx, _, _, rfl, up1 hxa, T.clC, T.nDeleted, ch_deleted _ _, F2, .ref da1, ch.deleted, X1.fh, rfl, ⟨da1, dvs, rfl, up1 hda1, Paired.imp (fun v x => PosAt.mono (fun c u e => up1 e) v x) pd⟩, by omega, fun F4 H4 ea X4 hea => ?_⟩
      have X5 := X1.trans X4
      have fD4 := X4.out fD upd_same
      refine ⟨D, ea, _, _, rfl, rfl, X4.hh _ _ upd_same, X4.fh _ _ hea, ?_, ?_⟩
      · rw [List.length_append, List.length_map, List.length_map, len_pss, List.length_cons]
        exact Nat.le_trans (m := 109 * 8 + 1 + 1 + 2 * 96) (by simp only [List.length_cons, List.length_nil]; omega) (by decide)
      have X6 := X5.put fD4 nD (o := .lst (((((ch.hunks.length : Int) :: us).map V.int) ++ [.int ch.deleted.length]) ++ (pss ch.deleted).map V.int))
      -- needed = dependencies(change)
      refine ⟨_, rfl, F4, .ref xa, ch, X6.fh, rfl, ChangeAt.mono X5.ff _ _ hcv', d1, d2, Nat.lt_of_le_of_lt d5 (by decide), fun F7 H7 nv X7 hnv => ?_⟩
      obtain ⟨q2, rfl, hq2⟩ := hnv
      have hD7 := X7.hh _ _ (upd_same (H := H4) (a := D) (o := .lst (((((ch.hunks.length : Int) :: us).map V.int) ++ [.int ch.deleted.length]) ++ (pss ch.deleted).map V.int)))
      have X8 := X6.trans X7
      -- told + [len(needed)] + needed
      refine ⟨_, rfl, _, rfl, _, (Gf11.dependencies ch).length, rfl, Or.inl ⟨_, SqL.of (X7.fh _ _ hq2), (nV_len _).symm⟩, by show 1 ≤ sizeLine; decide, fun m nm => ?_⟩
      have X9 := X8.tmp nm (o := .lst [.int (Gf11.dependencies ch).length])
      have lal : ((((ch.hunks.length : Int) :: us).map V.int ++ [V.int ch.deleted.length]) ++ (pss ch.deleted).map V.int).length ≤ 109 * 8 + 1 + 1 + 2 * 96 := by
        rw [List.length_append, List.length_append, List.length_map, List.length_map, len_pss, List.length_cons]
        simp only [List.length_cons, List.length_nil]
        omega
      refine ⟨D, m, _, _, rfl, rfl, same_new (Same.refl H7) nm _ _ hD7, upd_same, ?_, fun p np => ?_⟩
      · exact Nat.le_trans (Nat.add_le_add lal (Nat.le_refl 1)) (by decide)
      have X10 := X9.tmp np (o := .lst (((((ch.hunks.length : Int) :: us).map V.int ++ [V.int ch.deleted.length]) ++ (pss ch.deleted).map V.int) ++ [.int (Gf11.dependencies ch).length]))
      refine ⟨_, rfl, p, q2, _, _, rfl, rfl, upd_same, X10.fh _ _ hq2, ?_, fun r nr => ?_⟩
      · rw [List.length_append, nV_len]
        exact Nat.le_trans (Nat.add_le_add (Nat.add_le_add lal (Nat.le_refl 1)) ld5) (by decide)
      refine k'.same S (X10.new nr (o := .lst ((((((ch.hunks.length : Int) :: us).map V.int ++ [V.int ch.deleted.length]) ++ (pss ch.deleted).map V.int) ++ [.int (Gf11.dependencies ch).length]) ++ nV (Gf11.dependencies ch)))) ⟨r, rfl, ?_⟩
      rw [upd_same]
      unfold nV Gf11.toInts
      simp only [List.map_append, List.map_cons, List.append_assoc, List.cons_append, List.nil_append]
end
end Lg
namespace Lg
open PySem PySem.Spec PyProof.Rows L2
section
variable {P : Program} {w : World} {K : PySem.W.Frag} {mg : Str → Option Value} {base : Heap} {CH CC CO CL CS : Addr}
/-! ### list_requirements -/
abbrev sLrq : Stmt := top 75
def nLrq : List Str := ["session", "number", "needed"]
theorem scLrq : FnScope nLrq ["session", "number"] (defScope sLrq) := ⟨rfl, rfl, rfl, by decide +kernel, rfl, by decide +kernel, by decide +kernel⟩
theorem ok_lrq {f : Addr} {fd : FuncData} (F : Fun K "list_requirements" "list_requirements" sLrq f fd) (T : Txt K mg CH CC CO CL CS) (TO : TxtO mg) (TS : TxtS K CS) (L : Lib K mg CH CC CO) :
    FnOk P w K mg base CX0 4 f fd ["session", "number"] (spN CH CC CS fun s p => Gf13.step s (.requirements p)) := by
  have GR : FnOk P w K mg base CX0 2 L.req.f L.req.d ["changes", "number"] (spReq CH CC) := L.okReq T
  have bR : Binds K L.req.d ["changes", "number"] [] := L.req.F.binds fun _ _ _ _ _ _ us hl => match us, hl with | [_, _], _ => rfl
  obtain ⟨t1, g1⟩ := TO.noItem
  refine F.ok scLrq (fun vs H Q E h => ?_) (fun cdv A outer s H vs Q E hr h => ⟨_,
    pss_cons (ps_if (pt_cmpR op_ge (pv 1) (pe_callB call_len (by rfl) T.len PySem.boot_len (pa_cons (pe_fld (pv 0) rfl) pa_nil)) (nomark _)) (pss_one (ps_ret (pe_lst (pa_cons (pe_glob rfl g1 (v := .int (-3)) ⟨_, rfl⟩) pa_nil)))) pss_nil)
    (pss_cons (ps_set (i := 2) scLrq.nd rfl (Or.inl rfl) (pe_call GR (hr.mono (by decide)) (by rfl) L.req.g L.req.F.kp bR .nil pass0 (pa_cons (pe_fld (pv 0) rfl) (pa_cons (pv 1) pa_nil))))
    (pss_one (ps_ret (pe_op op_cat (pe_lst (pa_cons (pe_callB call_len (by rfl) T.len PySem.boot_len (pa_cons (pv 2) pa_nil)) pa_nil)) (pv 2))))), ?_⟩)
  · obtain ⟨F0, v, n, o, s, _, rfl, _⟩ := h
    rfl
  · obtain ⟨F0, v, n, o, st, hF, rfl, S, G, k⟩ := h
    obtain ⟨a, dx, rfl, ha⟩ := S.obj
    obtain ⟨cvs, hc, pc⟩ := S.chs
    have lc : cvs.length = st.changes.length := Paired.len pc
    have l12 := G.few
    have k' : OpPost CH CC CS F0 H (.ref a) o (st, if st.changes.length ≤ n then Gf13.ok (-3) else Gf13.listResult (Gf13.allDependencies st n)) Q := k
    refine ⟨_, rfl, _, rfl, a, CS, dx, _, _, rfl, hF _ _ ha, TS.clS, TS.nChanges, se_changes _ _, _, st.changes.length, rfl, Or.inl ⟨_, SqL.of hc, lc.symm⟩, _, _, rfl, rfl, _, rfl, ?_⟩
    by_cases c1 : st.changes.length ≤ n
    · rw [if_pos c1] at k'
      refine ifT (decide_eq_true (show (st.changes.length : Int) ≤ (n : Int) by omega)) ⟨by show 1 ≤ sizeLine; decide, fun t nt => ?_⟩
      exact k'.same S ((Ext.refl hF).new nt (o := .lst [.int (-3)])) ⟨t, rfl, upd_same⟩
    rw [if_neg c1] at k'
    refine ifF (decide_eq_false (show ¬ (st.changes.length : Int) ≤ (n : Int) by omega)) ?_
    refine ⟨_, rfl, a, CS, dx, _, _, rfl, hF _ _ ha, TS.clS, TS.nChanges, se_changes _ _, _, rfl, F0, .ref o.lc, n, st, hF, rfl, S.changesAt, G, Nat.lt_of_not_le c1, fun F1 H1 nv X1 hnv => ?_⟩
    obtain ⟨q2, rfl, hq2⟩ := hnv
    have ln := len_all G (p := n)
    refine ⟨_, rfl, _, (Gf13.allDependencies st n).length, rfl, Or.inl ⟨_, SqL.of (X1.fh _ _ hq2), (nV_len _).symm⟩, by show 1 ≤ sizeLine; decide, fun m nm => ?_⟩
    have X2 := X1.tmp nm (o := .lst [.int (Gf13.allDependencies st n).length])
    refine ⟨_, rfl, m, q2, _, _, rfl, rfl, upd_same, X2.fh _ _ hq2, ?_, fun p np => ?_⟩
    · rw [nV_len]
      exact Nat.le_trans (m := 1 + 12) (Nat.add_le_add (Nat.le_refl 1) (by omega)) (by decide)
    refine k'.same S (X2.new np (o := .lst ([.int (Gf13.allDependencies st n).length] ++ nV (Gf13.allDependencies st n)))) ⟨p, rfl, ?_⟩
    rw [upd_same]
    rfl
/-! ### explain_line -/
/-- the constants of reports.py -/
structure TxtR (mg : Str → Option Value) : Prop where
  del : ∃ t, mg "LINE_DELETED" = some (.int 0 t)
  vis : ∃ t, mg "LINE_VISIBLE" = some (.int 1 t)
  abs : ∃ t, mg "LINE_ABSENT" = some (.int 2 t)
abbrev sExp : Stmt := top 76
def nExp : List Str := ["session", "branch", "change", "number", "changes", "members", "deleting", "member"]
theorem scExp : FnScope nExp ["session", "branch", "change", "number"] (defScope sExp) := ⟨rfl, rfl, rfl, by decide +kernel, rfl, by decide +kernel, by decide +kernel⟩
/-- an operation on a branch with two numbers more -/
def spB3 (CH CC CS : Addr) (f : Gf11.State → Nat → Nat → Nat → Gf11.State × Gf11.Result) : Sp := fun vs H Q _ => ∃ (F : Hp) (v : V) (b c n : Nat) (o : Own3) (s : Gf11.State) (l : List Nat), Same F H ∧ vs = [v, .int b, .int c, .int n] ∧ Sess CH CC CS F H v o s ∧ Good s ∧ s.branches[b]? = some l ∧ OpPost CH CC CS F H v o (f s b c n) Q
theorem ok_exp {f : Addr} {fd : FuncData} (F : Fun K "explain_line" "explain_line" sExp f fd) (T : Txt K mg CH CC CO CL CS) (TO : TxtO mg) (TS : TxtS K CS) (TR : TxtR mg) (L : Lib K mg CH CC CO) :
    FnOk P w K mg base CX0 4 f fd ["session", "branch", "change", "number"] (spB3 CH CC CS fun s b p i => Gf13.step s (.explain b p i)) := by
  have GI : FnOk P w K mg base CX0 1 L.ins.f L.ins.d ["change"] (spIns CH CC) := L.okIns T
  have bI : Binds K L.ins.d ["change"] [] := L.ins.F.binds fun _ _ _ _ _ _ us hl => match us, hl with | [_], _ => rfl
  obtain ⟨t1, g1⟩ := TO.noItem
  obtain ⟨t2, g2⟩ := TR.abs
  obtain ⟨t3, g3⟩ := TR.vis
  obtain ⟨t4, g4⟩ := TR.del
  refine F.ok scExp (fun vs H Q E h => ?_) (fun cdv A outer s H vs Q E hr h => ⟨_,
    pss_cons (ps_set (i := 4) scExp.nd rfl (Or.inr rfl) (pe_fld (pv 0) rfl))
    (pss_cons (ps_if (PW.pt (pw_or (pt_cmpR op_ge (pv 2) (pe_callB call_len (by rfl) T.len PySem.boot_len (pa_cons (pv 4) pa_nil)) (nomark _))
        (pw_or1 (pt_cmpR op_ge (pv 3) (pe_callB call_len (by rfl) T.len PySem.boot_len (pa_cons (pe_call GI (hr.mono (by decide)) (by rfl) L.ins.g L.ins.F.kp bI .nil pass0 (pa_cons (pe_ix ix_list (pv 4) (pv 2) (fun _ _ => rfl)) pa_nil)) pa_nil)) (nomark _)))))
      (pss_one (ps_ret (pe_lst (pa_cons (pe_glob rfl g1 (v := .int (-3)) ⟨_, rfl⟩) pa_nil)))) pss_nil)
    (pss_cons (ps_set (i := 5) scExp.nd rfl (Or.inl rfl) (pe_ix ix_list (pe_fld (pv 0) rfl) (pv 1) (fun _ _ => rfl)))
    (pss_cons (ps_if (pt_cmpR op_notIn_seq (pv 2) (pv 5) (by rfl)) (pss_one (ps_ret (pe_lst (pa_cons (pe_glob rfl g2 (v := .int 2) ⟨_, rfl⟩) pa_nil)))) pss_nil)
    (pss_cons (ps_setLc (i := 6) (own := [("member", 7)]) (g := gName 7) (tt := tTest (tOp (rInD K) (tTup (tCons (tVar 2) (tCons (tVar 3) tNil))) (tFld K (tOp (rIxL K) (tVar 4) (tVar 7)) "deleted"))) (te := tVar 7) rfl scExp.nd rfl rfl (sw_true rfl rfl rfl (by decide +kernel)) (pi_list (pv 5))
        (blkOk_by (N := nExp) (sc := defScope sExp) (by decide +kernel)) (fun _ _ _ _ _ => pg_name (i := 7) scExp.nd rfl (Or.inl rfl))
        (fun _ _ _ _ _ => pts_one (pt_cmpR (op_inD (units65 hr)) (pe_tup (pa_cons (pv 2) (pa_cons (pv 3) pa_nil))) (pe_fld (pe_ix ix_list (pv 4) (pv 7) (fun _ _ => rfl)) rfl) (by rfl))) (fun _ _ _ _ _ => pv 7))
    (pss_cons (ps_if (pt_not (pt_truth (pv 6) (by intro _; rfl))) (pss_one (ps_ret (pe_lst (pa_cons (pe_glob rfl g3 (v := .int 1) ⟨_, rfl⟩) pa_nil)))) pss_nil)
    (pss_one (ps_ret (pe_op op_cat (pe_lst (pa_cons (pe_glob rfl g4 (v := .int 0) ⟨_, rfl⟩) (pa_cons (pe_callB call_len (by rfl) T.len PySem.boot_len (pa_cons (pv 6) pa_nil)) pa_nil))) (pv 6))))))))), ?_⟩)
  · obtain ⟨F0, v, b, c, n, o, s, l, _, rfl, _⟩ := h
    rfl
  · obtain ⟨F0, v, b, p, n, o, st, l, hF, rfl, S, G, el, k⟩ := h
    obtain ⟨a, dx, rfl, ha⟩ := S.obj
    obtain ⟨q, eq, hq⟩ := S.branchAt el
    obtain ⟨ul, xl, ll⟩ := G.members el
    obtain ⟨cvs, hc, pc⟩ := S.chs
    have lc : cvs.length = st.changes.length := Paired.len pc
    have l12 := G.few
    have at1 : atI (o.bas.map V.ref) (b : Int) = some (.ref q) := atI_nat (by rw [List.getElem?_map, eq]; rfl)
    have ek : Gf13.step st (.explain b p n) = (st, if st.changes.length ≤ p then Gf13.ok (-3) else if ((st.changes[p]?).map fun c => decide (n < (Gf11.insertedLines c).length)).getD false = false then Gf13.ok (-3) else
        if l.contains p = false then Gf13.ok 2 else if (Gf13.deletersOf st l (.line p n)).isEmpty = true then Gf13.ok 1 else ⟨0, Gf13.toInts ((Gf13.deletersOf st l (.line p n)).length :: Gf13.deletersOf st l (.line p n))⟩) := by
      show Gf13.withBranch st b _ = _
      unfold Gf13.withBranch
      rw [el]
    have k' : OpPost CH CC CS F0 H (.ref a) o (Gf13.step st (.explain b p n)) Q := k
    rw [ek] at k'
    refine ⟨_, rfl, a, CS, dx, _, _, rfl, hF _ _ ha, TS.clS, TS.nChanges, se_changes _ _, ?_⟩
    refine ⟨_, rfl, _, rfl, _, st.changes.length, rfl, Or.inl ⟨_, SqL.of hc, lc.symm⟩, _, _, rfl, rfl, _, rfl, ?_⟩
    by_cases c1 : st.changes.length ≤ p
    · rw [if_pos c1] at k'
      refine ifT (decide_eq_true (show (st.changes.length : Int) ≤ (p : Int) by omega)) (ifT rfl ⟨by show 1 ≤ sizeLine; decide, fun t nt => ?_⟩)
      exact k'.same S ((Ext.refl hF).new nt (o := .lst [.int (-3)])) ⟨t, rfl, upd_same⟩
    rw [if_neg c1] at k'
    have ec := List.getElem?_eq_getElem (show p < st.changes.length by omega)
    generalize st.changes[p] = ch at ec
    rw [ec] at k'
    obtain ⟨cv, ecv, hcv⟩ := Paired.at (F := ChangeAt CH CC F0) pc ec
    obtain ⟨d1, d2, d3, d4, d5, d6⟩ := good_dep G ec
    refine ifF (decide_eq_false (show ¬ (st.changes.length : Int) ≤ (p : Int) by omega)) ?_
    refine ⟨_, rfl, _, rfl, _, rfl, o.lc, _, _, _, rfl, rfl, SqL.of hc, atI_nat ecv, F0, cv, ch, hF, rfl, hcv, Nat.le_trans d6 (by decide), fun F1 H1 iv X1 hiv => ?_⟩
    obtain ⟨ia, ivs, rfl, hia, pi⟩ := hiv
    have li : ivs.length = (Gf11.insertedLines ch).length := Paired.len pi
    refine ⟨_, (Gf11.insertedLines ch).length, rfl, Or.inl ⟨_, SqL.of (X1.fh _ _ hia), li.symm⟩, _, _, rfl, rfl, _, rfl, ?_⟩
    by_cases c2 : (Gf11.insertedLines ch).length ≤ n
    · rw [if_pos (show ((some ch).map fun c => decide (n < (Gf11.insertedLines c).length)).getD false = false from decide_eq_false (by omega))] at k'
      refine ifT (decide_eq_true (show ((Gf11.insertedLines ch).length : Int) ≤ (n : Int) by omega)) ⟨by show 1 ≤ sizeLine; decide, fun t nt => ?_⟩
      exact k'.same S (X1.new nt (o := .lst [.int (-3)])) ⟨t, rfl, upd_same⟩
    rw [if_neg (show ¬ ((some ch).map fun c => decide (n < (Gf11.insertedLines c).length)).getD false = false by
      show ¬ decide (n < (Gf11.insertedLines ch).length) = false
      rw [decide_eq_true (show n < (Gf11.insertedLines ch).length by omega)]
      decide)] at k'
    refine ifF (decide_eq_false (show ¬ ((Gf11.insertedLines ch).length : Int) ≤ (n : Int) by omega)) ?_
    have S1 := S.ext X1
    -- members
    refine ⟨_, rfl, a, CS, dx, _, _, rfl, X1.fh _ _ (X1.ff _ _ ha), TS.clS, TS.nBranches, se_branches _ _, _, rfl, o.lb, _, _, _, rfl, rfl, SqL.of S1.brs, at1, ?_⟩
    refine ⟨_, rfl, _, rfl, q, _, rfl, Or.inl (SqL.of (X1.hh _ _ hq)), rfl, flat_nV l, _, rfl, ?_⟩
    rw [inV_nV]
    by_cases c3 : l.contains p = false
    · rw [if_pos c3] at k'
      refine ifT (by rw [c3]; rfl) ⟨by show 1 ≤ sizeLine; decide, fun t nt => ?_⟩
      exact k'.same S (X1.new nt (o := .lst [.int 2])) ⟨t, rfl, upd_same⟩
    rw [if_neg c3] at k'
    refine ifF (by rw [Bool.not_eq_false] at c3; rw [c3]; rfl) ?_
    -- deleting
    refine ⟨_, rfl, q, rfl, ⟨_, SqL.of (X1.hh _ _ hq)⟩, fun D nD => ?_⟩
    have nF := X1.fh.free nD
    have nH := X1.hh.free nD
    refine lc_list (K := K) (a := q) (xs := nV l) (fun i H2 => Ext F0 H F1 H2 ∧ H2 D = some (.lst (nV (Gf13.deletersOf st (l.take i) (.line p n)))))
      ⟨X1.tmp nD, upd_same⟩ (fun i H2 _ ⟨X, _⟩ => SqL.of (X.hh _ _ hq)) ?_ ?_
    · rintro i y H2 hi ⟨X, hD⟩
      obtain ⟨m, em, rfl⟩ := nV_get hi
      have lm := xl m (List.mem_of_getElem? em)
      have ecm := List.getElem?_eq_getElem lm
      generalize st.changes[m] = cm at ecm
      obtain ⟨mv, emv, hmv⟩ := Paired.at (F := ChangeAt CH CC F0) pc ecm
      obtain ⟨xa, xdx, hv, dv, rfl, hxa, _, ⟨da, dvs, rfl, hda, pd⟩⟩ := hmv
      have up : Same F0 H2 := fun c u e => X.fh _ _ (X.ff _ _ e)
      refine ⟨rfl, _, rfl, _, rfl, by show 2 ≤ sizeLine; decide, fun t nt => ?_⟩
      have X3 := X.tmp nt (o := .tup [.int p, .int n])
      have hD3 := same_new (o := HO.tup [.int p, .int n]) (Same.refl H2) nt _ _ hD
      have up3 : Same F0 (upd H2 t (.tup [.int p, .int n])) := fun c u e => X3.fh _ _ (X.ff _ _ e)
      have ht : PosAt (upd H2 t (.tup [.int p, .int n])) (.ref t) (.line p n) := ⟨t, rfl, by rw [upd_same, pos_line]⟩
      refine ⟨_, rfl, _, rfl, o.lc, _, _, _, rfl, rfl, SqL.of (X3.hh _ _ hc), atI_nat emv, xa, CC, xdx, _, _, rfl, up3 _ _ hxa, T.clC, T.nDeleted, ch_deleted _ _, dPos (.line p n), cm.deleted.map dPos, dp_pos ht, Dp.lst (SqL.of (up3 _ _ hda)) (dp_all (R := PosAt (upd H2 t (.tup [.int p, .int n]))) (fun v x h => dp_pos h) (Paired.imp (fun v x h => PosAt.mono up3 v x h) pd)), shaped_pos _, shaped_list _ pos_lay _, _, rfl, ?_⟩
      have e : (cm.deleted.map dPos).any (fun z => PyData.eqv z (dPos (.line p n))) = cm.deleted.contains (.line p n) := by
        rw [List.any_map, List.contains_eq_any_beq]
        congr 1
        funext z
        show PyData.eqv (dPos z) (dPos (.line p n)) = ((.line p n : Gf11.Position) == z)
        rw [eqv_pos]
        show decide (z = .line p n) = decide ((.line p n : Gf11.Position) = z)
        exact decide_eq_decide.mpr ⟨fun h => h.symm, fun h => h.symm⟩
      rw [e]
      have tk : Gf13.deletersOf st (l.take (i + 1)) (.line p n) = Gf13.deletersOf st (l.take i) (.line p n) ++ if cm.deleted.contains (.line p n) = true then [m] else [] := by
        unfold Gf13.deletersOf
        rw [filter_more em, ecm]
        rfl
      by_cases h : cm.deleted.contains (.line p n) = true
      · rw [if_pos h] at tk
        refine ifT h ⟨_, rfl, _, hD3, ?_, X3.put nF nH, ?_⟩
        · rw [nV_len]
          have h1 : (Gf13.deletersOf st (l.take i) (.line p n)).length ≤ (l.take i).length := List.length_filter_le _ _
          rw [List.length_take] at h1
          exact Nat.lt_of_le_of_lt (m := 12) (by omega) (by decide)
        · rw [upd_same, tk, nV_app]
          rfl
      · rw [if_neg h] at tk
        rw [List.append_nil] at tk
        exact ifF (by rw [Bool.not_eq_true] at h; exact h) ⟨X3, by rw [tk]; exact hD3⟩
    · rintro H2 ⟨X, hD⟩
      rw [nV_len, List.take_length] at hD
      have la : (Gf13.deletersOf st l (.line p n)).length ≤ l.length := List.length_filter_le _ _
      generalize Gf13.deletersOf st l (.line p n) = del at hD la k'
      refine ⟨_, rfl, _, Or.inl ⟨_, SqL.of hD, rfl⟩, ?_⟩
      cases del with
      | nil =>
        rw [if_pos (show ([] : List Nat).isEmpty = true from rfl)] at k'
        refine ifT rfl ⟨by show 1 ≤ sizeLine; decide, fun t nt => ?_⟩
        exact k'.same S (X.new nt (o := .lst [.int 1])) ⟨t, rfl, upd_same⟩
      | cons m0 del =>
        rw [if_neg (show ¬ (m0 :: del).isEmpty = true from fun z => nomatch z)] at k'
        refine ifF rfl ⟨_, rfl, _, _, rfl, Or.inl ⟨_, SqL.of hD, rfl⟩, by show 2 ≤ sizeLine; decide, fun n1 nn1 => ?_⟩
        have X3 := X.tmp nn1 (o := .lst [.int 0, .int (nV (m0 :: del)).length])
        refine ⟨_, rfl, n1, D, _, _, rfl, rfl, upd_same, same_new (Same.refl H2) nn1 _ _ hD, ?_, fun n2 nn2 => ?_⟩
        · rw [nV_len]
          exact Nat.le_trans (m := 2 + 12) (Nat.add_le_add (Nat.le_refl 2) (by omega)) (by decide)
        · refine k'.same S (X3.new nn2 (o := .lst ([.int 0, .int (nV (m0 :: del)).length] ++ nV (m0 :: del)))) ⟨n2, rfl, ?_⟩
          rw [upd_same, nV_len]
          rfl
end
end Lg
namespace Lg
open PySem PySem.Spec PyProof.Rows L2
section
variable {P : Program} {w : World} {K : PySem.W.Frag} {mg : Str → Option Value} {base : Heap} {CH CC CO CL CS : Addr}
/-! ### apply_with_requirements -/
abbrev sApr : Stmt := top 64
def nApr : List Str := ["session", "branch", "change", "members", "needed", "added", "number"]
theorem scApr : FnScope nApr ["session", "branch", "change"] (defScope sApr) := ⟨rfl, rfl, rfl, by decide +kernel, rfl, by decide +kernel, by decide +kernel⟩
theorem ok_apr {f : Addr} {fd : FuncData} (F : Fun K "apply_with_requirements" "apply_with_requirements" sApr f fd) (T : Txt K mg CH CC CO CL CS) (TO : TxtO mg) (TS : TxtS K CS) (L : Lib K mg CH CC CO) :
    FnOk P w K mg base CX0 3 f fd ["session", "branch", "change"] (spB2 CH CC CS fun s b p => Gf13.step s (.applyWithDependencies b p)) := by
  have GR : FnOk P w K mg base CX0 2 L.req.f L.req.d ["changes", "number"] (spReq CH CC) := L.okReq T
  have bR : Binds K L.req.d ["changes", "number"] [] := L.req.F.binds fun _ _ _ _ _ _ us hl => match us, hl with | [_, _], _ => rfl
  obtain ⟨t1, g1⟩ := TO.noItem
  obtain ⟨t2, g2⟩ := TO.same
  refine F.ok scApr (fun vs H Q E h => ?_) (fun cdv A outer s H vs Q E hr h => ⟨_,
    pss_cons (ps_set (i := 3) scApr.nd rfl (Or.inr rfl) (pe_ix ix_list (pe_fld (pv 0) rfl) (pv 1) (fun _ _ => rfl)))
    (pss_cons (ps_if (pt_cmpR op_ge (pv 2) (pe_callB call_len (by rfl) T.len PySem.boot_len (pa_cons (pe_fld (pv 0) rfl) pa_nil)) (nomark _)) (pss_one (ps_ret (pe_lst (pa_cons (pe_glob rfl g1 (v := .int (-3)) ⟨_, rfl⟩) pa_nil)))) pss_nil)
    (pss_cons (ps_if (pt_cmpR op_in_seq (pv 2) (pv 3) (by rfl)) (pss_one (ps_ret (pe_lst (pa_cons (pe_glob rfl g2 (v := .int (-6)) ⟨_, rfl⟩) pa_nil)))) pss_nil)
    (pss_cons (ps_set (i := 4) scApr.nd rfl (Or.inl rfl) (pe_call GR hr (by rfl) L.req.g L.req.F.kp bR .nil pass0 (pa_cons (pe_fld (pv 0) rfl) (pa_cons (pv 2) pa_nil))))
    (pss_cons (ps_setLc (i := 5) (own := [("number", 6)]) (g := gName 6) (tt := tTest (tOp (rIn K true) (tVar 6) (tVar 3))) (te := tVar 6) rfl scApr.nd rfl rfl (sw_true rfl rfl rfl (by decide +kernel)) (pi_list (pv 4))
        (blkOk_by (N := nApr) (sc := defScope sApr) (by decide +kernel)) (fun _ _ _ _ _ => pg_name (i := 6) scApr.nd rfl (Or.inl rfl)) (fun _ _ _ _ _ => pts_one (pt_cmpR op_notIn_seq (pv 6) (pv 3) (by rfl))) (fun _ _ _ _ _ => pv 6))
    (pss_cons (ps_asg (pe_callB cr_sortedI (by rfl) T.sorted (by decide +kernel) (pa_cons (pe_op op_cat (pv 3) (pv 5)) pa_nil)) (pg_sub (pe_fld (pv 0) rfl) (pv 1) set_list))
    (pss_one (ps_ret (pe_op op_cat (pe_lst (pa_cons (pe_callB call_len (by rfl) T.len PySem.boot_len (pa_cons (pv 5) pa_nil)) pa_nil)) (pv 5))))))))), ?_⟩)
  · obtain ⟨F0, v, b, c, o, s, l, _, rfl, _⟩ := h
    rfl
  · obtain ⟨F0, v, b, p, o, st, l, hF, rfl, S, G, el, k⟩ := h
    obtain ⟨a, dx, rfl, ha⟩ := S.obj
    obtain ⟨q, eq, hq⟩ := S.branchAt el
    obtain ⟨ul, xl, ll⟩ := G.members el
    obtain ⟨cvs, hc, pc⟩ := S.chs
    have lc : cvs.length = st.changes.length := Paired.len pc
    have l12 := G.few
    have nb := S.nBr
    have eb := (List.getElem?_eq_some_iff.mp el).1
    have at1 : atI (o.bas.map V.ref) (b : Int) = some (.ref q) := atI_nat (by rw [List.getElem?_map, eq]; rfl)
    have ek : Gf13.step st (.applyWithDependencies b p) = if st.changes.length ≤ p then (st, Gf13.ok (-3)) else if l.contains p = true then (st, Gf13.ok (-6)) else
        ({ st with branches := st.branches.set b (((Gf13.allDependencies st p).filter fun q => !l.contains q).foldl (fun r q => Gf11.insertNat q r) l) }, Gf13.listResult ((Gf13.allDependencies st p).filter fun q => !l.contains q)) := by
      show Gf13.withBranch st b _ = _
      unfold Gf13.withBranch
      rw [el]
    have k' : OpPost CH CC CS F0 H (.ref a) o (Gf13.step st (.applyWithDependencies b p)) Q := k
    rw [ek] at k'
    refine ⟨_, rfl, a, CS, dx, _, _, rfl, hF _ _ ha, TS.clS, TS.nBranches, se_branches _ _, _, rfl, o.lb, _, _, _, rfl, rfl, SqL.of S.brs, at1, ?_⟩
    -- if change >= len(session.changes)
    refine ⟨_, rfl, _, rfl, a, CS, dx, _, _, rfl, hF _ _ ha, TS.clS, TS.nChanges, se_changes _ _, _, st.changes.length, rfl, Or.inl ⟨_, SqL.of hc, lc.symm⟩, _, _, rfl, rfl, _, rfl, ?_⟩
    by_cases c1 : st.changes.length ≤ p
    · rw [if_pos c1] at k'
      refine ifT (decide_eq_true (show (st.changes.length : Int) ≤ (p : Int) by omega)) ⟨by show 1 ≤ sizeLine; decide, fun t nt => ?_⟩
      exact k'.same S ((Ext.refl hF).new nt (o := .lst [.int (-3)])) ⟨t, rfl, upd_same⟩
    rw [if_neg c1] at k'
    refine ifF (decide_eq_false (show ¬ (st.changes.length : Int) ≤ (p : Int) by omega)) ?_
    -- if change in members
    refine ⟨_, rfl, _, rfl, q, _, rfl, Or.inl (SqL.of hq), rfl, flat_nV l, _, rfl, ?_⟩
    rw [inV_nV]
    by_cases c2 : l.contains p = true
    · rw [if_pos c2] at k'
      refine ifT c2 ⟨by show 1 ≤ sizeLine; decide, fun t nt => ?_⟩
      exact k'.same S ((Ext.refl hF).new nt (o := .lst [.int (-6)])) ⟨t, rfl, upd_same⟩
    rw [if_neg c2] at k'
    refine ifF (by simpa using c2) ?_
    -- needed = requirements(session.changes, change)
    refine ⟨_, rfl, a, CS, dx, _, _, rfl, hF _ _ ha, TS.clS, TS.nChanges, se_changes _ _, _, rfl, F0, .ref o.lc, p, st, hF, rfl, S.changesAt, G, Nat.lt_of_not_le c1, fun F1 H1 nv X1 hnv => ?_⟩
    obtain ⟨q2, rfl, hq2⟩ := hnv
    have ln := len_all G (p := p)
    have ur := (all_lt G (p := p)).1
    generalize Gf13.allDependencies st p = r at hq2 ln ur k'
    -- added
    refine ⟨_, rfl, q2, rfl, ⟨_, SqL.of (X1.fh _ _ hq2)⟩, fun D nD => ?_⟩
    have nF := X1.fh.free nD
    have nH := X1.hh.free nD
    refine lc_list (K := K) (a := q2) (xs := nV r) (fun i H2 => Ext F0 H F1 H2 ∧ H2 D = some (.lst (nV ((r.take i).filter fun x => !l.contains x))))
      ⟨X1.tmp nD, upd_same⟩ (fun i H2 _ ⟨X, _⟩ => SqL.of (X.fh _ _ hq2)) ?_ ?_
    · rintro i y H2 hi ⟨X, hD⟩
      obtain ⟨m, em, rfl⟩ := nV_get hi
      refine ⟨rfl, _, rfl, _, rfl, q, _, rfl, Or.inl (SqL.of (X.hh _ _ hq)), rfl, flat_nV l, _, rfl, ?_⟩
      rw [inV_nV]
      have tk := filter_more (p := fun x => !l.contains x) em
      show if (!l.contains m) = true then _ else _
      by_cases h : (!l.contains m) = true
      · rw [if_pos h] at tk ⊢
        refine ⟨_, rfl, _, hD, ?_, X.put nF nH, ?_⟩
        · rw [nV_len]
          have h1 := List.length_filter_le (fun x => !l.contains x) (r.take i)
          rw [List.length_take] at h1
          exact Nat.lt_of_le_of_lt (m := 12) (by omega) (by decide)
        · rw [upd_same, tk, nV_app]
          rfl
      · rw [if_neg h] at tk ⊢
        rw [List.append_nil] at tk
        exact ⟨X, by rw [tk]; exact hD⟩
    · rintro H2 ⟨X, hD⟩
      rw [nV_len, List.take_length] at hD
      have la : (r.filter fun x => !l.contains x).length ≤ r.length := List.length_filter_le _ _
      have dis : ∀ x ∈ l, ∀ y ∈ r.filter fun x => !l.contains x, x ≠ y := fun x hx y hy e => by
        subst e
        have := (List.mem_filter.mp hy).2
        simp [hx] at this
      have na : (r.filter fun x => !l.contains x).Nodup := List.Pairwise.filter _ (up_nodup ur)
      generalize r.filter (fun x => !l.contains x) = ad at hD la dis na k'
      refine ⟨_, rfl, _, rfl, q, D, _, _, rfl, rfl, X.hh _ _ hq, hD, ?_, fun n1 nn1 => ?_⟩
      · rw [nV_len, nV_len]
        exact Nat.le_trans (m := 24) (by omega) (by decide)
      have X1 := X.tmp nn1 (o := .lst (nV l ++ nV ad))
      rw [← nV_app] at X1 ⊢
      refine ⟨n1, nInts (l ++ ad), rfl, SqL.of upd_same, fun ns n2 pm so nn2 => ?_⟩
      have X2 := X1.tmp nn2 (o := .lst (ns.map V.int))
      have ens : ns = nInts (ad.foldl (fun r q => Gf11.insertNat q r) l) := by
        refine sorted_to (List.nodup_append.mpr ⟨up_nodup ul, na, dis⟩) (up_fold_insert ul) (fun x => ?_) pm so
        rw [mem_fold_insert, List.mem_append]
        exact Or.comm
      have S2 := S.ext X2
      have f2 := X1.fh.free nn2
      have h2 := X1.hh.free nn2
      obtain ⟨S3, O3⟩ := S2.put S (X2.op _) (b := b) (l' := ad.foldl (fun r q => Gf11.insertNat q r) l) (n := n2) (by rw [upd_same, ens]; rfl) f2 h2
      refine ⟨_, rfl, a, CS, dx, _, _, rfl, X2.fh _ _ (X2.ff _ _ ha), TS.clS, TS.nBranches, se_branches _ _, _, rfl, o.lb, _, _, b, rfl, rfl, S2.brs, ixN_nat (by rw [List.length_map]; omega), ?_⟩
      have hD3 : upd (upd (upd H2 n1 (.lst (nV (l ++ ad)))) n2 (.lst (ns.map V.int))) o.lb (.lst ((o.bas.map V.ref).set b (.ref n2))) D = some (.lst (nV ad)) := by
        have x1 : D ≠ o.lb := fun z => by
          have := S.brs
          rw [← z, nH] at this
          cases this
        rw [upd_ne x1]
        exact (same_new (same_new (Same.refl H2) nn1) nn2) _ _ hD
      refine ⟨_, rfl, _, ad.length, rfl, Or.inl ⟨_, SqL.of hD3, (nV_len _).symm⟩, by show 1 ≤ sizeLine; decide, fun t nt => ?_⟩
      have X4 := (Ext.refl O3.fh).tmp nt (o := .lst [.int ad.length])
      refine ⟨_, rfl, t, D, _, _, rfl, rfl, upd_same, X4.hh _ _ hD3, ?_, fun u nu => ?_⟩
      · rw [nV_len]
        exact Nat.le_trans (m := 1 + 24) (Nat.add_le_add (Nat.le_refl 1) (by omega)) (by decide)
      have X5 := X4.new nu (o := .lst ([.int ad.length] ++ nV ad))
      exact k' _ _ _ _ (O3.ext X5) (S3.ext X5) ⟨u, rfl, upd_same⟩
end
end Lg
namespace Lg
open PySem PySem.Spec PyProof.Rows L2
section
variable {P : Program} {w : World} {K : PySem.W.Frag} {mg : Str → Option Value} {base : Heap} {CH CC CO CL CS : Addr}
/-! ### revert_with_dependents -/
abbrev sRvd : Stmt := top 65
def nRvd : List Str := ["session", "branch", "change", "members", "removed", "number"]
theorem scRvd : FnScope nRvd ["session", "branch", "change"] (defScope sRvd) := ⟨rfl, rfl, rfl, by decide +kernel, rfl, by decide +kernel, by decide +kernel⟩
theorem kept_is (s : Gf11.State) (l : List Nat) (p : Nat) : (l.filter fun q => !(l.filter fun q => (Gf13.allDependencies s q).contains p).contains q) = Gf13.withoutDependents s l p := by
  unfold Gf13.withoutDependents
  refine List.filter_congr fun q hq => ?_
  congr 1
  rw [Bool.eq_iff_iff, List.contains_iff_mem, List.mem_filter]
  exact ⟨fun h => h.2, fun h => ⟨hq, h⟩⟩
theorem gone_is (s : Gf11.State) (l : List Nat) (p : Nat) : (l.filter fun q => !(Gf13.withoutDependents s l p).contains q) = l.filter fun q => (Gf13.allDependencies s q).contains p := by
  unfold Gf13.withoutDependents
  refine List.filter_congr fun q hq => ?_
  rw [Bool.eq_iff_iff, Bool.not_eq_true', ← Bool.not_eq_true, List.contains_iff_mem, List.mem_filter]
  constructor
  · intro h
    cases e : (Gf13.allDependencies s q).contains p with
    | true => rfl
    | false => exact absurd ⟨hq, by rw [e]; rfl⟩ h
  · intro h z
    rw [h] at z
    cases z.2
theorem ok_rvd {f : Addr} {fd : FuncData} (F : Fun K "revert_with_dependents" "revert_with_dependents" sRvd f fd) (T : Txt K mg CH CC CO CL CS) (TO : TxtO mg) (TS : TxtS K CS) (L : Lib K mg CH CC CO) :
    FnOk P w K mg base CX0 3 f fd ["session", "branch", "change"] (spB2 CH CC CS fun s b p => Gf13.step s (.revertWithDependents b p)) := by
  have GR : FnOk P w K mg base CX0 2 L.req.f L.req.d ["changes", "number"] (spReq CH CC) := L.okReq T
  have bR : Binds K L.req.d ["changes", "number"] [] := L.req.F.binds fun _ _ _ _ _ _ us hl => match us, hl with | [_, _], _ => rfl
  obtain ⟨t2, g2⟩ := TO.same
  refine F.ok scRvd (fun vs H Q E h => ?_) (fun cdv A outer s H vs Q E hr h => ⟨_,
    pss_cons (ps_set (i := 3) scRvd.nd rfl (Or.inl rfl) (pe_ix ix_list (pe_fld (pv 0) rfl) (pv 1) (fun _ _ => rfl)))
    (pss_cons (ps_if (pt_cmpR op_notIn_seq (pv 2) (pv 3) (by rfl)) (pss_one (ps_ret (pe_lst (pa_cons (pe_glob rfl g2 (v := .int (-6)) ⟨_, rfl⟩) pa_nil)))) pss_nil)
    (pss_cons (ps_set (i := 4) scRvd.nd rfl (Or.inr rfl) (pe_lc (own := [("number", 5)]) (g := gName 5) (tt := tTest (tOp (rIn K false) (tVar 2) (tCall (spReq CH CC) [] E0 (tCons (tFld K (tVar 0) "changes") (tCons (tVar 5) tNil))))) (te := tVar 5) (by rfl) scRvd.nd (pi_list (pv 3))
        (blkOk_by (N := nRvd) (sc := defScope sRvd) (by decide +kernel)) (fun _ _ _ _ _ => pg_name (i := 5) scRvd.nd rfl (Or.inl rfl))
        (fun _ _ _ _ _ => pts_one (pt_cmpR op_in_seq (pv 2) (pe_call GR hr (by rfl) L.req.g L.req.F.kp bR .nil pass0 (pa_cons (pe_fld (pv 0) rfl) (pa_cons (pv 5) pa_nil))) (by rfl))) (fun _ _ _ _ _ => pv 5)))
    (pss_cons (ps_asg (pe_lc (own := [("number", 5)]) (g := gName 5) (tt := tTest (tOp (rIn K true) (tVar 5) (tVar 4))) (te := tVar 5) (by rfl) scRvd.nd (pi_list (pv 3)) (blkOk_by (N := nRvd) (sc := defScope sRvd) (by decide +kernel)) (fun _ _ _ _ _ => pg_name (i := 5) scRvd.nd rfl (Or.inl rfl))
        (fun _ _ _ _ _ => pts_one (pt_cmpR op_notIn_seq (pv 5) (pv 4) (by rfl))) (fun _ _ _ _ _ => pv 5)) (pg_sub (pe_fld (pv 0) rfl) (pv 1) set_list))
    (pss_one (ps_ret (pe_op op_cat (pe_lst (pa_cons (pe_callB call_len (by rfl) T.len PySem.boot_len (pa_cons (pv 4) pa_nil)) pa_nil)) (pv 4))))))), ?_⟩)
  · obtain ⟨F0, v, b, c, o, s, l, _, rfl, _⟩ := h
    rfl
  · obtain ⟨F0, v, b, p, o, st, l, hF, rfl, S, G, el, k⟩ := h
    obtain ⟨a, dx, rfl, ha⟩ := S.obj
    obtain ⟨q, eq, hq⟩ := S.branchAt el
    obtain ⟨ul, xl, ll⟩ := G.members el
    have l12 := G.few
    have nb := S.nBr
    have at1 : atI (o.bas.map V.ref) (b : Int) = some (.ref q) := atI_nat (by rw [List.getElem?_map, eq]; rfl)
    have eb := (List.getElem?_eq_some_iff.mp el).1
    have ek : Gf13.step st (.revertWithDependents b p) = if l.contains p = false then (st, Gf13.ok (-6)) else
        ({ st with branches := st.branches.set b (Gf13.withoutDependents st l p) }, Gf13.listResult (l.filter fun q => !(Gf13.withoutDependents st l p).contains q)) := by
      show Gf13.withBranch st b _ = _
      unfold Gf13.withBranch
      rw [el]
    have k' : OpPost CH CC CS F0 H (.ref a) o (Gf13.step st (.revertWithDependents b p)) Q := k
    rw [ek, gone_is, ← kept_is] at k'
    refine ⟨_, rfl, a, CS, dx, _, _, rfl, hF _ _ ha, TS.clS, TS.nBranches, se_branches _ _, _, rfl, o.lb, _, _, _, rfl, rfl, SqL.of S.brs, at1, ?_⟩
    -- if change not in members
    refine ⟨_, rfl, _, rfl, q, _, rfl, Or.inl (SqL.of hq), rfl, flat_nV l, _, rfl, ?_⟩
    rw [inV_nV]
    by_cases c2 : l.contains p = false
    · rw [if_pos c2] at k'
      refine ifT (by rw [c2]; rfl) ⟨by show 1 ≤ sizeLine; decide, fun t nt => ?_⟩
      exact k'.same S ((Ext.refl hF).new nt (o := .lst [.int (-6)])) ⟨t, rfl, upd_same⟩
    rw [if_neg c2] at k'
    refine ifF (by rw [Bool.not_eq_false] at c2; rw [c2]; rfl) ?_
    -- removed
    refine ⟨_, rfl, q, rfl, ⟨_, SqL.of hq⟩, fun D nD => ?_⟩
    have nF := hF.free nD
    refine lc_list (K := K) (a := q) (xs := nV l) (fun i H2 => ∃ F2, Ext F0 H F2 H2 ∧ F2 D = none ∧ H2 D = some (.lst (nV ((l.take i).filter fun q => (Gf13.allDependencies st q).contains p))))
      ⟨F0, (Ext.refl hF).tmp nD, nF, upd_same⟩ (fun i H2 _ ⟨_, X, _, _⟩ => SqL.of (X.hh _ _ hq)) ?_ ?_
    · rintro i y H2 hi ⟨F2, X, fD, hD⟩
      obtain ⟨m, em, rfl⟩ := nV_get hi
      have lm := xl m (List.mem_of_getElem? em)
      have S2 := S.ext X
      refine ⟨rfl, _, rfl, _, rfl, a, CS, dx, _, _, rfl, X.fh _ _ (X.ff _ _ ha), TS.clS, TS.nChanges, se_changes _ _, _, rfl, F2, .ref o.lc, m, st, X.fh, rfl, S2.changesAt, G, lm, fun F3 H3 nv X3 hnv => ?_⟩
      obtain ⟨q2, rfl, hq2⟩ := hnv
      have X4 := X.trans X3
      have hD3 := X3.hh _ _ hD
      have fD3 := X3.out fD hD
      refine ⟨q2, _, rfl, Or.inl (SqL.of (X3.fh _ _ hq2)), rfl, flat_nV _, _, rfl, ?_⟩
      have tk := filter_more (p := fun q => (Gf13.allDependencies st q).contains p) em
      show if inV (.int p) (nV (Gf13.allDependencies st m)) = true then _ else _
      rw [inV_nV]
      by_cases h : (Gf13.allDependencies st m).contains p = true
      · rw [if_pos h] at tk ⊢
        refine ⟨_, rfl, _, hD3, ?_, F3, X4.put fD3 nD, fD3, ?_⟩
        · rw [nV_len]
          have h1 := List.length_filter_le (fun q => (Gf13.allDependencies st q).contains p) (l.take i)
          rw [List.length_take] at h1
          exact Nat.lt_of_le_of_lt (m := 12) (by omega) (by decide)
        · rw [upd_same, tk, nV_app]
          rfl
      · rw [if_neg h] at tk ⊢
        rw [List.append_nil] at tk
        exact ⟨F3, X4, fD3, by rw [tk]; exact hD3⟩
    · rintro H2 ⟨F2, X, fD, hD⟩
      rw [nV_len, List.take_length] at hD
      have la : (l.filter fun q => (Gf13.allDependencies st q).contains p).length ≤ l.length := List.length_filter_le _ _
      generalize l.filter (fun q => (Gf13.allDependencies st q).contains p) = rem at hD la k'
      -- session.branches[branch] = [number for number in members if number not in removed]
      refine ⟨_, rfl, q, rfl, ⟨_, SqL.of (X.hh _ _ hq)⟩, fun D2 nD2 => ?_⟩
      have nF2 := X.fh.free nD2
      have nH2 := X.hh.free nD2
      have nDD : D ≠ D2 := ne_new hD nD2
      refine lc_list (K := K) (a := q) (xs := nV l) (fun i H3 => Ext F0 H F2 H3 ∧ H3 D = some (.lst (nV rem)) ∧ H3 D2 = some (.lst (nV ((l.take i).filter fun q => !rem.contains q))))
        ⟨X.tmp nD2, by rw [upd_ne nDD]; exact hD, upd_same⟩ (fun i H3 _ ⟨X3, _⟩ => SqL.of (X3.hh _ _ hq)) ?_ ?_
      · rintro i y H3 hi ⟨X3, hD0, hD3⟩
        obtain ⟨m, em, rfl⟩ := nV_get hi
        have tk := filter_more (p := fun q => !rem.contains q) em
        refine ⟨rfl, _, rfl, _, rfl, D, _, rfl, Or.inl (SqL.of hD0), rfl, flat_nV rem, _, rfl, ?_⟩
        rw [inV_nV]
        show if (!rem.contains m) = true then _ else _
        by_cases h : (!rem.contains m) = true
        · rw [if_pos h] at tk ⊢
          refine ⟨_, rfl, _, hD3, ?_, X3.put nF2 nH2, by rw [upd_ne nDD]; exact hD0, ?_⟩
          · rw [nV_len]
            have h1 := List.length_filter_le (fun q => !rem.contains q) (l.take i)
            rw [List.length_take] at h1
            exact Nat.lt_of_le_of_lt (m := 12) (by omega) (by decide)
          · rw [upd_same, tk, nV_app]
            rfl
        · rw [if_neg h] at tk ⊢
          rw [List.append_nil] at tk
          exact ⟨X3, hD0, by rw [tk]; exact hD3⟩
      · rintro H3 ⟨X3, hD0, hD3⟩
        rw [nV_len, List.take_length] at hD3
        have S3 := S.ext X3
        obtain ⟨S4, O4⟩ := S3.put S (X3.op _) (b := b) hD3 nF2 nH2
        refine ⟨_, rfl, a, CS, dx, _, _, rfl, X3.fh _ _ (X3.ff _ _ ha), TS.clS, TS.nBranches, se_branches _ _, _, rfl, o.lb, _, _, b, rfl, rfl, S3.brs, ixN_nat (by rw [List.length_map]; omega), ?_⟩
        have hD4 : upd H3 o.lb (.lst ((o.bas.map V.ref).set b (.ref D2))) D = some (.lst (nV rem)) := by
          have x1 : D ≠ o.lb := fun z => by
            have := S.brs
            rw [← z, nD] at this
            cases this
          rw [upd_ne x1]
          exact hD0
        refine ⟨_, rfl, _, rem.length, rfl, Or.inl ⟨_, SqL.of hD4, (nV_len _).symm⟩, by show 1 ≤ sizeLine; decide, fun t nt => ?_⟩
        have X5 := (Ext.refl O4.fh).tmp nt (o := .lst [.int rem.length])
        refine ⟨_, rfl, t, D, _, _, rfl, rfl, upd_same, X5.hh _ _ hD4, ?_, fun u nu => ?_⟩
        · rw [nV_len]
          exact Nat.le_trans (m := 1 + 24) (Nat.add_le_add (Nat.le_refl 1) (by omega)) (by decide)
        have X6 := X5.new nu (o := .lst ([.int rem.length] ++ nV rem))
        exact k' _ _ _ _ (O4.ext X6) (S4.ext X6) ⟨u, rfl, upd_same⟩
end
end Lg
namespace Lg
open PySem PySem.Spec PyProof.Rows L2
/-! ### answer_call -/
/-- the branches that a call names -/
def brOf : Gf13.Call → List Nat
  | .base (.branch b) => [b]
  | .base (.write b _) => [b]
  | .base (.delete b _) => [b]
  | .base (.apply b _) => [b]
  | .base (.merge b c) => [b, c]
  | .base (.revert b _) => [b]
  | .base (.show_ b) => [b]
  | .base (.lines b) => [b]
  | .base (.change _) => []
  | .requirements _ => []
  | .applyWithDependencies b _ => [b]
  | .revertWithDependents b _ => [b]
  | .explain b _ _ => [b]
  | .blame b => [b]
theorem no_branch {s : Gf11.State} {b : Nat} (h : s.branches.length ≤ b) : s.branches[b]? = none := List.getElem?_eq_none h
theorem bad11 {s : Gf11.State} {b : Nat} (h : s.branches.length ≤ b) (f : List Nat → Gf11.State × Gf11.Result) : Gf11.withBranch s b f = (s, Gf11.ok (-2)) := by
  unfold Gf11.withBranch
  rw [no_branch h]
theorem bad13 {s : Gf11.State} {b : Nat} (h : s.branches.length ≤ b) (f : List Nat → Gf11.State × Gf11.Result) : Gf13.withBranch s b f = (s, Gf11.ok (-2)) := by
  unfold Gf13.withBranch
  rw [no_branch h]
  rfl
theorem bad_call {s : Gf11.State} {x : Gf13.Call} (h : ∃ b ∈ brOf x, s.branches.length ≤ b) : Gf13.step s x = (s, Gf11.ok (-2)) := by
  obtain ⟨b, m, h⟩ := h
  cases x with
  | base x =>
    cases x with
    | branch a => exact bad11 (by rw [← List.mem_singleton.mp m]; exact h) _
    | write a t => exact bad11 (by rw [← List.mem_singleton.mp m]; exact h) _
    | delete a t => exact bad11 (by rw [← List.mem_singleton.mp m]; exact h) _
    | apply a p => exact bad11 (by rw [← List.mem_singleton.mp m]; exact h) _
    | merge a c =>
      rcases Nat.lt_or_ge a s.branches.length with la | la
      · have hc : s.branches.length ≤ c := by
          rcases List.mem_cons.mp m with e | m
          · omega
          · rw [← List.mem_singleton.mp m]
            exact h
        show Gf11.withBranch s a (fun l => Gf11.withBranch s c _) = _
        have ea := List.getElem?_eq_getElem la
        rw [show Gf11.withBranch s a _ = Gf11.withBranch s c _ from by
          unfold Gf11.withBranch
          rw [ea]]
        exact bad11 hc _
      · exact bad11 la _
    | revert a p => exact bad11 (by rw [← List.mem_singleton.mp m]; exact h) _
    | show_ a => exact bad11 (by rw [← List.mem_singleton.mp m]; exact h) _
    | lines a => exact bad11 (by rw [← List.mem_singleton.mp m]; exact h) _
    | change a => cases m
  | requirements a => cases m
  | applyWithDependencies a p => exact bad13 (by rw [← List.mem_singleton.mp m]; exact h) _
  | revertWithDependents a p => exact bad13 (by rw [← List.mem_singleton.mp m]; exact h) _
  | explain a p i => exact bad13 (by rw [← List.mem_singleton.mp m]; exact h) _
  | blame a => exact bad13 (by rw [← List.mem_singleton.mp m]; exact h) _
/-- how many of a call's numbers are branches -/
def brsT : List Nat := [1, 1, 1, 1, 2, 1, 1, 1, 0, 0, 1, 1, 1, 1]
def cntsT : List Nat := [1, 2, 1, 2, 2, 2, 1, 1, 1, 1, 2, 2, 3, 1]
theorem means_head {c : List (List Int)} {x : Gf13.Call} (m : Means c x) : ∃ (p : Nat) (ns : List Nat) (n : Nat), c.headD [] = (p : Int) :: nI ns ∧ brsT[p]? = some n ∧ n ≤ ns.length ∧ ns.take n = brOf x := by
  cases m with
  | branch b => exact ⟨0, [b], 1, rfl, rfl, Nat.le_refl _, rfl⟩
  | write b n r t ln lr h => exact ⟨1, [b, n], 1, rfl, rfl, Nat.le_succ _, rfl⟩
  | delete b r t lr h => exact ⟨2, [b], 1, rfl, rfl, Nat.le_refl _, rfl⟩
  | apply b p => exact ⟨3, [b, p], 1, rfl, rfl, Nat.le_succ _, rfl⟩
  | merge b p => exact ⟨4, [b, p], 2, rfl, rfl, Nat.le_refl _, rfl⟩
  | revert b p => exact ⟨5, [b, p], 1, rfl, rfl, Nat.le_succ _, rfl⟩
  | show_ b => exact ⟨6, [b], 1, rfl, rfl, Nat.le_refl _, rfl⟩
  | lines b => exact ⟨7, [b], 1, rfl, rfl, Nat.le_refl _, rfl⟩
  | change b => exact ⟨8, [b], 0, rfl, rfl, Nat.zero_le _, rfl⟩
  | requirements b => exact ⟨9, [b], 0, rfl, rfl, Nat.zero_le _, rfl⟩
  | applyWith b p => exact ⟨10, [b, p], 1, rfl, rfl, Nat.le_succ _, rfl⟩
  | revertWith b p => exact ⟨11, [b, p], 1, rfl, rfl, Nat.le_succ _, rfl⟩
  | explain b p i => exact ⟨12, [b, p, i], 1, rfl, rfl, Nat.le_add_left 1 2, rfl⟩
  | blame b => exact ⟨13, [b], 1, rfl, rfl, Nat.le_refl _, rfl⟩
theorem nI_take (ns : List Nat) (n : Nat) : (nI ns).take n = nI (ns.take n) := by
  unfold nI Gf11.toInts
  rw [List.map_take]
theorem nV_lenI (ns : List Nat) : (nI ns).length = ns.length := by
  unfold nI Gf11.toInts
  rw [List.length_map]
theorem means_few {c : List (List Int)} {x : Gf13.Call} (m : Means c x) {p : Int} {ns : List Nat} (h : c.headD [] = p :: nI ns) : ns.length ≤ 3 := by
  have e : (nI ns).length = (c.headD []).length - 1 := by
    rw [h, List.length_cons]
    rfl
  rw [nV_lenI] at e
  rw [e]
  cases m with
  | branch b => exact Nat.le_add_left 1 2
  | write b n r t ln lr h => exact Nat.le_add_left 2 1
  | delete b r t lr h => exact Nat.le_add_left 1 2
  | apply b p => exact Nat.le_add_left 2 1
  | merge b p => exact Nat.le_add_left 2 1
  | revert b p => exact Nat.le_add_left 2 1
  | show_ b => exact Nat.le_add_left 1 2
  | lines b => exact Nat.le_add_left 1 2
  | change b => exact Nat.le_add_left 1 2
  | requirements b => exact Nat.le_add_left 1 2
  | applyWith b p => exact Nat.le_add_left 2 1
  | revertWith b p => exact Nat.le_add_left 2 1
  | explain b p i => exact Nat.le_refl 3
  | blame b => exact Nat.le_add_left 1 2
theorem OpPost.from_ {CH CC CS : Addr} {F H F1 H1 : Hp} {v : V} {o : Own3} {r : Gf11.State × Gf11.Result} {Q : VK} (k : OpPost CH CC CS F H v o r Q) (X : Ext F H F1 H1) : OpPost CH CC CS F1 H1 v o r Q :=
  fun F' H' o' x O S A => k F' H' o' x ((X.op _).trans O) S A
/-- the constants of calls.py that name operations -/
structure TxtA (mg : Str → Option Value) : Prop where
  c0 : ∃ t, mg "BRANCH" = some (.int 0 t)
  c3 : ∃ t, mg "APPLY" = some (.int 3 t)
  c4 : ∃ t, mg "MERGE" = some (.int 4 t)
  c5 : ∃ t, mg "REVERT" = some (.int 5 t)
  c6 : ∃ t, mg "SHOW" = some (.int 6 t)
  c7 : ∃ t, mg "LINES" = some (.int 7 t)
  c8 : ∃ t, mg "CHANGE" = some (.int 8 t)
  c9 : ∃ t, mg "REQUIREMENTS" = some (.int 9 t)
  c10 : ∃ t, mg "APPLY_WITH_REQUIREMENTS" = some (.int 10 t)
  c11 : ∃ t, mg "REVERT_WITH_DEPENDENTS" = some (.int 11 t)
  c12 : ∃ t, mg "EXPLAIN" = some (.int 12 t)
section
variable {K : PySem.W.Frag} {CL : Addr} {σ : L2.St} {H : Hp} {D : Ends} {A : TS} {ca cdx : Addr} {p c : Int} {pl rw1 : V}
theorem op_skip (hs : σ[1]? = some (some (.ref ca))) (h : H ca = some (.ins CL cdx (caF (.int p) pl rw1))) (cl : Cls K CL) (no : NoAttr K CL "operation") (ne : p ≠ c) (k : D.nx σ H) :
    tIfS (tTest (tOp rEq (tFld K (tVar 1) "operation") (tC (.int c)))) A tNext D σ H :=
  ⟨_, hs, ca, CL, cdx, _, _, rfl, h, cl, no, ca_operation _ _ _, rfl, _, rfl, ifF (decide_eq_false fun e => ne (by injection e)) k⟩
theorem op_hit (hs : σ[1]? = some (some (.ref ca))) (h : H ca = some (.ins CL cdx (caF (.int p) pl rw1))) (cl : Cls K CL) (no : NoAttr K CL "operation") (e : p = c) (k : A D σ H) :
    tIfS (tTest (tOp rEq (tFld K (tVar 1) "operation") (tC (.int c)))) A tNext D σ H :=
  ⟨_, hs, ca, CL, cdx, _, _, rfl, h, cl, no, ca_operation _ _ _, rfl, _, rfl, ifT (decide_eq_true (by rw [e])) k⟩
end
end Lg
namespace Lg
open PySem PySem.Spec PyProof.Rows L2
/-- the functions that answer_call calls -/
structure LibA (K : PySem.W.Frag) (mg : Str → Option Value) where
  nbr : Cd K mg "named_branches" sNbr
  enl : Cd K mg "read_lines" sEnl
  enp : Cd K mg "read_pairs" sEnp
  mkb : Cd K mg "make_branch" sMkb
  wri : Cd K mg "write_lines" sWri
  cbd : Cd K mg "can_be_deleted" sCbd
  del : Cd K mg "delete_lines" sDel
  app : Cd K mg "apply_change" sApp
  mer : Cd K mg "merge_branch" sMer
  rev : Cd K mg "revert_change" sRev
  sho : Cd K mg "show_text" sSho
  lis : Cd K mg "list_lines" sLis
  des : Cd K mg "describe_change" sDes
  lrq : Cd K mg "list_requirements" sLrq
  apr : Cd K mg "apply_with_requirements" sApr
  rvd : Cd K mg "revert_with_dependents" sRvd
  exp : Cd K mg "explain_line" sExp
  bla : Cd K mg "blame_text" sBla
def nAnc : List Str := ["session", "call", "plain", "branch"]
theorem scAnc : FnScope nAnc ["session", "call"] (defScope sAnc) := ⟨rfl, rfl, rfl, by decide +kernel, rfl, by decide +kernel, by decide +kernel⟩
section
variable {P : Program} {w : World} {K : PySem.W.Frag} {mg : Str → Option Value} {base : Heap} {CH CC CO CL CS : Addr}
def spMer (CH CC CS : Addr) : Sp := fun vs H Q _ => ∃ (F : Hp) (v : V) (b c : Nat) (o : Own3) (s : Gf11.State) (l r : List Nat), Same F H ∧ vs = [v, .int b, .int c] ∧ Sess CH CC CS F H v o s ∧ Good s ∧ s.branches[b]? = some l ∧ s.branches[c]? = some r ∧ OpPost CH CC CS F H v o (Gf11.step s (.merge b c)) Q
theorem ok_anc {f : Addr} {fd : FuncData} (F : Fun K "answer_call" "answer_call" sAnc f fd) (T : Txt K mg CH CC CO CL CS) (TO : TxtO mg) (TS : TxtS K CS) (TR : TxtR mg) (TC : TxtC K mg CL cntsT brsT) (TA : TxtA mg) (L : Lib K mg CH CC CO) (A : LibA K mg) :
    FnOk P w K mg base CX0 6 f fd ["session", "call"] (spAnc CH CC CL CS) := by
  have Gnbr : FnOk P w K mg base CX0 1 A.nbr.f A.nbr.d ["call"] (spNbr CL brsT) := ok_nbr A.nbr.F TC
  have Genl : FnOk P w K mg base CX0 1 A.enl.f A.enl.d ["count", "row"] spEnl := ok_enl A.enl.F T
  have Genp : FnOk P w K mg base CX0 1 A.enp.f A.enp.d ["row"] spEnp := ok_enp A.enp.F T
  have Gmkb : FnOk P w K mg base CX0 1 A.mkb.f A.mkb.d ["session", "branch"] (spB CH CC CS fun s b => Gf11.step s (.branch b)) := ok_mkb A.mkb.F T TO TS
  have Gwri : FnOk P w K mg base CX0 5 A.wri.f A.wri.d ["session", "branch", "lines"] (spWri CH CC CS) := ok_wri A.wri.F T TO TS L
  have Gdel : FnOk P w K mg base CX0 3 A.del.f A.del.d ["session", "branch", "lines"] (spDel CH CC CS) := ok_del A.del.F T TO TS L A.cbd.F A.cbd.g
  have Gapp : FnOk P w K mg base CX0 2 A.app.f A.app.d ["session", "branch", "change"] (spB2 CH CC CS fun s b p => Gf11.step s (.apply b p)) := ok_app A.app.F T TO TS L.dep.F L.dep.g
  have Gmer : FnOk P w K mg base CX0 1 A.mer.f A.mer.d ["session", "branch", "other_branch"] (spMer CH CC CS) := ok_mer A.mer.F T TS
  have Grev : FnOk P w K mg base CX0 2 A.rev.f A.rev.d ["session", "branch", "change"] (spB2 CH CC CS fun s b p => Gf11.step s (.revert b p)) := ok_rev A.rev.F T TO TS L.dep.F L.dep.g
  have Gsho : FnOk P w K mg base CX0 4 A.sho.f A.sho.d ["session", "branch"] (spB CH CC CS fun s b => Gf11.step s (.show_ b)) := ok_sho A.sho.F T TO TS L
  have Glis : FnOk P w K mg base CX0 4 A.lis.f A.lis.d ["session", "branch"] (spB CH CC CS fun s b => Gf11.step s (.lines b)) := ok_lis A.lis.F T TS L
  have Gdes : FnOk P w K mg base CX0 4 A.des.f A.des.d ["session", "number"] (spN CH CC CS fun s p => Gf11.step s (.change p)) := ok_des A.des.F T TO TS L
  have Glrq : FnOk P w K mg base CX0 4 A.lrq.f A.lrq.d ["session", "number"] (spN CH CC CS fun s p => Gf13.step s (.requirements p)) := ok_lrq A.lrq.F T TO TS L
  have Gapr : FnOk P w K mg base CX0 3 A.apr.f A.apr.d ["session", "branch", "change"] (spB2 CH CC CS fun s b p => Gf13.step s (.applyWithDependencies b p)) := ok_apr A.apr.F T TO TS L
  have Grvd : FnOk P w K mg base CX0 3 A.rvd.f A.rvd.d ["session", "branch", "change"] (spB2 CH CC CS fun s b p => Gf13.step s (.revertWithDependents b p)) := ok_rvd A.rvd.F T TO TS L
  have Gexp : FnOk P w K mg base CX0 4 A.exp.f A.exp.d ["session", "branch", "change", "number"] (spB3 CH CC CS fun s b p i => Gf13.step s (.explain b p i)) := ok_exp A.exp.F T TO TS TR L
  have Gbla : FnOk P w K mg base CX0 4 A.bla.f A.bla.d ["session", "branch"] (spB CH CC CS fun s b => Gf13.step s (.blame b)) := ok_bla A.bla.F T TO TS L
  have Bnbr : Binds K A.nbr.d ["call"] [] := A.nbr.F.binds fun _ _ _ _ _ _ us hl => match us, hl with | [_], _ => rfl
  have Benl : Binds K A.enl.d ["count", "row"] [] := A.enl.F.binds fun _ _ _ _ _ _ us hl => match us, hl with | [_, _], _ => rfl
  have Benp : Binds K A.enp.d ["row"] [] := A.enp.F.binds fun _ _ _ _ _ _ us hl => match us, hl with | [_], _ => rfl
  have Bmkb : Binds K A.mkb.d ["session", "branch"] [] := A.mkb.F.binds fun _ _ _ _ _ _ us hl => match us, hl with | [_, _], _ => rfl
  have Bwri : Binds K A.wri.d ["session", "branch", "lines"] [] := A.wri.F.binds fun _ _ _ _ _ _ us hl => match us, hl with | [_, _, _], _ => rfl
  have Bdel : Binds K A.del.d ["session", "branch", "lines"] [] := A.del.F.binds fun _ _ _ _ _ _ us hl => match us, hl with | [_, _, _], _ => rfl
  have Bapp : Binds K A.app.d ["session", "branch", "change"] [] := A.app.F.binds fun _ _ _ _ _ _ us hl => match us, hl with | [_, _, _], _ => rfl
  have Bmer : Binds K A.mer.d ["session", "branch", "other_branch"] [] := A.mer.F.binds fun _ _ _ _ _ _ us hl => match us, hl with | [_, _, _], _ => rfl
  have Brev : Binds K A.rev.d ["session", "branch", "change"] [] := A.rev.F.binds fun _ _ _ _ _ _ us hl => match us, hl with | [_, _, _], _ => rfl
  have Bsho : Binds K A.sho.d ["session", "branch"] [] := A.sho.F.binds fun _ _ _ _ _ _ us hl => match us, hl with | [_, _], _ => rfl
  have Blis : Binds K A.lis.d ["session", "branch"] [] := A.lis.F.binds fun _ _ _ _ _ _ us hl => match us, hl with | [_, _], _ => rfl
  have Bdes : Binds K A.des.d ["session", "number"] [] := A.des.F.binds fun _ _ _ _ _ _ us hl => match us, hl with | [_, _], _ => rfl
  have Blrq : Binds K A.lrq.d ["session", "number"] [] := A.lrq.F.binds fun _ _ _ _ _ _ us hl => match us, hl with | [_, _], _ => rfl
  have Bapr : Binds K A.apr.d ["session", "branch", "change"] [] := A.apr.F.binds fun _ _ _ _ _ _ us hl => match us, hl with | [_, _, _], _ => rfl
  have Brvd : Binds K A.rvd.d ["session", "branch", "change"] [] := A.rvd.F.binds fun _ _ _ _ _ _ us hl => match us, hl with | [_, _, _], _ => rfl
  have Bexp : Binds K A.exp.d ["session", "branch", "change", "number"] [] := A.exp.F.binds fun _ _ _ _ _ _ us hl => match us, hl with | [_, _, _, _], _ => rfl
  have Bbla : Binds K A.bla.d ["session", "branch"] [] := A.bla.F.binds fun _ _ _ _ _ _ us hl => match us, hl with | [_, _], _ => rfl
  obtain ⟨tB, gB⟩ := TO.noBranch
  obtain ⟨t0, g0⟩ := TA.c0
  obtain ⟨t1, g1⟩ := TC.write
  obtain ⟨t2, g2⟩ := TC.delete
  obtain ⟨t3, g3⟩ := TA.c3
  obtain ⟨t4, g4⟩ := TA.c4
  obtain ⟨t5, g5⟩ := TA.c5
  obtain ⟨t6, g6⟩ := TA.c6
  obtain ⟨t7, g7⟩ := TA.c7
  obtain ⟨t8, g8⟩ := TA.c8
  obtain ⟨t9, g9⟩ := TA.c9
  obtain ⟨t10, g10⟩ := TA.c10
  obtain ⟨t11, g11⟩ := TA.c11
  obtain ⟨t12, g12⟩ := TA.c12
  refine F.ok scAnc (fun vs H Q E h => ?_) (fun cdv A' outer s H vs Q E hr h => ⟨_,
    pss_cons (ps_set (i := 2) scAnc.nd rfl (Or.inl rfl) (pe_fld (pv 1) rfl))
    (pss_cons (ps_if (pt_val (pe_callB (cr_any rfl) (by rfl) T.any (by decide +kernel) (pa_cons
      (pe_lc (own := [("branch", 3)]) (g := gName 3) (tt := tYes) (te := tOp (rI0 fun i j => .bl (decide (j ≤ i))) (tVar 3) (tCB (fun xs H Q => ∃ x n, xs = [x] ∧ LenV K x H n ∧ Q (.int n) H) (tCons (tFld K (tVar 0) "branches") tNil))) (by rfl) scAnc.nd
        (pi_list (pe_call Gnbr (hr.mono (by decide)) (by rfl) A.nbr.g A.nbr.F.kp Bnbr .nil pass0 (pa_cons (pv 1) pa_nil))) (blkOk_by (N := nAnc) (sc := defScope sAnc) (by decide +kernel)) (fun _ _ _ _ _ => pg_name (i := 3) scAnc.nd rfl (Or.inl rfl))
        (fun _ _ _ _ _ => pts_nil) (fun _ _ _ _ _ => pe_cmpR op_ge (pv 3) (pe_callB call_len (by rfl) T.len PySem.boot_len (pa_cons (pe_fld (pv 0) rfl) pa_nil)) (nomark _))) pa_nil)) (by intro _; rfl))
      (pss_one (ps_ret (pe_lst (pa_cons (pe_glob rfl gB (v := .int (-2)) ⟨_, rfl⟩) pa_nil)))) pss_nil)
    (pss_cons (ps_if (pt_cmpR op_eq (pe_fld (pv 1) rfl) (pe_glob rfl g0 (v := .int 0) ⟨_, rfl⟩) (nomark _)) (pss_one (ps_ret (pe_call Gmkb (hr.mono (by decide)) (by rfl) A.mkb.g A.mkb.F.kp Bmkb .nil pass0 (pa_cons (pv 0) (pa_cons (pe_ix ix_list (pv 2) pe_int (fun _ _ => rfl)) pa_nil))))) pss_nil)
    (pss_cons (ps_if (pt_cmpR op_eq (pe_fld (pv 1) rfl) (pe_glob rfl g1 (v := .int 1) ⟨_, rfl⟩) (nomark _)) (pss_one (ps_ret (pe_call Gwri (hr.mono (by decide)) (by rfl) A.wri.g A.wri.F.kp Bwri .nil pass0 (pa_cons (pv 0) (pa_cons (pe_ix ix_list (pv 2) pe_int (fun _ _ => rfl)) (pa_cons (pe_call Genl (hr.mono (by decide)) (by rfl) A.enl.g A.enl.F.kp Benl .nil pass0 (pa_cons (pe_ix ix_list (pv 2) pe_int (fun _ _ => rfl)) (pa_cons (pe_fld (pv 1) rfl) pa_nil))) pa_nil)))))) pss_nil)
    (pss_cons (ps_if (pt_cmpR op_eq (pe_fld (pv 1) rfl) (pe_glob rfl g2 (v := .int 2) ⟨_, rfl⟩) (nomark _)) (pss_one (ps_ret (pe_call Gdel (hr.mono (by decide)) (by rfl) A.del.g A.del.F.kp Bdel .nil pass0 (pa_cons (pv 0) (pa_cons (pe_ix ix_list (pv 2) pe_int (fun _ _ => rfl)) (pa_cons (pe_call Genp (hr.mono (by decide)) (by rfl) A.enp.g A.enp.F.kp Benp .nil pass0 (pa_cons (pe_fld (pv 1) rfl) pa_nil)) pa_nil)))))) pss_nil)
    (pss_cons (ps_if (pt_cmpR op_eq (pe_fld (pv 1) rfl) (pe_glob rfl g3 (v := .int 3) ⟨_, rfl⟩) (nomark _)) (pss_one (ps_ret (pe_call Gapp (hr.mono (by decide)) (by rfl) A.app.g A.app.F.kp Bapp .nil pass0 (pa_cons (pv 0) (pa_cons (pe_ix ix_list (pv 2) pe_int (fun _ _ => rfl)) (pa_cons (pe_ix ix_list (pv 2) pe_int (fun _ _ => rfl)) pa_nil)))))) pss_nil)
    (pss_cons (ps_if (pt_cmpR op_eq (pe_fld (pv 1) rfl) (pe_glob rfl g4 (v := .int 4) ⟨_, rfl⟩) (nomark _)) (pss_one (ps_ret (pe_call Gmer (hr.mono (by decide)) (by rfl) A.mer.g A.mer.F.kp Bmer .nil pass0 (pa_cons (pv 0) (pa_cons (pe_ix ix_list (pv 2) pe_int (fun _ _ => rfl)) (pa_cons (pe_ix ix_list (pv 2) pe_int (fun _ _ => rfl)) pa_nil)))))) pss_nil)
    (pss_cons (ps_if (pt_cmpR op_eq (pe_fld (pv 1) rfl) (pe_glob rfl g5 (v := .int 5) ⟨_, rfl⟩) (nomark _)) (pss_one (ps_ret (pe_call Grev (hr.mono (by decide)) (by rfl) A.rev.g A.rev.F.kp Brev .nil pass0 (pa_cons (pv 0) (pa_cons (pe_ix ix_list (pv 2) pe_int (fun _ _ => rfl)) (pa_cons (pe_ix ix_list (pv 2) pe_int (fun _ _ => rfl)) pa_nil)))))) pss_nil)
    (pss_cons (ps_if (pt_cmpR op_eq (pe_fld (pv 1) rfl) (pe_glob rfl g6 (v := .int 6) ⟨_, rfl⟩) (nomark _)) (pss_one (ps_ret (pe_call Gsho (hr.mono (by decide)) (by rfl) A.sho.g A.sho.F.kp Bsho .nil pass0 (pa_cons (pv 0) (pa_cons (pe_ix ix_list (pv 2) pe_int (fun _ _ => rfl)) pa_nil))))) pss_nil)
    (pss_cons (ps_if (pt_cmpR op_eq (pe_fld (pv 1) rfl) (pe_glob rfl g7 (v := .int 7) ⟨_, rfl⟩) (nomark _)) (pss_one (ps_ret (pe_call Glis (hr.mono (by decide)) (by rfl) A.lis.g A.lis.F.kp Blis .nil pass0 (pa_cons (pv 0) (pa_cons (pe_ix ix_list (pv 2) pe_int (fun _ _ => rfl)) pa_nil))))) pss_nil)
    (pss_cons (ps_if (pt_cmpR op_eq (pe_fld (pv 1) rfl) (pe_glob rfl g8 (v := .int 8) ⟨_, rfl⟩) (nomark _)) (pss_one (ps_ret (pe_call Gdes (hr.mono (by decide)) (by rfl) A.des.g A.des.F.kp Bdes .nil pass0 (pa_cons (pv 0) (pa_cons (pe_ix ix_list (pv 2) pe_int (fun _ _ => rfl)) pa_nil))))) pss_nil)
    (pss_cons (ps_if (pt_cmpR op_eq (pe_fld (pv 1) rfl) (pe_glob rfl g9 (v := .int 9) ⟨_, rfl⟩) (nomark _)) (pss_one (ps_ret (pe_call Glrq (hr.mono (by decide)) (by rfl) A.lrq.g A.lrq.F.kp Blrq .nil pass0 (pa_cons (pv 0) (pa_cons (pe_ix ix_list (pv 2) pe_int (fun _ _ => rfl)) pa_nil))))) pss_nil)
    (pss_cons (ps_if (pt_cmpR op_eq (pe_fld (pv 1) rfl) (pe_glob rfl g10 (v := .int 10) ⟨_, rfl⟩) (nomark _)) (pss_one (ps_ret (pe_call Gapr (hr.mono (by decide)) (by rfl) A.apr.g A.apr.F.kp Bapr .nil pass0 (pa_cons (pv 0) (pa_cons (pe_ix ix_list (pv 2) pe_int (fun _ _ => rfl)) (pa_cons (pe_ix ix_list (pv 2) pe_int (fun _ _ => rfl)) pa_nil)))))) pss_nil)
    (pss_cons (ps_if (pt_cmpR op_eq (pe_fld (pv 1) rfl) (pe_glob rfl g11 (v := .int 11) ⟨_, rfl⟩) (nomark _)) (pss_one (ps_ret (pe_call Grvd (hr.mono (by decide)) (by rfl) A.rvd.g A.rvd.F.kp Brvd .nil pass0 (pa_cons (pv 0) (pa_cons (pe_ix ix_list (pv 2) pe_int (fun _ _ => rfl)) (pa_cons (pe_ix ix_list (pv 2) pe_int (fun _ _ => rfl)) pa_nil)))))) pss_nil)
    (pss_cons (ps_if (pt_cmpR op_eq (pe_fld (pv 1) rfl) (pe_glob rfl g12 (v := .int 12) ⟨_, rfl⟩) (nomark _)) (pss_one (ps_ret (pe_call Gexp (hr.mono (by decide)) (by rfl) A.exp.g A.exp.F.kp Bexp .nil pass0 (pa_cons (pv 0) (pa_cons (pe_ix ix_list (pv 2) pe_int (fun _ _ => rfl)) (pa_cons (pe_ix ix_list (pv 2) pe_int (fun _ _ => rfl)) (pa_cons (pe_ix ix_list (pv 2) pe_int (fun _ _ => rfl)) pa_nil))))))) pss_nil)
    (pss_one (ps_ret (pe_call Gbla (hr.mono (by decide)) (by rfl) A.bla.g A.bla.F.kp Bbla .nil pass0 (pa_cons (pv 0) (pa_cons (pe_ix ix_list (pv 2) pe_int (fun _ _ => rfl)) pa_nil))))))))))))))))))), ?_⟩)
  · obtain ⟨F0, v, cv, c, x, o, s, _, rfl, _⟩ := h
    rfl
  · obtain ⟨F0, v, cv, c, x, o, st, hF, rfl, S, G, hc, hm, k⟩ := h
    obtain ⟨p0, ns, nb, eh, ebr, lnb, etk⟩ := means_head hm
    have hc' := hc
    obtain ⟨ca, cdx, pl, rw1, p', xs', r, rfl, h1, h2, h3, h4, h5⟩ := hc
    obtain ⟨a, dx, rfl, ha⟩ := S.obj
    refine ⟨_, rfl, ca, CL, cdx, _, _, rfl, hF _ _ h1, TC.clL, TC.nPlain, ca_plain _ _ _, ?_⟩
    -- any([branch >= len(session.branches) for branch in named_branches(call)])
    refine ⟨_, rfl, F0, .ref ca, c, p0, nI ns, nb, hF, rfl, hc', eh, ebr, by rw [nV_lenI]; exact lnb, fun F1 H1 na X1 hna => ?_⟩
    rw [nI_take, etk] at hna
    have S1 := S.ext X1
    refine ⟨na, rfl, ⟨_, SqL.of (X1.fh _ _ hna)⟩, fun D nD => ?_⟩
    have nF := X1.fh.free nD
    have nH := X1.hh.free nD
    have lbr : (brOf x).length ≤ 1000 := by
      have : (brOf x).length ≤ ns.length := by
        rw [← etk, List.length_take]
        omega
      have l3 : ns.length ≤ 3 := means_few hm eh
      omega
    refine lc_list (K := K) (a := na) (xs := nV (brOf x)) (fun i H2 => ∃ bs, Ext F0 H F1 H2 ∧ H2 D = some (.lst (bs.map V.bl)) ∧ bs = ((brOf x).take i).map fun b => decide (st.branches.length ≤ b))
      ⟨[], X1.tmp nD, upd_same, rfl⟩ (fun i H2 _ ⟨_, X, _⟩ => SqL.of (X.fh _ _ hna)) ?_ ?_
    · rintro i y H2 hi ⟨bs, X, hD, eb⟩
      obtain ⟨m, em, rfl⟩ := nV_get hi
      have S2 := S.ext X
      have lb : (bs.map V.bl).length < sizeLine := by
        rw [List.length_map, eb, List.length_map, List.length_take]
        exact Nat.lt_of_le_of_lt (m := 1000) (by omega) (by decide)
      refine ⟨rfl, _, rfl, _, rfl, a, CS, dx, _, _, rfl, X.fh _ _ (X.ff _ _ ha), TS.clS, TS.nBranches, se_branches _ _, _, st.branches.length, rfl, Or.inl ⟨_, SqL.of S2.brs, by rw [List.length_map]; exact S.nBr.symm⟩, _, _, rfl, rfl, _, hD, lb, bs ++ [decide (st.branches.length ≤ m)], X.put nF nH, ?_, ?_⟩
      · rw [upd_same, List.map_append]
        have e : decide ((st.branches.length : Int) ≤ (m : Int)) = decide (st.branches.length ≤ m) := decide_eq_decide.mpr Int.ofNat_le
        rw [← e]
        rfl
      · rw [take_more em, List.map_append, eb]
        rfl
    rintro H2 ⟨bs, X, hD, eb⟩
    rw [nV_len, List.take_length] at eb
    refine ⟨D, bs, rfl, SqL.of hD, _, rfl, ?_⟩
    by_cases bad : ∃ b ∈ brOf x, st.branches.length ≤ b
    · have eb2 : bs.any id = true := by
        obtain ⟨b, mb, lb⟩ := bad
        rw [eb, List.any_map]
        exact List.any_eq_true.mpr ⟨b, mb, decide_eq_true lb⟩
      rw [bad_call bad] at k
      refine ifT eb2 ⟨by show 1 ≤ sizeLine; decide, fun t nt => ?_⟩
      exact k.same S (X.new nt (o := .lst [.int (-2)])) ⟨t, rfl, upd_same⟩
    have eb2 : bs.any id = false := by
      cases e : bs.any id with
      | false => rfl
      | true =>
        rw [eb, List.any_map] at e
        obtain ⟨b, mb, lb⟩ := List.any_eq_true.mp e
        exact absurd ⟨b, mb, of_decide_eq_true lb⟩ bad
    refine ifF eb2 ?_
    have get : ∀ b, b ∈ brOf x → ∃ l, st.branches[b]? = some l := fun b m => ⟨_, List.getElem?_eq_getElem (Nat.lt_of_not_le fun z => bad ⟨b, m, z⟩)⟩
    have S2 := S.ext X
    have k2 := k.from_ X
    have hca : H2 ca = some (.ins CL cdx (caF (.int p') (.ref pl) (.ref rw1))) := X.fh _ _ (X.ff _ _ h1)
    have hpl : H2 pl = some (.lst (xs'.map V.int)) := X.fh _ _ (X.ff _ _ h2)
    have hrw : F1 rw1 = some (.lst (r.map V.int)) := X.ff _ _ h3
    have cl := TC.clL
    have no := TC.nOp
    cases hm with
    | branch b =>
      cases h4
      refine op_hit rfl hca cl no rfl ?_
      obtain ⟨l, el⟩ := get b List.mem_cons_self
      exact ⟨_, rfl, _, rfl, pl, _, 0, .int b, rfl, rfl, SqL.of hpl, atI_nat (j := 0) rfl, F1, .ref a, b, o, st, l, X.fh, rfl, S2, G, el, k2⟩
    | write b n r t ln lr h =>
      cases h4
      cases h5
      refine op_skip rfl hca cl no (by decide) ?_
      refine op_hit rfl hca cl no rfl ?_
      obtain ⟨l, el⟩ := get b List.mem_cons_self
      refine ⟨_, rfl, _, rfl, pl, _, 0, .int b, rfl, rfl, SqL.of hpl, atI_nat (j := 0) rfl, _, rfl, pl, _, 1, .int n, rfl, rfl, SqL.of hpl, atI_nat (j := 1) rfl, _, rfl, ca, CL, cdx, _, _, rfl, hca, cl, TC.nRow, ca_row _ _ _, F1, .ref rw1, n, r, t, X.fh, rfl, ⟨rw1, rfl, hrw⟩, h, by omega, fun F3 H3 tv X3 htv => ?_⟩
      have ltn := decode_len h
      exact ⟨F3, .ref a, tv, b, o, st, l, t, X3.fh, rfl, S2.ext X3, G, el, htv, by omega, k2.from_ X3⟩
    | delete b r t lr h =>
      cases h4
      cases h5
      refine op_skip rfl hca cl no (by decide) ?_
      refine op_skip rfl hca cl no (by decide) ?_
      refine op_hit rfl hca cl no rfl ?_
      obtain ⟨l, el⟩ := get b List.mem_cons_self
      refine ⟨_, rfl, _, rfl, pl, _, 0, .int b, rfl, rfl, SqL.of hpl, atI_nat (j := 0) rfl, _, rfl, ca, CL, cdx, _, _, rfl, hca, cl, TC.nRow, ca_row _ _ _, F1, .ref rw1, r, t, X.fh, rfl, ⟨rw1, rfl, hrw⟩, h, by omega, fun F3 H3 tv X3 htv => ?_⟩
      have ltn := (pairs_get h).1
      have l300 : t.length ≤ 300 := by omega
      exact ⟨F3, .ref a, tv, b, o, st, l, t, X3.fh, rfl, S2.ext X3, G, el, htv, l300, k2.from_ X3⟩
    | apply b p =>
      cases h4
      refine op_skip rfl hca cl no (by decide) ?_
      refine op_skip rfl hca cl no (by decide) ?_
      refine op_skip rfl hca cl no (by decide) ?_
      refine op_hit rfl hca cl no rfl ?_
      obtain ⟨l, el⟩ := get b List.mem_cons_self
      exact ⟨_, rfl, _, rfl, pl, _, 0, .int b, rfl, rfl, SqL.of hpl, atI_nat (j := 0) rfl, _, rfl, pl, _, 1, .int p, rfl, rfl, SqL.of hpl, atI_nat (j := 1) rfl, F1, .ref a, b, p, o, st, l, X.fh, rfl, S2, G, el, k2⟩
    | merge b p =>
      cases h4
      refine op_skip rfl hca cl no (by decide) ?_
      refine op_skip rfl hca cl no (by decide) ?_
      refine op_skip rfl hca cl no (by decide) ?_
      refine op_skip rfl hca cl no (by decide) ?_
      refine op_hit rfl hca cl no rfl ?_
      obtain ⟨l, el⟩ := get b List.mem_cons_self
      obtain ⟨l2, el2⟩ := get p (List.mem_cons_of_mem _ List.mem_cons_self)
      exact ⟨_, rfl, _, rfl, pl, _, 0, .int b, rfl, rfl, SqL.of hpl, atI_nat (j := 0) rfl, _, rfl, pl, _, 1, .int p, rfl, rfl, SqL.of hpl, atI_nat (j := 1) rfl, F1, .ref a, b, p, o, st, l, l2, X.fh, rfl, S2, G, el, el2, k2⟩
    | revert b p =>
      cases h4
      refine op_skip rfl hca cl no (by decide) ?_
      refine op_skip rfl hca cl no (by decide) ?_
      refine op_skip rfl hca cl no (by decide) ?_
      refine op_skip rfl hca cl no (by decide) ?_
      refine op_skip rfl hca cl no (by decide) ?_
      refine op_hit rfl hca cl no rfl ?_
      obtain ⟨l, el⟩ := get b List.mem_cons_self
      exact ⟨_, rfl, _, rfl, pl, _, 0, .int b, rfl, rfl, SqL.of hpl, atI_nat (j := 0) rfl, _, rfl, pl, _, 1, .int p, rfl, rfl, SqL.of hpl, atI_nat (j := 1) rfl, F1, .ref a, b, p, o, st, l, X.fh, rfl, S2, G, el, k2⟩
    | show_ b =>
      cases h4
      refine op_skip rfl hca cl no (by decide) ?_
      refine op_skip rfl hca cl no (by decide) ?_
      refine op_skip rfl hca cl no (by decide) ?_
      refine op_skip rfl hca cl no (by decide) ?_
      refine op_skip rfl hca cl no (by decide) ?_
      refine op_skip rfl hca cl no (by decide) ?_
      refine op_hit rfl hca cl no rfl ?_
      obtain ⟨l, el⟩ := get b List.mem_cons_self
      exact ⟨_, rfl, _, rfl, pl, _, 0, .int b, rfl, rfl, SqL.of hpl, atI_nat (j := 0) rfl, F1, .ref a, b, o, st, l, X.fh, rfl, S2, G, el, k2⟩
    | lines b =>
      cases h4
      refine op_skip rfl hca cl no (by decide) ?_
      refine op_skip rfl hca cl no (by decide) ?_
      refine op_skip rfl hca cl no (by decide) ?_
      refine op_skip rfl hca cl no (by decide) ?_
      refine op_skip rfl hca cl no (by decide) ?_
      refine op_skip rfl hca cl no (by decide) ?_
      refine op_skip rfl hca cl no (by decide) ?_
      refine op_hit rfl hca cl no rfl ?_
      obtain ⟨l, el⟩ := get b List.mem_cons_self
      exact ⟨_, rfl, _, rfl, pl, _, 0, .int b, rfl, rfl, SqL.of hpl, atI_nat (j := 0) rfl, F1, .ref a, b, o, st, l, X.fh, rfl, S2, G, el, k2⟩
    | change b =>
      cases h4
      refine op_skip rfl hca cl no (by decide) ?_
      refine op_skip rfl hca cl no (by decide) ?_
      refine op_skip rfl hca cl no (by decide) ?_
      refine op_skip rfl hca cl no (by decide) ?_
      refine op_skip rfl hca cl no (by decide) ?_
      refine op_skip rfl hca cl no (by decide) ?_
      refine op_skip rfl hca cl no (by decide) ?_
      refine op_skip rfl hca cl no (by decide) ?_
      refine op_hit rfl hca cl no rfl ?_
      exact ⟨_, rfl, _, rfl, pl, _, 0, .int b, rfl, rfl, SqL.of hpl, atI_nat (j := 0) rfl, F1, .ref a, b, o, st, X.fh, rfl, S2, G, k2⟩
    | requirements b =>
      cases h4
      refine op_skip rfl hca cl no (by decide) ?_
      refine op_skip rfl hca cl no (by decide) ?_
      refine op_skip rfl hca cl no (by decide) ?_
      refine op_skip rfl hca cl no (by decide) ?_
      refine op_skip rfl hca cl no (by decide) ?_
      refine op_skip rfl hca cl no (by decide) ?_
      refine op_skip rfl hca cl no (by decide) ?_
      refine op_skip rfl hca cl no (by decide) ?_
      refine op_skip rfl hca cl no (by decide) ?_
      refine op_hit rfl hca cl no rfl ?_
      exact ⟨_, rfl, _, rfl, pl, _, 0, .int b, rfl, rfl, SqL.of hpl, atI_nat (j := 0) rfl, F1, .ref a, b, o, st, X.fh, rfl, S2, G, k2⟩
    | applyWith b p =>
      cases h4
      refine op_skip rfl hca cl no (by decide) ?_
      refine op_skip rfl hca cl no (by decide) ?_
      refine op_skip rfl hca cl no (by decide) ?_
      refine op_skip rfl hca cl no (by decide) ?_
      refine op_skip rfl hca cl no (by decide) ?_
      refine op_skip rfl hca cl no (by decide) ?_
      refine op_skip rfl hca cl no (by decide) ?_
      refine op_skip rfl hca cl no (by decide) ?_
      refine op_skip rfl hca cl no (by decide) ?_
      refine op_skip rfl hca cl no (by decide) ?_
      refine op_hit rfl hca cl no rfl ?_
      obtain ⟨l, el⟩ := get b List.mem_cons_self
      exact ⟨_, rfl, _, rfl, pl, _, 0, .int b, rfl, rfl, SqL.of hpl, atI_nat (j := 0) rfl, _, rfl, pl, _, 1, .int p, rfl, rfl, SqL.of hpl, atI_nat (j := 1) rfl, F1, .ref a, b, p, o, st, l, X.fh, rfl, S2, G, el, k2⟩
    | revertWith b p =>
      cases h4
      refine op_skip rfl hca cl no (by decide) ?_
      refine op_skip rfl hca cl no (by decide) ?_
      refine op_skip rfl hca cl no (by decide) ?_
      refine op_skip rfl hca cl no (by decide) ?_
      refine op_skip rfl hca cl no (by decide) ?_
      refine op_skip rfl hca cl no (by decide) ?_
      refine op_skip rfl hca cl no (by decide) ?_
      refine op_skip rfl hca cl no (by decide) ?_
      refine op_skip rfl hca cl no (by decide) ?_
      refine op_skip rfl hca cl no (by decide) ?_
      refine op_skip rfl hca cl no (by decide) ?_
      refine op_hit rfl hca cl no rfl ?_
      obtain ⟨l, el⟩ := get b List.mem_cons_self
      exact ⟨_, rfl, _, rfl, pl, _, 0, .int b, rfl, rfl, SqL.of hpl, atI_nat (j := 0) rfl, _, rfl, pl, _, 1, .int p, rfl, rfl, SqL.of hpl, atI_nat (j := 1) rfl, F1, .ref a, b, p, o, st, l, X.fh, rfl, S2, G, el, k2⟩
    | explain b p i =>
      cases h4
      refine op_skip rfl hca cl no (by decide) ?_
      refine op_skip rfl hca cl no (by decide) ?_
      refine op_skip rfl hca cl no (by decide) ?_
      refine op_skip rfl hca cl no (by decide) ?_
      refine op_skip rfl hca cl no (by decide) ?_
      refine op_skip rfl hca cl no (by decide) ?_
      refine op_skip rfl hca cl no (by decide) ?_
      refine op_skip rfl hca cl no (by decide) ?_
      refine op_skip rfl hca cl no (by decide) ?_
      refine op_skip rfl hca cl no (by decide) ?_
      refine op_skip rfl hca cl no (by decide) ?_
      refine op_skip rfl hca cl no (by decide) ?_
      refine op_hit rfl hca cl no rfl ?_
      obtain ⟨l, el⟩ := get b List.mem_cons_self
      exact ⟨_, rfl, _, rfl, pl, _, 0, .int b, rfl, rfl, SqL.of hpl, atI_nat (j := 0) rfl, _, rfl, pl, _, 1, .int p, rfl, rfl, SqL.of hpl, atI_nat (j := 1) rfl, _, rfl, pl, _, 2, .int i, rfl, rfl, SqL.of hpl, atI_nat (j := 2) rfl, F1, .ref a, b, p, i, o, st, l, X.fh, rfl, S2, G, el, k2⟩
    | blame b =>
      cases h4
      refine op_skip rfl hca cl no (by decide) ?_
      refine op_skip rfl hca cl no (by decide) ?_
      refine op_skip rfl hca cl no (by decide) ?_
      refine op_skip rfl hca cl no (by decide) ?_
      refine op_skip rfl hca cl no (by decide) ?_
      refine op_skip rfl hca cl no (by decide) ?_
      refine op_skip rfl hca cl no (by decide) ?_
      refine op_skip rfl hca cl no (by decide) ?_
      refine op_skip rfl hca cl no (by decide) ?_
      refine op_skip rfl hca cl no (by decide) ?_
      refine op_skip rfl hca cl no (by decide) ?_
      refine op_skip rfl hca cl no (by decide) ?_
      refine op_skip rfl hca cl no (by decide) ?_
      obtain ⟨l, el⟩ := get b List.mem_cons_self
      exact ⟨_, rfl, _, rfl, pl, _, 0, .int b, rfl, rfl, SqL.of hpl, atI_nat (j := 0) rfl, F1, .ref a, b, o, st, l, X.fh, rfl, S2, G, el, k2⟩
end
end Lg
namespace Lg
open PySem PySem.Spec PyProof.Rows L2
/-! ### what the top leaves, by names -/
def dfn (x : Str) (st : Stmt) : He.DefD := ⟨(x, none), x, x, defArgs st, defBody st, defScope st, [], []⟩
def din (C q : Str) (st : Stmt) : He.DefD := ⟨(C, some "__init__"), "__init__", q, defArgs st, defBody st, defScope st, [], []⟩
def fnL0 : List He.DefD := [dfn "inserted_lines" sIns, dfn "chains" sCha, dfn "dependencies" sDep, dfn "visible_lines" sVis, dfn "next_positions" sNxt, dfn "preceded_positions" sPre, dfn "is_preceded" sIsp, dfn "order_lines" sOrd, dfn "find_conflicts" sCnf, dfn "find_content" sCon, dfn "line_texts" sTex, dfn "kept_counts" sCnt, dfn "make_hunks" sMkh, dfn "difference" sDif, dfn "exceeds_limits" sExc, dfn "record_change" sRec, dfn "requirements" sReq, dfn "encode_lines" sEcl, dfn "encode_positions" sEcp, dfn "named_branches" sNbr, dfn "read_lines" sEnl, dfn "read_pairs" sEnp, dfn "make_branch" sMkb, dfn "write_lines" sWri, dfn "can_be_deleted" sCbd]
def fnL1 : List He.DefD := [dfn "delete_lines" sDel, dfn "apply_change" sApp, dfn "merge_branch" sMer, dfn "revert_change" sRev, dfn "show_text" sSho, dfn "list_lines" sLis, dfn "describe_change" sDes, dfn "list_requirements" sLrq, dfn "apply_with_requirements" sApr, dfn "revert_with_dependents" sRvd, dfn "explain_line" sExp, dfn "blame_text" sBla, dfn "read_calls" sRdc, dfn "answer_call" sAnc, dfn "answers" sAns, din "Hunk" "Hunk.__init__" sIH, din "Change" "Change.__init__" sIC, din "Content" "Content.__init__" sIO, din "Call" "Call.__init__" sIL, din "Session" "Session.__init__" sIS]
def fnL : List He.DefD := fnL0 ++ (fnL1)
def faL0 : List He.Fa := [.glo "inserted_lines", .glo "chains", .glo "dependencies", .glo "visible_lines", .glo "next_positions", .glo "preceded_positions", .glo "is_preceded", .glo "order_lines", .glo "find_conflicts", .glo "find_content", .glo "line_texts", .glo "kept_counts", .glo "make_hunks", .glo "difference", .glo "exceeds_limits", .glo "record_change", .glo "requirements", .glo "encode_lines", .glo "encode_positions", .glo "named_branches", .glo "read_lines", .glo "read_pairs", .glo "make_branch", .glo "write_lines", .glo "can_be_deleted"]
def faL1 : List He.Fa := [.glo "delete_lines", .glo "apply_change", .glo "merge_branch", .glo "revert_change", .glo "show_text", .glo "list_lines", .glo "describe_change", .glo "list_requirements", .glo "apply_with_requirements", .glo "revert_with_dependents", .glo "explain_line", .glo "blame_text", .glo "read_calls", .glo "answer_call", .glo "answers", .glo "Hunk", .glo "Change", .glo "Content", .glo "Call", .glo "Session", .int "BRANCH" (0), .int "WRITE" (1), .int "DELETE" (2), .int "APPLY" (3), .int "MERGE" (4)]
def faL2 : List He.Fa := [.int "REVERT" (5), .int "SHOW" (6), .int "LINES" (7), .int "CHANGE" (8), .int "REQUIREMENTS" (9), .int "APPLY_WITH_REQUIREMENTS" (10), .int "REVERT_WITH_DEPENDENTS" (11), .int "EXPLAIN" (12), .int "MAX_LINES" (8), .int "MAX_BYTES" (12), .int "MAX_CHANGES" (12), .int "MAX_BRANCHES" (5), .int "OVER_LIMITS" (-1), .int "NO_BRANCH" (-2), .int "NO_CHANGE_OR_LINE" (-3), .int "DEPENDENCIES" (-4), .int "CONFLICTS" (-5), .int "NOTHING_NEW" (-6), .int "TOO_MANY" (-8), .int "LINE_DELETED" (0), .int "LINE_VISIBLE" (1), .int "LINE_ABSENT" (2), .free "len", .free "range", .free "list"]
def faL3 : List He.Fa := [.free "sorted", .free "set", .free "any", .free "all", .free "max", .cls "Hunk", .cls "Change", .cls "Content", .cls "Call", .cls "Session", .mkr "Hunk", .mkr "Change", .mkr "Content", .mkr "Call", .mkr "Session", .noat "Hunk" "before", .noat "Hunk" "after", .noat "Hunk" "inserted", .noat "Change" "hunks", .noat "Change" "deleted", .noat "Content" "order", .noat "Content" "conflicts", .noat "Call" "operation", .noat "Call" "plain", .noat "Call" "row"]
def faL4 : List He.Fa := [.noat "Session" "changes", .noat "Session" "branches", .glo "PLAIN_COUNTS", .glo "BRANCH_COUNTS"]
def faL : List He.Fa := faL0 ++ (faL1 ++ (faL2 ++ (faL3 ++ (faL4))))
def tabP : List He.Dv := [.int 1, .int 2, .int 1, .int 2, .int 2, .int 2, .int 1, .int 1, .int 1, .int 1, .int 2, .int 2, .int 3, .int 1]
def tabB : List He.Dv := [.int 1, .int 1, .int 1, .int 1, .int 2, .int 1, .int 1, .int 1, .int 0, .int 0, .int 1, .int 1, .int 1, .int 1]
def tabs (K : PySem.W.Frag) : Bool := He.tupB K "PLAIN_COUNTS" tabP && He.tupB K "BRANCH_COUNTS" tabB
/-- the Hook: the defs and names, and the two tables -/
def Told (K : PySem.W.Frag) : Prop := tabs K = true ∧ He.SaysD faL fnL K
abbrev AlL : Type := Bool × He.AlD
def obsL (g : Addr → Option Obj) : AlL := (tabs (He.frG g (He.asD g 6)), He.obsD faL fnL (He.frG g (He.asD g 6)))
def hookL : PySem.W.Hook where
  α := AlL
  obs := fun s => obsL s.heap.get?
  val := fun _ => (true, He.valD fnL)
  says := fun _ h => ∃ K : PySem.W.Frag, K.In h ∧ Told K
  of := fun _ _ e => ⟨_, He.frG_in, congrArg (fun z : AlL => z.1) e, congrArg (fun z : AlL => z.2) e⟩
  keeps := fun _ _ _ ⟨K, a, c⟩ k => ⟨K, PySem.W.Frag.In.keeps a k, c⟩
theorem fun_of {K : PySem.W.Frag} {x q : Str} {st : Stmt} {f : Addr} {fd : FuncData} (h : FunD K x q (defArgs st) (defBody st) (defScope st) [] [] f fd) : Fun K x q st f fd := by
  obtain ⟨⟨oc, od, dV, kV, doc, pm, an, cdv, ct, osl, e, lk, hcd, hd, hk⟩, kp⟩ := h
  rcases hd with ⟨_, rfl⟩ | ⟨z, _⟩
  · exact ⟨⟨oc, od, kV, doc, pm, an, cdv, ct, osl, e, lk, hcd⟩, kp⟩
  · exact absurd rfl z
section
variable {K : PySem.W.Frag} {h : Heap} {mg : Str → Option Value}
theorem cd_of (X : K.In h) (G : h.Ns mainGlobals mg) (c : Told K) (n : Str) (st : Stmt) (i : Nat) (e : fnL[i]? = some (dfn n st) := by rfl) (e2 : faL[i]? = some (.glo n) := by rfl) : Nonempty (Cd K mg n st) := by
  obtain ⟨fd, F⟩ := c.2.def_ i e
  exact ⟨⟨He.ga K n, fd, fun_of F, He.glo_ok X G (c.2.fact i e2)⟩⟩
theorem ci_of (c : Told K) (C q : Str) (st : Stmt) (i j : Nat) (e : fnL[i]? = some (din C q st) := by rfl) (e2 : faL[j]? = some (.mkr C) := by rfl) : Nonempty (Ci K (He.ga K C) q st) := by
  obtain ⟨fd, F⟩ := c.2.def_ i e
  exact ⟨⟨He.ma K (He.ga K C) "__init__", fd, fun_of F, He.mkr_ok (c.2.fact j e2)⟩⟩
theorem tab_ints (l : List Nat) : (l.map fun (n : Nat) => He.Dv.int (n : Int)).map (He.Dv.v K) = nV l := by
  unfold nV Gf11.toInts
  rw [List.map_map, List.map_map]
  rfl
theorem txt_of (X : K.In h) (G : h.Ns mainGlobals mg) (c : Told K) : Txt K mg (He.ga K "Hunk") (He.ga K "Change") (He.ga K "Content") (He.ga K "Call") (He.ga K "Session") where
  clH := (He.cls_ok (c.2.fact 80 (f := .cls "Hunk") rfl))
  clO := (He.cls_ok (c.2.fact 82 (f := .cls "Content") rfl))
  nOrder := (He.noat_ok (c.2.fact 95 (f := .noat "Content" "order") rfl))
  nConflicts := (He.noat_ok (c.2.fact 96 (f := .noat "Content" "conflicts") rfl))
  gO := (He.glo_ok X G (c.2.fact 42 (f := .glo "Content") rfl))
  clC := (He.cls_ok (c.2.fact 81 (f := .cls "Change") rfl))
  nBefore := (He.noat_ok (c.2.fact 90 (f := .noat "Hunk" "before") rfl))
  nAfter := (He.noat_ok (c.2.fact 91 (f := .noat "Hunk" "after") rfl))
  nInserted := (He.noat_ok (c.2.fact 92 (f := .noat "Hunk" "inserted") rfl))
  nHunks := (He.noat_ok (c.2.fact 93 (f := .noat "Change" "hunks") rfl))
  nDeleted := (He.noat_ok (c.2.fact 94 (f := .noat "Change" "deleted") rfl))
  gH := (He.glo_ok X G (c.2.fact 40 (f := .glo "Hunk") rfl))
  gC := (He.glo_ok X G (c.2.fact 41 (f := .glo "Change") rfl))
  len := (He.free_ok X G (c.2.fact 72 (f := .free "len") rfl))
  range := (He.free_ok X G (c.2.fact 73 (f := .free "range") rfl))
  list := (He.free_ok X G (c.2.fact 74 (f := .free "list") rfl))
  sorted := (He.free_ok X G (c.2.fact 75 (f := .free "sorted") rfl))
  set := (He.free_ok X G (c.2.fact 76 (f := .free "set") rfl))
  any := (He.free_ok X G (c.2.fact 77 (f := .free "any") rfl))
  all := (He.free_ok X G (c.2.fact 78 (f := .free "all") rfl))
  max := (He.free_ok X G (c.2.fact 79 (f := .free "max") rfl))
theorem txtO_of (X : K.In h) (G : h.Ns mainGlobals mg) (c : Told K) : TxtO mg where
  maxLines := (He.int_ok X G (c.2.fact 58 (f := .int "MAX_LINES" (8)) rfl))
  maxBytes := (He.int_ok X G (c.2.fact 59 (f := .int "MAX_BYTES" (12)) rfl))
  maxChanges := (He.int_ok X G (c.2.fact 60 (f := .int "MAX_CHANGES" (12)) rfl))
  maxBranches := (He.int_ok X G (c.2.fact 61 (f := .int "MAX_BRANCHES" (5)) rfl))
  over := (He.int_ok X G (c.2.fact 62 (f := .int "OVER_LIMITS" (-1)) rfl))
  noBranch := (He.int_ok X G (c.2.fact 63 (f := .int "NO_BRANCH" (-2)) rfl))
  noItem := (He.int_ok X G (c.2.fact 64 (f := .int "NO_CHANGE_OR_LINE" (-3)) rfl))
  deps := (He.int_ok X G (c.2.fact 65 (f := .int "DEPENDENCIES" (-4)) rfl))
  confl := (He.int_ok X G (c.2.fact 66 (f := .int "CONFLICTS" (-5)) rfl))
  same := (He.int_ok X G (c.2.fact 67 (f := .int "NOTHING_NEW" (-6)) rfl))
  many := (He.int_ok X G (c.2.fact 68 (f := .int "TOO_MANY" (-8)) rfl))
theorem txtS_of (c : Told K) : TxtS K (He.ga K "Session") where
  clS := (He.cls_ok (c.2.fact 84 (f := .cls "Session") rfl))
  nChanges := (He.noat_ok (c.2.fact 100 (f := .noat "Session" "changes") rfl))
  nBranches := (He.noat_ok (c.2.fact 101 (f := .noat "Session" "branches") rfl))
theorem txtR_of (X : K.In h) (G : h.Ns mainGlobals mg) (c : Told K) : TxtR mg where
  del := (He.int_ok X G (c.2.fact 69 (f := .int "LINE_DELETED" (0)) rfl))
  vis := (He.int_ok X G (c.2.fact 70 (f := .int "LINE_VISIBLE" (1)) rfl))
  abs := (He.int_ok X G (c.2.fact 71 (f := .int "LINE_ABSENT" (2)) rfl))
theorem txtA_of (X : K.In h) (G : h.Ns mainGlobals mg) (c : Told K) : TxtA mg where
  c0 := (He.int_ok X G (c.2.fact 45 (f := .int "BRANCH" (0)) rfl))
  c3 := (He.int_ok X G (c.2.fact 48 (f := .int "APPLY" (3)) rfl))
  c4 := (He.int_ok X G (c.2.fact 49 (f := .int "MERGE" (4)) rfl))
  c5 := (He.int_ok X G (c.2.fact 50 (f := .int "REVERT" (5)) rfl))
  c6 := (He.int_ok X G (c.2.fact 51 (f := .int "SHOW" (6)) rfl))
  c7 := (He.int_ok X G (c.2.fact 52 (f := .int "LINES" (7)) rfl))
  c8 := (He.int_ok X G (c.2.fact 53 (f := .int "CHANGE" (8)) rfl))
  c9 := (He.int_ok X G (c.2.fact 54 (f := .int "REQUIREMENTS" (9)) rfl))
  c10 := (He.int_ok X G (c.2.fact 55 (f := .int "APPLY_WITH_REQUIREMENTS" (10)) rfl))
  c11 := (He.int_ok X G (c.2.fact 56 (f := .int "REVERT_WITH_DEPENDENTS" (11)) rfl))
  c12 := (He.int_ok X G (c.2.fact 57 (f := .int "EXPLAIN" (12)) rfl))
theorem txtC_of (X : K.In h) (G : h.Ns mainGlobals mg) (c : Told K) : TxtC K mg (He.ga K "Call") cntsT brsT where
  clL := (He.cls_ok (c.2.fact 83 (f := .cls "Call") rfl))
  nOp := (He.noat_ok (c.2.fact 97 (f := .noat "Call" "operation") rfl))
  nPlain := (He.noat_ok (c.2.fact 98 (f := .noat "Call" "plain") rfl))
  nRow := (He.noat_ok (c.2.fact 99 (f := .noat "Call" "row") rfl))
  gL := (He.glo_ok X G (c.2.fact 43 (f := .glo "Call") rfl))
  write := (He.int_ok X G (c.2.fact 46 (f := .int "WRITE" (1)) rfl))
  delete := (He.int_ok X G (c.2.fact 47 (f := .int "DELETE" (2)) rfl))
  plain := ⟨_, (He.glo_ok X G (c.2.fact 102 (f := .glo "PLAIN_COUNTS") rfl)), fun H => by
    have e := He.tupB_ok (He.ba c.1).1 H
    rwa [show tabP = cntsT.map (fun (n : Nat) => He.Dv.int (n : Int)) from rfl, tab_ints] at e⟩
  branch := ⟨_, (He.glo_ok X G (c.2.fact 103 (f := .glo "BRANCH_COUNTS") rfl)), fun H => by
    have e := He.tupB_ok (He.ba c.1).2 H
    rwa [show tabB = brsT.map (fun (n : Nat) => He.Dv.int (n : Int)) from rfl, tab_ints] at e⟩
theorem lib_of (X : K.In h) (G : h.Ns mainGlobals mg) (c : Told K) : Nonempty (Lib K mg (He.ga K "Hunk") (He.ga K "Change") (He.ga K "Content")) := by
  obtain ⟨x_ins⟩ := cd_of (mg := mg) X G c "inserted_lines" sIns 0
  obtain ⟨x_cha⟩ := cd_of (mg := mg) X G c "chains" sCha 1
  obtain ⟨x_dep⟩ := cd_of (mg := mg) X G c "dependencies" sDep 2
  obtain ⟨x_vis⟩ := cd_of (mg := mg) X G c "visible_lines" sVis 3
  obtain ⟨x_nxt⟩ := cd_of (mg := mg) X G c "next_positions" sNxt 4
  obtain ⟨x_pre⟩ := cd_of (mg := mg) X G c "preceded_positions" sPre 5
  obtain ⟨x_isp⟩ := cd_of (mg := mg) X G c "is_preceded" sIsp 6
  obtain ⟨x_ord⟩ := cd_of (mg := mg) X G c "order_lines" sOrd 7
  obtain ⟨x_cnf⟩ := cd_of (mg := mg) X G c "find_conflicts" sCnf 8
  obtain ⟨x_con⟩ := cd_of (mg := mg) X G c "find_content" sCon 9
  obtain ⟨x_tex⟩ := cd_of (mg := mg) X G c "line_texts" sTex 10
  obtain ⟨x_cnt⟩ := cd_of (mg := mg) X G c "kept_counts" sCnt 11
  obtain ⟨x_mkh⟩ := cd_of (mg := mg) X G c "make_hunks" sMkh 12
  obtain ⟨x_dif⟩ := cd_of (mg := mg) X G c "difference" sDif 13
  obtain ⟨x_exc⟩ := cd_of (mg := mg) X G c "exceeds_limits" sExc 14
  obtain ⟨x_recd⟩ := cd_of (mg := mg) X G c "record_change" sRec 15
  obtain ⟨x_req⟩ := cd_of (mg := mg) X G c "requirements" sReq 16
  obtain ⟨x_ecl⟩ := cd_of (mg := mg) X G c "encode_lines" sEcl 17
  obtain ⟨x_ecp⟩ := cd_of (mg := mg) X G c "encode_positions" sEcp 18
  obtain ⟨y_H⟩ := ci_of c "Hunk" "Hunk.__init__" sIH 40 85
  obtain ⟨y_C⟩ := ci_of c "Change" "Change.__init__" sIC 41 86
  obtain ⟨y_O⟩ := ci_of c "Content" "Content.__init__" sIO 42 87
  exact ⟨⟨x_ins, x_cha, x_dep, x_vis, x_nxt, x_pre, x_isp, x_ord, x_cnf, x_con, x_tex, x_cnt, x_mkh, x_dif, x_exc, x_recd, x_req, x_ecl, x_ecp, y_H, y_C, y_O⟩⟩
theorem libA_of (X : K.In h) (G : h.Ns mainGlobals mg) (c : Told K) : Nonempty (LibA K mg) := by
  obtain ⟨x_nbr⟩ := cd_of (mg := mg) X G c "named_branches" sNbr 19
  obtain ⟨x_enl⟩ := cd_of (mg := mg) X G c "read_lines" sEnl 20
  obtain ⟨x_enp⟩ := cd_of (mg := mg) X G c "read_pairs" sEnp 21
  obtain ⟨x_mkb⟩ := cd_of (mg := mg) X G c "make_branch" sMkb 22
  obtain ⟨x_wri⟩ := cd_of (mg := mg) X G c "write_lines" sWri 23
  obtain ⟨x_cbd⟩ := cd_of (mg := mg) X G c "can_be_deleted" sCbd 24
  obtain ⟨x_del⟩ := cd_of (mg := mg) X G c "delete_lines" sDel 25
  obtain ⟨x_app⟩ := cd_of (mg := mg) X G c "apply_change" sApp 26
  obtain ⟨x_mer⟩ := cd_of (mg := mg) X G c "merge_branch" sMer 27
  obtain ⟨x_rev⟩ := cd_of (mg := mg) X G c "revert_change" sRev 28
  obtain ⟨x_sho⟩ := cd_of (mg := mg) X G c "show_text" sSho 29
  obtain ⟨x_lis⟩ := cd_of (mg := mg) X G c "list_lines" sLis 30
  obtain ⟨x_des⟩ := cd_of (mg := mg) X G c "describe_change" sDes 31
  obtain ⟨x_lrq⟩ := cd_of (mg := mg) X G c "list_requirements" sLrq 32
  obtain ⟨x_apr⟩ := cd_of (mg := mg) X G c "apply_with_requirements" sApr 33
  obtain ⟨x_rvd⟩ := cd_of (mg := mg) X G c "revert_with_dependents" sRvd 34
  obtain ⟨x_exp⟩ := cd_of (mg := mg) X G c "explain_line" sExp 35
  obtain ⟨x_bla⟩ := cd_of (mg := mg) X G c "blame_text" sBla 36
  exact ⟨⟨x_nbr, x_enl, x_enp, x_mkb, x_wri, x_cbd, x_del, x_app, x_mer, x_rev, x_sho, x_lis, x_des, x_lrq, x_apr, x_rvd, x_exp, x_bla⟩⟩
theorem cnts_full (p : Int) (n k : Nat) (hs : PyGf13.shape p = some (n, k)) : ∃ q : Nat, p = (q : Int) ∧ cntsT[q]? = some n := by
  obtain ⟨h0, h13, _⟩ := shape_row hs
  obtain ⟨q, rfl⟩ : ∃ q : Nat, p = (q : Int) := ⟨p.toNat, by omega⟩
  refine ⟨q, rfl, ?_⟩
  have l : q ≤ 13 := by omega
  have key : ∀ q : Nat, q < 14 → ∀ z, PyGf13.shape (q : Int) = some z → cntsT[q]? = some z.1 := by
    intro q hq z e
    rcases Nat.lt_or_ge 0 q with c0 | c0
    rotate_left
    · have : q = 0 := by omega
      subst this
      cases e
      rfl
    rcases Nat.lt_or_ge 1 q with c1 | c1
    rotate_left
    · have : q = 1 := by omega
      subst this
      cases e
      rfl
    rcases Nat.lt_or_ge 2 q with c2 | c2
    rotate_left
    · have : q = 2 := by omega
      subst this
      cases e
      rfl
    rcases Nat.lt_or_ge 3 q with c3 | c3
    rotate_left
    · have : q = 3 := by omega
      subst this
      cases e
      rfl
    rcases Nat.lt_or_ge 4 q with c4 | c4
    rotate_left
    · have : q = 4 := by omega
      subst this
      cases e
      rfl
    rcases Nat.lt_or_ge 5 q with c5 | c5
    rotate_left
    · have : q = 5 := by omega
      subst this
      cases e
      rfl
    rcases Nat.lt_or_ge 6 q with c6 | c6
    rotate_left
    · have : q = 6 := by omega
      subst this
      cases e
      rfl
    rcases Nat.lt_or_ge 7 q with c7 | c7
    rotate_left
    · have : q = 7 := by omega
      subst this
      cases e
      rfl
    rcases Nat.lt_or_ge 8 q with c8 | c8
    rotate_left
    · have : q = 8 := by omega
      subst this
      cases e
      rfl
    rcases Nat.lt_or_ge 9 q with c9 | c9
    rotate_left
    · have : q = 9 := by omega
      subst this
      cases e
      rfl
    rcases Nat.lt_or_ge 10 q with c10 | c10
    rotate_left
    · have : q = 10 := by omega
      subst this
      cases e
      rfl
    rcases Nat.lt_or_ge 11 q with c11 | c11
    rotate_left
    · have : q = 11 := by omega
      subst this
      cases e
      rfl
    rcases Nat.lt_or_ge 12 q with c12 | c12
    rotate_left
    · have : q = 12 := by omega
      subst this
      cases e
      rfl
    rcases Nat.lt_or_ge 13 q with c13 | c13
    rotate_left
    · have : q = 13 := by omega
      subst this
      cases e
      rfl
    omega
  exact key q (by omega) _ hs
theorem facts {P : Program} {w : World} {f : Addr} (X : K.In h) (G : h.Ns mainGlobals mg) (hfa : mg ("answers" : Str) = some (.ref f)) (c : Told K) :
    ∃ fd : FuncData, (∀ (s : Shared) (us : List Value), us.length = (["calls"] : List Str).length → BindsTo s fd ⟨us, []⟩ ((["calls"] : List Str).zip us)) ∧
      ∀ base : Heap, K.In base → base.Ns mainGlobals mg → FnOk P w K mg base CX0 7 f fd ["calls"] (spAns K) := by
  have T := txt_of X G c
  have TO := txtO_of X G c
  have TS := txtS_of c
  have TR := txtR_of X G c
  have TA := txtA_of X G c
  have TC := txtC_of X G c
  obtain ⟨L⟩ := lib_of X G c
  obtain ⟨A⟩ := libA_of X G c
  obtain ⟨xR⟩ := cd_of (mg := mg) X G c "read_calls" sRdc 37
  obtain ⟨xA⟩ := cd_of (mg := mg) X G c "answer_call" sAnc 38
  obtain ⟨xM⟩ := cd_of (mg := mg) X G c "answers" sAns 39
  obtain ⟨yL⟩ := ci_of c "Call" "Call.__init__" sIL 43 88
  obtain ⟨yS⟩ := ci_of c "Session" "Session.__init__" sIS 44 89
  have gS : mg "Session" = some (.ref (He.ga K "Session")) := (He.glo_ok X G (c.2.fact 44 (f := .glo "Session") rfl))
  have e := hfa.symm.trans xM.g
  cases e
  obtain ⟨oc, od, kV, doc, pm, an, cdv, ct, osl, efd, lk, hcd⟩ := xM.F.ex
  refine ⟨xM.d, fun s us hl => ?_, fun base _ _ => ?_⟩
  · rw [efd]
    exact match us, hl with | [_], _ => .of_eq rfl
  · exact ok_ans xM.F T TS TC gS yS.M yS.F xR.F xR.g yL.M yL.F xA.F xA.g (ok_anc xA.F T TO TS TR TC TA L A) (by decide) cnts_full
end
end Lg
namespace Lg
open PySem PySem.Spec PyProof.Rows L2
/-! ### the top, run in the kernel -/
def loose0 : List Str := ["inserted_lines", "chains", "dependencies", "visible_lines", "next_positions", "preceded_positions", "is_preceded", "order_lines", "find_conflicts", "find_content", "line_texts", "kept_counts", "make_hunks", "difference", "exceeds_limits", "record_change", "requirements", "encode_lines", "encode_positions", "named_branches"]
def loose1 : List Str := ["read_lines", "read_pairs", "make_branch", "write_lines", "can_be_deleted", "delete_lines", "apply_change", "merge_branch", "revert_change", "show_text", "list_lines", "describe_change", "list_requirements", "apply_with_requirements", "revert_with_dependents", "explain_line", "blame_text", "read_calls", "answer_call", "Hunk"]
def loose2 : List Str := ["Change", "Content", "Call", "Session", "BRANCH", "WRITE", "DELETE", "APPLY", "MERGE", "REVERT", "SHOW", "LINES", "CHANGE", "REQUIREMENTS", "APPLY_WITH_REQUIREMENTS", "REVERT_WITH_DEPENDENTS", "EXPLAIN", "MAX_LINES", "MAX_BYTES", "MAX_CHANGES"]
def loose3 : List Str := ["MAX_BRANCHES", "OVER_LIMITS", "NO_BRANCH", "NO_CHANGE_OR_LINE", "DEPENDENCIES", "CONFLICTS", "NOTHING_NEW", "TOO_MANY", "LINE_DELETED", "LINE_VISIBLE", "LINE_ABSENT", "PLAIN_COUNTS", "BRANCH_COUNTS"]
def looseL : List Str := loose0 ++ (loose1 ++ (loose2 ++ (loose3)))
abbrev RL : PySem.W.OpenSpec := PySem.Challenge.rw_linegrafts_s01_answers
abbrev qvL : Program := PySem.W.view RL.prog [80]
def obT (s : PySem.W.SharedT) : AlL := obsL (HandSHeadRun.getT s)
theorem obT_eq (s : PySem.W.SharedT) : obT s = hookL.obs s.abs := by
  have e : HandSHeadRun.getT s = s.abs.heap.get? := funext (HandSHeadRun.getT_eq s)
  unfold obT
  rw [e]
  rfl
theorem run (w : World) : HandSHeadRun.RunEqS RL qvL hookL obT 3000 looseL w := by
  intro os
  kernel_rfl
end Lg
namespace Lg
open PySem PySem.Spec PyProof.Rows L2
open PySem.W (WData Codec)
/-! ### the end -/
/-- the walk, from what the Hook tells: the part of the heap that it speaks of is some part -/
theorem walk_told {d : DefRec} (said : RL.wellSaid = true) (nodef : d.params.defaults = []) (named : d.name = ("answers" : Str)) :
    PySem.W.WalkOS qvL looseL (PySem.W.XL qvL []) hookL.says RL d [] (fun f vs => PySem.call f vs) := by
  intro wd st0 st1 mg mb Gr told fa ob pm cd doc dv kv hob hdat hcode hdfl hname hgens
  intro args vals where_ hpre hlay hread hwell hlow
  obtain ⟨ar, hdec, hask⟩ := PySem.W.os_pre_some hpre
  obtain ⟨henc, hin⟩ := Codec.encAll_of_decAll RL.args args ar hdec
  subst henc
  obtain ⟨K, inK, c⟩ := told
  obtain ⟨fd, hbind, hok⟩ := facts (P := RL.prog) (w := wd) inK Gr.T.g (named ▸ hname) c
  have body := spec_call (R := []) (cl := classAt st0.heap) (d0 := RL.ret.enc (Codec.app RL.args RL.f ar)) inK Gr.T.g Gr.T.b Gr.T.builtins Gr.T.nolimit hgens hwell
    (pl_encAll _ _) (layable_weight hlay) (k := 7) (ps := ["calls"]) (sp := spAns K) (CX := CX0) ⟨rfl, by decide, by decide⟩ hok hbind (by rw [encAll_len]; rfl)
    (fun H xs only hx => ?_) (fun H e s' z => z)
  · refine PySem.W.enter_call (codeAny_mono body fun r s' hr => ?_)
    obtain ⟨u, bs, rfl, g1, g2, g3, g4⟩ := hr
    exact ⟨.inl ⟨u, _, bs, rfl, fun _ => rfl, g1, (PySem.W.OpenSpec.post_iff said hin _ _).mpr rfl, fun z => Bool.noConfusion (show false = true from z)⟩, g2, g3, g4⟩
  · cases hx with
    | cons x1 x2 =>
      cases x2
      cases x1 with
      | lst hs ha =>
        have e := L2.ints_dw ar.1 _ ha
        subst e
        have b : ((Codec.inLen 0 12060 ar.1 && ar.1.all (Codec.inInt 0 1000000)) && true) = true := hin
        rw [Bool.and_eq_true, Bool.and_eq_true] at b
        have len : ar.1.length ≤ 12060 := (Codec.inNat_iff.mp b.1.1).2
        exact ⟨_, ar.1, rfl, hs, hask, by omega, fun H' p hp => .lst (L2.SqL.of hp) (L2.dw_ints _)⟩
end Lg
open PySem PySem.W PyProof.Rows
theorem PySem.Challenge.cw_linegrafts_s01_answers_holds : PySem.Challenge.rw_linegrafts_s01_answers.Holds := by
  have said : PySem.Challenge.rw_linegrafts_s01_answers.wellSaid = true := by decide +kernel
  refine HandSHeadRun.head_spec (r := PySem.Challenge.rw_linegrafts_s01_answers) (q := Lg.qvL) (H := Lg.hookL) (ob := Lg.obT) (M := 3000) (loose := Lg.looseL) (d := HandSHeadRun.topDef PySem.Challenge.rw_linegrafts_s01_answers.prog 80) (kwd := []) Lg.obT_eq
    (by kernel_rfl) (fun s => by kernel_rfl) Lg.run (by kernel_rfl) (by kernel_rfl) (by kernel_rfl) os_shapes said (by decide +kernel) ⟨rfl, rfl, rfl, rfl, rfl, by decide +kernel⟩ ?wit ?walk
  case wit => exact ⟨[.list [.int 0, .int 0]], by decide +kernel, by decide +kernel⟩
  case walk => exact Lg.walk_told said (by kernel_rfl) (by kernel_rfl)
