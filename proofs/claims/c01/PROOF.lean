import PyProof.Rows.All
import Wide.All
import OpenK.AllK
import Wide.FinOn
import PyProof.EqAt
import PyProof.EqKinds
import PyProof.TupleCall
import HandS.SetFor
import HandS.Strs
import HandS.SortKw
import HandS.List
import HandS.Words
import KE.SortKeyHeap
import PyProof.DictMoreH
import HandS.SortInts
import HandS.More
import HandS.DictTup
import Open.SpecLaws
import KE.OsGo
import HandS.ForSpec
import HandS.ForMost
import HandS.Iter
import HandS.Walk
import HandS.TupAny
import HandS.Evl
import PySem.Challenge.RW_clauseproofs_s01_answers
set_option Elab.async false
set_option linter.all false
set_option maxRecDepth 100000
set_option maxHeartbeats 4000000
/-! MathA -/
namespace Cp
/-! clauses: the order, and that a clause is told in one way alone -/
def rank (x : Int) : Int := 2 * x.natAbs + (if 0 < x then 1 else 0)
theorem rank_inj {x y : Int} (h : rank x = rank y) : x = y := by
  unfold rank at h
  split at h <;> split at h <;> omega
theorem rank_lt {l x : Int} (hne : x ≠ l) : (l.natAbs < x.natAbs ∨ (l.natAbs = x.natAbs ∧ l < x)) ↔ rank l < rank x := by
  unfold rank
  split <;> split <;> omega
abbrev Up (l : List Int) : Prop := l.Pairwise fun a b => rank a < rank b
theorem mem_putLit (l : Int) : ∀ (c : List Int) (y : Int), y ∈ Sm15.putLit l c ↔ y = l ∨ y ∈ c
  | [], y => by simp [Sm15.putLit]
  | x :: r, y => by
    unfold Sm15.putLit
    split
    · rename_i e
      subst e
      simp
    · split
      · simp
      · have ih := mem_putLit l r y
        simp only [List.mem_cons, ih]
        constructor
        · rintro (h | h | h) <;> simp [h]
        · rintro (h | h | h) <;> simp [h]
theorem up_putLit (l : Int) : ∀ (c : List Int), Up c → Up (Sm15.putLit l c)
  | [], _ => by simp [Sm15.putLit, Up]
  | x :: r, h => by
    obtain ⟨h1, h2⟩ := List.pairwise_cons.mp h
    unfold Sm15.putLit
    split
    · exact h
    · rename_i ne
      split
      · rename_i c
        have c' := (rank_lt ne).mp c
        refine List.pairwise_cons.mpr ⟨fun y hy => ?_, h⟩
        rcases List.mem_cons.mp hy with e | e
        · subst e; exact c'
        · have := h1 y e; omega
      · rename_i c
        refine List.pairwise_cons.mpr ⟨fun y hy => ?_, up_putLit l r h2⟩
        rcases (mem_putLit l r y).mp hy with e | e
        · subst e
          have c' : ¬ rank y < rank x := fun z => c ((rank_lt ne).mpr z)
          have : rank x ≠ rank y := fun z => ne (rank_inj z)
          omega
        · exact h1 y e
theorem fold_put : ∀ (l : List Int) (c : List Int), Up c → Up (l.foldl (fun c x => Sm15.putLit x c) c) ∧ ∀ y, y ∈ l.foldl (fun c x => Sm15.putLit x c) c ↔ y ∈ c ∨ y ∈ l
  | [], c, h => ⟨h, fun y => by simp⟩
  | x :: r, c, h => by
    obtain ⟨a, b⟩ := fold_put r (Sm15.putLit x c) (up_putLit x c h)
    refine ⟨a, fun y => ?_⟩
    rw [List.foldl_cons, b y, mem_putLit, List.mem_cons]
    constructor
    · rintro ((h | h) | h) <;> simp [h]
    · rintro (h | h | h) <;> simp [h]
theorem up_clauseOf (l : List Int) : Up (Sm15.clauseOf l) := (fold_put l [] List.Pairwise.nil).1
theorem mem_clauseOf {l : List Int} {y : Int} : y ∈ Sm15.clauseOf l ↔ y ∈ l := by
  have := (fold_put l [] List.Pairwise.nil).2 y
  simpa [Sm15.clauseOf] using this
theorem up_one : ∀ (a b : List Int), Up a → Up b → (∀ y, y ∈ a ↔ y ∈ b) → a = b
  | [], [], _, _, _ => rfl
  | [], y :: r, _, _, h => by have := (h y).mpr (by simp); simp at this
  | x :: l, [], _, _, h => by have := (h x).mp (by simp); simp at this
  | x :: l, y :: r, ha, hb, h => by
    obtain ⟨a1, a2⟩ := List.pairwise_cons.mp ha
    obtain ⟨b1, b2⟩ := List.pairwise_cons.mp hb
    have exy : x = y := by
      rcases List.mem_cons.mp ((h x).mp (by simp)) with e | e
      · exact e
      · rcases List.mem_cons.mp ((h y).mpr (by simp)) with e2 | e2
        · exact e2.symm
        · have q1 := b1 x e
          have q2 := a1 y e2
          omega
    subst exy
    refine congrArg (x :: ·) (up_one l r a2 b2 fun z => ?_)
    have hz := h z
    simp only [List.mem_cons] at hz
    constructor
    · intro m
      rcases hz.mp (.inr m) with e | e
      · subst e; have := a1 z m; omega
      · exact e
    · intro m
      rcases hz.mpr (.inr m) with e | e
      · subst e; have := b1 z m; omega
      · exact e
theorem clauseOf_one {l c : List Int} (hu : Up c) (hm : ∀ y, y ∈ c ↔ y ∈ l) : c = Sm15.clauseOf l :=
  up_one _ _ hu (up_clauseOf l) fun y => (hm y).trans mem_clauseOf.symm
theorem up_nodup {c : List Int} (h : Up c) : c.Nodup := h.imp fun {a b} q e => by subst e; omega
theorem len_split {α : Type} (p : α → Bool) : ∀ c : List α, c.length = (c.filter p).length + (c.filter fun y => !p y).length
  | [] => rfl
  | x :: r => by
    have ih := len_split p r
    cases e : p x <;> simp [List.filter_cons, e] <;> omega
theorem nodup_bound : ∀ (n : Nat) (c : List Int), c.Nodup → (∀ y ∈ c, y ≠ 0 ∧ y.natAbs ≤ n) → c.length ≤ 2 * n
  | 0, [], _, _ => by simp
  | 0, x :: r, _, h => by have := h x (by simp); omega
  | n + 1, c, hn, h => by
    have ih := nodup_bound n (c.filter fun y => decide (y.natAbs ≤ n)) (hn.filter _) fun y hy => by
      have := List.mem_filter.mp hy
      exact ⟨(h y this.1).1, by simpa using this.2⟩
    have hrest : ∀ d : List Int, d.Nodup → (∀ y ∈ d, y = (n + 1 : Nat) ∨ y = -((n + 1 : Nat) : Int)) → d.length ≤ 2 := by
      intro d hd hm
      match d, hd, hm with
      | [], _, _ => simp
      | [_], _, _ => simp
      | [_, _], _, _ => simp
      | a :: b :: e :: r, hd, hm =>
        exfalso
        have h1 := hm a (by simp)
        have h2 := hm b (by simp)
        have h3 := hm e (by simp)
        simp only [List.nodup_cons, List.mem_cons, not_or] at hd
        omega
    have h2 := hrest (c.filter fun y => !decide (y.natAbs ≤ n)) (hn.filter _) fun y hy => by
      have q := List.mem_filter.mp hy
      have q2 : ¬ y.natAbs ≤ n := by simpa using q.2
      have q3 := (h y q.1).2
      omega
    have hl := len_split (fun y : Int => decide (y.natAbs ≤ n)) c
    omega
end Cp
/-! MathB -/
namespace Cp
open Sm15
/-! differences: of u + 1 rounds one changes nothing, or none ever will (rounds lower single numbers, one bound behind another) -/
def low1 (v : List Int) (e : Edge) : List Int := if v.getD e.b 0 + e.c < v.getD e.a 0 then v.set e.a (v.getD e.b 0 + e.c) else v
theorem lower_eq (es : List Edge) (v : List Int) : lower es v = es.foldl low1 v := rfl
def Good (u : Nat) (es : List Edge) : Prop := ∀ e ∈ es, e.a ≤ u ∧ e.b ≤ u
/-- p keeps all bounds -/
def Keeps (es : List Edge) (p : List Int) : Prop := ∀ e ∈ es, p.getD e.a 0 ≤ p.getD e.b 0 + e.c
def Le (p v : List Int) : Prop := ∀ i, p.getD i 0 ≤ v.getD i 0
theorem Le.refl (v : List Int) : Le v v := fun _ => Int.le_refl _
theorem Le.trans {a b c : List Int} (h : Le a b) (k : Le b c) : Le a c := fun i => Int.le_trans (h i) (k i)
theorem getD_set (v : List Int) (i j : Nat) (x : Int) : (v.set i x).getD j 0 = if i = j ∧ i < v.length then x else v.getD j 0 := by
  simp only [List.getD_eq_getElem?_getD, List.getElem?_set]
  by_cases e : i = j
  · subst e
    by_cases h : i < v.length
    · simp [h]
    · simp [h]
  · simp [e]
theorem low1_len (v : List Int) (e : Edge) : (low1 v e).length = v.length := by
  unfold low1
  split <;> simp
theorem low1_le (v : List Int) (e : Edge) : Le (low1 v e) v := by
  intro i
  unfold low1
  split
  · rename_i c
    rw [getD_set]
    split
    · rename_i q
      obtain ⟨q, _⟩ := q
      subst q
      omega
    · exact Int.le_refl _
  · exact Int.le_refl _
theorem low1_ge {p v : List Int} {e : Edge} (hp : Le p v) (hk : p.getD e.a 0 ≤ p.getD e.b 0 + e.c) : Le p (low1 v e) := by
  intro i
  unfold low1
  split
  · rw [getD_set]
    split
    · rename_i q
      obtain ⟨q, _⟩ := q
      subst q
      have := hp e.b
      omega
    · exact hp i
  · exact hp i
/-- behind the bound's own turn it holds -/
theorem low1_at {v : List Int} {e : Edge} (h : e.a < v.length) : (low1 v e).getD e.a 0 ≤ v.getD e.b 0 + e.c := by
  unfold low1
  split
  · rw [getD_set, if_pos ⟨rfl, h⟩]
    exact Int.le_refl _
  · omega
theorem fold_len : ∀ (es : List Edge) (v : List Int), (es.foldl low1 v).length = v.length
  | [], _ => rfl
  | e :: r, v => by rw [List.foldl_cons, fold_len r, low1_len]
theorem fold_le : ∀ (es : List Edge) (v : List Int), Le (es.foldl low1 v) v
  | [], v => Le.refl v
  | e :: r, v => (fold_le r (low1 v e)).trans (low1_le v e)
theorem fold_ge : ∀ (es : List Edge) (v p : List Int), Le p v → Keeps es p → Le p (es.foldl low1 v)
  | [], v, p, h, _ => h
  | e :: r, v, p, h, k => fold_ge r (low1 v e) p (low1_ge h (k e (by simp))) fun e' he => k e' (by simp [he])
theorem list_of_getD {v w : List Int} (hl : v.length = w.length) (h : ∀ i, v.getD i 0 = w.getD i 0) : v = w := by
  apply List.ext_getElem? 
  intro i
  have q := h i
  simp only [List.getD_eq_getElem?_getD] at q
  by_cases c : i < v.length
  · have c2 : i < w.length := by omega
    rw [List.getElem?_eq_getElem c, List.getElem?_eq_getElem c2] at q ⊢
    simpa using q
  · rw [List.getElem?_eq_none (by omega), List.getElem?_eq_none (by omega)]
theorem le_antisymm {v w : List Int} (hl : v.length = w.length) (h : Le v w) (k : Le w v) : v = w :=
  list_of_getD hl fun i => Int.le_antisymm (h i) (k i)
/-- a round that changes nothing: all bounds are kept -/
theorem fixed_keeps {u : Nat} : ∀ {es : List Edge} {v : List Int}, Good u es → v.length = u + 1 → es.foldl low1 v = v → Keeps es v
  | [], v, _, _, _ => fun e he => by simp at he
  | e :: r, v, hg, hl, h => by
    rw [List.foldl_cons] at h
    have h1 : low1 v e = v := by
      refine le_antisymm (low1_len v e) (low1_le v e) ?_
      have := fold_le r (low1 v e)
      rw [h] at this
      exact this
    rw [h1] at h
    have hr := fixed_keeps (fun e' he => hg e' (by simp [he])) hl h
    intro e' he
    rcases List.mem_cons.mp he with z | z
    · subst z
      have a := low1_at (v := v) (e := e') (by have := (hg e' (by simp)).1; omega)
      rw [h1] at a
      exact a
    · exact hr e' z
theorem keeps_fixed : ∀ {es : List Edge} {v : List Int}, Keeps es v → es.foldl low1 v = v
  | [], v, _ => rfl
  | e :: r, v, h => by
    have q := h e (by simp)
    have h1 : low1 v e = v := by
      unfold low1
      rw [if_neg (by omega)]
    rw [List.foldl_cons, h1]
    exact keeps_fixed fun e' he => h e' (by simp [he])
/-- what a bound's tail was ahead of a round, its head is below it behind the round -/
theorem fold_at {u : Nat} : ∀ {es : List Edge} {v : List Int}, Good u es → v.length = u + 1 → ∀ e ∈ es, (es.foldl low1 v).getD e.a 0 ≤ v.getD e.b 0 + e.c
  | [], v, _, _ => fun e he => by simp at he
  | e :: r, v, hg, hl => by
    intro e' he
    rcases List.mem_cons.mp he with z | z
    · subst z
      have a := low1_at (v := v) (e := e') (by have := (hg e' (by simp)).1; omega)
      have b := fold_le r (low1 v e') e'.a
      rw [List.foldl_cons]
      omega
    · have ih := fold_at (fun e' he => hg e' (by simp [he])) ((low1_len v e).trans hl) e' z
      have b := low1_le v e e'.b
      rw [List.foldl_cons]
      omega
def iter (es : List Edge) : Nat → List Int → List Int
  | 0, v => v
  | k + 1, v => iter es k (lower es v)
theorem iter_succ (es : List Edge) : ∀ (k : Nat) (v : List Int), iter es (k + 1) v = lower es (iter es k v)
  | 0, v => rfl
  | k + 1, v => iter_succ es k (lower es v)
/-- the program's rounds: at most k of them, whether one changes nothing -/
def rests0 (es : List Edge) : Nat → List Int → Bool
  | 0, _ => false
  | k + 1, v => if lower es v = v then true else rests0 es k (lower es v)
theorem settles_rests0 (es : List Edge) : ∀ (k : Nat) (v : List Int), settles es k v = rests0 es (k + 1) v
  | 0, v => by
    unfold settles rests0 rests0
    by_cases h : lower es v = v <;> simp [h]
  | k + 1, v => by
    unfold settles rests0
    by_cases h : lower es v = v
    · simp [h]
    · simp only [h, if_false]
      exact settles_rests0 es k _
theorem rests0_iff (es : List Edge) : ∀ (k : Nat) (v : List Int), rests0 es k v = true ↔ ∃ j, j < k ∧ lower es (iter es j v) = iter es j v
  | 0, v => by simp [rests0]
  | k + 1, v => by
    unfold rests0
    by_cases h : lower es v = v
    · rw [if_pos h]
      simp only [true_iff]
      exact ⟨0, by omega, h⟩
    · rw [if_neg h, rests0_iff es k]
      constructor
      · rintro ⟨j, a, b⟩
        exact ⟨j + 1, by omega, b⟩
      · rintro ⟨j, a, b⟩
        match j, a, b with
        | 0, _, b => exact absurd b h
        | j + 1, a, b => exact ⟨j, by omega, b⟩
theorem fixed_stays (es : List Edge) {v : List Int} (h : lower es v = v) : ∀ k, iter es k v = v
  | 0 => rfl
  | k + 1 => by
    show iter es k (lower es v) = v
    rw [h]
    exact fixed_stays es h k
theorem iter_add (es : List Edge) : ∀ (j k : Nat) (v : List Int), iter es (j + k) v = iter es k (iter es j v)
  | 0, k, v => by rw [Nat.zero_add]; rfl
  | j + 1, k, v => by
    rw [show j + 1 + k = (j + k) + 1 by omega]
    exact iter_add es j k (lower es v)
theorem iter_len (es : List Edge) : ∀ (k : Nat) (v : List Int), (iter es k v).length = v.length
  | 0, v => rfl
  | k + 1, v => (iter_len es k _).trans (fold_len es v)
theorem iter_ge (es : List Edge) {p : List Int} (hk : Keeps es p) : ∀ (k : Nat) (v : List Int), Le p v → Le p (iter es k v)
  | 0, v, h => h
  | k + 1, v, h => iter_ge es hk k _ (fold_ge es v p h hk)
theorem iter_le (es : List Edge) : ∀ (k : Nat) (v : List Int), Le (iter es k v) v
  | 0, v => Le.refl v
  | k + 1, v => (iter_le es k _).trans (fold_le es v)
/-- how many of 0 .. n - 1 have a property -/
def cnt (f : Nat → Bool) : Nat → Nat
  | 0 => 0
  | n + 1 => cnt f n + (if f n = true then 1 else 0)
theorem cnt_le (f : Nat → Bool) : ∀ n, cnt f n ≤ n
  | 0 => Nat.le_refl _
  | n + 1 => by
    have := cnt_le f n
    unfold cnt
    split <;> omega
theorem cnt_all {f : Nat → Bool} : ∀ {n : Nat}, n ≤ cnt f n → ∀ i, i < n → f i = true
  | 0, _, i, h => by omega
  | n + 1, h, i, hi => by
    have a := cnt_le f n
    unfold cnt at h
    split at h
    · rename_i e
      by_cases c : i = n
      · subst c; exact e
      · exact cnt_all (n := n) (f := f) (by omega) i (by omega)
    · omega
theorem cnt_mono {f g : Nat → Bool} : ∀ {n : Nat}, (∀ i, i < n → f i = true → g i = true) → cnt f n ≤ cnt g n
  | 0, _ => Nat.le_refl _
  | n + 1, h => by
    have a := cnt_mono (n := n) (f := f) (g := g) fun i hi => h i (by omega)
    have b := h n (by omega)
    unfold cnt
    by_cases e : f n = true
    · rw [if_pos e, if_pos (b e)]; omega
    · rw [if_neg e]
      split <;> omega
theorem cnt_more {f g : Nat → Bool} : ∀ {n : Nat}, (∀ i, i < n → f i = true → g i = true) → (∃ i, i < n ∧ g i = true ∧ f i = false) → cnt f n + 1 ≤ cnt g n
  | 0, _, ⟨i, h, _⟩ => by omega
  | n + 1, h, ⟨i, hi, gi, fi⟩ => by
    have b := h n (by omega)
    unfold cnt
    by_cases c : i = n
    · subst c
      have a := cnt_mono (n := i) (f := f) (g := g) fun j hj => h j (by omega)
      rw [if_pos gi, if_neg (by rw [fi]; exact Bool.false_ne_true)]
      omega
    · have a := cnt_more (n := n) (f := f) (g := g) (fun j hj => h j (by omega)) ⟨i, by omega, gi, fi⟩
      by_cases e : f n = true
      · rw [if_pos e, if_pos (b e)]; omega
      · rw [if_neg e]
        split <;> omega
theorem zero_getD (n i : Nat) : (List.replicate n (0 : Int)).getD i 0 = 0 := by
  rw [List.getD_eq_getElem?_getD, List.getElem?_replicate]
  split <;> rfl
/-- the greatest row that keeps all bounds and is nowhere above 0 -/
structure Top (u : Nat) (es : List Edge) (p : List Int) : Prop where
  len : p.length = u + 1
  le0 : ∀ i, p.getD i 0 ≤ 0
  keeps : Keeps es p
  top : ∀ q : List Int, q.length = u + 1 → (∀ i, q.getD i 0 ≤ 0) → Keeps es q → Le q p
/-- some raised by one, where f says so -/
def raised (u : Nat) (p : List Int) (f : Nat → Bool) : List Int := (List.range (u + 1)).map fun i => p.getD i 0 + (if f i = true then 1 else 0)
theorem raised_getD {u : Nat} {p : List Int} {f : Nat → Bool} {i : Nat} (h : i < u + 1) : (raised u p f).getD i 0 = p.getD i 0 + (if f i = true then 1 else 0) := by
  unfold raised
  rw [List.getD_eq_getElem?_getD, List.getElem?_map, List.getElem?_range h]
  rfl
theorem raised_out {u : Nat} {p : List Int} {f : Nat → Bool} {i : Nat} (h : ¬ i < u + 1) : (raised u p f).getD i 0 = 0 := by
  unfold raised
  rw [List.getD_eq_getElem?_getD, List.getElem?_eq_none (by simp; omega)]
  rfl
/-- no room to raise -/
theorem Top.stuck {u : Nat} {es : List Edge} {p : List Int} (T : Top u es p) {f : Nat → Bool} (hg : Good u es) (h1 : ∀ i, i < u + 1 → f i = true → p.getD i 0 < 0)
    (h2 : ∀ e ∈ es, f e.a = true → f e.b = false → p.getD e.a 0 + 1 ≤ p.getD e.b 0 + e.c) : ∀ i, i < u + 1 → f i = false := by
  intro i hi
  have le := T.top (raised u p f) (by simp [raised]) (fun j => by
    by_cases hj : j < u + 1
    · rw [raised_getD hj]
      have a := T.le0 j
      have b := h1 j hj
      split
      · rename_i c
        have := b c
        omega
      · omega
    · rw [raised_out hj]
      exact Int.le_refl _) (fun e he => by
    obtain ⟨ha, hb⟩ := hg e he
    rw [raised_getD (by omega), raised_getD (by omega)]
    have k := T.keeps e he
    have k2 := h2 e he
    cases fa : f e.a <;> cases fb : f e.b <;> simp_all <;> omega) i
  rw [raised_getD hi] at le
  cases e : f i
  · rfl
  · rw [e] at le
    simp at le
    omega
theorem top_done {u : Nat} {es : List Edge} {p : List Int} (T : Top u es p) (hg : Good u es) : ∀ k, k + 1 ≤ cnt (fun i => decide ((iter es k (List.replicate (u + 1) 0)).getD i 0 = p.getD i 0)) (u + 1) ∨ iter es k (List.replicate (u + 1) 0) = p
  | 0 => by
    left
    show 0 + 1 ≤ _
    refine Nat.le_trans ?_ (cnt_more (f := fun _ => false) (n := u + 1) (fun i _ h => by simp at h) ?_)
    · omega
    · -- some p i is 0
      refine Classical.byContradiction fun no => ?_
      have all : ∀ i, i < u + 1 → p.getD i 0 < 0 := by
        intro i hi
        have := T.le0 i
        refine Classical.byContradiction fun c => no ⟨i, hi, ?_, rfl⟩
        have e : p.getD i 0 = 0 := by omega
        show decide ((List.replicate (u + 1) (0 : Int)).getD i 0 = p.getD i 0) = true
        rw [zero_getD, e]
        rfl
      have := T.stuck (f := fun _ => true) hg (fun i hi _ => all i hi) (fun e _ _ h => by simp at h) 0 (by omega)
      simp at this
  | k + 1 => by
    rcases top_done T hg k with h | h
    · by_cases fin : iter es (k + 1) (List.replicate (u + 1) 0) = p
      · exact .inr fin
      left
      have hlen : (iter es k (List.replicate (u + 1) 0)).length = u + 1 := by rw [iter_len]; simp
      have hlen1 : (iter es (k + 1) (List.replicate (u + 1) 0)).length = u + 1 := by rw [iter_len]; simp
      have ge : Le p (iter es k (List.replicate (u + 1) 0)) := iter_ge es T.keeps k _ fun i => by rw [zero_getD]; exact T.le0 i
      have ge1 : Le p (iter es (k + 1) (List.replicate (u + 1) 0)) := iter_ge es T.keeps (k + 1) _ fun i => by rw [zero_getD]; exact T.le0 i
      have le01 : Le (iter es (k + 1) (List.replicate (u + 1) 0)) (iter es k (List.replicate (u + 1) 0)) := by
        rw [iter_succ]
        exact fold_le es _
      have le10 : Le (iter es (k + 1) (List.replicate (u + 1) 0)) (List.replicate (u + 1) 0) := iter_le es _ _
      have atB : ∀ e ∈ es, (iter es (k + 1) (List.replicate (u + 1) 0)).getD e.a 0 ≤ (iter es k (List.replicate (u + 1) 0)).getD e.b 0 + e.c := by
        rw [iter_succ]
        exact fold_at hg hlen
      generalize iter es k (List.replicate (u + 1) 0) = v at *
      generalize iter es (k + 1) (List.replicate (u + 1) 0) = v1 at *
      have mono : ∀ i, i < u + 1 → decide (v.getD i 0 = p.getD i 0) = true → decide (v1.getD i 0 = p.getD i 0) = true := by
        intro i _ e
        have e := of_decide_eq_true e
        have a := ge1 i
        have b := le01 i
        exact decide_eq_true (by omega)
      refine Nat.le_trans (Nat.succ_le_succ h) (cnt_more mono ?_)
      refine Classical.byContradiction fun no => ?_
      -- no new one: then all could be raised
      have same : ∀ i, i < u + 1 → v1.getD i 0 = p.getD i 0 → v.getD i 0 = p.getD i 0 := by
        intro i hi e
        refine Classical.byContradiction fun c => no ⟨i, hi, decide_eq_true e, decide_eq_false c⟩
      have st := T.stuck (f := fun i => decide (v1.getD i 0 ≠ p.getD i 0)) hg (fun i hi e => by
          have e := of_decide_eq_true e
          have a := ge1 i
          have b := le10 i
          rw [zero_getD] at b
          omega) (fun e he ea eb => by
          have ea := of_decide_eq_true ea
          have eb : ¬ (v1.getD e.b 0 ≠ p.getD e.b 0) := of_decide_eq_false eb
          have eb : v1.getD e.b 0 = p.getD e.b 0 := Classical.byContradiction eb
          have q := same e.b (by have := (hg e he).2; omega) eb
          have r := atB e he
          have a := ge1 e.a
          omega)
      refine fin (list_of_getD (hlen1.trans T.len.symm) fun i => ?_)
      by_cases hi : i < u + 1
      · have := of_decide_eq_false (st i hi)
        exact Classical.byContradiction this
      · rw [List.getD_eq_getElem?_getD, List.getD_eq_getElem?_getD, List.getElem?_eq_none (by omega), List.getElem?_eq_none (by have := T.len; omega)]
    · right
      rw [iter_succ, h]
      exact keeps_fixed T.keeps
/-- **of u + 1 rounds one changes nothing, or none ever will** -/
theorem fit_rounds {u : Nat} {es : List Edge} (hg : Good u es) : fit u es = rests0 es (u + 1) (List.replicate (u + 1) 0) := by
  unfold fit
  rw [settles_rests0]
  apply Bool.eq_iff_iff.mpr
  rw [rests0_iff, rests0_iff]
  constructor
  · rintro ⟨j, _, hj⟩
    have hlen : (iter es j (List.replicate (u + 1) 0)).length = u + 1 := by rw [iter_len]; simp
    have kp : Keeps es (iter es j (List.replicate (u + 1) 0)) := fixed_keeps hg hlen hj
    have T : Top u es (iter es j (List.replicate (u + 1) 0)) := ⟨hlen, fun i => by
        have := iter_le es j (List.replicate (u + 1) 0) i
        rw [zero_getD] at this
        exact this, kp, fun q hq q0 qk => iter_ge es qk j _ fun i => by rw [zero_getD]; exact q0 i⟩
    refine ⟨u, by omega, ?_⟩
    have fin : iter es u (List.replicate (u + 1) 0) = iter es j (List.replicate (u + 1) 0) := by
      rcases top_done T hg u with h | h
      · refine list_of_getD (by rw [iter_len, iter_len]) fun i => ?_
        by_cases hi : i < u + 1
        · exact of_decide_eq_true (cnt_all h i hi)
        · rw [List.getD_eq_getElem?_getD, List.getD_eq_getElem?_getD, List.getElem?_eq_none (by rw [iter_len]; simp; omega), List.getElem?_eq_none (by rw [iter_len]; simp; omega)]
      · exact h
    rw [fin]
    exact hj
  · rintro ⟨j, h, e⟩
    exact ⟨j, by omega, e⟩
end Cp
/-! MathC -/
namespace Cp
open Sm15
/-! what rests on what -/
theorem snoc_ind_rev {α : Type} {motive : List α → Prop} (nil : motive []) (append_singleton : ∀ (l : List α) (x : α), motive l → motive (l ++ [x])) : ∀ l : List α, motive l.reverse
  | [] => nil
  | x :: l => by
    rw [List.reverse_cons]
    exact append_singleton _ x (snoc_ind_rev nil append_singleton l)
theorem snoc_ind {α : Type} {motive : List α → Prop} (nil : motive []) (append_singleton : ∀ (l : List α) (x : α), motive l → motive (l ++ [x])) (l : List α) : motive l := by
  have h := snoc_ind_rev nil append_singleton l.reverse
  rw [List.reverse_reverse] at h
  exact h
def numsOf (ls : List Line) : List Nat := ls.map fun x => x.num
/-- lines whose sources stand ahead of them, no number twice -/
def WfL : List Line → Prop
  | [] => True
  | ls => ∀ (pre : List Line) (x : Line) (post : List Line), ls = pre ++ x :: post → x.num ∉ numsOf pre ∧ ∀ k ∈ sources x.way, k ∈ numsOf pre
theorem wf_iff {ls : List Line} : WfL ls ↔ ∀ (pre : List Line) (x : Line) (post : List Line), ls = pre ++ x :: post → x.num ∉ numsOf pre ∧ ∀ k ∈ sources x.way, k ∈ numsOf pre := by
  cases ls with
  | nil =>
    refine ⟨fun _ pre x post h => ?_, fun _ => trivial⟩
    simp at h
  | cons a r => exact Iff.rfl
theorem WfL.init {ls : List Line} {x : Line} (h : WfL (ls ++ [x])) : WfL ls := wf_iff.mpr fun pre y post e => by
  refine wf_iff.mp h pre y (post ++ [x]) ?_
  rw [e]
  simp
theorem WfL.last {ls : List Line} {x : Line} (h : WfL (ls ++ [x])) : x.num ∉ numsOf ls ∧ ∀ k ∈ sources x.way, k ∈ numsOf ls := wf_iff.mp h ls x [] rfl
theorem WfL.snoc {ls : List Line} {x : Line} (h : WfL ls) (h1 : x.num ∉ numsOf ls) (h2 : ∀ k ∈ sources x.way, k ∈ numsOf ls) : WfL (ls ++ [x]) := wf_iff.mpr fun pre y post e => by
  rcases List.append_eq_append_iff.mp e with ⟨a, ha, hb⟩ | ⟨a, ha, hb⟩
  · cases a with
    | nil =>
      simp at hb ha
      obtain ⟨rfl, _⟩ := hb
      subst ha
      exact ⟨h1, h2⟩
    | cons z a => simp at hb
  · cases a with
    | nil =>
      simp at hb ha
      obtain ⟨rfl, _⟩ := hb
      subst ha
      exact ⟨h1, h2⟩
    | cons z a =>
      simp at hb
      obtain ⟨rfl, hb⟩ := hb
      exact wf_iff.mp h pre _ a ha
theorem WfL.nodup : ∀ {ls : List Line}, WfL ls → (numsOf ls).Nodup := by
  intro ls
  induction ls using snoc_ind with
  | nil => intro _; exact List.nodup_nil
  | append_singleton l x ih =>
    intro h
    unfold numsOf
    rw [List.map_append]
    refine List.nodup_append.mpr ⟨ih h.init, by simp, fun a ha b hb => ?_⟩
    simp at hb
    subst hb
    intro e
    exact h.last.1 (e ▸ ha)
def dedup (l : List Nat) : List Nat := l.foldl (fun m n => if m.contains n = true then m else m ++ [n]) []
theorem mem_dedup_aux : ∀ (l m : List Nat) (k : Nat), k ∈ l.foldl (fun m n => if m.contains n = true then m else m ++ [n]) m ↔ k ∈ m ∨ k ∈ l
  | [], m, k => by simp
  | n :: l, m, k => by
    rw [List.foldl_cons, mem_dedup_aux l]
    by_cases c : m.contains n = true
    · rw [if_pos c]
      have : n ∈ m := by simpa using c
      constructor
      · rintro (h | h) <;> simp [h]
      · rintro (h | h)
        · exact .inl h
        · rcases List.mem_cons.mp h with rfl | h
          · exact .inl this
          · exact .inr h
    · rw [if_neg c]
      simp only [List.mem_append, List.mem_cons, List.mem_singleton, List.not_mem_nil, or_false]
      constructor
      · rintro ((h | h) | h) <;> simp [h]
      · rintro (h | h | h) <;> simp [h]
theorem mem_dedup {l : List Nat} {k : Nat} : k ∈ dedup l ↔ k ∈ l := by
  unfold dedup
  rw [mem_dedup_aux]
  simp
/-- one line's claims, by those of the lines ahead -/
def restStep (done : List (Nat × List Nat)) (x : Line) : List Nat := dedup (if x.way = .claim then [x.num] else (done.filter fun y => (sources x.way).contains y.1).flatMap fun y => y.2)
theorem restsOf_snoc : ∀ (ls : List Line) (x : Line) (done : List (Nat × List Nat)), restsOf (ls ++ [x]) done = restsOf ls done ++ [(x.num, restStep (restsOf ls done) x)]
  | [], x, done => rfl
  | y :: ls, x, done => restsOf_snoc ls x (done ++ [(y.num, restStep done y)])
theorem restsOf_nums (ls : List Line) : (restsOf ls []).map (·.1) = numsOf ls := by
  induction ls using snoc_ind with
  | nil => rfl
  | append_singleton l x ih =>
    rw [restsOf_snoc, List.map_append, ih]
    unfold numsOf
    rw [List.map_append]
    rfl
theorem mem_restStep {done : List (Nat × List Nat)} {x : Line} {k : Nat} : k ∈ restStep done x ↔ (x.way = .claim ∧ k = x.num) ∨ (x.way ≠ .claim ∧ ∃ y ∈ done, y.1 ∈ sources x.way ∧ k ∈ y.2) := by
  unfold restStep
  rw [mem_dedup]
  by_cases c : x.way = .claim
  · simp [c]
  · rw [if_neg c]
    simp only [List.mem_flatMap, List.mem_filter, c, false_and, false_or, ne_eq, not_false_eq_true, true_and]
    constructor
    · rintro ⟨y, ⟨h1, h2⟩, h3⟩
      exact ⟨y, h1, by simpa using h2, h3⟩
    · rintro ⟨y, h1, h2, h3⟩
      exact ⟨y, ⟨h1, by simpa using h2⟩, h3⟩
/-- the program's way: the claim k, and each line one of whose sources is there -/
def resting (k : Nat) (ls : List Line) : List Nat := ls.foldl (fun r x => if (sources x.way).any (fun q => r.contains q) = true then r ++ [x.num] else r) [k]
theorem resting_snoc (k : Nat) (ls : List Line) (x : Line) : resting k (ls ++ [x]) = if (sources x.way).any (fun q => (resting k ls).contains q) = true then resting k ls ++ [x.num] else resting k ls := by
  unfold resting
  rw [List.foldl_append]
  rfl
theorem resting_sub (k : Nat) (ls : List Line) : ∀ n ∈ resting k ls, n = k ∨ n ∈ numsOf ls := by
  induction ls using snoc_ind with
  | nil =>
    intro n hn
    simp [resting] at hn
    exact .inl hn
  | append_singleton l x ih =>
    intro n hn
    rw [resting_snoc] at hn
    have up : ∀ n ∈ resting k l, n = k ∨ n ∈ numsOf (l ++ [x]) := fun n h => (ih n h).imp_right fun m => by
      unfold numsOf at m ⊢
      rw [List.map_append]
      exact List.mem_append_left _ m
    split at hn
    · rcases List.mem_append.mp hn with h | h
      · exact up n h
      · right
        unfold numsOf
        rw [List.map_append]
        exact List.mem_append_right _ h
    · exact up n hn
theorem resting_has (k : Nat) (ls : List Line) : k ∈ resting k ls := by
  induction ls using snoc_ind with
  | nil => simp [resting]
  | append_singleton l x ih =>
    rw [resting_snoc]
    split
    · exact List.mem_append_left _ ih
    · exact ih
/-- k is no number of a line that is no claim -/
def ClaimOnly (k : Nat) (ls : List Line) : Prop := ∀ x ∈ ls, x.num = k → x.way = .claim
theorem resting_rests {k : Nat} {ls : List Line} (h : WfL ls) (hc : ClaimOnly k ls) : ∀ y ∈ restsOf ls [], k ∈ y.2 ↔ y.1 ∈ resting k ls := by
  induction ls using snoc_ind with
  | nil =>
    intro y hy
    simp [restsOf] at hy
  | append_singleton l x ih =>
    have ih := ih h.init fun z hz => hc z (List.mem_append_left _ hz)
    obtain ⟨h1, h2⟩ := h.last
    have src : (∃ y ∈ restsOf l [], y.1 ∈ sources x.way ∧ k ∈ y.2) ↔ (sources x.way).any (fun q => (resting k l).contains q) = true := by
      rw [List.any_eq_true]
      constructor
      · rintro ⟨y, a, b, c⟩
        exact ⟨y.1, b, by simpa using (ih y a).mp c⟩
      · rintro ⟨q, a, b⟩
        have b : q ∈ resting k l := by simpa using b
        have m : q ∈ (restsOf l []).map (·.1) := by rw [restsOf_nums]; exact h2 q a
        obtain ⟨y, hy, rfl⟩ := List.mem_map.mp m
        exact ⟨y, hy, a, (ih y hy).mpr b⟩
    have nx : x.num ≠ k → x.num ∉ resting k l := fun hk m => by
      rcases resting_sub k l _ m with e | e
      · exact hk e
      · exact h1 e
    intro y hy
    rw [restsOf_snoc] at hy
    rw [resting_snoc]
    rcases List.mem_append.mp hy with hy | hy
    · have yn : y.1 ∈ numsOf l := by rw [← restsOf_nums]; exact List.mem_map.mpr ⟨y, hy, rfl⟩
      have ne : y.1 ≠ x.num := fun e => h1 (e ▸ yn)
      rw [ih y hy]
      split
      · simp [ne]
      · rfl
    · have hy : y = (x.num, restStep (restsOf l []) x) := by simpa using hy
      subst hy
      dsimp only
      rw [mem_restStep, src]
      by_cases c : x.way = .claim
      · have z : sources x.way = [] := by rw [c]; rfl
        rw [z]
        simp only [List.any_nil, c, true_and, ne_eq, not_true_eq_false, false_and, or_false, Bool.false_eq_true, if_false]
        constructor
        · intro e
          rw [← e]
          exact resting_has k l
        · intro m
          rcases resting_sub k l _ m with e | e
          · exact e.symm
          · exact absurd e h1
      · have ne : x.num ≠ k := fun e => c (hc x (by simp) e)
        by_cases a : (sources x.way).any (fun q => (resting k l).contains q) = true
        · rw [if_pos a]
          exact ⟨fun _ => List.mem_append_right _ (by simp), fun _ => .inr ⟨c, a⟩⟩
        · rw [if_neg a]
          constructor
          · rintro (⟨e, _⟩ | ⟨_, e⟩)
            · exact absurd e c
            · exact absurd e a
          · intro m
            exact absurd m (nx ne)
theorem mem_at {ls : List Line} {x : Line} (h : x ∈ ls) : ∃ y ∈ restsOf ls [], y.1 = x.num := by
  have m : x.num ∈ (restsOf ls []).map (·.1) := by rw [restsOf_nums]; exact List.mem_map.mpr ⟨x, h, rfl⟩
  obtain ⟨y, hy, e⟩ := List.mem_map.mp m
  exact ⟨y, hy, e⟩
/-- **what is left when the claim k goes** -/
theorem without_resting {k : Nat} {ls : List Line} (h : WfL ls) (hc : ClaimOnly k ls) : without [k] ls = ls.filter fun x => !(resting k ls).contains x.num := by
  unfold without
  dsimp only
  refine List.filter_congr fun x hx => ?_
  have R := resting_rests h hc
  rw [Bool.eq_iff_iff]
  constructor
  · intro q
    rw [List.all_eq_true] at q
    obtain ⟨y, hy, e⟩ := mem_at hx
    have q1 := q y (List.mem_filter.mpr ⟨hy, by simpa using e⟩)
    rw [List.all_eq_true] at q1
    have nk : k ∉ y.2 := fun m => by
      have := q1 k m
      simp at this
    rw [R y hy, e] at nk
    simpa using nk
  · intro q
    have q : x.num ∉ resting k ls := by simpa using q
    rw [List.all_eq_true]
    intro y hy
    obtain ⟨hy, e⟩ := List.mem_filter.mp hy
    have e : y.1 = x.num := by simpa using e
    rw [List.all_eq_true]
    intro n hn
    have : n ≠ k := fun z => by
      rw [z] at hn
      have := (R y hy).mp hn
      rw [e] at this
      exact q this
    simp [this]
theorem resting_nodup {k : Nat} {ls : List Line} (h : WfL ls) (hc : ClaimOnly k ls) : (resting k ls).Nodup := by
  induction ls using snoc_ind with
  | nil => simp [resting]
  | append_singleton l x ih =>
    have ih := ih h.init fun z hz => hc z (List.mem_append_left _ hz)
    obtain ⟨h1, h2⟩ := h.last
    rw [resting_snoc]
    split
    · rename_i a
      refine List.nodup_append.mpr ⟨ih, by simp, fun p hp q hq => ?_⟩
      have hq : q = x.num := by simpa using hq
      intro e
      rw [e, hq] at hp
      rcases resting_sub k l _ hp with z | z
      · have cl := hc x (by simp) z
        rw [cl] at a
        simp [sources] at a
      · exact h1 z
    · exact ih
theorem nodup_len : ∀ {a b : List Nat}, a.Nodup → (∀ x ∈ a, x ∈ b) → a.length ≤ b.length
  | [], b, _, _ => Nat.zero_le _
  | x :: a, b, h, s => by
    obtain ⟨h1, h2⟩ := List.nodup_cons.mp h
    have ih := nodup_len (b := b.erase x) h2 fun y hy => by
      have ne : y ≠ x := fun e => h1 (e ▸ hy)
      exact (List.mem_erase_of_ne ne).mpr (s y (List.mem_cons_of_mem _ hy))
    have hm := s x (by simp)
    have := List.length_erase_of_mem hm
    have pos : 0 < b.length := List.length_pos_of_mem hm
    rw [List.length_cons]
    omega
theorem gone_len {k : Nat} {ls : List Line} (h : WfL ls) (hc : ClaimOnly k ls) (hk : k ∈ numsOf ls) : ls.length - (ls.filter fun x => !(resting k ls).contains x.num).length = (resting k ls).length := by
  have sp := len_split (fun x : Line => (resting k ls).contains x.num) ls
  have e : (ls.filter fun x => (resting k ls).contains x.num).length = (resting k ls).length := by
    have nd : ((ls.filter fun x => (resting k ls).contains x.num).map fun x => x.num).Nodup := by
      refine List.Nodup.sublist (List.Sublist.map _ List.filter_sublist) (h.nodup)
    refine Nat.le_antisymm ?_ ?_
    · have := nodup_len nd (b := resting k ls) fun n hn => by
        obtain ⟨x, hx, rfl⟩ := List.mem_map.mp hn
        have := (List.mem_filter.mp hx).2
        simpa using this
      rw [List.length_map] at this
      exact this
    · have := nodup_len (resting_nodup h hc) (b := (ls.filter fun x => (resting k ls).contains x.num).map fun x => x.num) fun n hn => by
        have m : n ∈ numsOf ls := by
          rcases resting_sub k ls n hn with e | e
          · rw [e]; exact hk
          · exact e
        obtain ⟨x, hx, rfl⟩ := List.mem_map.mp m
        exact List.mem_map.mpr ⟨x, List.mem_filter.mpr ⟨hx, by simpa using hn⟩, rfl⟩
      rw [List.length_map] at this
      exact this
  omega
/-- a row of literals of at most n atoms -/
def Lits (n : Nat) (ns : List Int) : Prop := ∀ y ∈ ns, y ≠ 0 ∧ y.natAbs ≤ n
def AtomsOk (u : Nat) (as : List Sm15.Atom) : Prop := ∀ x ∈ as, Sm15.goodBound u x = true
theorem Lits.mono {n m : Nat} {ns : List Int} (h : Lits n ns) (k : n ≤ m) : Lits m ns := fun y hy => ⟨(h y hy).1, Nat.le_trans (h y hy).2 k⟩
theorem lits_clause {n : Nat} {ns : List Int} (h : Lits n ns) : Lits n (Sm15.clauseOf ns) := fun y hy => h y (mem_clauseOf.mp hy)
theorem lits_of {n : Nat} {ns : List Int} (h : ns.all (Sm15.isLit n) = true) : Lits n ns := fun y hy => by
  have := List.all_eq_true.mp h y hy
  unfold Sm15.isLit at this
  simp only [Bool.and_eq_true, decide_eq_true_eq] at this
  omega
theorem lineAt_some {ls : List Sm15.Line} {k : Nat} {x : Sm15.Line} (h : Sm15.lineAt ls k = some x) : x ∈ ls ∧ x.num = k := by
  unfold Sm15.lineAt at h
  have h1 := List.mem_of_find?_eq_some h
  have h2 := List.find?_some h
  exact ⟨h1, by simpa using h2⟩
end Cp
/-! MathD -/
namespace Cp
open Sm15
/-! what holds of the book at any time, whatever was called -/
structure BOk (n : Nat) (ls : List Line) (next : Nat) : Prop where
  wf : WfL ls
  lt : ∀ x ∈ ls, x.num < next
  lits : ∀ x ∈ ls, Lits n x.clause ∧ Up x.clause
  src : ∀ x ∈ ls, (sources x.way).length ≤ 60
theorem BOk.nil {n next : Nat} : BOk n [] next := ⟨trivial, fun _ h => by simp at h, fun _ h => by simp at h, fun _ h => by simp at h⟩
theorem BOk.mono {n m next next' : Nat} {ls : List Line} (h : BOk n ls next) (k : n ≤ m) (k' : next ≤ next') : BOk m ls next' :=
  ⟨h.wf, fun x hx => Nat.lt_of_lt_of_le (h.lt x hx) k', fun x hx => ⟨(h.lits x hx).1.mono k, (h.lits x hx).2⟩, h.src⟩
theorem BOk.snoc {n next : Nat} {ls : List Line} {c : List Int} {w : Way} (h : BOk n ls next) (hc : Lits n c) (hu : Up c) (hs : ∀ k ∈ sources w, k ∈ numsOf ls) (hl : (sources w).length ≤ 60) : BOk n (ls ++ [⟨next, c, w⟩]) (next + 1) := by
  refine ⟨h.wf.snoc (fun m => ?_) hs, fun x hx => ?_, fun x hx => ?_, fun x hx => ?_⟩
  · obtain ⟨x, hx, e⟩ := List.mem_map.mp m
    have := h.lt x hx
    have e : x.num = next := e
    omega
  · rcases List.mem_append.mp hx with hx | hx
    · exact Nat.lt_succ_of_lt (h.lt x hx)
    · have e : x = ⟨next, c, w⟩ := by simpa using hx
      subst e
      exact Nat.lt_succ_self _
  · rcases List.mem_append.mp hx with hx | hx
    · exact h.lits x hx
    · have e : x = ⟨next, c, w⟩ := by simpa using hx
      subst e
      exact ⟨hc, hu⟩
  · rcases List.mem_append.mp hx with hx | hx
    · exact h.src x hx
    · have e : x = ⟨next, c, w⟩ := by simpa using hx
      subst e
      exact hl
theorem BOk.len {n next : Nat} {ls : List Line} (h : BOk n ls next) : ls.length ≤ next := by
  have := nodup_len (h.wf.nodup) (b := List.range next) fun k hk => by
    obtain ⟨x, hx, rfl⟩ := List.mem_map.mp hk
    exact List.mem_range.mpr (h.lt x hx)
  unfold numsOf at this
  rw [List.length_map, List.length_range] at this
  exact this
theorem has_line {ls : List Line} {k : Nat} : k ∈ numsOf ls ↔ ∃ x, lineAt ls k = some x := by
  constructor
  · intro h
    obtain ⟨x, hx, e⟩ := List.mem_map.mp h
    cases q : lineAt ls k with
    | some y => exact ⟨y, rfl⟩
    | none =>
      unfold lineAt at q
      rw [List.find?_eq_none] at q
      exact absurd (by simpa using e) (q x hx)
  · rintro ⟨x, h⟩
    obtain ⟨h1, h2⟩ := lineAt_some h
    exact List.mem_map.mpr ⟨x, h1, h2⟩
theorem any_isNone {ls : List Line} {l : List Nat} (h : l.any (fun k => (lineAt ls k).isNone) = false) : ∀ k ∈ l, k ∈ numsOf ls := fun k hk => by
  have := List.any_eq_false.mp h k hk
  cases q : lineAt ls k with
  | some x => exact has_line.mpr ⟨x, q⟩
  | none => rw [q] at this; exact absurd rfl this
/-! drop -/
theorem WfL.filter {p : Line → Bool} {ls : List Line} (h : WfL ls) (hc : ∀ x ∈ ls, p x = true → ∀ k ∈ sources x.way, ∃ y ∈ ls, y.num = k ∧ p y = true) : WfL (ls.filter p) := by
  induction ls using snoc_ind with
  | nil => trivial
  | append_singleton l x ih =>
    obtain ⟨h1, h2⟩ := h.last
    have hi := h.init
    have nd := h.nodup
    -- the closure within l
    have hcl : ∀ y ∈ l, p y = true → ∀ k ∈ sources y.way, ∃ z ∈ l, z.num = k ∧ p z = true := by
      intro y hy hp k hk
      obtain ⟨z, hz, e, pz⟩ := hc y (List.mem_append_left _ hy) hp k hk
      rcases List.mem_append.mp hz with hz | hz
      · exact ⟨z, hz, e, pz⟩
      · have hz : z = x := by simpa using hz
        -- k is a number of l, x's number is not
        obtain ⟨pre, post, e2⟩ := List.append_of_mem hy
        have k1 := (wf_iff.mp hi pre y post e2).2 k hk
        have : k ∈ numsOf l := by
          rw [e2]
          unfold numsOf at k1 ⊢
          rw [List.map_append]
          exact List.mem_append_left _ k1
        rw [← e, hz] at this
        exact absurd this h1
    rw [List.filter_append]
    by_cases px : p x = true
    · rw [List.filter_cons, if_pos px]
      refine (ih hi hcl).snoc (fun m => ?_) (fun k hk => ?_)
      · obtain ⟨z, hz, e⟩ := List.mem_map.mp m
        exact h1 (List.mem_map.mpr ⟨z, (List.mem_filter.mp hz).1, e⟩)
      · obtain ⟨z, hz, e, pz⟩ := hc x (by simp) px k hk
        have kl := h2 k hk
        rcases List.mem_append.mp hz with hz | hz
        · exact List.mem_map.mpr ⟨z, List.mem_filter.mpr ⟨hz, pz⟩, e⟩
        · have hz : z = x := by simpa using hz
          rw [← e, hz] at kl
          exact absurd kl h1
    · rw [List.filter_cons, if_neg px]
      simp only [List.filter_nil, List.append_nil]
      exact ih hi hcl
theorem resting_closed {k : Nat} {ls : List Line} (h : WfL ls) : ∀ x ∈ ls, x.num ∉ resting k ls → ∀ q ∈ sources x.way, q ∉ resting k ls := by
  induction ls using snoc_ind with
  | nil => intro x hx; simp at hx
  | append_singleton l x ih =>
    obtain ⟨h1, h2⟩ := h.last
    have ih := ih h.init
    have src : ∀ y ∈ l, ∀ q ∈ sources y.way, q ∈ numsOf l := by
      intro y hy q hq
      obtain ⟨pre, post, e⟩ := List.append_of_mem hy
      have := (wf_iff.mp h.init pre y post e).2 q hq
      rw [e]
      unfold numsOf at this ⊢
      rw [List.map_append]
      exact List.mem_append_left _ this
    intro y hy hn q hq
    rw [resting_snoc] at hn ⊢
    rcases List.mem_append.mp hy with hy | hy
    · have qn := src y hy q hq
      have qx : q ≠ x.num := fun e => h1 (e ▸ qn)
      split at hn
      · rename_i c
        rw [if_pos c]
        have : y.num ∉ resting k l := fun m => hn (List.mem_append_left _ m)
        have := ih y hy this q hq
        simp [this, qx]
      · rename_i c
        rw [if_neg c]
        exact ih y hy hn q hq
    · have e : y = x := by simpa using hy
      subst e
      split at hn
      · rename_i c
        exact absurd (List.mem_append_right _ (by simp)) hn
      · rename_i c
        rw [if_neg c]
        intro m
        refine c (List.any_eq_true.mpr ⟨q, hq, by simpa using m⟩)
theorem BOk.without {n next k : Nat} {ls : List Line} (h : BOk n ls next) (hc : ClaimOnly k ls) : BOk n (without [k] ls) next := by
  rw [without_resting h.wf hc]
  refine ⟨h.wf.filter fun x hx px q hq => ?_, fun x hx => h.lt x (List.mem_filter.mp hx).1, fun x hx => h.lits x (List.mem_filter.mp hx).1, fun x hx => h.src x (List.mem_filter.mp hx).1⟩
  have px : x.num ∉ resting k ls := by simpa using px
  have := resting_closed h.wf x hx px q hq
  obtain ⟨pre, post, e⟩ := List.append_of_mem hx
  have qn := (wf_iff.mp h.wf pre x post e).2 q hq
  have : q ∈ numsOf ls := by
    rw [e]
    unfold numsOf at qn ⊢
    rw [List.map_append]
    exact List.mem_append_left _ qn
  obtain ⟨y, hy, ey⟩ := List.mem_map.mp this
  have ey : y.num = q := ey
  exact ⟨y, hy, ey, by rw [ey]; simpa using ‹q ∉ resting k ls›⟩
theorem claims_filter {p : Line → Bool} {ls : List Line} : (claimsOf (ls.filter p)).length ≤ (claimsOf ls).length := by
  unfold claimsOf
  rw [List.length_map, List.length_map, List.filter_filter, ← List.countP_eq_length_filter, ← List.countP_eq_length_filter]
  exact List.countP_mono_left fun x _ h => by simp at h; simp [h.1]
/-! back -/
theorem ite_two {α : Type} {c : Prop} [Decidable c] {a b : α} {P : α → Prop} (h1 : c → P a) (h2 : ¬ c → P b) : P (if c then a else b) := by
  by_cases h : c
  · rw [if_pos h]; exact h1 h
  · rw [if_neg h]; exact h2 h
theorem kept_ok {n next : Nat} : ∀ (ls got : List Line), BOk n got next → (∀ x ∈ ls, x.num < next ∧ Up x.clause ∧ (sources x.way).length ≤ 60) → BOk n (kept n ls got) next ∧ (∃ new, kept n ls got = got ++ new ∧ claimsOf new = [])
  | [], got, h, _ => ⟨h, [], by unfold kept; simp, rfl⟩
  | x :: ls, got, h, hl => by
    have hx := hl x (by simp)
    have hr : ∀ y ∈ ls, y.num < next ∧ Up y.clause ∧ (sources y.way).length ≤ 60 := fun y hy => hl y (List.mem_cons_of_mem _ hy)
    unfold kept
    refine ite_two (P := fun z => BOk n z next ∧ ∃ new, z = got ++ new ∧ claimsOf new = []) (fun c => ?_) (fun c => ?_)
    · obtain ⟨c1, c2, c3, c4, c5⟩ := c
      have nin : x.num ∉ numsOf got := fun m => by
        obtain ⟨y, hy, e⟩ := List.mem_map.mp m
        have e : y.num = x.num := e
        have := List.any_eq_false.mp c1 y hy
        simp [e] at this
      have srcs : ∀ k ∈ sources x.way, k ∈ numsOf got := fun k hk => by
        have := List.all_eq_true.mp c4 k hk
        obtain ⟨y, hy, e⟩ := List.any_eq_true.mp this
        exact List.mem_map.mpr ⟨y, hy, by simpa using e⟩
      have ok : BOk n (got ++ [x]) next := by
        refine ⟨h.wf.snoc nin srcs, fun y hy => ?_, fun y hy => ?_, fun y hy => ?_⟩
        · rcases List.mem_append.mp hy with hy | hy
          · exact h.lt y hy
          · have e : y = x := by simpa using hy
            rw [e]; exact hx.1
        · rcases List.mem_append.mp hy with hy | hy
          · exact h.lits y hy
          · have e : y = x := by simpa using hy
            rw [e]; exact ⟨lits_of c3, hx.2.1⟩
        · rcases List.mem_append.mp hy with hy | hy
          · exact h.src y hy
          · have e : y = x := by simpa using hy
            rw [e]; exact hx.2.2
      obtain ⟨a, new, b, d⟩ := kept_ok ls (got ++ [x]) ok hr
      refine ⟨a, x :: new, by rw [b, List.append_assoc]; rfl, ?_⟩
      unfold claimsOf at d ⊢
      rw [List.filter_cons, if_neg (by simpa using c2)]
      exact d
    · exact kept_ok ls got h hr
/-! prove -/
theorem write_ok {n : Nat} {b : Book} {c : List Int} {w : Way} (h : BOk n b.lines b.next) (hc : Lits n c) (hu : Up c) (hs : ∀ k ∈ sources w, k ∈ numsOf b.lines) (hl : (sources w).length ≤ 60) (hw : w ≠ .claim) :
    BOk n (write b c w).1.lines (write b c w).1.next ∧ (∃ new, (write b c w).1.lines = b.lines ++ new ∧ (write b c w).1.next = b.next + new.length ∧ claimsOf new = []) ∧ (write b c w).2 ∈ numsOf (write b c w).1.lines := by
  unfold write
  split
  · rename_i x hx
    exact ⟨h, ⟨[], by simp, by simp, rfl⟩, List.mem_map.mpr ⟨x, List.mem_of_find?_eq_some hx, rfl⟩⟩
  · refine ⟨h.snoc hc hu hs hl, ⟨[⟨b.next, c, w⟩], rfl, rfl, ?_⟩, List.mem_map.mpr ⟨⟨b.next, c, w⟩, by simp, rfl⟩⟩
    unfold claimsOf
    rw [List.filter_cons, if_neg (by simpa using hw)]
    rfl
theorem choose_sub : ∀ (k : Nat) (l r : List Int), r ∈ choose k l → ∀ y ∈ r, y ∈ l
  | 0, l, r, h, y, hy => by
    simp [choose] at h
    subst h
    simp at hy
  | k + 1, [], r, h, y, hy => by simp [choose] at h
  | k + 1, i :: l, r, h, y, hy => by
    unfold choose at h
    rcases List.mem_append.mp h with h | h
    · obtain ⟨r', h1, rfl⟩ := List.mem_map.mp h
      rcases List.mem_cons.mp hy with e | e
      · simp [e]
      · exact List.mem_cons_of_mem _ (choose_sub k l r' h1 y e)
    · exact List.mem_cons_of_mem _ (choose_sub (k + 1) l r h y hy)
theorem reason_sub {u : Nat} {as : List Atom} {ls r : List Int} (h : reason u as ls = some r) : ∀ y ∈ r, y ∈ ls := by
  unfold reason at h
  have := List.mem_of_find?_eq_some h
  obtain ⟨k, _, hk⟩ := List.mem_flatMap.mp this
  exact choose_sub k ls r hk
theorem nums_more {ls new : List Line} {k : Nat} (h : k ∈ numsOf ls) : k ∈ numsOf (ls ++ new) := by
  unfold numsOf at h ⊢
  rw [List.map_append]
  exact List.mem_append_left _ h
theorem claims_more (a b : List Line) : claimsOf (a ++ b) = claimsOf a ++ claimsOf b := by
  unfold claimsOf
  rw [List.filter_append, List.map_append]
theorem prove_ok {u : Nat} {as : List Atom} {n : Nat} : ∀ (f i : Nat) (ls : List Int) (b : Book) (r : Book × Nat), prove u as f i ls b = some r → BOk n b.lines b.next → Lits n ls → 1 ≤ i → i + f ≤ n + 1 →
    BOk n r.1.lines r.1.next ∧ (∃ new, r.1.lines = b.lines ++ new ∧ r.1.next = b.next + new.length ∧ claimsOf new = []) ∧ r.2 ∈ numsOf r.1.lines := by
  intro f
  induction f with
  | zero =>
    intro i ls b r h hb hl hi hn
    unfold prove at h
    split at h
    · rename_i x hx
      cases h
      exact ⟨hb, ⟨[], by simp, by simp, rfl⟩, List.mem_map.mpr ⟨x, List.mem_of_find?_eq_some hx, rfl⟩⟩
    · split at h
      · rename_i rr hr
        cases h
        have hr' : reason u as ls = some rr := by
          split at hr
          · cases hr
          · exact hr
        refine write_ok hb (lits_clause fun y hy => ?_) (up_clauseOf _) (fun k hk => by simp [sources] at hk) (by simp [sources]) (by decide)
        obtain ⟨z, hz, rfl⟩ := List.mem_map.mp hy
        have := hl z (reason_sub hr' z hz)
        omega
      · simp at h
  | succ f ih =>
    intro i ls b r h hb hl hi hn
    unfold prove at h
    split at h
    · rename_i x hx
      cases h
      exact ⟨hb, ⟨[], by simp, by simp, rfl⟩, List.mem_map.mpr ⟨x, List.mem_of_find?_eq_some hx, rfl⟩⟩
    · split at h
      · rename_i rr hr
        cases h
        have hr' : reason u as ls = some rr := by
          split at hr
          · cases hr
          · exact hr
        refine write_ok hb (lits_clause fun y hy => ?_) (up_clauseOf _) (fun k hk => by simp [sources] at hk) (by simp [sources]) (by decide)
        obtain ⟨z, hz, rfl⟩ := List.mem_map.mp hy
        have := hl z (reason_sub hr' z hz)
        omega
      · simp only at h
        obtain ⟨x, hx, h⟩ := Option.bind_eq_some_iff.mp h
        have hl1 : ∀ s : Int, (s = 0 - (i : Int) ∨ s = (i : Int)) → Lits n (ls ++ [s]) := fun s hs y hy => by
          rcases List.mem_append.mp hy with hy | hy
          · exact hl y hy
          · have : y = s := by simpa using hy
            omega
        obtain ⟨x1, ⟨n1, x2, x3, x4⟩, x5⟩ := ih (i + 1) _ b x hx hb (hl1 _ (.inl rfl)) (by omega) (by omega)
        split at h
        · cases h
        · rename_i c hc
          split at h
          · cases h
            exact ⟨x1, ⟨n1, x2, x3, x4⟩, x5⟩
          · obtain ⟨y, hy, h⟩ := Option.bind_eq_some_iff.mp h
            obtain ⟨y1, ⟨n2, y2, y3, y4⟩, y5⟩ := ih (i + 1) _ x.1 y hy x1 (hl1 _ (.inr rfl)) (by omega) (by omega)
            have both : ∃ new, y.1.lines = b.lines ++ new ∧ y.1.next = b.next + new.length ∧ claimsOf new = [] :=
              ⟨n1 ++ n2, by rw [y2, x2, List.append_assoc], by rw [y3, x3, List.length_append]; omega, by rw [claims_more, x4, y4]; rfl⟩
            split at h
            · cases h
            · rename_i d hd
              split at h
              · cases h
                exact ⟨y1, both, y5⟩
              · obtain ⟨e, he, rfl⟩ := Option.map_eq_some_iff.mp h
                unfold clauseAt at hc hd
                obtain ⟨lc, hlc, rfl⟩ := Option.map_eq_some_iff.mp hc
                obtain ⟨ld, hld, rfl⟩ := Option.map_eq_some_iff.mp hd
                have c1 := (x1.lits _ (lineAt_some hlc).1).1
                have d1 := (y1.lits _ (lineAt_some hld).1).1
                unfold join at he
                split at he
                · cases he
                  obtain ⟨w1, ⟨n3, w2, w3, w4⟩, w5⟩ := write_ok (w := .joined x.2 y.2 i) y1 (lits_clause (ns := (lc.clause.filter fun z => z != (i : Int)) ++ ld.clause.filter fun z => z != 0 - (i : Int)) fun z hz => by
                    rcases List.mem_append.mp hz with m | m
                    · exact c1 z (List.mem_filter.mp m).1
                    · exact d1 z (List.mem_filter.mp m).1) (up_clauseOf _) (fun k hk => by
                    have : k = x.2 ∨ k = y.2 := by simpa [sources] using hk
                    rcases this with rfl | rfl
                    · rw [y2]; exact nums_more x5
                    · exact y5) (by simp [sources]) (fun z => by cases z)
                  obtain ⟨nb, z2, z3, z4⟩ := both
                  exact ⟨w1, ⟨nb ++ n3, by rw [w2, z2, List.append_assoc], by rw [w3, z3, List.length_append]; omega, by rw [claims_more, z4, w4]; rfl⟩, w5⟩
                · cases he
/-! the state -/
structure SOk (u next : Nat) (st : Stand) : Prop where
  al : st.atoms.length ≤ 8
  aok : AtomsOk u st.atoms
  ok : BOk st.atoms.length st.lines next
  cl : (claimsOf st.lines).length ≤ 16
/-- behind t calls -/
structure Ok (t : Nat) (s : St) : Prop where
  u1 : 1 ≤ s.u ∧ s.u ≤ 4
  now : SOk s.u s.next s.now
  marks : ∀ m ∈ s.marks, SOk s.u s.next m
  many : s.marks.length ≤ 8
  next : s.next ≤ 1 + 300 * t
theorem SOk.mono {u n m : Nat} {st : Stand} (h : SOk u n st) (k : n ≤ m) : SOk u m st := ⟨h.al, h.aok, h.ok.mono (Nat.le_refl _) k, h.cl⟩
theorem ok_init : Ok 0 init := ⟨⟨by decide, by decide⟩, ⟨by decide, fun _ h => by simp [init] at h, BOk.nil, by decide⟩, fun _ h => by simp [init] at h, by decide, by decide⟩
theorem Ok.more {t : Nat} {s : St} (h : Ok t s) : Ok (t + 1) s := ⟨h.u1, h.now, h.marks, h.many, by have := h.next; omega⟩
theorem Ok.after {t : Nat} {s : St} (h : Ok t s) (c : Call) (hw : ∀ w l, c = .step w l → (sources w).length ≤ 60 ∧ w ≠ .claim) : Ok (t + 1) (Sm15.step s c).1 := by
  have hm := h.more
  have hn := h.next
  cases c with
  | start u =>
    dsimp only [Sm15.step]
    split
    · exact hm
    · rename_i c
      exact ⟨by dsimp only; omega, ⟨Nat.zero_le _, fun _ h => by simp at h, BOk.nil, Nat.zero_le _⟩, fun _ h => by simp at h, Nat.zero_le _, by dsimp only; omega⟩
  | atom a =>
    dsimp only [Sm15.step]
    split
    · exact hm
    · split
      · exact hm
      · rename_i c1 c2
        refine ⟨h.u1, ⟨by simp; omega, fun x hx => ?_, h.now.ok.mono (by simp) (Nat.le_refl _), h.now.cl⟩, h.marks, h.many, by dsimp only; omega⟩
        rcases List.mem_append.mp hx with hx | hx
        · exact h.now.aok x hx
        · have e : x = a := by simpa using hx
          rw [e]
          simpa using c1
  | claim l =>
    dsimp only [Sm15.step]
    split
    · exact hm
    · split
      · exact hm
      · split
        · exact hm
        · rename_i c1 c2 c3
          have hl : Lits s.now.atoms.length l := lits_of (by simpa using c1)
          refine ⟨h.u1, ⟨h.now.al, h.now.aok, h.now.ok.snoc (lits_clause hl) (up_clauseOf _) (fun k hk => by simp [sources] at hk) (by simp [sources]), ?_⟩, fun m hm => (h.marks m hm).mono (Nat.le_succ _), h.many, by show s.next + 1 ≤ _; omega⟩
          rw [claims_more, List.length_append]
          have : (claimsOf [(⟨s.next, clauseOf l, .claim⟩ : Line)]).length = 1 := rfl
          rw [this]
          omega
  | step w l =>
    dsimp only [Sm15.step]
    split
    · exact hm
    · split
      · exact hm
      · split
        · exact hm
        · split
          · exact hm
          · rename_i c1 c2 c3 c4
            obtain ⟨w1, w2⟩ := hw w l rfl
            have hl : Lits s.now.atoms.length l := lits_of (by simpa using c1)
            refine ⟨h.u1, ⟨h.now.al, h.now.aok, h.now.ok.snoc (lits_clause hl) (up_clauseOf _) (any_isNone (by simpa using c2)) w1, ?_⟩, fun m hm => (h.marks m hm).mono (Nat.le_succ _), h.many, by show s.next + 1 ≤ _; omega⟩
            rw [claims_more, List.length_append]
            have : claimsOf [(⟨s.next, clauseOf l, w⟩ : Line)] = [] := by
              unfold claimsOf
              rw [List.filter_cons, if_neg (by simpa using w2)]
              rfl
            rw [this]
            exact h.now.cl
  | drop k =>
    dsimp only [Sm15.step]
    split
    · exact hm
    · rename_i x hx
      split
      · exact hm
      · rename_i c
        obtain ⟨hx1, hx2⟩ := lineAt_some hx
        have hcl : x.way = .claim := Classical.byContradiction c
        have co : ClaimOnly k s.now.lines := fun y hy e => by
          have nd := h.now.ok.wf.nodup
          have : y = x := by
            unfold numsOf at nd
            obtain ⟨i, hi, ei⟩ := List.getElem_of_mem hy
            obtain ⟨j, hj, ej⟩ := List.getElem_of_mem hx1
            have q : i = j := (List.getElem_inj (i := i) (j := j) (h₀ := by simpa using hi) (h₁ := by simpa using hj) nd).mp (by simp [ei, ej, e, hx2])
            subst q
            rw [← ei, ← ej]
          rw [this]; exact hcl
        refine ⟨h.u1, ⟨h.now.al, h.now.aok, h.now.ok.without co, ?_⟩, h.marks, h.many, by dsimp only; omega⟩
        show (claimsOf (without [k] s.now.lines)).length ≤ 16
        rw [without_resting h.now.ok.wf co]
        exact Nat.le_trans claims_filter h.now.cl
  | mark =>
    dsimp only [Sm15.step]
    split
    · exact hm
    · rename_i c
      refine ⟨h.u1, h.now, fun m hm => ?_, by simp; omega, by dsimp only; omega⟩
      rcases List.mem_cons.mp hm with e | e
      · rw [e]; exact h.now
      · exact h.marks m e
  | back =>
    dsimp only [Sm15.step]
    split
    · exact hm
    · rename_i m r e
      have hmk := h.marks m (by rw [e]; simp)
      obtain ⟨a, new, b, d⟩ := kept_ok (n := m.atoms.length) s.now.lines m.lines hmk.ok fun x hx => ⟨h.now.ok.lt x hx, (h.now.ok.lits x hx).2, h.now.ok.src x hx⟩
      refine ⟨h.u1, ⟨hmk.al, hmk.aok, a, ?_⟩, fun q hq => h.marks q (by rw [e]; exact List.mem_cons_of_mem _ hq), by have := h.many; rw [e] at this; simp at this; dsimp only; omega, by dsimp only; omega⟩
      show (claimsOf (kept m.atoms.length s.now.lines m.lines)).length ≤ 16
      rw [b, claims_more, d, List.append_nil]
      exact hmk.cl
  | decide => exact hm
  | prove =>
    dsimp only [Sm15.step]
    split
    · exact hm
    · rename_i r hr
      split
      · exact hm
      · rename_i c
        obtain ⟨a, ⟨new, b, d, e⟩, _⟩ := prove_ok (n := s.now.atoms.length) _ _ _ _ r hr h.now.ok (fun y hy => by simp at hy) (Nat.le_refl _) (by omega)
        have hb : r.1.lines.length = s.now.lines.length + new.length := by rw [b, List.length_append]
        have hd : r.1.next = s.next + new.length := d
        refine ⟨h.u1, ⟨h.now.al, h.now.aok, a, ?_⟩, fun m hm => (h.marks m hm).mono (by show s.next ≤ r.1.next; omega), h.many, by show r.1.next ≤ _; omega⟩
        show (claimsOf r.1.lines).length ≤ 16
        rw [b, claims_more, e, List.append_nil]
        exact h.now.cl
  | «show» k => exact hm
  | rests k => exact hm
  | came k => exact hm
  | judge l => exact hm
  | reason l => exact hm
end Cp
/-! MathE -/
namespace Cp
/-! the calls that may be handed in, one by one -/
inductive CallIs : List (List Int) → Sm15.Call → Prop
  | start (u : Nat) : CallIs [[0, (u : Int)]] (.start u)
  | yes : CallIs [[1]] (.atom .yes)
  | bound (a b : Nat) (c : Int) : CallIs [[2, (a : Int), (b : Int), c]] (.atom (.bound a b c))
  | claim (l : List Int) (h : l.length ≤ 40) : CallIs [[3], l] (.claim l)
  | bounds (l : List Int) (h : l.length ≤ 40) : CallIs [[4], l] (.step .bounds l)
  | joined (i j a : Nat) (l : List Int) (h : l.length ≤ 40) : CallIs [[5, (i : Int), (j : Int), (a : Int)], l] (.step (.joined i j a) l)
  | wider (i : Nat) (l : List Int) (h : l.length ≤ 40) : CallIs [[6, (i : Int)], l] (.step (.wider i) l)
  | chain (ks : List Nat) (l : List Int) (hk : ks.length ≤ 60) (h : l.length ≤ 40) : CallIs [[7], ks.map fun (n : Nat) => (n : Int), l] (.step (.chain ks) l)
  | drop (k : Nat) : CallIs [[8, (k : Int)]] (.drop k)
  | mark : CallIs [[9]] .mark
  | back : CallIs [[10]] .back
  | decide : CallIs [[11]] .decide
  | prove : CallIs [[12]] .prove
  | «show» (k : Nat) : CallIs [[13, (k : Int)]] (.show k)
  | rests (k : Nat) : CallIs [[14, (k : Int)]] (.rests k)
  | came (k : Nat) : CallIs [[15, (k : Int)]] (.came k)
  | judge (l : List Int) (t : List Sm15.Told) (ht : Sm15Neutral.toldOf l.length l = some t) (h : l.length ≤ 700) : CallIs [[16], l] (.judge t)
  | reason (l : List Int) (h : l.length ≤ 40) : CallIs [[17], l] (.reason l)
/-- a call's form -/
def FormOf (c : List (List Int)) : Prop := ∃ (p : Int) (ns : List Int) (rows : List (List Int)) (n k : Nat), c = (p :: ns) :: rows ∧ PySm15.shape p = some (n, k) ∧ ns.length = n ∧ rows.length = k
theorem rows_len : ∀ (k : Nat) (l : List Int) (xs : List (List Int)) (t : List Int), PyFlat.rows k l = some (xs, t) → xs.length = k
  | 0, l, xs, t, h => by
    unfold PyFlat.rows at h
    cases h
    rfl
  | k + 1, l, xs, t, h => by
    unfold PyFlat.rows at h
    split at h
    · cases h
    · split at h
      · cases h
      · rename_i hq
        cases h
        rw [List.length_cons, rows_len k _ _ _ hq]
theorem calls_form : ∀ (f : Nat) (l : List Int) (raw : List (List (List Int))), PyFlat.calls PySm15.shape f l = some raw → ∀ c ∈ raw, FormOf c
  | f, [], raw, h => by
    unfold PyFlat.calls at h
    cases h
    intro c hc
    simp at hc
  | 0, p :: r, raw, h => by
    unfold PyFlat.calls at h
    cases h
  | f + 1, p :: r, raw, h => by
    unfold PyFlat.calls PyFlat.call at h
    cases hs : PySm15.shape p with
    | none => simp [hs] at h
    | some nk =>
      obtain ⟨n, k⟩ := nk
      by_cases hl : r.length < n
      · simp [hs, hl] at h
      · cases hr : PyFlat.rows k (r.drop n) with
        | none => simp [hs, hl, hr] at h
        | some xt =>
          obtain ⟨xs, t⟩ := xt
          cases hq : PyFlat.calls PySm15.shape f t with
          | none => simp [hs, hl, hr, hq] at h
          | some rest =>
            simp [hs, hl, hr, hq] at h
            subst h
            intro c hc
            rcases List.mem_cons.mp hc with e | e
            · subst e
              exact ⟨p, r.take n, xs, n, k, rfl, hs, by rw [List.length_take]; omega, rows_len _ _ _ _ hr⟩
            · exact calls_form f t rest hq c e
theorem nat_of {z : Int} (h : PyInside.within 0 4294967295 z = true) : ∃ n : Nat, z = (n : Int) ∧ Sm15Neutral.nat z = true := by
  unfold PyInside.within at h
  simp only [Bool.and_eq_true, decide_eq_true_eq] at h
  refine ⟨z.toNat, by omega, ?_⟩
  unfold Sm15Neutral.nat
  simp only [Bool.and_eq_true, decide_eq_true_eq]
  omega
theorem nats_of : ∀ {l : List Int}, l.all (PyInside.within 0 4294967295) = true → ∃ ks : List Nat, l = ks.map (fun (n : Nat) => (n : Int)) ∧ Sm15Neutral.nats l = true
  | [], _ => ⟨[], rfl, rfl⟩
  | z :: l, h => by
    rw [List.all_cons, Bool.and_eq_true] at h
    obtain ⟨n, e1, e2⟩ := nat_of h.1
    obtain ⟨ks, e3, e4⟩ := nats_of h.2
    refine ⟨n :: ks, by rw [e1, e3]; rfl, ?_⟩
    unfold Sm15Neutral.nats at e4 ⊢
    rw [List.all_cons, e2, e4]
    rfl
theorem wholes_of {l : List Int} (h : l.all (PyInside.within (-2147483648) 2147483647) = true) : Sm15Neutral.wholes l = true := by
  unfold Sm15Neutral.wholes
  rw [List.all_eq_true] at h ⊢
  intro z hz
  have := h z hz
  unfold PyInside.within at this
  unfold Sm15Neutral.whole
  simp only [Bool.and_eq_true, decide_eq_true_eq] at this ⊢
  omega
theorem map_toNat (ks : List Nat) : (ks.map fun (n : Nat) => (n : Int)).map Int.toNat = ks := by
  rw [List.map_map]
  induction ks with
  | nil => rfl
  | cons a r ih => rw [List.map_cons, ih]; rfl
theorem lists_one {lo hi : Int} {m : Nat} {l : List Int} (h : PyInside.lists [(lo, hi, 0, m)] [l] = true) : l.length ≤ m ∧ l.all (PyInside.within lo hi) = true := by
  unfold PyInside.lists at h
  simp only [Bool.and_eq_true, decide_eq_true_eq] at h
  exact ⟨h.1.1.2, h.1.2⟩
theorem lists_two {lo hi lo' hi' : Int} {m m' : Nat} {l l' : List Int} (h : PyInside.lists [(lo, hi, 0, m), (lo', hi', 0, m')] [l, l'] = true) : l.length ≤ m ∧ l.all (PyInside.within lo hi) = true ∧ l'.length ≤ m' ∧ l'.all (PyInside.within lo' hi') = true := by
  unfold PyInside.lists at h
  simp only [Bool.and_eq_true, decide_eq_true_eq] at h
  obtain ⟨h1, h2⟩ := lists_one h.2
  exact ⟨h.1.1.2, h.1.2, h1, h2⟩
theorem len_two {α : Type} {l : List α} (h : l.length = 2) : ∃ a b, l = [a, b] := by
  cases l with
  | nil => simp at h
  | cons a r =>
    cases r with
    | nil => simp at h
    | cons b r =>
      cases r with
      | nil => exact ⟨a, b, rfl⟩
      | cons c r => simp at h
theorem callOf_16 (l : List Int) : Sm15Neutral.callOf (16 :: l) = (Sm15Neutral.toldOf l.length l).map .judge := rfl
theorem callOf_7 (n : Int) (l : List Int) : Sm15Neutral.callOf (7 :: n :: l) = if Sm15Neutral.nat n = true ∧ n.toNat ≤ l.length ∧ Sm15Neutral.nats (l.take n.toNat) = true ∧ Sm15Neutral.wholes (l.drop n.toNat) = true then some (.step (.chain ((l.take n.toNat).map Int.toNat)) (l.drop n.toNat)) else none := rfl
theorem callOf_chain {ks : List Nat} {l : List Int} (g1 : Sm15Neutral.nats (ks.map fun (n : Nat) => (n : Int)) = true) (h4 : Sm15Neutral.wholes l = true) (hk : ks.length ≤ 60) : Sm15Neutral.callOf (7 :: (((ks.map fun (n : Nat) => (n : Int)).length : Nat) : Int) :: ((ks.map fun (n : Nat) => (n : Int)) ++ l)) = some (.step (.chain ks) l) := by
  rw [callOf_7, if_pos]
  · rw [Int.toNat_natCast, List.take_left, List.drop_left, map_toNat]
  · refine ⟨?_, ?_, ?_, ?_⟩
    · unfold Sm15Neutral.nat
      rw [List.length_map]
      simp only [Bool.and_eq_true, decide_eq_true_eq]
      omega
    · rw [Int.toNat_natCast, List.length_append]; omega
    · rw [Int.toNat_natCast, List.take_left]; exact g1
    · rw [Int.toNat_natCast, List.drop_left]; exact h4
set_option maxRecDepth 100000 in
set_option maxHeartbeats 2000000 in
theorem call_is {c : List (List Int)} (hf : FormOf c) (hb : PyInside.call PySm15.bound c = true) (ha : (Sm15Neutral.callOf ((PySm15.whole c).headD [])).isSome = true) :
    ∃ x, Sm15Neutral.callOf ((PySm15.whole c).headD []) = some x ∧ CallIs c x := by
  obtain ⟨p, ns, rows, n, k, rfl, hs, hn, hk⟩ := hf
  unfold PySm15.shape at hs
  unfold PyInside.call at hb
  dsimp only at hb
  rw [Bool.and_eq_true] at hb
  obtain ⟨hb1, hb2⟩ := hb
  by_cases e : p = 0
  · subst e
    simp at hs
    obtain ⟨rfl, rfl⟩ := hs
    match ns, rows, hn, hk with
    | [u], [], _, _ =>
      simp [PySm15.bound, PyInside.each] at hb1
      obtain ⟨m, rfl, h⟩ := nat_of hb1
      exact ⟨.start m, by simp [PySm15.whole, Sm15Neutral.callOf, h], .start m⟩
  rw [if_neg e] at hs
  by_cases e : p = 1
  · subst e
    simp at hs
    obtain ⟨rfl, rfl⟩ := hs
    match ns, rows, hn, hk with
    | [], [], _, _ => exact ⟨_, rfl, .yes⟩
  rw [if_neg e] at hs
  by_cases e : p = 2
  · subst e
    simp at hs
    obtain ⟨rfl, rfl⟩ := hs
    match ns, rows, hn, hk with
    | [a, b, z], [], _, _ =>
      simp [PySm15.bound, PyInside.each] at hb1
      obtain ⟨h1, h2, h3⟩ := hb1
      obtain ⟨a, rfl, ha1⟩ := nat_of h1
      obtain ⟨b, rfl, ha2⟩ := nat_of h2
      have h4 : Sm15Neutral.whole z = true := by
        have := wholes_of (l := [z]) (by simp [h3])
        simpa [Sm15Neutral.wholes] using this
      exact ⟨.atom (.bound a b z), by simp [PySm15.whole, Sm15Neutral.callOf, Sm15Neutral.nats, ha1, ha2, h4], .bound a b z⟩
  rw [if_neg e] at hs
  by_cases e : p = 3
  · subst e
    simp at hs
    obtain ⟨rfl, rfl⟩ := hs
    match ns, rows, hn, hk with
    | [], [l], _, _ =>
      simp [PySm15.bound] at hb2
      have hb2 := lists_one hb2
      have h4 := wholes_of hb2.2
      exact ⟨.claim l, by simp [PySm15.whole, Sm15Neutral.callOf, h4], .claim l hb2.1⟩
  rw [if_neg e] at hs
  by_cases e : p = 4
  · subst e
    simp at hs
    obtain ⟨rfl, rfl⟩ := hs
    match ns, rows, hn, hk with
    | [], [l], _, _ =>
      simp [PySm15.bound] at hb2
      have hb2 := lists_one hb2
      have h4 := wholes_of hb2.2
      exact ⟨.step .bounds l, by simp [PySm15.whole, Sm15Neutral.callOf, h4], .bounds l hb2.1⟩
  rw [if_neg e] at hs
  by_cases e : p = 5
  · subst e
    simp at hs
    obtain ⟨rfl, rfl⟩ := hs
    match ns, rows, hn, hk with
    | [i, j, a], [l], _, _ =>
      simp [PySm15.bound, PyInside.each] at hb1
      obtain ⟨h1, h2, h3⟩ := hb1
      obtain ⟨i, rfl, g1⟩ := nat_of h1
      obtain ⟨j, rfl, g2⟩ := nat_of h2
      obtain ⟨a, rfl, g3⟩ := nat_of h3
      simp [PySm15.bound] at hb2
      have hb2 := lists_one hb2
      have h4 := wholes_of hb2.2
      exact ⟨.step (.joined i j a) l, by simp [PySm15.whole, Sm15Neutral.callOf, Sm15Neutral.nats, g1, g2, g3, h4], .joined i j a l hb2.1⟩
  rw [if_neg e] at hs
  by_cases e : p = 6
  · subst e
    simp at hs
    obtain ⟨rfl, rfl⟩ := hs
    match ns, rows, hn, hk with
    | [i], [l], _, _ =>
      simp [PySm15.bound, PyInside.each] at hb1
      obtain ⟨i, rfl, g1⟩ := nat_of hb1
      simp [PySm15.bound] at hb2
      have hb2 := lists_one hb2
      have h4 := wholes_of hb2.2
      exact ⟨.step (.wider i) l, by simp [PySm15.whole, Sm15Neutral.callOf, g1, h4], .wider i l hb2.1⟩
  rw [if_neg e] at hs
  by_cases e : p = 7
  · subst e
    simp at hs
    obtain ⟨rfl, rfl⟩ := hs
    obtain rfl : ns = [] := List.eq_nil_of_length_eq_zero hn
    obtain ⟨q, l, rfl⟩ := len_two hk
    have hb3 : PyInside.lists [(0, 4294967295, 0, 60), (-2147483648, 2147483647, 0, 40)] [q, l] = true := hb2
    obtain ⟨hq1, hq2, hl1, hl2⟩ := lists_two hb3
    obtain ⟨ks, rfl, g1⟩ := nats_of hq2
    have h4 := wholes_of hl2
    have hk60 : ks.length ≤ 60 := by rw [List.length_map] at hq1; exact hq1
    exact ⟨.step (.chain ks) l, callOf_chain g1 h4 hk60, .chain ks l hk60 hl1⟩
  rw [if_neg e] at hs
  by_cases e : p = 8
  · subst e
    simp at hs
    obtain ⟨rfl, rfl⟩ := hs
    match ns, rows, hn, hk with
    | [u], [], _, _ =>
      simp [PySm15.bound, PyInside.each] at hb1
      obtain ⟨m, rfl, h⟩ := nat_of hb1
      exact ⟨.drop m, by simp [PySm15.whole, Sm15Neutral.callOf, h], .drop m⟩
  rw [if_neg e] at hs
  by_cases e : p = 9
  · subst e
    simp at hs
    obtain ⟨rfl, rfl⟩ := hs
    match ns, rows, hn, hk with
    | [], [], _, _ => exact ⟨_, rfl, .mark⟩
  rw [if_neg e] at hs
  by_cases e : p = 10
  · subst e
    simp at hs
    obtain ⟨rfl, rfl⟩ := hs
    match ns, rows, hn, hk with
    | [], [], _, _ => exact ⟨_, rfl, .back⟩
  rw [if_neg e] at hs
  by_cases e : p = 11
  · subst e
    simp at hs
    obtain ⟨rfl, rfl⟩ := hs
    match ns, rows, hn, hk with
    | [], [], _, _ => exact ⟨_, rfl, .decide⟩
  rw [if_neg e] at hs
  by_cases e : p = 12
  · subst e
    simp at hs
    obtain ⟨rfl, rfl⟩ := hs
    match ns, rows, hn, hk with
    | [], [], _, _ => exact ⟨_, rfl, .prove⟩
  rw [if_neg e] at hs
  by_cases e : p = 13
  · subst e
    simp at hs
    obtain ⟨rfl, rfl⟩ := hs
    match ns, rows, hn, hk with
    | [u], [], _, _ =>
      simp [PySm15.bound, PyInside.each] at hb1
      obtain ⟨m, rfl, h⟩ := nat_of hb1
      exact ⟨.show m, by simp [PySm15.whole, Sm15Neutral.callOf, h], .show m⟩
  rw [if_neg e] at hs
  by_cases e : p = 14
  · subst e
    simp at hs
    obtain ⟨rfl, rfl⟩ := hs
    match ns, rows, hn, hk with
    | [u], [], _, _ =>
      simp [PySm15.bound, PyInside.each] at hb1
      obtain ⟨m, rfl, h⟩ := nat_of hb1
      exact ⟨.rests m, by simp [PySm15.whole, Sm15Neutral.callOf, h], .rests m⟩
  rw [if_neg e] at hs
  by_cases e : p = 15
  · subst e
    simp at hs
    obtain ⟨rfl, rfl⟩ := hs
    match ns, rows, hn, hk with
    | [u], [], _, _ =>
      simp [PySm15.bound, PyInside.each] at hb1
      obtain ⟨m, rfl, h⟩ := nat_of hb1
      exact ⟨.came m, by simp [PySm15.whole, Sm15Neutral.callOf, h], .came m⟩
  rw [if_neg e] at hs
  by_cases e : p = 16
  · subst e
    simp at hs
    obtain ⟨rfl, rfl⟩ := hs
    match ns, rows, hn, hk with
    | [], [l], _, _ =>
      simp [PySm15.bound] at hb2
      have hb2 := lists_one hb2
      have ha : (Sm15Neutral.callOf (16 :: l)).isSome = true := ha
      rw [callOf_16] at ha
      cases ht : Sm15Neutral.toldOf l.length l with
      | none => rw [ht] at ha; cases ha
      | some t =>
        refine ⟨.judge t, ?_, .judge l t ht hb2.1⟩
        show Sm15Neutral.callOf (16 :: l) = _
        rw [callOf_16, ht]
        rfl
  rw [if_neg e] at hs
  by_cases e : p = 17
  · subst e
    simp at hs
    obtain ⟨rfl, rfl⟩ := hs
    match ns, rows, hn, hk with
    | [], [l], _, _ =>
      simp [PySm15.bound] at hb2
      have hb2 := lists_one hb2
      have h4 := wholes_of hb2.2
      exact ⟨.reason l, by simp [PySm15.whole, Sm15Neutral.callOf, h4], .reason l hb2.1⟩
  rw [if_neg e] at hs
  cases hs
/-! what is due, call by call -/
def dueOf (s : Sm15.St) (c : List (List Int)) : Sm15.St × List Int := Sm15Neutral.step s ((PySm15.whole c).headD [])
theorem due_is {c : List (List Int)} {x : Sm15.Call} (h : Sm15Neutral.callOf ((PySm15.whole c).headD []) = some x) (s : Sm15.St) : dueOf s c = Sm15.step s x := by
  unfold dueOf Sm15Neutral.step
  rw [h]
theorem played_map : ∀ (raw : List (List (List Int))) (s : Sm15.St), PyFlat.played (fun s c => Sm15Neutral.step s (c.headD [])) s (raw.map PySm15.whole) = PyFlat.played dueOf s raw
  | [], _ => rfl
  | c :: r, s => by
    show _ :: _ = _ :: _
    rw [played_map r]
    rfl
/-- the request: its calls are these, each one is as told, and the answers are what is due -/
theorem asked_is {l : List Int} (h : PySm15.answers_asked l = true) : ∃ raw, PyFlat.calls PySm15.shape l.length l = some raw ∧ raw.length ≤ 40 ∧ (∀ c ∈ raw, ∃ x, Sm15Neutral.callOf ((PySm15.whole c).headD []) = some x ∧ CallIs c x) ∧ PySm15.answers l = PyFlat.told (PyFlat.played dueOf Sm15.init raw) := by
  unfold PySm15.answers_asked at h
  cases hr : PyFlat.calls PySm15.shape l.length l with
  | none => rw [hr] at h; cases h
  | some raw =>
    rw [hr] at h
    simp only [Bool.and_eq_true] at h
    obtain ⟨⟨⟨⟨_, h1⟩, h2⟩, h3⟩, _⟩ := h
    have f := calls_form _ _ _ hr
    refine ⟨raw, rfl, of_decide_eq_true h1, fun c hc => ?_, ?_⟩
    · refine call_is (f c hc) (List.all_eq_true.mp h2 c hc) ?_
      unfold Sm15Neutral.asked at h3
      rw [Bool.and_eq_true] at h3
      have := List.all_eq_true.mp h3.1 ((PySm15.whole c).headD []) (List.mem_map.mpr ⟨PySm15.whole c, List.mem_map.mpr ⟨c, hc, rfl⟩, rfl⟩)
      exact this
    · unfold PySm15.answers PySm15.calls
      rw [hr]
      dsimp only
      rw [played_map]
      rfl
end Cp
/-! MathF -/
namespace Cp
open Sm15
/-! ### rounds from any row: if the bounds can be kept, u rounds are enough -/
structure Top2 (u : Nat) (es : List Edge) (v0 p : List Int) : Prop where
  len : p.length = u + 1
  le0 : Le p v0
  keeps : Keeps es p
  top : ∀ q : List Int, q.length = u + 1 → Le q v0 → Keeps es q → Le q p
theorem Top2.stuck {u : Nat} {es : List Edge} {v0 p : List Int} (T : Top2 u es v0 p) {f : Nat → Bool} (hg : Good u es) (hl : v0.length = u + 1) (h1 : ∀ i, i < u + 1 → f i = true → p.getD i 0 < v0.getD i 0)
    (h2 : ∀ e ∈ es, f e.a = true → f e.b = false → p.getD e.a 0 + 1 ≤ p.getD e.b 0 + e.c) : ∀ i, i < u + 1 → f i = false := by
  intro i hi
  have le := T.top (raised u p f) (by simp [raised]) (fun j => by
    by_cases hj : j < u + 1
    · rw [raised_getD hj]
      have a := T.le0 j
      have b := h1 j hj
      split
      · rename_i c
        have := b c
        omega
      · omega
    · rw [raised_out hj, List.getD_eq_getElem?_getD, List.getElem?_eq_none (by omega)]
      exact Int.le_refl _) (fun e he => by
    obtain ⟨ha, hb⟩ := hg e he
    rw [raised_getD (by omega), raised_getD (by omega)]
    have k := T.keeps e he
    have k2 := h2 e he
    cases fa : f e.a <;> cases fb : f e.b <;> simp_all <;> omega) i
  rw [raised_getD hi] at le
  cases e : f i
  · rfl
  · rw [e] at le
    simp at le
    omega
theorem top2_done {u : Nat} {es : List Edge} {v0 p : List Int} (T : Top2 u es v0 p) (hg : Good u es) (hl : v0.length = u + 1) : ∀ k, k + 1 ≤ cnt (fun i => decide ((iter es k v0).getD i 0 = p.getD i 0)) (u + 1) ∨ iter es k v0 = p
  | 0 => by
    left
    show 0 + 1 ≤ _
    refine Nat.le_trans ?_ (cnt_more (f := fun _ => false) (n := u + 1) (fun i _ h => by simp at h) ?_)
    · omega
    · refine Classical.byContradiction fun no => ?_
      have all : ∀ i, i < u + 1 → p.getD i 0 < v0.getD i 0 := by
        intro i hi
        have := T.le0 i
        refine Classical.byContradiction fun c => no ⟨i, hi, ?_, rfl⟩
        show decide (v0.getD i 0 = p.getD i 0) = true
        exact decide_eq_true (by omega)
      have := T.stuck (f := fun _ => true) hg hl (fun i hi _ => all i hi) (fun e _ _ h => by simp at h) 0 (by omega)
      simp at this
  | k + 1 => by
    rcases top2_done T hg hl k with h | h
    · by_cases fin : iter es (k + 1) v0 = p
      · exact .inr fin
      left
      have hlen : (iter es k v0).length = u + 1 := by rw [iter_len]; exact hl
      have hlen1 : (iter es (k + 1) v0).length = u + 1 := by rw [iter_len]; exact hl
      have ge1 : Le p (iter es (k + 1) v0) := iter_ge es T.keeps (k + 1) _ T.le0
      have le01 : Le (iter es (k + 1) v0) (iter es k v0) := by
        rw [iter_succ]
        exact fold_le es _
      have le10 : Le (iter es (k + 1) v0) v0 := iter_le es _ _
      have atB : ∀ e ∈ es, (iter es (k + 1) v0).getD e.a 0 ≤ (iter es k v0).getD e.b 0 + e.c := by
        rw [iter_succ]
        exact fold_at hg hlen
      generalize iter es k v0 = v at *
      generalize iter es (k + 1) v0 = v1 at *
      have mono : ∀ i, i < u + 1 → decide (v.getD i 0 = p.getD i 0) = true → decide (v1.getD i 0 = p.getD i 0) = true := by
        intro i _ e
        have e := of_decide_eq_true e
        have a := ge1 i
        have b := le01 i
        exact decide_eq_true (by omega)
      refine Nat.le_trans (Nat.succ_le_succ h) (cnt_more mono ?_)
      refine Classical.byContradiction fun no => ?_
      have same : ∀ i, i < u + 1 → v1.getD i 0 = p.getD i 0 → v.getD i 0 = p.getD i 0 := by
        intro i hi e
        refine Classical.byContradiction fun c => no ⟨i, hi, decide_eq_true e, decide_eq_false c⟩
      have st := T.stuck (f := fun i => decide (v1.getD i 0 ≠ p.getD i 0)) hg hl (fun i hi e => by
          have e := of_decide_eq_true e
          have a := ge1 i
          have b := le10 i
          omega) (fun e he ea eb => by
          have ea := of_decide_eq_true ea
          have eb : ¬ (v1.getD e.b 0 ≠ p.getD e.b 0) := of_decide_eq_false eb
          have eb : v1.getD e.b 0 = p.getD e.b 0 := Classical.byContradiction eb
          have q := same e.b (by have := (hg e he).2; omega) eb
          have r := atB e he
          have a := ge1 e.a
          omega)
      refine fin (list_of_getD (hlen1.trans T.len.symm) fun i => ?_)
      by_cases hi : i < u + 1
      · have := of_decide_eq_false (st i hi)
        exact Classical.byContradiction this
      · rw [List.getD_eq_getElem?_getD, List.getD_eq_getElem?_getD, List.getElem?_eq_none (by omega), List.getElem?_eq_none (by have := T.len; omega)]
    · right
      rw [iter_succ, h]
      exact keeps_fixed T.keeps
/-- what is above a row, in all -/
def above (p : List Int) : Nat → List Int → Nat
  | 0, _ => 0
  | n + 1, v => above p n v + (v.getD n 0 - p.getD n 0).toNat
theorem above_le {p v w : List Int} (h : Le w v) : ∀ n, above p n w ≤ above p n v
  | 0 => Nat.le_refl _
  | n + 1 => by
    have a := above_le (p := p) h n
    have b := h n
    unfold above
    omega
theorem above_lt {p v w : List Int} (h : Le w v) (hp : Le p w) : ∀ {n : Nat}, (∃ i, i < n ∧ w.getD i 0 ≠ v.getD i 0) → above p n w < above p n v
  | 0, ⟨i, hi, _⟩ => by omega
  | n + 1, ⟨i, hi, e⟩ => by
    have b := h n
    have c := hp n
    unfold above
    by_cases z : i = n
    · subst z
      have a := above_le (p := p) h i
      omega
    · have a := above_lt h hp (n := n) ⟨i, by omega, e⟩
      omega
theorem rests_somewhere {u : Nat} {es : List Edge} {p : List Int} (hk : Keeps es p) : ∀ (m : Nat) (v : List Int), v.length = u + 1 → Le p v → above p (u + 1) v ≤ m → ∃ k, lower es (iter es k v) = iter es k v
  | m, v, hl, hp, hm => by
    by_cases c : lower es v = v
    · exact ⟨0, c⟩
    · have le := fold_le es v
      have ge := fold_ge es v p hp hk
      have len : (lower es v).length = u + 1 := (fold_len es v).trans hl
      have lt : above p (u + 1) (lower es v) < above p (u + 1) v := by
        refine above_lt le ge (Classical.byContradiction fun no => c (list_of_getD (len.trans hl.symm) fun i => ?_))
        by_cases hi : i < u + 1
        · exact Classical.byContradiction fun z => no ⟨i, hi, z⟩
        · rw [List.getD_eq_getElem?_getD, List.getD_eq_getElem?_getD, List.getElem?_eq_none (by omega), List.getElem?_eq_none (by omega)]
      cases m with
      | zero => omega
      | succ m =>
        obtain ⟨k, h⟩ := rests_somewhere hk m (lower es v) len ge (by omega)
        exact ⟨k + 1, h⟩
/-- all lowered by k -/
theorem shift_getD (p : List Int) (k : Int) {i : Nat} (h : i < p.length) : (p.map fun x => x - k).getD i 0 = p.getD i 0 - k := by
  rw [List.getD_eq_getElem?_getD, List.getD_eq_getElem?_getD, List.getElem?_map, List.getElem?_eq_getElem h]
  rfl
def most : List Int → Int
  | [] => 0
  | x :: r => max x.natAbs (most r)
theorem most_nonneg : ∀ l, 0 ≤ most l
  | [] => Int.le_refl _
  | x :: r => by
    have := most_nonneg r
    unfold most
    omega
theorem most_le (l : List Int) : ∀ i, l.getD i 0 ≤ most l ∧ -(most l) ≤ l.getD i 0 := by
  induction l with
  | nil => intro i; simp [most]
  | cons x r ih =>
    intro i
    have hm := most_nonneg r
    cases i with
    | zero =>
      simp only [most, List.getD_cons_zero]
      omega
    | succ i =>
      have := ih i
      simp only [most, List.getD_cons_succ]
      omega
theorem settle_any {u : Nat} {es : List Edge} (hg : Good u es) {q : List Int} (hq : q.length = u + 1) (hk : Keeps es q) {v0 : List Int} (hl : v0.length = u + 1) : lower es (iter es u v0) = iter es u v0 := by
  -- a row below v0 that keeps all
  have hk' : Keeps es (q.map fun x => x - (most q + most v0)) := fun e he => by
    obtain ⟨ha, hb⟩ := hg e he
    rw [shift_getD _ _ (by omega), shift_getD _ _ (by omega)]
    have := hk e he
    omega
  have hle : Le (q.map fun x => x - (most q + most v0)) v0 := fun i => by
    by_cases hi : i < u + 1
    · rw [shift_getD _ _ (by omega)]
      have a := (most_le q i).1
      have b := (most_le v0 i).2
      omega
    · rw [List.getD_eq_getElem?_getD, List.getD_eq_getElem?_getD, List.getElem?_eq_none (by simp; omega), List.getElem?_eq_none (by omega)]
      exact Int.le_refl _
  obtain ⟨j, hj⟩ := rests_somewhere (u := u) hk' _ v0 hl hle (Nat.le_refl _)
  have hlen : (iter es j v0).length = u + 1 := by rw [iter_len]; exact hl
  have kp := fixed_keeps hg hlen hj
  have T : Top2 u es v0 (iter es j v0) := ⟨hlen, iter_le es j v0, kp, fun r _ r0 rk => iter_ge es rk j _ r0⟩
  have fin : iter es u v0 = iter es j v0 := by
    rcases top2_done T hg hl u with h | h
    · refine list_of_getD (by rw [iter_len, iter_len]) fun i => ?_
      by_cases hi : i < u + 1
      · exact of_decide_eq_true (cnt_all h i hi)
      · rw [List.getD_eq_getElem?_getD, List.getD_eq_getElem?_getD, List.getElem?_eq_none (by rw [iter_len]; omega), List.getElem?_eq_none (by rw [iter_len]; omega)]
    · exact h
  rw [fin]
  exact hj
/-! ### rounds with nothing known -/
def relax (v : List (Option Int)) (e : Edge) : List (Option Int) := v.set e.a (less (v.getD e.a none) ((v.getD e.b none).map fun (s : Int) => e.c + s))
theorem toRound_eq (es : List Edge) (v : List (Option Int)) : toRound es v = es.foldl relax v := rfl
theorem getD_setO (v : List (Option Int)) (i j : Nat) (x : Option Int) : (v.set i x).getD j none = if i = j ∧ i < v.length then x else v.getD j none := by
  simp only [List.getD_eq_getElem?_getD, List.getElem?_set]
  by_cases e : i = j
  · subst e
    by_cases h : i < v.length
    · simp [h]
    · simp [h]
  · simp [e]
/-- the rows with M in the place of nothing -/
structure Rel (u : Nat) (N M : Int) (v : List (Option Int)) (w : List Int) : Prop where
  l1 : v.length = u + 1
  l2 : w.length = u + 1
  yes : ∀ i h, i < u + 1 → v.getD i none = some h → w.getD i 0 = h ∧ -N ≤ h ∧ h ≤ N
  no : ∀ i, i < u + 1 → v.getD i none = none → M - N ≤ w.getD i 0
theorem Rel.step {u : Nat} {N M C : Int} {v : List (Option Int)} {w : List Int} {e : Edge} (h : Rel u N M v w) (ha : e.a ≤ u) (hb : e.b ≤ u) (hc : -C ≤ e.c ∧ e.c ≤ C) (hM : 2 * N + C + C < M) : Rel u (N + C) M (relax v e) (low1 w e) := by
  have hC : 0 ≤ C := by omega
  have gv : ∀ j, (relax v e).getD j none = if e.a = j ∧ e.a < v.length then less (v.getD e.a none) ((v.getD e.b none).map fun (s : Int) => e.c + s) else v.getD j none := fun j => getD_setO _ _ _ _
  have gw : ∀ j, (low1 w e).getD j 0 = if w.getD e.b 0 + e.c < w.getD e.a 0 ∧ e.a = j ∧ e.a < w.length then w.getD e.b 0 + e.c else w.getD j 0 := fun j => by
    unfold low1
    by_cases c : w.getD e.b 0 + e.c < w.getD e.a 0
    · rw [if_pos c, getD_set]
      by_cases d : e.a = j ∧ e.a < w.length
      · rw [if_pos d, if_pos ⟨c, d⟩]
      · rw [if_neg d, if_neg (fun z => d z.2)]
    · rw [if_neg c, if_neg (fun z => c z.1)]
  refine ⟨by unfold relax; rw [List.length_set]; exact h.l1, by rw [low1_len]; exact h.l2, fun i z hi hz => ?_, fun i hi hz => ?_⟩
  · rw [gv] at hz
    rw [gw]
    by_cases c : e.a = i
    · subst c
      rw [if_pos ⟨rfl, by rw [h.l1]; omega⟩] at hz
      cases qb : v.getD e.b none with
      | none =>
        have nb := h.no e.b (by omega) qb
        rw [qb] at hz
        cases qa : v.getD e.a none with
        | none => rw [qa] at hz; simp [less] at hz
        | some x =>
          rw [qa] at hz
          have hz : x = z := by simpa [less] using hz
          obtain ⟨a1, a2, a3⟩ := h.yes e.a x (by omega) qa
          rw [if_neg (by rintro ⟨z1, _⟩; omega)]
          omega
      | some s =>
        obtain ⟨b1, b2, b3⟩ := h.yes e.b s (by omega) qb
        rw [qb] at hz
        cases qa : v.getD e.a none with
        | none =>
          rw [qa] at hz
          have hz : e.c + s = z := by simpa [less] using hz
          have na := h.no e.a (by omega) qa
          rw [if_pos ⟨by omega, rfl, by rw [h.l2]; omega⟩]
          omega
        | some x =>
          rw [qa] at hz
          have hz : min x (e.c + s) = z := by simpa [less] using hz
          obtain ⟨a1, a2, a3⟩ := h.yes e.a x (by omega) qa
          by_cases d : w.getD e.b 0 + e.c < w.getD e.a 0
          · rw [if_pos ⟨d, rfl, by rw [h.l2]; omega⟩]
            omega
          · rw [if_neg (fun y => d y.1)]
            omega
    · rw [if_neg (fun y => c y.1)] at hz
      rw [if_neg (fun y => c y.2.1)]
      have := h.yes i z hi hz
      omega
  · rw [gv] at hz
    rw [gw]
    by_cases c : e.a = i
    · subst c
      rw [if_pos ⟨rfl, by rw [h.l1]; omega⟩] at hz
      cases qb : v.getD e.b none with
      | none =>
        have nb := h.no e.b (by omega) qb
        rw [qb] at hz
        cases qa : v.getD e.a none with
        | none =>
          have na := h.no e.a (by omega) qa
          split <;> omega
        | some x => rw [qa] at hz; simp [less] at hz
      | some s =>
        rw [qb] at hz
        cases qa : v.getD e.a none with
        | none => rw [qa] at hz; simp [less] at hz
        | some x => rw [qa] at hz; simp [less] at hz
    · rw [if_neg (fun y => c y.1)] at hz
      rw [if_neg (fun y => c y.2.1)]
      have := h.no i hi hz
      omega
theorem Rel.fold {u : Nat} {M C : Int} (hC : 0 ≤ C) : ∀ (es : List Edge) (N : Int) (v : List (Option Int)) (w : List Int), Rel u N M v w → Good u es → (∀ e ∈ es, -C ≤ e.c ∧ e.c ≤ C) → 0 ≤ N → 2 * (N + es.length * C) + C + C < M → Rel u (N + es.length * C) M (es.foldl relax v) (es.foldl low1 w)
  | [], N, v, w, h, _, _, _, _ => by simpa using h
  | e :: r, N, v, w, h, hg, hc, hN, hM => by
    obtain ⟨ha, hb⟩ := hg e (by simp)
    have len : ((e :: r).length : Int) = (r.length : Int) + 1 := by simp
    have mul : ((e :: r).length : Int) * C = (r.length : Int) * C + C := by rw [len, Int.add_mul, Int.one_mul]
    have rc : 0 ≤ (r.length : Int) * C := Int.mul_nonneg (by omega) hC
    have s := h.step ha hb (hc e (by simp)) (by omega)
    have ih := Rel.fold hC r (N + C) _ _ s (fun e' he => hg e' (by simp [he])) (fun e' he => hc e' (by simp [he])) (by omega) (by omega)
    rw [List.foldl_cons, List.foldl_cons]
    have eN : N + C + (r.length : Int) * C = N + ((e :: r).length : Int) * C := by omega
    rw [eN] at ih
    exact ih
theorem rounds_succ (es : List Edge) : ∀ (k : Nat) (v : List (Option Int)), rounds es (k + 1) v = toRound es (rounds es k v)
  | 0, v => rfl
  | k + 1, v => rounds_succ es k (toRound es v)
theorem Rel.rounds {u : Nat} {M C L : Int} (hC : 0 ≤ C) {es : List Edge} (hL : L = es.length * C) (hg : Good u es) (hc : ∀ e ∈ es, -C ≤ e.c ∧ e.c ≤ C) {v : List (Option Int)} {w : List Int} (h : Rel u 0 M v w) : ∀ (k : Nat), 2 * (k * L) + C + C < M → Rel u (k * L) M (Sm15.rounds es k v) (iter es k w)
  | 0, _ => by
    have z : ((0 : Nat) : Int) * L = 0 := by simp
    rw [z]
    exact h
  | k + 1, hM => by
    have hL0 : 0 ≤ L := by rw [hL]; exact Int.mul_nonneg (by omega) hC
    have mul : ((k + 1 : Nat) : Int) * L = (k : Int) * L + L := by
      rw [show ((k + 1 : Nat) : Int) = (k : Int) + 1 from rfl, Int.add_mul, Int.one_mul]
    have kL : 0 ≤ (k : Int) * L := Int.mul_nonneg (by omega) hL0
    have ih := Rel.rounds hC hL hg hc h k (by omega)
    have f := Rel.fold hC es _ _ _ ih hg hc kL (by rw [← hL]; omega)
    rw [← hL, ← mul] at f
    rw [rounds_succ, iter_succ]
    exact f
def mostC : List Edge → Int
  | [] => 0
  | e :: r => max e.c.natAbs (mostC r)
theorem mostC_nonneg : ∀ es, 0 ≤ mostC es
  | [] => Int.le_refl _
  | e :: r => by
    have := mostC_nonneg r
    unfold mostC
    omega
theorem mostC_le : ∀ es, ∀ e ∈ es, -(mostC es) ≤ e.c ∧ e.c ≤ mostC es
  | [], e, h => by simp at h
  | d :: r, e, h => by
    have hn := mostC_nonneg r
    rcases List.mem_cons.mp h with z | z
    · subst z
      unfold mostC
      omega
    · have := mostC_le r e z
      unfold mostC
      omega
theorem start_rel (u : Nat) (M : Int) : Rel u 0 M (start u) ((List.range (u + 1)).map fun i => if i = 0 then 0 else M) := by
  refine ⟨by simp [start], by simp, fun i h hi e => ?_, fun i hi e => ?_⟩
  · unfold start at e
    rw [List.getD_eq_getElem?_getD, List.getElem?_map, List.getElem?_range hi] at e
    rw [List.getD_eq_getElem?_getD, List.getElem?_map, List.getElem?_range hi]
    by_cases c : i = 0
    · subst c
      simp at e ⊢
      omega
    · simp [c] at e
  · unfold start at e
    rw [List.getD_eq_getElem?_getD, List.getElem?_map, List.getElem?_range hi] at e
    rw [List.getD_eq_getElem?_getD, List.getElem?_map, List.getElem?_range hi]
    by_cases c : i = 0
    · simp [c] at e
    · simp [c]
/-- p keeps all, unknown 0 is 0 -/
structure Sol (u : Nat) (es : List Edge) (p : List Int) : Prop where
  len : p.length = u + 1
  keeps : Keeps es p
  zero : p.getD 0 0 = 0
/-- **behind u + 1 rounds** (where the bounds can be kept): what is known is closed, and no number lies above it -/
structure Known (u : Nat) (es : List Edge) (v : List (Option Int)) : Prop where
  len : v.length = u + 1
  closed : ∀ e ∈ es, ∀ s, v.getD e.b none = some s → ∃ h, v.getD e.a none = some h ∧ h ≤ s + e.c
  sound : ∀ p, Sol u es p → ∀ i h, i < u + 1 → v.getD i none = some h → p.getD i 0 ≤ h
  zero : v.getD 0 none = some 0
theorem known_high {u : Nat} {es : List Edge} (hg : Good u es) {q : List Int} (hq : Sol u es q) : Known u es (Sm15.rounds es (u + 1) (start u)) := by
  have hC := mostC_nonneg es
  have hL0 : 0 ≤ (es.length : Int) * mostC es := Int.mul_nonneg (by omega) hC
  have hK : 0 ≤ ((u + 1 : Nat) : Int) * ((es.length : Int) * mostC es) := Int.mul_nonneg (by omega) hL0
  -- one M for all: great, and above q
  let M : Int := 2 * (((u + 1 : Nat) : Int) * ((es.length : Int) * mostC es)) + mostC es + mostC es + 1 + most q
  have hMq := most_nonneg q
  have hM : 2 * (((u + 1 : Nat) : Int) * ((es.length : Int) * mostC es)) + mostC es + mostC es < M := by show _ < 2 * _ + mostC es + mostC es + 1 + most q; omega
  have R := Rel.rounds hC rfl hg (mostC_le es) (start_rel u M) (u + 1) hM
  have fixed : lower es (iter es (u + 1) ((List.range (u + 1)).map fun i => if i = 0 then 0 else M)) = iter es (u + 1) ((List.range (u + 1)).map fun i => if i = 0 then 0 else M) := by
    have s := settle_any hg hq.len hq.keeps (v0 := (List.range (u + 1)).map fun i => if i = 0 then 0 else M) (by simp)
    rw [iter_succ, s, s]
  have kp := fixed_keeps hg R.l2 fixed
  have snd : ∀ p, Sol u es p → ∀ i h, i < u + 1 → (Sm15.rounds es (u + 1) (start u)).getD i none = some h → p.getD i 0 ≤ h := by
    intro p hp i h hi e
    -- with an M above p
    let M2 : Int := M + most p
    have hMp := most_nonneg p
    have R2 := Rel.rounds (M := M2) hC rfl hg (mostC_le es) (start_rel u M2) (u + 1) (by show _ < M + most p; omega)
    have ge := iter_ge es hp.keeps (u + 1) ((List.range (u + 1)).map fun i => if i = 0 then 0 else M2) fun j => by
      by_cases hj : j < u + 1
      · rw [List.getD_eq_getElem?_getD (l := (List.range (u + 1)).map _), List.getElem?_map, List.getElem?_range hj]
        by_cases c : j = 0
        · subst c
          rw [hp.zero]
          simp
        · have := (most_le p j).1
          simp only [Option.map_some, Option.getD_some, if_neg c]
          show _ ≤ M + most p
          omega
      · rw [List.getD_eq_getElem?_getD, List.getD_eq_getElem?_getD, List.getElem?_eq_none (by rw [hp.len]; omega), List.getElem?_eq_none (by simp; omega)]
        exact Int.le_refl _
    have a := (R2.yes i h hi e).1
    have b := ge i
    rw [a] at b
    exact b
  have cl : ∀ e ∈ es, ∀ s, (Sm15.rounds es (u + 1) (start u)).getD e.b none = some s → ∃ h, (Sm15.rounds es (u + 1) (start u)).getD e.a none = some h ∧ h ≤ s + e.c := by
    intro e he s hs
    obtain ⟨ha, hb⟩ := hg e he
    have k := kp e he
    obtain ⟨b1, b2, b3⟩ := R.yes e.b s (by omega) hs
    have cc := mostC_le es e he
    cases qa : (Sm15.rounds es (u + 1) (start u)).getD e.a none with
    | none =>
      have na := R.no e.a (by omega) qa
      exfalso
      omega
    | some h =>
      obtain ⟨a1, _, _⟩ := R.yes e.a h (by omega) qa
      exact ⟨h, rfl, by omega⟩
  refine ⟨R.l1, cl, snd, ?_⟩
  -- unknown 0
  have le : Le (iter es (u + 1) ((List.range (u + 1)).map fun i => if i = 0 then 0 else M)) ((List.range (u + 1)).map fun i => if i = 0 then 0 else M) := iter_le es _ _
  have l0 := le 0
  have e0 : ((List.range (u + 1)).map fun i => if i = 0 then (0 : Int) else M).getD 0 0 = 0 := by
    rw [List.getD_eq_getElem?_getD, List.getElem?_map, List.getElem?_range (by omega)]
    rfl
  rw [e0] at l0
  cases q0 : (Sm15.rounds es (u + 1) (start u)).getD 0 none with
  | none =>
    have := R.no 0 (by omega) q0
    exfalso
    have : M - ((u + 1 : Nat) : Int) * ((es.length : Int) * mostC es) ≤ 0 := by omega
    omega
  | some h =>
    have a := snd q hq 0 h (by omega) q0
    have b := (R.yes 0 h (by omega) q0).1
    rw [hq.zero] at a
    have : h = 0 := by omega
    rw [this]
end Cp
/-! MathG -/
namespace Cp
open Sm15
/-! ### worlds of differences -/
theorem Sol.ge_of {u : Nat} {es : List Edge} {p : List Int} (h : Sol u es p) : Keeps es p := h.keeps
theorem keeps_shift {u : Nat} {es : List Edge} {p : List Int} (hg : Good u es) (hl : p.length = u + 1) (hk : Keeps es p) (k : Int) : Keeps es (p.map fun x => x - k) := fun e he => by
  obtain ⟨ha, hb⟩ := hg e he
  rw [shift_getD _ _ (by omega), shift_getD _ _ (by omega)]
  have := hk e he
  omega
/-- **the bounds can be kept just where there are such numbers** -/
theorem fit_iff {u : Nat} {es : List Edge} (hg : Good u es) : fit u es = true ↔ ∃ p, Sol u es p := by
  rw [fit_rounds hg, rests0_iff]
  constructor
  · rintro ⟨j, _, hj⟩
    have hlen : (iter es j (List.replicate (u + 1) 0)).length = u + 1 := by rw [iter_len]; simp
    have kp := fixed_keeps hg hlen hj
    refine ⟨_, by rw [List.length_map]; exact hlen, keeps_shift hg hlen kp ((iter es j (List.replicate (u + 1) 0)).getD 0 0), ?_⟩
    rw [shift_getD _ _ (by omega)]
    omega
  · rintro ⟨p, hp⟩
    exact ⟨u, by omega, settle_any hg hp.len hp.keeps (by simp)⟩
/-- a row by its places -/
def rowOf (u : Nat) (f : Nat → Int) : List Int := (List.range (u + 1)).map f
theorem rowOf_getD {u : Nat} {f : Nat → Int} {i : Nat} (h : i < u + 1) : (rowOf u f).getD i 0 = f i := by
  unfold rowOf
  rw [List.getD_eq_getElem?_getD, List.getElem?_map, List.getElem?_range h]
  rfl
theorem rowOf_len (u : Nat) (f : Nat → Int) : (rowOf u f).length = u + 1 := by simp [rowOf]
theorem sol_row {u : Nat} {es : List Edge} {f : Nat → Int} (hg : Good u es) (hk : ∀ e ∈ es, f e.a ≤ f e.b + e.c) (h0 : f 0 = 0) : Sol u es (rowOf u f) := by
  refine ⟨rowOf_len u f, fun e he => ?_, by rw [rowOf_getD (by omega)]; exact h0⟩
  obtain ⟨ha, hb⟩ := hg e he
  rw [rowOf_getD (by omega), rowOf_getD (by omega)]
  exact hk e he
/-- what is known is reached, all else may be as great as one likes -/
theorem known_reached {u : Nat} {es : List Edge} {v : List (Option Int)} (hg : Good u es) (K : Known u es v) {q : List Int} (hq : Sol u es q) (B : Int) :
    ∃ p, Sol u es p ∧ (∀ i h, i < u + 1 → v.getD i none = some h → p.getD i 0 = h) ∧ ∀ i, i < u + 1 → v.getD i none = none → B ≤ p.getD i 0 := by
  -- how far the rest is raised
  let W : Int := B.natAbs + most q + mostC es + most (v.map fun o => o.getD 0)
  have hW1 := most_nonneg q
  have hW2 := mostC_nonneg es
  have hW3 := most_nonneg (v.map fun o => o.getD 0)
  let f : Nat → Int := fun i => match v.getD i none with
    | some h => h
    | none => q.getD i 0 + 2 * W
  have fs : ∀ i h, v.getD i none = some h → f i = h := fun i h e => by
    show (match v.getD i none with | some h => h | none => q.getD i 0 + 2 * W) = h
    rw [e]
  have fn : ∀ i, v.getD i none = none → f i = q.getD i 0 + 2 * W := fun i e => by
    show (match v.getD i none with | some h => h | none => q.getD i 0 + 2 * W) = _
    rw [e]
  have hv : ∀ i h, v.getD i none = some h → h ≤ most (v.map fun o => o.getD 0) := fun i h e => by
    have := (most_le (v.map fun o => o.getD 0) i).1
    have e2 : (v.map fun o => o.getD 0).getD i 0 = h := by
      rw [List.getD_eq_getElem?_getD] at e ⊢
      rw [List.getElem?_map]
      cases z : v[i]? with
      | none => rw [z] at e; cases e
      | some o =>
        rw [z] at e
        simp at e
        simp [e]
    rw [e2] at this
    exact this
  refine ⟨rowOf u f, sol_row hg (fun e he => ?_) (fs 0 0 K.zero), fun i h hi e => by rw [rowOf_getD hi]; exact fs i h e, fun i hi e => ?_⟩
  · have cc := mostC_le es e he
    cases qb : v.getD e.b none with
    | some s =>
      obtain ⟨h, ha, hle⟩ := K.closed e he s qb
      rw [fs _ _ ha, fs _ _ qb]
      exact hle
    | none =>
      have b1 := (most_le q e.b).2
      cases qa : v.getD e.a none with
      | some h =>
        rw [fs _ _ qa, fn _ qb]
        have := hv _ _ qa
        show h ≤ q.getD e.b 0 + 2 * (B.natAbs + most q + mostC es + most (v.map fun o => o.getD 0)) + e.c
        omega
      | none =>
        rw [fn _ qa, fn _ qb]
        have := hq.keeps e he
        omega
  · rw [rowOf_getD hi, fn _ e]
    have b1 := (most_le q i).2
    show B ≤ q.getD i 0 + 2 * (B.natAbs + most q + mostC es + most (v.map fun o => o.getD 0))
    omega
/-! ### the other way round -/
def rev (es : List Edge) : List Edge := es.map fun e => ⟨e.b, e.a, e.c⟩
theorem good_rev {u : Nat} {es : List Edge} (h : Good u es) : Good u (rev es) := fun e he => by
  obtain ⟨d, hd, rfl⟩ := List.mem_map.mp he
  exact ⟨(h d hd).2, (h d hd).1⟩
def neg (p : List Int) : List Int := p.map fun x => -x
theorem neg_getD (p : List Int) (i : Nat) : (neg p).getD i 0 = -(p.getD i 0) := by
  unfold neg
  rw [List.getD_eq_getElem?_getD, List.getD_eq_getElem?_getD, List.getElem?_map]
  cases p[i]? <;> simp
theorem sol_neg {u : Nat} {es : List Edge} {p : List Int} (h : Sol u es p) : Sol u (rev es) (neg p) := by
  refine ⟨by unfold neg; rw [List.length_map]; exact h.len, fun e he => ?_, by rw [neg_getD, h.zero]; rfl⟩
  obtain ⟨d, hd, rfl⟩ := List.mem_map.mp he
  have := h.keeps d hd
  rw [neg_getD, neg_getD]
  dsimp only
  omega
theorem rev_rev (es : List Edge) : rev (rev es) = es := by
  unfold rev
  rw [List.map_map]
  induction es with
  | nil => rfl
  | cons e r ih => rw [List.map_cons, ih]; rfl
theorem neg_neg' (p : List Int) : neg (neg p) = p := by
  unfold neg
  rw [List.map_map]
  induction p with
  | nil => rfl
  | cons x r ih => rw [List.map_cons, ih]; simp
theorem sol_unneg {u : Nat} {es : List Edge} {p : List Int} (h : Sol u (rev es) p) : Sol u es (neg p) := by
  have := sol_neg h
  rw [rev_rev] at this
  exact this
/-- the least of two -/
def minRow (u : Nat) (p q : List Int) : List Int := rowOf u fun i => min (p.getD i 0) (q.getD i 0)
/-- between two numbers that an unknown can be, it can be each -/
theorem sol_between {u : Nat} {es : List Edge} (hg : Good u es) {p q : List Int} (hp : Sol u es p) (hq : Sol u es q) {x : Nat} (hx : x < u + 1) {v : Int} (h1 : p.getD x 0 ≤ v) (h2 : v ≤ q.getD x 0) : ∃ r, Sol u es r ∧ r.getD x 0 = v := by
  refine ⟨rowOf u fun i => min (q.getD i 0) (p.getD i 0 + (v - p.getD x 0)), sol_row hg (fun e he => ?_) ?_, ?_⟩
  · have a := hp.keeps e he
    have b := hq.keeps e he
    omega
  · show min (q.getD 0 0) (p.getD 0 0 + (v - p.getD x 0)) = 0
    rw [hp.zero, hq.zero]
    omega
  · rw [rowOf_getD hx]
    omega
/-- v is what unknown x can be, and nothing that it can be is nearer to 0 -/
structure Near (u : Nat) (es : List Edge) (x : Nat) (v : Int) : Prop where
  can : ∃ p, Sol u es p ∧ p.getD x 0 = v
  best : ∀ p, Sol u es p → v.natAbs ≤ (p.getD x 0).natAbs
theorem Near.one {u : Nat} {es : List Edge} {x : Nat} {v w : Int} (hg : Good u es) (hx : x < u + 1) (a : Near u es x v) (b : Near u es x w) : v = w := by
  obtain ⟨p, hp, ep⟩ := a.can
  obtain ⟨q, hq, eq⟩ := b.can
  have h1 := a.best q hq
  have h2 := b.best p hp
  rw [ep] at h2
  rw [eq] at h1
  refine Classical.byContradiction fun ne => ?_
  have z : ∃ r, Sol u es r ∧ r.getD x 0 = 0 := by
    by_cases c : v ≤ w
    · exact sol_between hg hp hq hx (by omega) (by omega)
    · exact sol_between hg hq hp hx (by omega) (by omega)
  obtain ⟨r, hr, er⟩ := z
  have := a.best r hr
  rw [er] at this
  have := b.best r hr
  rw [er] at this
  omega
/-- **the specification's number is the nearest** -/
theorem near_spec {u : Nat} {es : List Edge} (hg : Good u es) (hs : ∃ q, Sol u es q) {x : Nat} (hx : x < u + 1) : Near u es x (nearest (low u es x) (high u es x)) := by
  obtain ⟨q, hq⟩ := hs
  have KH := known_high hg hq
  have KL := known_high (good_rev hg) (sol_neg hq)
  have hH : high u es x = (Sm15.rounds es (u + 1) (start u)).getD x none := rfl
  have hL : low u es x = ((Sm15.rounds (rev es) (u + 1) (start u)).getD x none).map fun (s : Int) => 0 - s := rfl
  rw [hH, hL]
  -- above
  have up : ∀ h, (Sm15.rounds es (u + 1) (start u)).getD x none = some h → (∀ p, Sol u es p → p.getD x 0 ≤ h) ∧ ∃ p, Sol u es p ∧ p.getD x 0 = h := fun h e => by
    obtain ⟨p, a, b, _⟩ := known_reached hg KH hq 0
    exact ⟨fun p hp => KH.sound p hp x h hx e, p, a, b x h hx e⟩
  have upN : (Sm15.rounds es (u + 1) (start u)).getD x none = none → ∀ B, ∃ p, Sol u es p ∧ B ≤ p.getD x 0 := fun e B => by
    obtain ⟨p, a, _, c⟩ := known_reached hg KH hq B
    exact ⟨p, a, c x hx e⟩
  have dn : ∀ h, (Sm15.rounds (rev es) (u + 1) (start u)).getD x none = some h → (∀ p, Sol u es p → 0 - h ≤ p.getD x 0) ∧ ∃ p, Sol u es p ∧ p.getD x 0 = 0 - h := fun h e => by
    obtain ⟨p, a, b, _⟩ := known_reached (good_rev hg) KL (sol_neg hq) 0
    refine ⟨fun p hp => ?_, neg p, sol_unneg a, ?_⟩
    · have := KL.sound (neg p) (sol_neg hp) x h hx e
      rw [neg_getD] at this
      omega
    · rw [neg_getD, b x h hx e]
      omega
  have dnN : (Sm15.rounds (rev es) (u + 1) (start u)).getD x none = none → ∀ B, ∃ p, Sol u es p ∧ p.getD x 0 ≤ B := fun e B => by
    obtain ⟨p, a, _, c⟩ := known_reached (good_rev hg) KL (sol_neg hq) (-B)
    refine ⟨neg p, sol_unneg a, ?_⟩
    have := c x hx e
    rw [neg_getD]
    omega
  cases eH : (Sm15.rounds es (u + 1) (start u)).getD x none with
  | some h =>
    obtain ⟨u1, pH, sH, vH⟩ := up h eH
    cases eL : (Sm15.rounds (rev es) (u + 1) (start u)).getD x none with
    | some l =>
      obtain ⟨d1, pL, sL, vL⟩ := dn l eL
      show Near u es x (if 0 < 0 - l then 0 - l else if h < 0 then h else 0)
      split
      · exact ⟨⟨pL, sL, vL⟩, fun p hp => by have := d1 p hp; omega⟩
      · split
        · exact ⟨⟨pH, sH, vH⟩, fun p hp => by have := u1 p hp; omega⟩
        · exact ⟨sol_between hg sL sH hx (by omega) (by omega), fun p hp => by simp⟩
    | none =>
      show Near u es x (if h < 0 then h else 0)
      split
      · exact ⟨⟨pH, sH, vH⟩, fun p hp => by have := u1 p hp; omega⟩
      · obtain ⟨pL, sL, vL⟩ := dnN eL 0
        exact ⟨sol_between hg sL sH hx (by omega) (by omega), fun p hp => by simp⟩
  | none =>
    cases eL : (Sm15.rounds (rev es) (u + 1) (start u)).getD x none with
    | some l =>
      obtain ⟨d1, pL, sL, vL⟩ := dn l eL
      show Near u es x (if 0 < 0 - l then 0 - l else 0)
      split
      · exact ⟨⟨pL, sL, vL⟩, fun p hp => by have := d1 p hp; omega⟩
      · obtain ⟨pH, sH, vH⟩ := upN eH 0
        exact ⟨sol_between hg sL sH hx (by omega) (by omega), fun p hp => by simp⟩
    | none =>
      show Near u es x 0
      obtain ⟨pH, sH, vH⟩ := upN eH 0
      obtain ⟨pL, sL, vL⟩ := dnN eL 0
      exact ⟨sol_between hg sL sH hx (by omega) (by omega), fun p hp => by simp⟩
/-- what holds an unknown fast -/
def pin (x : Nat) (v : Int) : List Edge := [⟨x, 0, v⟩, ⟨0, x, 0 - v⟩]
theorem sol_pin {u : Nat} {es : List Edge} {p : List Int} {x : Nat} {v : Int} : Sol u (es ++ pin x v) p ↔ Sol u es p ∧ p.getD x 0 = v := by
  constructor
  · intro h
    have k1 := h.keeps ⟨x, 0, v⟩ (by simp [pin])
    have k2 := h.keeps ⟨0, x, 0 - v⟩ (by simp [pin])
    have z := h.zero
    dsimp only at k1 k2
    refine ⟨⟨h.len, fun e he => h.keeps e (List.mem_append_left _ he), z⟩, by omega⟩
  · rintro ⟨h, e⟩
    refine ⟨h.len, fun d hd => ?_, h.zero⟩
    rcases List.mem_append.mp hd with hd | hd
    · exact h.keeps d hd
    · have z := h.zero
      simp [pin] at hd
      rcases hd with rfl | rfl
      · dsimp only; omega
      · dsimp only; omega
theorem good_pin {u : Nat} {es : List Edge} {x : Nat} {v : Int} (h : Good u es) (hx : x ≤ u) : Good u (es ++ pin x v) := fun e he => by
  rcases List.mem_append.mp he with he | he
  · exact h e he
  · simp [pin] at he
    rcases he with rfl | rfl
    · exact ⟨hx, Nat.zero_le _⟩
    · exact ⟨Nat.zero_le _, hx⟩
theorem numbers_cons {u f x : Nat} {es : List Edge} : numbersOf u (f + 1) x es = nearest (low u es x) (high u es x) :: numbersOf u f (x + 1) (es ++ pin x (nearest (low u es x) (high u es x))) := rfl
end Cp
/-! MathH -/
namespace Cp
open Sm15
/-! ### rising rows of numbers -/
abbrev Ris (l : List Nat) : Prop := l.Pairwise fun a b => a < b
theorem mem_insert (a : Nat) : ∀ (l : List Nat) (y : Nat), y ∈ Sm15.insert a l ↔ y = a ∨ y ∈ l
  | [], y => by simp [Sm15.insert]
  | b :: l, y => by
    unfold Sm15.insert
    split
    · rename_i e
      subst e
      simp
    · split
      · simp
      · have ih := mem_insert a l y
        simp only [List.mem_cons, ih]
        constructor
        · rintro (h | h | h) <;> simp [h]
        · rintro (h | h | h) <;> simp [h]
theorem ris_insert (a : Nat) : ∀ (l : List Nat), Ris l → Ris (Sm15.insert a l)
  | [], _ => by simp [Sm15.insert, Ris]
  | b :: l, h => by
    obtain ⟨h1, h2⟩ := List.pairwise_cons.mp h
    unfold Sm15.insert
    split
    · exact h
    · split
      · refine List.pairwise_cons.mpr ⟨fun y hy => ?_, h⟩
        rcases List.mem_cons.mp hy with e | e
        · omega
        · have := h1 y e; omega
      · refine List.pairwise_cons.mpr ⟨fun y hy => ?_, ris_insert a l h2⟩
        rcases (mem_insert a l y).mp hy with e | e
        · omega
        · exact h1 y e
theorem fold_insert : ∀ (l m : List Nat), Ris m → Ris (l.foldl (fun m a => Sm15.insert a m) m) ∧ ∀ y, y ∈ l.foldl (fun m a => Sm15.insert a m) m ↔ y ∈ m ∨ y ∈ l
  | [], m, h => ⟨h, fun y => by simp⟩
  | x :: r, m, h => by
    obtain ⟨a, b⟩ := fold_insert r (Sm15.insert x m) (ris_insert x m h)
    refine ⟨a, fun y => ?_⟩
    rw [List.foldl_cons, b y, mem_insert, List.mem_cons]
    constructor
    · rintro ((h | h) | h) <;> simp [h]
    · rintro (h | h | h) <;> simp [h]
theorem ris_rising (l : List Nat) : Ris (rising l) := (fold_insert l [] List.Pairwise.nil).1
theorem mem_rising {l : List Nat} {y : Nat} : y ∈ rising l ↔ y ∈ l := by
  have := (fold_insert l [] List.Pairwise.nil).2 y
  simpa [rising] using this
theorem ris_one : ∀ (a b : List Nat), Ris a → Ris b → (∀ y, y ∈ a ↔ y ∈ b) → a = b
  | [], [], _, _, _ => rfl
  | [], y :: r, _, _, h => by have := (h y).mpr (by simp); simp at this
  | x :: l, [], _, _, h => by have := (h x).mp (by simp); simp at this
  | x :: l, y :: r, ha, hb, h => by
    obtain ⟨a1, a2⟩ := List.pairwise_cons.mp ha
    obtain ⟨b1, b2⟩ := List.pairwise_cons.mp hb
    have exy : x = y := by
      rcases List.mem_cons.mp ((h x).mp (by simp)) with e | e
      · exact e
      · rcases List.mem_cons.mp ((h y).mpr (by simp)) with e2 | e2
        · exact e2.symm
        · have q1 := b1 x e
          have q2 := a1 y e2
          omega
    subst exy
    refine congrArg (x :: ·) (ris_one l r a2 b2 fun z => ?_)
    have hz := h z
    simp only [List.mem_cons] at hz
    constructor
    · intro m
      rcases hz.mp (.inr m) with e | e
      · subst e; have := a1 z m; omega
      · exact e
    · intro m
      rcases hz.mpr (.inr m) with e | e
      · subst e; have := b1 z m; omega
      · exact e
theorem rising_one {l c : List Nat} (hu : Ris c) (hm : ∀ y, y ∈ c ↔ y ∈ l) : c = rising l := ris_one _ _ hu (ris_rising l) fun y => (hm y).trans mem_rising.symm
/-! ### what a line rests on -/
theorem restsOf_more : ∀ (a b : List Line), ∃ t, restsOf (a ++ b) [] = restsOf a [] ++ t ∧ t.map (·.1) = numsOf b := by
  intro a b
  induction b using snoc_ind with
  | nil => exact ⟨[], by simp, rfl⟩
  | append_singleton l x ih =>
    obtain ⟨t, h1, h2⟩ := ih
    refine ⟨t ++ [(x.num, restStep (restsOf (a ++ l) []) x)], by rw [← List.append_assoc, restsOf_snoc, h1, List.append_assoc], ?_⟩
    rw [List.map_append, h2]
    unfold numsOf
    rw [List.map_append]
    rfl
theorem split_at {ls : List Line} {x : Line} (h : x ∈ ls) : ∃ pre post, ls = pre ++ x :: post := List.append_of_mem h
theorem rests_at {ls : List Line} (wf : WfL ls) {pre post : List Line} {x : Line} (e : ls = pre ++ x :: post) : rests ls x.num = rising (restStep (restsOf pre []) x) := by
  have nd := wf.nodup
  obtain ⟨t, h1, h2⟩ := restsOf_more (pre ++ [x]) post
  have e2 : ls = (pre ++ [x]) ++ post := by rw [e]; simp
  rw [← e2] at h1
  rw [restsOf_snoc, List.append_assoc] at h1
  have nin : x.num ∉ numsOf pre := (wf_iff.mp wf pre x post e).1
  unfold rests
  rw [h1, List.find?_append, List.find?_eq_none.mpr (fun y hy z => by
    have : y.1 = x.num := by simpa using z
    refine nin ?_
    rw [← this, ← restsOf_nums]
    exact List.mem_map.mpr ⟨y, hy, rfl⟩)]
  simp
/-- **c is among what the line k rests on** -/
theorem rests_iff {ls : List Line} (wf : WfL ls) {k c : Nat} {x : Line} (h : lineAt ls k = some x) : c ∈ rests ls k ↔ (x.way = .claim ∧ c = k) ∨ (x.way ≠ .claim ∧ ∃ q ∈ sources x.way, c ∈ rests ls q) := by
  obtain ⟨hx, rfl⟩ := lineAt_some h
  obtain ⟨pre, post, e⟩ := split_at hx
  rw [rests_at wf e, mem_rising, mem_restStep]
  refine or_congr Iff.rfl (and_congr_right fun hc => ?_)
  have src := (wf_iff.mp wf pre x post e).2
  constructor
  · rintro ⟨y, h1, h2, h3⟩
    refine ⟨y.1, h2, ?_⟩
    -- y stands in pre
    have m : y.1 ∈ numsOf pre := by rw [← restsOf_nums]; exact List.mem_map.mpr ⟨y, h1, rfl⟩
    obtain ⟨z, hz, ez⟩ := List.mem_map.mp m
    obtain ⟨p1, p2, e1⟩ := split_at hz
    have e3 : ls = p1 ++ z :: (p2 ++ x :: post) := by rw [e, e1]; simp
    have ez : z.num = y.1 := ez
    rw [← ez, rests_at wf e3, mem_rising]
    -- the entry of z in restsOf pre is y
    obtain ⟨t, g1, g2⟩ := restsOf_more (p1 ++ [z]) p2
    have wfp : WfL pre := wf_iff.mpr fun a b d ed => wf_iff.mp wf a b (d ++ x :: post) (by rw [e, ed]; simp)
    have ndp := wfp.nodup
    have e4 : pre = (p1 ++ [z]) ++ p2 := by rw [e1]; simp
    rw [← e4, restsOf_snoc, List.append_assoc] at g1
    rw [g1] at h1
    rcases List.mem_append.mp h1 with h1 | h1
    · exfalso
      refine (wf_iff.mp wf p1 z (p2 ++ x :: post) e3).1 ?_
      rw [ez, ← restsOf_nums]
      exact List.mem_map.mpr ⟨y, h1, rfl⟩
    · rcases List.mem_append.mp h1 with h1 | h1
      · have : y = (z.num, restStep (restsOf p1 []) z) := by simpa using h1
        rw [this] at h3
        exact h3
      · exfalso
        have m2 : y.1 ∈ numsOf p2 := by rw [← g2]; exact List.mem_map.mpr ⟨y, h1, rfl⟩
        rw [e1] at ndp
        unfold numsOf at ndp m2
        rw [List.map_append, List.map_cons] at ndp
        have := (List.nodup_append.mp ndp).2.1
        rw [← ez] at m2
        exact (List.nodup_cons.mp this).1 m2
  · rintro ⟨q, hq, hc⟩
    obtain ⟨z, hz, ez⟩ := List.mem_map.mp (src q hq)
    have ez : z.num = q := ez
    subst ez
    obtain ⟨p1, p2, e1⟩ := split_at hz
    have e3 : ls = p1 ++ z :: (p2 ++ x :: post) := by rw [e, e1]; simp
    rw [rests_at wf e3, mem_rising] at hc
    obtain ⟨t, g1, g2⟩ := restsOf_more (p1 ++ [z]) p2
    have e4 : pre = (p1 ++ [z]) ++ p2 := by rw [e1]; simp
    rw [← e4, restsOf_snoc, List.append_assoc] at g1
    exact ⟨(z.num, restStep (restsOf p1 []) z), by rw [g1]; simp, hq, hc⟩
/-! ### what a line came of -/
inductive Came (ls : List Line) : Nat → Nat → Prop
  | self {k : Nat} : k ∈ numsOf ls → Came ls k k
  | step {x : Line} {q n : Nat} : x ∈ ls → q ∈ sources x.way → Came ls q n → Came ls x.num n
theorem Came.more {a b : List Line} {k n : Nat} (h : Came a k n) : Came (a ++ b) k n := by
  induction h with
  | self h => exact .self (nums_more h)
  | step hx hq _ ih => exact .step (List.mem_append_left _ hx) hq ih
theorem Came.less {l : List Line} {x : Line} (wf : WfL (l ++ [x])) {k n : Nat} (h : Came (l ++ [x]) k n) : k ∈ numsOf l → Came l k n := by
  have src : ∀ y ∈ l, ∀ q ∈ sources y.way, q ∈ numsOf l := by
    intro y hy q hq
    obtain ⟨pre, post, e⟩ := List.append_of_mem hy
    have := (wf_iff.mp wf.init pre y post e).2 q hq
    rw [e]
    exact nums_more this
  induction h with
  | self h => exact fun hk => .self hk
  | step hx hq _ ih =>
    intro hk
    rename_i y q n _
    rcases List.mem_append.mp hx with hx | hx
    · exact .step hx hq (ih (src y hx q hq))
    · have e : y = x := by simpa using hx
      subst e
      exact absurd hk wf.last.1
theorem came_cases {ls : List Line} {k n : Nat} (h : Came ls k n) : n = k ∨ ∃ y q, y ∈ ls ∧ y.num = k ∧ q ∈ sources y.way ∧ Came ls q n := by
  cases h with
  | self _ => exact .inl rfl
  | step hx hq hc => exact .inr ⟨_, _, hx, rfl, hq, hc⟩
theorem mem_needs {ls : List Line} (wf : WfL ls) : ∀ (want : List Nat) (n : Nat), n ∈ needs ls.reverse want ↔ ∃ w ∈ want, w ∈ numsOf ls ∧ Came ls w n := by
  induction ls using snoc_ind with
  | nil =>
    intro want n
    simp [needs, numsOf]
  | append_singleton l x ih =>
    have ih := ih wf.init
    obtain ⟨h1, h2⟩ := wf.last
    have nx : x.num ∈ numsOf (l ++ [x]) := by
      unfold numsOf
      rw [List.map_append]
      exact List.mem_append_right _ (by simp)
    intro want n
    rw [List.reverse_append]
    show n ∈ needs (x :: l.reverse) want ↔ _
    unfold needs
    by_cases c : want.contains x.num = true
    · rw [if_pos c]
      have cw : x.num ∈ want := by simpa using c
      rw [List.mem_cons, ih]
      constructor
      · rintro (e | ⟨w, hw, hn, hc⟩)
        · exact ⟨x.num, cw, nx, by rw [e]; exact .self nx⟩
        · rcases List.mem_append.mp hw with hw | hw
          · exact ⟨x.num, cw, nx, .step (by simp) hw hc.more⟩
          · exact ⟨w, hw, nums_more hn, hc.more⟩
      · rintro ⟨w, hw, hn, hc⟩
        by_cases z : w ∈ numsOf l
        · exact .inr ⟨w, List.mem_append_right _ hw, z, hc.less wf z⟩
        · have ew : w = x.num := by
            unfold numsOf at hn z
            rw [List.map_append] at hn
            rcases List.mem_append.mp hn with m | m
            · exact absurd m z
            · simpa using m
          rcases came_cases hc with e | ⟨y, q, hy, ey, hq, hc'⟩
          · exact .inl (by rw [e, ew])
          · have yx : y = x := by
              rcases List.mem_append.mp hy with m | m
              · exact absurd (List.mem_map.mpr ⟨y, m, ey.trans ew⟩) h1
              · simpa using m
            subst yx
            have ql := h2 q hq
            exact .inr ⟨q, List.mem_append_left _ hq, ql, hc'.less wf ql⟩
    · rw [if_neg c, ih]
      have cw : x.num ∉ want := by simpa using c
      constructor
      · rintro ⟨w, hw, hn, hc⟩
        exact ⟨w, hw, nums_more hn, hc.more⟩
      · rintro ⟨w, hw, hn, hc⟩
        have z : w ∈ numsOf l := by
          unfold numsOf at hn ⊢
          rw [List.map_append] at hn
          rcases List.mem_append.mp hn with m | m
          · exact m
          · have : w = x.num := by simpa using m
            exact absurd (this ▸ hw) cw
        exact ⟨w, hw, z, hc.less wf z⟩
/-- **n is among what the line k came of** -/
theorem came_iff {ls : List Line} (wf : WfL ls) {k n : Nat} (hk : k ∈ numsOf ls) : n ∈ cameOf ls k ↔ Came ls k n := by
  unfold cameOf
  rw [mem_rising, mem_needs wf]
  constructor
  · rintro ⟨w, hw, _, hc⟩
    have : w = k := by simpa using hw
    exact this ▸ hc
  · intro h
    exact ⟨k, by simp, hk, h⟩
theorem Came.num {ls : List Line} {k n : Nat} (h : Came ls k n) : n ∈ numsOf ls := by
  induction h with
  | self h => exact h
  | step _ _ _ ih => exact ih
end Cp
/-! MathI -/
namespace Cp
open Sm15
/-! ### the program's way to the nearest numbers: rounds from any unknown -/
def startB (u b : Nat) : List (Option Int) := (List.replicate (u + 1) none).set b (some 0)
theorem startB_getD (u b i : Nat) (hb : b ≤ u) : (startB u b).getD i none = if i = b then some 0 else none := by
  unfold startB
  rw [getD_setO]
  by_cases h : i = b
  · rw [if_pos ⟨h.symm, by simp; omega⟩, if_pos h]
  · rw [if_neg (fun z => h z.1.symm), if_neg h, List.getD_eq_getElem?_getD, List.getElem?_replicate]
    split <;> rfl
def firstB (u b : Nat) (M : Int) : List Int := (List.range (u + 1)).map fun i => if i = b then 0 else M
theorem firstB_getD {u b i : Nat} {M : Int} (h : i < u + 1) : (firstB u b M).getD i 0 = if i = b then 0 else M := by
  unfold firstB
  rw [List.getD_eq_getElem?_getD, List.getElem?_map, List.getElem?_range h]
  rfl
theorem startB_rel (u b : Nat) (hb : b ≤ u) (M : Int) : Rel u 0 M (startB u b) (firstB u b M) := by
  refine ⟨by simp [startB], by simp [firstB], fun i h hi e => ?_, fun i hi e => ?_⟩
  · rw [startB_getD u b i hb] at e
    rw [firstB_getD hi]
    split at e
    · rename_i c
      cases e
      rw [if_pos c]
      omega
    · cases e
  · rw [startB_getD u b i hb] at e
    rw [firstB_getD hi]
    split at e
    · cases e
    · rename_i c
      rw [if_neg c]
      omega
theorem getD_out {l : List Int} {j : Nat} (h : l.length ≤ j) : l.getD j 0 = 0 := by
  rw [List.getD_eq_getElem?_getD, List.getElem?_eq_none h]
  rfl
structure Keep (u : Nat) (es : List Edge) (p : List Int) : Prop where
  len : p.length = u + 1
  keeps : Keeps es p
structure KnownB (u : Nat) (es : List Edge) (b : Nat) (v : List (Option Int)) : Prop where
  len : v.length = u + 1
  closed : ∀ e ∈ es, ∀ s, v.getD e.b none = some s → ∃ h, v.getD e.a none = some h ∧ h ≤ s + e.c
  sound : ∀ p, Keep u es p → ∀ i h, i < u + 1 → v.getD i none = some h → p.getD i 0 - p.getD b 0 ≤ h
  base : v.getD b none = some 0
theorem knownB {u : Nat} {es : List Edge} {b : Nat} (hb : b ≤ u) (hg : Good u es) {q : List Int} (hq : Keep u es q) : KnownB u es b (Sm15.rounds es u (startB u b)) := by
  have hC := mostC_nonneg es
  have hL0 : 0 ≤ (es.length : Int) * mostC es := Int.mul_nonneg (by omega) hC
  have hK : 0 ≤ (u : Int) * ((es.length : Int) * mostC es) := Int.mul_nonneg (by omega) hL0
  let M : Int := 2 * ((u : Int) * ((es.length : Int) * mostC es)) + mostC es + mostC es + 1 + most q
  have hMq := most_nonneg q
  have hM : 2 * ((u : Int) * ((es.length : Int) * mostC es)) + mostC es + mostC es < M := by show _ < 2 * _ + mostC es + mostC es + 1 + most q; omega
  have R := Rel.rounds hC rfl hg (mostC_le es) (startB_rel u b hb M) u hM
  have fixed : lower es (iter es u (firstB u b M)) = iter es u (firstB u b M) := settle_any hg hq.len hq.keeps (by simp [firstB])
  have kp := fixed_keeps hg R.l2 fixed
  have snd : ∀ p, Keep u es p → ∀ i h, i < u + 1 → (Sm15.rounds es u (startB u b)).getD i none = some h → p.getD i 0 - p.getD b 0 ≤ h := by
    intro p hp i h hi e
    have hs := keeps_shift hg hp.len hp.keeps (p.getD b 0)
    have sl : (p.map fun x => x - p.getD b 0).length = u + 1 := by rw [List.length_map]; exact hp.len
    let M2 : Int := M + most (p.map fun x => x - p.getD b 0)
    have hMp := most_nonneg (p.map fun x => x - p.getD b 0)
    have R2 := Rel.rounds (M := M2) hC rfl hg (mostC_le es) (startB_rel u b hb M2) u (by show _ < M + most _; omega)
    have ge := iter_ge es hs u (firstB u b M2) fun j => by
      by_cases hj : j < u + 1
      · rw [firstB_getD hj]
        by_cases c : j = b
        · rw [if_pos c, c, shift_getD _ _ (by rw [hp.len]; omega)]
          omega
        · have := (most_le (p.map fun x => x - p.getD b 0) j).1
          rw [if_neg c]
          show _ ≤ M + most _
          omega
      · rw [getD_out (by rw [sl]; omega), getD_out (by simp [firstB]; omega)]
        exact Int.le_refl _
    have a := (R2.yes i h hi e).1
    have b' := ge i
    rw [a, shift_getD _ _ (by rw [hp.len]; omega)] at b'
    exact b'
  have cl : ∀ e ∈ es, ∀ s, (Sm15.rounds es u (startB u b)).getD e.b none = some s → ∃ h, (Sm15.rounds es u (startB u b)).getD e.a none = some h ∧ h ≤ s + e.c := by
    intro e he s hs
    obtain ⟨ha, hb'⟩ := hg e he
    have k := kp e he
    obtain ⟨b1, b2, b3⟩ := R.yes e.b s (by omega) hs
    have cc := mostC_le es e he
    cases qa : (Sm15.rounds es u (startB u b)).getD e.a none with
    | none =>
      have na := R.no e.a (by omega) qa
      exfalso
      omega
    | some h =>
      obtain ⟨a1, _, _⟩ := R.yes e.a h (by omega) qa
      exact ⟨h, rfl, by omega⟩
  refine ⟨R.l1, cl, snd, ?_⟩
  have l0 := iter_le es u (firstB u b M) b
  rw [firstB_getD (by omega), if_pos rfl] at l0
  cases qb : (Sm15.rounds es u (startB u b)).getD b none with
  | none =>
    have := R.no b (by omega) qb
    exfalso
    omega
  | some h =>
    have h1 := (R.yes b h (by omega) qb).1
    have h2 := snd q hq b h (by omega) qb
    have : h = 0 := by omega
    rw [this]
/-- what is known is reached, all else may be as great as one likes -/
theorem reachedB {u : Nat} {es : List Edge} {b : Nat} {v : List (Option Int)} (hg : Good u es) (K : KnownB u es b v) {q : List Int} (hq : Keep u es q) (B : Int) :
    ∃ p, Keep u es p ∧ (∀ i h, i < u + 1 → v.getD i none = some h → p.getD i 0 = h) ∧ ∀ i, i < u + 1 → v.getD i none = none → B ≤ p.getD i 0 := by
  let W : Int := B.natAbs + most q + mostC es + most (v.map fun o => o.getD 0)
  have hW1 := most_nonneg q
  have hW2 := mostC_nonneg es
  have hW3 := most_nonneg (v.map fun o => o.getD 0)
  let f : Nat → Int := fun i => match v.getD i none with
    | some h => h
    | none => q.getD i 0 + 2 * W
  have fs : ∀ i h, v.getD i none = some h → f i = h := fun i h e => by
    show (match v.getD i none with | some h => h | none => q.getD i 0 + 2 * W) = h
    rw [e]
  have fn : ∀ i, v.getD i none = none → f i = q.getD i 0 + 2 * W := fun i e => by
    show (match v.getD i none with | some h => h | none => q.getD i 0 + 2 * W) = _
    rw [e]
  have hv : ∀ i h, v.getD i none = some h → h ≤ most (v.map fun o => o.getD 0) := fun i h e => by
    have := (most_le (v.map fun o => o.getD 0) i).1
    have e2 : (v.map fun o => o.getD 0).getD i 0 = h := by
      rw [List.getD_eq_getElem?_getD] at e ⊢
      rw [List.getElem?_map]
      cases z : v[i]? with
      | none => rw [z] at e; cases e
      | some o =>
        rw [z] at e
        simp at e
        simp [e]
    rw [e2] at this
    exact this
  refine ⟨rowOf u f, ⟨rowOf_len u f, fun e he => ?_⟩, fun i h hi e => by rw [rowOf_getD hi]; exact fs i h e, fun i hi e => ?_⟩
  · have cc := mostC_le es e he
    obtain ⟨ha0, hb0⟩ := hg e he
    rw [rowOf_getD (by omega), rowOf_getD (by omega)]
    cases qb : v.getD e.b none with
    | some s =>
      obtain ⟨h, ha, hle⟩ := K.closed e he s qb
      rw [fs _ _ ha, fs _ _ qb]
      exact hle
    | none =>
      have b1 := (most_le q e.b).2
      cases qa : v.getD e.a none with
      | some h =>
        rw [fs _ _ qa, fn _ qb]
        have := hv _ _ qa
        show h ≤ q.getD e.b 0 + 2 * (B.natAbs + most q + mostC es + most (v.map fun o => o.getD 0)) + e.c
        omega
      | none =>
        rw [fn _ qa, fn _ qb]
        have := hq.keeps e he
        omega
  · rw [rowOf_getD hi, fn _ e]
    have b1 := (most_le q i).2
    show B ≤ q.getD i 0 + 2 * (B.natAbs + most q + mostC es + most (v.map fun o => o.getD 0))
    omega
theorem Sol.keep {u : Nat} {es : List Edge} {p : List Int} (h : Sol u es p) : Keep u es p := ⟨h.len, h.keeps⟩
theorem Keep.sol {u : Nat} {es : List Edge} {p : List Int} (hg : Good u es) (h : Keep u es p) : Sol u es (p.map fun x => x - p.getD 0 0) := by
  refine ⟨by rw [List.length_map]; exact h.len, keeps_shift hg h.len h.keeps _, ?_⟩
  rw [shift_getD _ _ (by rw [h.len]; omega)]
  omega
/-- what the program takes -/
def nearP (u : Nat) (es : List Edge) (x : Nat) : Int := match (Sm15.rounds es u (startB u 0)).getD x none, (Sm15.rounds es u (startB u x)).getD 0 none with
  | some h, m => if h < 0 then h else (match m with
    | some l => if l < 0 then -l else 0
    | none => 0)
  | none, some l => if l < 0 then -l else 0
  | none, none => 0
theorem near_prog {u : Nat} {es : List Edge} (hg : Good u es) (hs : ∃ q, Sol u es q) {x : Nat} (hx : x < u + 1) : Near u es x (nearP u es x) := by
  obtain ⟨q, hq⟩ := hs
  have KH := knownB (b := 0) (by omega) hg hq.keep
  have KL := knownB (b := x) (by omega) hg hq.keep
  have up : ∀ h, (Sm15.rounds es u (startB u 0)).getD x none = some h → (∀ p, Sol u es p → p.getD x 0 ≤ h) ∧ ∃ p, Sol u es p ∧ p.getD x 0 = h := fun h e => by
    obtain ⟨p, a, b, _⟩ := reachedB hg KH hq.keep 0
    have p0 := b 0 0 (by omega) KH.base
    refine ⟨fun p hp => ?_, p, ⟨a.len, a.keeps, p0⟩, b x h hx e⟩
    have := KH.sound p hp.keep x h hx e
    rw [hp.zero] at this
    omega
  have upN : (Sm15.rounds es u (startB u 0)).getD x none = none → ∀ B, ∃ p, Sol u es p ∧ B ≤ p.getD x 0 := fun e B => by
    obtain ⟨p, a, b, c⟩ := reachedB hg KH hq.keep B
    exact ⟨p, ⟨a.len, a.keeps, b 0 0 (by omega) KH.base⟩, c x hx e⟩
  have dn : ∀ l, (Sm15.rounds es u (startB u x)).getD 0 none = some l → (∀ p, Sol u es p → -l ≤ p.getD x 0) ∧ ∃ p, Sol u es p ∧ p.getD x 0 = -l := fun l e => by
    obtain ⟨p, a, b, _⟩ := reachedB hg KL hq.keep 0
    have px := b x 0 hx KL.base
    have p0 := b 0 l (by omega) e
    refine ⟨fun p hp => ?_, _, a.sol hg, ?_⟩
    · have := KL.sound p hp.keep 0 l (by omega) e
      rw [hp.zero] at this
      omega
    · rw [shift_getD _ _ (by rw [a.len]; omega)]
      omega
  have dnN : (Sm15.rounds es u (startB u x)).getD 0 none = none → ∀ B, ∃ p, Sol u es p ∧ p.getD x 0 ≤ B := fun e B => by
    obtain ⟨p, a, b, c⟩ := reachedB hg KL hq.keep (-B)
    have px := b x 0 hx KL.base
    have p0 := c 0 (by omega) e
    refine ⟨_, a.sol hg, ?_⟩
    rw [shift_getD _ _ (by rw [a.len]; omega)]
    omega
  unfold nearP
  cases eH : (Sm15.rounds es u (startB u 0)).getD x none with
  | some h =>
    obtain ⟨u1, pH, sH, vH⟩ := up h eH
    dsimp only
    split
    · exact ⟨⟨pH, sH, vH⟩, fun p hp => by have := u1 p hp; omega⟩
    · cases eL : (Sm15.rounds es u (startB u x)).getD 0 none with
      | some l =>
        obtain ⟨d1, pL, sL, vL⟩ := dn l eL
        dsimp only
        split
        · exact ⟨⟨pL, sL, vL⟩, fun p hp => by have := d1 p hp; omega⟩
        · exact ⟨sol_between hg sL sH hx (by omega) (by omega), fun p hp => by simp⟩
      | none =>
        obtain ⟨pL, sL, vL⟩ := dnN eL 0
        show Near u es x 0
        exact ⟨sol_between hg sL sH hx (by omega) (by omega), fun p hp => by simp⟩
  | none =>
    obtain ⟨pH, sH, vH⟩ := upN eH 0
    cases eL : (Sm15.rounds es u (startB u x)).getD 0 none with
    | some l =>
      obtain ⟨d1, pL, sL, vL⟩ := dn l eL
      dsimp only
      split
      · exact ⟨⟨pL, sL, vL⟩, fun p hp => by have := d1 p hp; omega⟩
      · exact ⟨sol_between hg sL sH hx (by omega) (by omega), fun p hp => by simp⟩
    | none =>
      obtain ⟨pL, sL, vL⟩ := dnN eL 0
      show Near u es x 0
      exact ⟨sol_between hg sL sH hx (by omega) (by omega), fun p hp => by simp⟩
/-- the row of the program's numbers, and the bounds that hold them -/
def numbersP (u : Nat) : Nat → Nat → List Edge → List Int
  | 0, _, _ => []
  | f + 1, x, es => nearP u es x :: numbersP u f (x + 1) (es ++ pin x (nearP u es x))
theorem numbers_prog {u : Nat} : ∀ (f x : Nat) (es : List Edge), Good u es → (∃ q, Sol u es q) → x + f ≤ u + 1 → numbersP u f x es = numbersOf u f x es
  | 0, _, _, _, _, _ => rfl
  | f + 1, x, es, hg, hs, hx => by
    have e := Near.one hg (by omega) (near_prog hg hs (x := x) (by omega)) (near_spec hg hs (by omega))
    obtain ⟨p, hp, ep⟩ := (near_prog hg hs (x := x) (by omega)).can
    rw [numbers_cons, ← e]
    show nearP u es x :: numbersP u f (x + 1) (es ++ pin x (nearP u es x)) = _
    rw [numbers_prog f (x + 1) _ (good_pin hg (by omega)) ⟨p, sol_pin.mpr ⟨hp, ep⟩⟩ (by omega)]
end Cp
/-! MathJ -/
namespace Cp
open Sm15
/-! ### walks along bounds, and what can't be -/
def Wlk : Nat → List Edge → Nat → Prop
  | i, [], j => i = j
  | i, e :: r, j => e.b = i ∧ Wlk e.a r j
def wt (r : List Edge) : Int := (r.map fun e => e.c).sum
theorem wt_cons (e : Edge) (r : List Edge) : wt (e :: r) = e.c + wt r := by simp [wt]
theorem wt_append (r s : List Edge) : wt (r ++ s) = wt r + wt s := by simp [wt]
theorem wlk_append : ∀ {i j : Nat} {r s : List Edge}, Wlk i (r ++ s) j ↔ ∃ m, Wlk i r m ∧ Wlk m s j
  | i, j, [], s => ⟨fun h => ⟨i, rfl, h⟩, fun ⟨m, a, b⟩ => by cases a; exact b⟩
  | i, j, e :: r, s => by
    show (e.b = i ∧ Wlk e.a (r ++ s) j) ↔ ∃ m, (e.b = i ∧ Wlk e.a r m) ∧ Wlk m s j
    rw [wlk_append]
    exact ⟨fun ⟨a, m, b, c⟩ => ⟨m, ⟨a, b⟩, c⟩, fun ⟨m, ⟨a, b⟩, c⟩ => ⟨a, m, b, c⟩⟩
theorem nat_least {P : Nat → Prop} : ∀ (n : Nat), P n → ∃ m, P m ∧ ∀ k, P k → m ≤ k := by
  intro n
  induction n using Nat.strongRecOn with
  | _ n ih =>
    intro h
    by_cases c : ∃ k, k < n ∧ P k
    · obtain ⟨k, hk, pk⟩ := c
      exact ih k hk pk
    · exact ⟨n, h, fun k pk => Classical.byContradiction fun z => c ⟨k, by omega, pk⟩⟩
/-- two with the same letter -/
theorem not_nodup_split {α β : Type} (f : α → β) : ∀ {l : List α}, ¬ (l.map f).Nodup → ∃ l1 x l2 y l3, l = l1 ++ x :: (l2 ++ y :: l3) ∧ f x = f y
  | [], h => absurd List.nodup_nil h
  | a :: l, h => by
    by_cases c : f a ∈ l.map f
    · obtain ⟨y, hy, e⟩ := List.mem_map.mp c
      obtain ⟨l2, l3, rfl⟩ := List.append_of_mem hy
      exact ⟨[], a, l2, y, l3, rfl, e.symm⟩
    · have h2 : ¬ (l.map f).Nodup := fun z => h (by rw [List.map_cons, List.nodup_cons]; exact ⟨c, z⟩)
      obtain ⟨l1, x, l2, y, l3, rfl, e⟩ := not_nodup_split f h2
      exact ⟨a :: l1, x, l2, y, l3, rfl, e⟩
theorem wlk_cut {i j : Nat} {r1 r2 r3 : List Edge} {x y : Edge} (h : Wlk i (r1 ++ x :: (r2 ++ y :: r3)) j) (e : x.b = y.b) : Wlk x.b (x :: r2) x.b ∧ Wlk i (r1 ++ y :: r3) j := by
  obtain ⟨m, h1, h2⟩ := wlk_append.mp h
  obtain ⟨hx, h2⟩ := h2
  obtain ⟨n, h3, h4⟩ := wlk_append.mp h2
  obtain ⟨hy, h5⟩ := h4
  refine ⟨⟨rfl, ?_⟩, wlk_append.mpr ⟨m, h1, ?_, h5⟩⟩
  · have : n = x.b := by rw [e]; exact hy.symm
    rw [← this]
    exact h3
  · rw [← e]; exact hx
theorem wt_low {C : Int} : ∀ {r : List Edge}, (∀ e ∈ r, -C ≤ e.c) → -(r.length * C) ≤ wt r
  | [], _ => by simp [wt]
  | e :: r, h => by
    have ih := wt_low (r := r) fun e' he => h e' (List.mem_cons_of_mem _ he)
    have h1 := h e List.mem_cons_self
    rw [wt_cons, List.length_cons]
    have : ((r.length + 1 : Nat) : Int) * C = r.length * C + C := by rw [Int.natCast_add, Int.add_mul]; simp
    omega
/-- where no walk round adds up to less than 0, no walk is long -/
theorem wlk_low {u : Nat} {es : List Edge} (hg : Good u es) (hn : ∀ i r, (∀ e ∈ r, e ∈ es) → Wlk i r i → 0 ≤ wt r) : ∀ (n : Nat) (r : List Edge) (i j : Nat), r.length ≤ n → (∀ e ∈ r, e ∈ es) → Wlk i r j → -(((u + 1 : Nat) : Int) * mostC es) ≤ wt r
  | n, r, i, j, hl, hr, hw => by
    have hC := mostC_nonneg es
    by_cases nd : (r.map fun e => e.b).Nodup
    · have len := nodup_len nd (b := List.range (u + 1)) fun x hx => by
        obtain ⟨e, he, rfl⟩ := List.mem_map.mp hx
        have := (hg e (hr e he)).2
        exact List.mem_range.mpr (by omega)
      rw [List.length_map, List.length_range] at len
      have h1 := wt_low (C := mostC es) (r := r) fun e he => (mostC_le es e (hr e he)).1
      have h2 : (r.length : Int) * mostC es ≤ ((u + 1 : Nat) : Int) * mostC es := Int.mul_le_mul_of_nonneg_right (by omega) hC
      omega
    · obtain ⟨r1, x, r2, y, r3, rfl, e⟩ := not_nodup_split _ nd
      have sub : ∀ e ∈ r1 ++ y :: r3, e ∈ r1 ++ x :: (r2 ++ y :: r3) := fun e he => by
        simp only [List.mem_append, List.mem_cons] at he ⊢
        rcases he with h | h | h
        · exact .inl h
        · exact .inr (.inr (.inr (.inl h)))
        · exact .inr (.inr (.inr (.inr h)))
      obtain ⟨c1, c2⟩ := wlk_cut hw e
      have p1 := hn _ _ (fun e he => hr e (by
        simp only [List.mem_append, List.mem_cons] at he ⊢
        rcases he with h | h
        · exact .inr (.inl h)
        · exact .inr (.inr (.inl h)))) c1
      cases n with
      | zero => simp at hl
      | succ n =>
        have ih := wlk_low hg hn n (r1 ++ y :: r3) i j (by simp at hl ⊢; omega) (fun e he => hr e (sub e he)) c2
        rw [wt_append, wt_cons] at ih
        rw [wt_cons] at p1
        rw [wt_append, wt_cons, wt_append, wt_cons]
        omega
/-- **where no walk round adds up to less than 0, there are numbers** -/
theorem no_round {u : Nat} {es : List Edge} (hg : Good u es) (hn : ∀ i r, (∀ e ∈ r, e ∈ es) → Wlk i r i → 0 ≤ wt r) : fit u es = true := by
  have low := wlk_low hg hn
  have least : ∀ i : Nat, ∃ m : Int, (∃ s r, (∀ e ∈ r, e ∈ es) ∧ Wlk s r i ∧ wt r = m) ∧ ∀ s r, (∀ e ∈ r, e ∈ es) → Wlk s r i → m ≤ wt r := fun i => by
    obtain ⟨n, ⟨s, r, h1, h2, h3⟩, hm⟩ := nat_least (P := fun n => ∃ s r, (∀ e ∈ r, e ∈ es) ∧ Wlk s r i ∧ wt r + ((u + 1 : Nat) : Int) * mostC es = (n : Int)) (((u + 1 : Nat) : Int) * mostC es).toNat
      ⟨i, [], fun e h => by simp at h, rfl, by
        have : 0 ≤ ((u + 1 : Nat) : Int) * mostC es := Int.mul_nonneg (by omega) (mostC_nonneg es)
        simp only [wt, List.map_nil, List.sum_nil]
        omega⟩
    refine ⟨wt r, ⟨s, r, h1, h2, rfl⟩, fun s' r' g1 g2 => ?_⟩
    have lw := low r'.length r' s' i (Nat.le_refl _) g1 g2
    have := hm (wt r' + ((u + 1 : Nat) : Int) * mostC es).toNat ⟨s', r', g1, g2, by omega⟩
    omega
  rw [fit_iff hg]
  obtain ⟨f, hf⟩ := Classical.axiomOfChoice least
  have key : ∀ e ∈ es, f e.a ≤ f e.b + e.c := fun e he => by
    obtain ⟨s, r, h1, h2, h3⟩ := (hf e.b).1
    have := (hf e.a).2 s (r ++ [e]) (fun e' he' => by
      rcases List.mem_append.mp he' with h | h
      · exact h1 e' h
      · rw [List.mem_singleton.mp h]; exact he) (wlk_append.mpr ⟨e.b, h2, rfl, rfl⟩)
    rw [wt_append, wt_cons, h3] at this
    simp only [wt, List.map_nil, List.sum_nil] at this
    omega
  refine ⟨_, sol_row hg (f := fun i => f i - f 0) (fun e he => ?_) (by show f 0 - f 0 = 0; omega)⟩
  have := key e he
  show f e.a - f 0 ≤ f e.b - f 0 + e.c
  omega
theorem perm_sum : ∀ {a b : List Int}, a.Perm b → a.sum = b.sum := by
  intro a b h
  induction h with
  | nil => rfl
  | cons x _ ih => simp only [List.sum_cons, ih]
  | swap x y l => simp only [List.sum_cons]; omega
  | trans _ _ h1 h2 => exact h1.trans h2
theorem wlk_perm : ∀ {i j : Nat} {r : List Edge}, Wlk i r j → ((r.map fun e => e.a) ++ [i]).Perm ((r.map fun e => e.b) ++ [j])
  | i, j, [], h => by cases h; exact List.Perm.refl _
  | i, j, e :: r, ⟨h1, h2⟩ => by
    have ih := wlk_perm h2
    rw [List.map_cons, List.map_cons, h1]
    have s1 : ((e.a :: r.map fun e => e.a) ++ [i]).Perm (i :: ((r.map fun e => e.a) ++ [e.a])) := by
      have p1 : ((e.a :: r.map fun e => e.a) ++ [i]).Perm ([i] ++ (e.a :: r.map fun e => e.a)) := List.perm_append_comm
      have p2 : (e.a :: r.map fun e => e.a).Perm ((r.map fun e => e.a) ++ [e.a]) := (List.perm_append_comm (l₁ := [e.a]) (l₂ := r.map fun (e : Edge) => e.a))
      exact p1.trans (p2.cons i)
    exact s1.trans (ih.cons i)
/-- the bounds add up to less than nothing -/
def Bal (es : List Edge) : Prop := wt es < 0 ∧ (es.map fun e => e.a).Perm (es.map fun e => e.b)
theorem nodup_sub {α : Type} [DecidableEq α] : ∀ {es r : List α}, r.Nodup → (∀ x ∈ r, x ∈ es) → ∃ l : List α, l.Sublist es ∧ l.Perm r
  | [], r, _, h => by
    cases r with
    | nil => exact ⟨[], List.Sublist.refl _, List.Perm.refl _⟩
    | cons a t => exact absurd (h a List.mem_cons_self) (by simp)
  | e :: es, r, nd, h => by
    by_cases c : e ∈ r
    · have p := List.perm_cons_erase c
      have nd2 : (r.erase e).Nodup := nd.erase e
      obtain ⟨l, l1, l2⟩ := nodup_sub (es := es) nd2 fun x hx => by
        have hx2 := (List.Nodup.mem_erase_iff nd).mp hx
        rcases List.mem_cons.mp (h x hx2.2) with q | q
        · exact absurd q hx2.1
        · exact q
      exact ⟨e :: l, l1.cons₂ e, (l2.cons e).trans p.symm⟩
    · obtain ⟨l, l1, l2⟩ := nodup_sub (es := es) nd fun x hx => by
        rcases List.mem_cons.mp (h x hx) with q | q
        · exact absurd (q ▸ hx) c
        · exact q
      exact ⟨l, l1.cons e, l2⟩
theorem Bal.perm {l r : List Edge} (h : Bal r) (p : l.Perm r) : Bal l := by
  refine ⟨?_, ((p.map _).trans h.2).trans (p.symm.map _)⟩
  have : wt l = wt r := by
    unfold wt
    exact perm_sum (p.map _)
  rw [this]
  exact h.1
/-- **what can't be holds a round that adds up to less than 0, of u + 1 bounds at most** -/
theorem neg_round {u : Nat} {es : List Edge} (hg : Good u es) (h : fit u es = false) : ∃ l, l.Sublist es ∧ Bal l ∧ l.length ≤ u + 1 := by
  have ex : ∃ n, ∃ i r, (∀ e ∈ r, e ∈ es) ∧ Wlk i r i ∧ wt r < 0 ∧ r.length = n := by
    refine Classical.byContradiction fun c => ?_
    rw [no_round hg fun i r h1 h2 => Int.not_lt.mp fun z => c ⟨_, i, r, h1, h2, z, rfl⟩] at h
    cases h
  obtain ⟨n, hn⟩ := ex
  obtain ⟨m, ⟨i, r, h1, h2, h3, h4⟩, hm⟩ := nat_least (P := fun n => ∃ i r, (∀ e ∈ r, e ∈ es) ∧ Wlk i r i ∧ wt r < 0 ∧ r.length = n) n hn
  have nd : (r.map fun e => e.b).Nodup := Classical.byContradiction fun c => by
    obtain ⟨r1, x, r2, y, r3, rfl, e⟩ := not_nodup_split _ c
    obtain ⟨c1, c2⟩ := wlk_cut h2 e
    have s1 : ∀ e ∈ x :: r2, e ∈ es := fun e he => h1 e (by
      simp only [List.mem_append, List.mem_cons] at he ⊢
      rcases he with h | h
      · exact .inr (.inl h)
      · exact .inr (.inr (.inl h)))
    have s2 : ∀ e ∈ r1 ++ y :: r3, e ∈ es := fun e he => h1 e (by
      simp only [List.mem_append, List.mem_cons] at he ⊢
      rcases he with h | h | h
      · exact .inl h
      · exact .inr (.inr (.inr (.inl h)))
      · exact .inr (.inr (.inr (.inr h))))
    have w1 : wt (r1 ++ x :: (r2 ++ y :: r3)) = wt (x :: r2) + wt (r1 ++ y :: r3) := by
      rw [wt_append, wt_cons, wt_append, wt_cons, wt_cons, wt_append, wt_cons]
      omega
    by_cases z : wt (x :: r2) < 0
    · have := hm _ ⟨_, _, s1, c1, z, rfl⟩
      simp at this h4
      omega
    · have := hm _ ⟨_, _, s2, c2, by omega, rfl⟩
      simp at this h4
      omega
  have nde : r.Nodup := (List.pairwise_map.mp nd).imp fun {x y} h e => h (by rw [e])
  obtain ⟨l, l1, l2⟩ := nodup_sub nde h1
  have pm : (r.map fun e => e.a).Perm (r.map fun e => e.b) := (List.perm_append_right_iff [i]).mp (wlk_perm h2)
  refine ⟨l, l1, Bal.perm ⟨h3, pm⟩ l2, ?_⟩
  have len := nodup_len nd (b := List.range (u + 1)) fun x hx => by
    obtain ⟨e, he, rfl⟩ := List.mem_map.mp hx
    have := (hg e (h1 e he)).2
    exact List.mem_range.mpr (by omega)
  rw [List.length_map, List.length_range] at len
  rw [l2.length_eq]
  exact len
theorem sum_keep (f : Nat → Int) : ∀ {es : List Edge}, (∀ e ∈ es, f e.a ≤ f e.b + e.c) → ((es.map fun e => e.a).map f).sum ≤ ((es.map fun e => e.b).map f).sum + wt es
  | [], _ => by simp [wt]
  | e :: es, h => by
    have ih := sum_keep f (es := es) fun e' he => h e' (List.mem_cons_of_mem _ he)
    have := h e List.mem_cons_self
    rw [wt_cons]
    simp only [List.map_cons, List.sum_cons]
    omega
theorem bal_unfit {u : Nat} {es : List Edge} (hg : Good u es) (h : Bal es) : fit u es = false := by
  cases q : fit u es with
  | false => rfl
  | true =>
    obtain ⟨p, hp⟩ := (fit_iff hg).mp q
    have s := sum_keep (fun i => p.getD i 0) (es := es) hp.keeps
    have e := perm_sum (h.2.map (fun i => p.getD i 0))
    have := h.1
    omega
theorem fit_sub {u : Nat} {es l : List Edge} (hg : Good u es) (hs : ∀ e ∈ l, e ∈ es) (h : fit u es = true) : fit u l = true := by
  obtain ⟨p, hp⟩ := (fit_iff hg).mp h
  exact (fit_iff fun e he => hg e (hs e he)).mpr ⟨p, hp.len, fun e he => hp.keeps e (hs e he), hp.zero⟩
/-- **the fewest that can't be are one such round** -/
theorem bal_of_fewest {u : Nat} {es : List Edge} (hg : Good u es) (h : fit u es = false) (hm : ∀ l, l.Sublist es → l.length < es.length → fit u l = true) : Bal es := by
  obtain ⟨l, h1, h2, _⟩ := neg_round hg h
  have gl : Good u l := fun e he => hg e (h1.subset he)
  have : l = es := h1.eq_of_length (by
    have := h1.length_le
    refine Classical.byContradiction fun c => ?_
    have := hm l h1 (by omega)
    rw [bal_unfit gl h2] at this
    cases this)
  rw [← this]
  exact h2
end Cp
/-! MathK -/
namespace Cp
open Sm15
/-! ### the reason of some literals, as the program finds it -/
theorem choose0 (l : List Int) : choose 0 l = [[]] := by unfold choose; rfl
theorem mem_choose : ∀ {k : Nat} {l r : List Int}, r ∈ choose k l ↔ r.Sublist l ∧ r.length = k
  | 0, l, r => by
    unfold choose
    rw [List.mem_singleton]
    constructor
    · rintro rfl
      exact ⟨List.nil_sublist l, rfl⟩
    · rintro ⟨_, h⟩
      exact List.eq_nil_of_length_eq_zero h
  | k + 1, [], r => by
    unfold choose
    constructor
    · intro h; simp at h
    · rintro ⟨h, e⟩
      rw [List.sublist_nil.mp h] at e
      simp at e
  | k + 1, i :: l, r => by
    unfold choose
    rw [List.mem_append, List.mem_map]
    constructor
    · rintro (⟨s, hs, rfl⟩ | h)
      · obtain ⟨h1, h2⟩ := mem_choose.mp hs
        exact ⟨h1.cons₂ i, by simp [h2]⟩
      · obtain ⟨h1, h2⟩ := mem_choose.mp h
        exact ⟨h1.cons i, h2⟩
    · rintro ⟨h, e⟩
      cases h with
      | cons _ h => exact .inr (mem_choose.mpr ⟨h, e⟩)
      | cons_cons _ h => exact .inl ⟨_, mem_choose.mpr ⟨h, by simpa using e⟩, rfl⟩
theorem choose_filter (f : Int → Bool) : ∀ (k : Nat) (l : List Int), (choose k l).filter (fun r => r.all f) = choose k (l.filter f)
  | 0, l => by simp [choose]
  | k + 1, [] => by simp [choose]
  | k + 1, i :: l => by
    rw [show choose (k + 1) (i :: l) = (choose k l).map (fun r => i :: r) ++ choose (k + 1) l from rfl, List.filter_append, choose_filter f (k + 1) l, List.filter_map]
    cases h : f i with
    | true =>
      rw [List.filter_cons, if_pos h, show choose (k + 1) (i :: l.filter f) = (choose k (l.filter f)).map (fun r => i :: r) ++ choose (k + 1) (l.filter f) from rfl, ← choose_filter f k l]
      congr 2
      refine List.filter_congr fun r _ => ?_
      simp [h]
    | false =>
      rw [List.filter_cons, if_neg (by rw [h]; decide)]
      rw [show (choose k l).filter ((fun r => r.all f) ∘ fun r => i :: r) = [] from List.filter_eq_nil_iff.mpr fun r _ => by simp [h]]
      rfl
theorem choose_len : ∀ (k : Nat) (l : List Int), (choose k l).length ≤ 2 ^ l.length
  | 0, l => by
    rw [choose0]
    exact Nat.one_le_two_pow
  | k + 1, [] => by simp [choose]
  | k + 1, i :: l => by
    rw [show choose (k + 1) (i :: l) = (choose k l).map (fun r => i :: r) ++ choose (k + 1) l from rfl, List.length_append, List.length_map, List.length_cons, Nat.pow_succ]
    have := choose_len k l
    have := choose_len (k + 1) l
    omega
theorem find_filter {α : Type} {p f : α → Bool} : ∀ {l : List α}, (∀ x ∈ l, p x = true → f x = true) → l.find? p = (l.filter f).find? p
  | [], _ => rfl
  | a :: l, h => by
    have ih := find_filter (l := l) fun x hx => h x (List.mem_cons_of_mem _ hx)
    rw [List.find?_cons]
    cases hp : p a with
    | true =>
      rw [List.filter_cons, if_pos (h a List.mem_cons_self hp), List.find?_cons, hp]
    | false =>
      show l.find? p = _
      rw [ih, List.filter_cons]
      by_cases c : f a = true
      · rw [if_pos c, List.find?_cons, hp]
      · rw [if_neg c]
theorem find_congr {α : Type} {p q : α → Bool} : ∀ {l : List α}, (∀ x ∈ l, p x = q x) → l.find? p = l.find? q
  | [], _ => rfl
  | a :: l, h => by
    rw [List.find?_cons, List.find?_cons, h a List.mem_cons_self, find_congr fun x hx => h x (List.mem_cons_of_mem _ hx)]
/-- levels: the first that is found stands in the first level with one -/
theorem find_level {α : Type} {p : α → Bool} {L : Nat → List α} : ∀ {n m : Nat}, m < n → (∀ k, k < m → ∀ x ∈ L k, p x = false) → (∃ x ∈ L m, p x = true) → ((List.range n).flatMap L).find? p = (L m).find? p := by
  intro n m hm h0 h1
  have none_lt : ∀ k, k ≤ m → ((List.range k).flatMap L).find? p = none := fun k hk => by
    rw [List.find?_eq_none]
    intro x hx
    obtain ⟨j, hj, hx⟩ := List.mem_flatMap.mp hx
    have := h0 j (by have := List.mem_range.mp hj; omega) x hx
    rw [this]; decide
  have e : List.range n = List.range m ++ (m :: (List.range' (m + 1) (n - m - 1))) := by
    rw [List.range_eq_range', List.range_eq_range', show n = m + (n - m - 1 + 1) by omega, ← List.range'_append_1, List.range'_succ]
    simp
  rw [e, List.flatMap_append, List.find?_append, none_lt m (Nat.le_refl _), Option.none_or, List.flatMap_cons, List.find?_append]
  cases q : (L m).find? p with
  | some x => rfl
  | none =>
    obtain ⟨x, hx, px⟩ := h1
    rw [List.find?_eq_none] at q
    exact absurd px (q x hx)
theorem sub_filterMap {α β : Type} (f : α → Option β) : ∀ {xs : List α} {l : List β}, l.Sublist (xs.filterMap f) → ∃ ys : List α, ys.Sublist xs ∧ ys.filterMap f = l ∧ ys.length = l.length
  | [], l, h => by
    simp at h
    subst h
    exact ⟨[], List.Sublist.refl _, rfl, rfl⟩
  | x :: xs, l, h => by
    cases q : f x with
    | none =>
      rw [List.filterMap_cons, q] at h
      obtain ⟨ys, h1, h2, h3⟩ := sub_filterMap f h
      exact ⟨ys, h1.cons x, h2, h3⟩
    | some b =>
      rw [List.filterMap_cons, q] at h
      cases h with
      | cons _ h =>
        obtain ⟨ys, h1, h2, h3⟩ := sub_filterMap f h
        exact ⟨ys, h1.cons x, h2, h3⟩
      | cons_cons _ h =>
        obtain ⟨ys, h1, h2, h3⟩ := sub_filterMap f h
        exact ⟨x :: ys, h1.cons₂ x, by rw [List.filterMap_cons, q, h2], by simp [h3]⟩
theorem filterMap_some {α β : Type} (f : α → Option β) (l : List α) : (l.filter fun x => (f x).isSome).filterMap f = l.filterMap f := by
  induction l with
  | nil => rfl
  | cons a r ih =>
    cases q : f a with
    | none => rw [List.filter_cons, if_neg (by rw [q]; exact Bool.false_ne_true), ih, List.filterMap_cons, q]
    | some b => rw [List.filter_cons, if_pos (by rw [q]; rfl), List.filterMap_cons, q, ih, List.filterMap_cons, q]
theorem filterMap_all {α β : Type} (f : α → Option β) : ∀ {l : List α}, (l.filterMap f).length = l.length → ∀ x ∈ l, (f x).isSome = true
  | [], _, x, hx => by simp at hx
  | a :: r, h, x, hx => by
    cases q : f a with
    | none =>
      rw [List.filterMap_cons, q] at h
      have := List.length_filterMap_le f r
      simp at h
      omega
    | some b =>
      rw [List.filterMap_cons, q] at h
      rcases List.mem_cons.mp hx with rfl | hx
      · rw [q]; rfl
      · exact filterMap_all f (by simpa using h) x hx
/-- the literals of bounds -/
def bounding (as : List Atom) (ls : List Int) : List Int := ls.filter fun l => (edgeOf as l).isSome
def balB (es : List Edge) : Bool := decide (wt es < 0) && (es.map fun e => e.a).isPerm (es.map fun e => e.b)
theorem balB_iff {es : List Edge} : balB es = true ↔ Bal es := by
  unfold balB Bal
  rw [Bool.and_eq_true, decide_eq_true_eq, List.isPerm_iff]
def reasonP (u : Nat) (as : List Atom) (ls : List Int) : Option (List Int) := ((List.range (u + 1)).flatMap fun s => choose (s + 1) (bounding as ls)).find? fun r => balB (edgesOf as r)
theorem reason_none {u : Nat} {as : List Atom} {ls : List Int} (hg : ∀ l, Good u (edgesOf as l)) (h : fit u (edgesOf as ls) = true) : reason u as ls = none := by
  unfold reason
  rw [List.find?_eq_none]
  intro r hr
  obtain ⟨k, _, hr⟩ := List.mem_flatMap.mp hr
  obtain ⟨h1, _⟩ := mem_choose.mp hr
  have := fit_sub (l := edgesOf as r) (hg ls) (fun e he => (h1.filterMap (edgeOf as)).subset he) h
  rw [this]
  decide
theorem reason_prog {u : Nat} {as : List Atom} {ls : List Int} (hg : ∀ l, Good u (edgesOf as l)) (h : fit u (edgesOf as ls) = false) : reason u as ls = reasonP u as ls ∧ (reasonP u as ls).isSome = true := by
  obtain ⟨l, l1, l2, l3⟩ := neg_round (hg ls) h
  obtain ⟨ys, y1, y2, y3⟩ := sub_filterMap (edgeOf as) l1
  have py : (!fit u (edgesOf as ys)) = true := by
    rw [show edgesOf as ys = l from y2, bal_unfit (fun e he => hg ls e (l1.subset he)) l2]
    rfl
  obtain ⟨m, ⟨r0, hr0, pr0⟩, hm⟩ := nat_least (P := fun k => ∃ r ∈ choose k ls, (!fit u (edgesOf as r)) = true) ys.length ⟨ys, mem_choose.mpr ⟨y1, rfl⟩, py⟩
  have mle : m ≤ u + 1 := by
    have := hm ys.length ⟨ys, mem_choose.mpr ⟨y1, rfl⟩, py⟩
    omega
  have mls : m ≤ ls.length := by
    obtain ⟨h1, h2⟩ := mem_choose.mp hr0
    have := h1.length_le
    omega
  -- a smaller choice fits
  have small : ∀ r, r.Sublist ls → r.length < m → fit u (edgesOf as r) = true := fun r h1 h2 => by
    cases q : fit u (edgesOf as r) with
    | true => rfl
    | false =>
      have := hm r.length ⟨r, mem_choose.mpr ⟨h1, rfl⟩, by rw [q]; rfl⟩
      omega
  have m1 : 1 ≤ m := by
    refine Classical.byContradiction fun c => ?_
    have m0 : m = 0 := by omega
    rw [m0] at hr0
    have : r0 = [] := by simpa [choose] using hr0
    rw [this] at pr0
    have : fit u (edgesOf as []) = true := no_round (hg []) fun i r h1 h2 => by
      cases r with
      | nil => simp [wt]
      | cons e t => exact absurd (h1 e List.mem_cons_self) (by simp [edgesOf])
    rw [this] at pr0
    cases pr0
  -- what can't be among the choices of m
  have all : ∀ r ∈ choose m ls, (!fit u (edgesOf as r)) = true → (r.all fun l => (edgeOf as l).isSome) = true ∧ Bal (edgesOf as r) := fun r hr pr => by
    obtain ⟨h1, h2⟩ := mem_choose.mp hr
    have pf : fit u (edgesOf as r) = false := by simpa using pr
    have len : (edgesOf as r).length = r.length := by
      refine Classical.byContradiction fun c => ?_
      have le := List.length_filterMap_le (edgeOf as) r
      obtain ⟨zs, z1, z2, z3⟩ := sub_filterMap (edgeOf as) (List.Sublist.refl (r.filterMap (edgeOf as)))
      have lt : zs.length < m := by
        have : (edgesOf as r).length < r.length := Nat.lt_of_le_of_ne le c
        rw [z3, ← h2]
        exact this
      have := small zs (z1.trans h1) lt
      rw [show edgesOf as zs = edgesOf as r from z2, pf] at this
      cases this
    refine ⟨List.all_eq_true.mpr (filterMap_all (edgeOf as) len), bal_of_fewest (hg r) pf fun l q1 q2 => ?_⟩
    obtain ⟨zs, z1, z2, z3⟩ := sub_filterMap (edgeOf as) q1
    rw [← z2]
    exact small zs (z1.trans h1) (by omega)
  have e1 : reason u as ls = (choose m ls).find? fun r => !fit u (edgesOf as r) := by
    unfold reason
    refine find_level (L := fun k => choose k ls) (by omega) (fun k hk x hx => ?_) ⟨r0, hr0, pr0⟩
    obtain ⟨h1, h2⟩ := mem_choose.mp hx
    rw [small x h1 (by omega)]
    rfl
  have e2 : (choose m ls).find? (fun r => !fit u (edgesOf as r)) = (choose m (bounding as ls)).find? fun r => balB (edgesOf as r) := by
    rw [find_filter (f := fun r => r.all fun l => (edgeOf as l).isSome) fun x hx px => (all x hx px).1, choose_filter]
    refine find_congr fun x hx => ?_
    obtain ⟨h1, h2⟩ := mem_choose.mp hx
    have hx2 : x ∈ choose m ls := mem_choose.mpr ⟨h1.trans List.filter_sublist, h2⟩
    cases q : fit u (edgesOf as x) with
    | true =>
      show false = _
      cases z : balB (edgesOf as x) with
      | false => rfl
      | true =>
        rw [bal_unfit (hg x) (balB_iff.mp z)] at q
        cases q
    | false =>
      exact (balB_iff.mpr (all x hx2 (by rw [q]; rfl)).2).symm
  have some1 : ((choose m ls).find? fun r => !fit u (edgesOf as r)).isSome = true := by
    rw [List.find?_isSome]
    exact ⟨r0, hr0, pr0⟩
  have e3 : reasonP u as ls = (choose m (bounding as ls)).find? fun r => balB (edgesOf as r) := by
    unfold reasonP
    have := find_level (L := fun s => choose (s + 1) (bounding as ls)) (p := fun r => balB (edgesOf as r)) (n := u + 1) (m := m - 1) (by omega) (fun k hk x hx => ?_) ?_
    · rw [show m - 1 + 1 = m by omega] at this
      exact this
    · obtain ⟨h1, h2⟩ := mem_choose.mp hx
      cases z : balB (edgesOf as x) with
      | false => rfl
      | true =>
        have := small x (h1.trans List.filter_sublist) (by omega)
        rw [bal_unfit (hg x) (balB_iff.mp z)] at this
        cases this
    · show ∃ x ∈ choose (m - 1 + 1) (bounding as ls), _
      rw [show m - 1 + 1 = m by omega]
      rw [e2, List.find?_isSome] at some1
      exact some1
  rw [e1, e2, e3]
  exact ⟨rfl, by rw [← e2]; exact some1⟩
/-! ### choices by places, longer by one place at the end -/
def nxtD (d : Nat) (c : List Nat) : Nat := match c.getLast? with
  | some x => x + 1
  | none => d
def moreD (d n : Nat) (cs : List (List Nat)) : List (List Nat) := cs.flatMap fun c => (List.range' (nxtD d c) (n - nxtD d c)).map fun s => c ++ [s]
def levelP (n : Nat) : Nat → List (List Nat)
  | 0 => [[]]
  | k + 1 => moreD 0 n (levelP n k)
def chFrom (n : Nat) : Nat → Nat → List (List Nat)
  | 0, _ => [[]]
  | k + 1, i => (List.range' i (n - i)).flatMap fun j => (chFrom n k (j + 1)).map fun c => j :: c
theorem nxtD_cons (d j : Nat) (c : List Nat) : nxtD d (j :: c) = nxtD (j + 1) c := by
  unfold nxtD
  cases c with
  | nil => rfl
  | cons a r =>
    rw [show (j :: a :: r).getLast? = (a :: r).getLast? from by simp [List.getLast?_cons]]
    cases q : (a :: r).getLast? with
    | some x => rfl
    | none => simp at q
theorem more_ch (n : Nat) : ∀ (k i : Nat), moreD i n (chFrom n k i) = chFrom n (k + 1) i
  | 0, i => by
    unfold moreD chFrom
    rw [List.flatMap_singleton]
    show (List.range' i (n - i)).map (fun s => [] ++ [s]) = (List.range' i (n - i)).flatMap fun j => [[j]]
    rw [List.map_eq_flatMap]
    rfl
  | k + 1, i => by
    have ih := more_ch n k
    rw [show chFrom n (k + 1) i = (List.range' i (n - i)).flatMap fun j => (chFrom n k (j + 1)).map fun c => j :: c from rfl, show chFrom n (k + 1 + 1) i = (List.range' i (n - i)).flatMap fun j => (chFrom n (k + 1) (j + 1)).map fun c => j :: c from rfl]
    unfold moreD
    rw [List.flatMap_assoc]
    congr 1
    funext j
    rw [← ih (j + 1)]
    unfold moreD
    rw [List.flatMap_map, List.map_flatMap]
    congr 1
    funext c
    rw [nxtD_cons, List.map_map]
    rfl
theorem level_ch (n : Nat) : ∀ k, levelP n k = chFrom n k 0
  | 0 => rfl
  | k + 1 => by
    show moreD 0 n (levelP n k) = _
    rw [level_ch n k, more_ch]
theorem ch_choose (B : List Int) : ∀ (m k i : Nat), m = B.length - i → i ≤ B.length → (chFrom B.length k i).map (fun c => c.map fun j => B.getD j 0) = choose k (B.drop i)
  | m, 0, i, _, _ => by
    rw [choose0]
    rfl
  | 0, k + 1, i, hm, hi => by
    rw [List.drop_eq_nil_of_le (by omega)]
    show ((List.range' i (B.length - i)).flatMap _).map _ = []
    rw [show B.length - i = 0 by omega]
    rfl
  | m + 1, k + 1, i, hm, hi => by
    have lt : i < B.length := by omega
    have ih1 := ch_choose B m k (i + 1) (by omega) (by omega)
    have ih2 := ch_choose B m (k + 1) (i + 1) (by omega) (by omega)
    rw [List.drop_eq_getElem_cons lt, show choose (k + 1) (B[i] :: B.drop (i + 1)) = (choose k (B.drop (i + 1))).map (fun r => B[i] :: r) ++ choose (k + 1) (B.drop (i + 1)) from rfl, ← ih1, ← ih2]
    rw [show chFrom B.length (k + 1) i = (List.range' i (B.length - i)).flatMap fun j => (chFrom B.length k (j + 1)).map fun c => j :: c from rfl, show B.length - i = (B.length - (i + 1)) + 1 by omega, List.range'_succ, List.flatMap_cons, List.map_append]
    congr 1
    rw [List.map_map, List.map_map]
    congr 1
    funext c
    show (i :: c).map (fun j => B.getD j 0) = B[i] :: c.map fun j => B.getD j 0
    rw [List.map_cons]
    congr 1
    rw [List.getD_eq_getElem?_getD, List.getElem?_eq_getElem lt]
    rfl
theorem level_choose (B : List Int) (k : Nat) : (levelP B.length k).map (fun c => c.map fun j => B.getD j 0) = choose k B := by
  rw [level_ch, ch_choose B _ k 0 rfl (Nat.zero_le _)]
  rfl
theorem level_len (B : List Int) (k : Nat) : (levelP B.length k).length ≤ 2 ^ B.length := by
  have := choose_len k B
  rw [← level_choose, List.length_map] at this
  exact this
theorem level_mem {n : Nat} : ∀ {k : Nat} {c : List Nat}, c ∈ levelP n k → c.length = k ∧ ∀ i ∈ c, i < n
  | 0, c, h => by
    have : c = [] := by simpa [levelP] using h
    subst this
    exact ⟨rfl, fun i h => by simp at h⟩
  | k + 1, c, h => by
    obtain ⟨d, hd, hc⟩ := List.mem_flatMap.mp h
    obtain ⟨s, hs, rfl⟩ := List.mem_map.mp hc
    obtain ⟨h1, h2⟩ := level_mem hd
    have := List.mem_range'_1.mp hs
    refine ⟨by simp [h1], fun i hi => ?_⟩
    rcases List.mem_append.mp hi with q | q
    · exact h2 i q
    · rw [List.mem_singleton.mp q]; omega
/-- the reason by places -/
def firstP (n : Nat) (p : List Nat → Bool) (u : Nat) : Option (List Nat) := ((List.range (u + 1)).flatMap fun s => levelP n (s + 1)).find? p
theorem reason_places (u : Nat) (as : List Atom) (ls : List Int) : reasonP u as ls = (firstP (bounding as ls).length (fun c => balB (edgesOf as (c.map fun j => (bounding as ls).getD j 0))) u).map fun c => c.map fun j => (bounding as ls).getD j 0 := by
  unfold reasonP firstP
  have e : (List.range (u + 1)).flatMap (fun s => choose (s + 1) (bounding as ls)) = ((List.range (u + 1)).flatMap fun s => levelP (bounding as ls).length (s + 1)).map fun c => c.map fun j => (bounding as ls).getD j 0 := by
    rw [List.map_flatMap]
    congr 1
    funext s
    exact (level_choose _ _).symm
  rw [e, List.find?_map]
  rfl
end Cp
/-! MathL -/
namespace Cp
open Sm15
/-! ### the first row, as the program finds it -/
def extR : Nat → List Int → List (List Int)
  | 0, so => [so]
  | f + 1, so => extR f (so ++ [0 - ((so.length + 1 : Nat) : Int)]) ++ extR f (so ++ [((so.length + 1 : Nat) : Int)])
theorem rows_len0 : ∀ {m : Nat} {l : List Int}, l ∈ rowsOf m → l.length = m
  | 0, l, h => by
    have : l = [] := by simpa [rowsOf] using h
    rw [this]; rfl
  | m + 1, l, h => by
    obtain ⟨k, hk, hl⟩ := List.mem_flatMap.mp h
    have := rows_len0 hk
    simp at hl
    rcases hl with rfl | rfl <;> simp [this]
theorem flatMap_congr' {α β : Type} {f g : α → List β} : ∀ {l : List α}, (∀ x ∈ l, f x = g x) → l.flatMap f = l.flatMap g
  | [], _ => rfl
  | a :: l, h => by rw [List.flatMap_cons, List.flatMap_cons, h a List.mem_cons_self, flatMap_congr' fun x hx => h x (List.mem_cons_of_mem _ hx)]
theorem ext_rows : ∀ (k m : Nat), (rowsOf m).flatMap (extR k) = rowsOf (m + k)
  | 0, m => by
    show (rowsOf m).flatMap (fun so => [so]) = rowsOf m
    exact List.flatMap_singleton' _
  | k + 1, m => by
    rw [show m + (k + 1) = (m + 1) + k by omega, ← ext_rows k (m + 1)]
    show _ = ((rowsOf m).flatMap fun l => [l ++ [0 - ((m + 1 : Nat) : Int)], l ++ [((m + 1 : Nat) : Int)]]).flatMap (extR k)
    rw [List.flatMap_assoc]
    refine flatMap_congr' fun l hl => ?_
    have e := rows_len0 hl
    show extR k (l ++ [0 - ((l.length + 1 : Nat) : Int)]) ++ extR k (l ++ [((l.length + 1 : Nat) : Int)]) = _
    rw [e]
    simp [List.flatMap_cons]
theorem rows_ext (n : Nat) : rowsOf n = extR n [] := by
  have := ext_rows n 0
  rw [Nat.zero_add] at this
  rw [← this]
  simp [rowsOf]
/-- each atom's literal in its place -/
def IsRow (so : List Int) : Prop := ∀ i x, so[i]? = some x → x.natAbs = i + 1
theorem IsRow.snoc {so : List Int} {x : Int} (h : IsRow so) (hx : x.natAbs = so.length + 1) : IsRow (so ++ [x]) := fun i y hy => by
  by_cases c : i < so.length
  · rw [List.getElem?_append_left c] at hy
    exact h i y hy
  · rw [List.getElem?_append_right (by omega)] at hy
    have hi : i - so.length = 0 := by
      refine Classical.byContradiction fun z => ?_
      rw [List.getElem?_eq_none (by simp; omega)] at hy
      cases hy
    rw [hi] at hy
    have : x = y := by simpa using hy
    rw [← this, hx]
    omega
theorem ext_mem : ∀ {f : Nat} {so r : List Int}, IsRow so → r ∈ extR f so → ∃ t, r = so ++ t ∧ IsRow r ∧ r.length = so.length + f
  | 0, so, r, hs, h => by
    have : r = so := by simpa [extR] using h
    subst this
    exact ⟨[], by simp, hs, rfl⟩
  | f + 1, so, r, hs, h => by
    rcases List.mem_append.mp h with h | h
    · obtain ⟨t, h1, h2, h3⟩ := ext_mem (hs.snoc (by omega)) h
      exact ⟨_, by rw [h1, List.append_assoc], h2, by rw [h3, List.length_append]; simp; omega⟩
    · obtain ⟨t, h1, h2, h3⟩ := ext_mem (hs.snoc (by omega)) h
      exact ⟨_, by rw [h1, List.append_assoc], h2, by rw [h3, List.length_append]; simp; omega⟩
theorem IsRow.one {r : List Int} (h : IsRow r) {l : Int} (a : l ∈ r) (b : -l ∈ r) : False := by
  obtain ⟨i, hi, ei⟩ := List.getElem_of_mem a
  obtain ⟨j, hj, ej⟩ := List.getElem_of_mem b
  have h1 := h i l (by rw [List.getElem?_eq_getElem hi, ei])
  have h2 := h j (-l) (by rw [List.getElem?_eq_getElem hj, ej])
  have : i = j := by omega
  subst this
  rw [ei] at ej
  omega
theorem IsRow.has {r : List Int} (h : IsRow r) {l : Int} (h0 : l ≠ 0) (hl : l.natAbs ≤ r.length) : l ∈ r ∨ -l ∈ r := by
  have lt : l.natAbs - 1 < r.length := by omega
  have := h (l.natAbs - 1) _ (List.getElem?_eq_getElem lt)
  have m := List.getElem_mem lt
  by_cases c : r[l.natAbs - 1] = l
  · exact .inl (c ▸ m)
  · have : r[l.natAbs - 1] = -l := by omega
    exact .inr (this ▸ m)
def brokenBy (c so : List Int) : Bool := c.all fun l => so.contains (-l)
theorem broken_row {c r : List Int} (h : IsRow r) (hc : Lits r.length c) : c.any r.contains = !brokenBy c r := by
  unfold brokenBy
  rw [List.not_all_eq_any_not]
  rw [Bool.eq_iff_iff, List.any_eq_true, List.any_eq_true]
  constructor
  · rintro ⟨l, hl, hr⟩
    refine ⟨l, hl, ?_⟩
    cases q : r.contains (-l) with
    | false => rfl
    | true => exact (h.one (by simpa using hr) (by simpa using q)).elim
  · rintro ⟨l, hl, hr⟩
    refine ⟨l, hl, ?_⟩
    have hn : -l ∉ r := by simpa using hr
    rcases h.has (hc l hl).1 (hc l hl).2 with q | q
    · simpa using q
    · exact absurd q hn
theorem broken_more {c so t : List Int} (h : brokenBy c so = true) : brokenBy c (so ++ t) = true := by
  unfold brokenBy at h ⊢
  rw [List.all_eq_true] at h ⊢
  intro l hl
  have := h l hl
  simp at this ⊢
  exact .inl this
def okRow (u : Nat) (as : List Atom) (cs : List (List Int)) (so : List Int) : Bool := !(cs.any fun c => brokenBy c so) && fit u (edgesOf as so)
def rowF (u : Nat) (as : List Atom) (cs : List (List Int)) : Nat → List Int → Option (List Int)
  | 0, so => if okRow u as cs so = true then some so else none
  | f + 1, so => if okRow u as cs so = true then (rowF u as cs f (so ++ [0 - ((so.length + 1 : Nat) : Int)])).or (rowF u as cs f (so ++ [((so.length + 1 : Nat) : Int)])) else none
def goodRow (u : Nat) (as : List Atom) (cs : List (List Int)) (r : List Int) : Bool := (cs.all fun c => c.any r.contains) && fit u (edgesOf as r)
theorem good_ok {u : Nat} {as : List Atom} {cs : List (List Int)} {r : List Int} (h : IsRow r) (hc : ∀ c ∈ cs, Lits r.length c) : goodRow u as cs r = okRow u as cs r := by
  unfold goodRow okRow
  congr 1
  rw [List.not_any_eq_all_not, Bool.eq_iff_iff, List.all_eq_true, List.all_eq_true]
  constructor
  · intro q c hcm
    rw [← broken_row h (hc c hcm)]
    exact q c hcm
  · intro q c hcm
    rw [broken_row h (hc c hcm)]
    exact q c hcm
theorem not_good {u : Nat} {as : List Atom} {cs : List (List Int)} (hg : ∀ l, Good u (edgesOf as l)) {so t : List Int} (h : IsRow (so ++ t)) (hc : ∀ c ∈ cs, Lits (so ++ t).length c) (hn : okRow u as cs so = false) : goodRow u as cs (so ++ t) = false := by
  rw [good_ok h hc]
  unfold okRow at hn ⊢
  rw [Bool.and_eq_false_iff] at hn ⊢
  rcases hn with hn | hn
  · left
    rw [Bool.not_eq_false'] at hn ⊢
    rw [List.any_eq_true] at hn ⊢
    obtain ⟨c, h1, h2⟩ := hn
    exact ⟨c, h1, broken_more h2⟩
  · right
    cases q : fit u (edgesOf as (so ++ t)) with
    | false => rfl
    | true =>
      have := fit_sub (l := edgesOf as so) (hg _) (fun e he => by
        unfold edgesOf at he ⊢
        rw [List.filterMap_append]
        exact List.mem_append_left _ he) q
      rw [hn] at this
      cases this
theorem row_find {u : Nat} {as : List Atom} {cs : List (List Int)} (hg : ∀ l, Good u (edgesOf as l)) : ∀ (f : Nat) (so : List Int), IsRow so → (∀ c ∈ cs, Lits (so.length + f) c) → rowF u as cs f so = (extR f so).find? (goodRow u as cs)
  | 0, so, hs, hc => by
    show (if okRow u as cs so = true then some so else none) = [so].find? _
    rw [List.find?_cons, good_ok hs hc]
    cases okRow u as cs so <;> rfl
  | f + 1, so, hs, hc => by
    show (if okRow u as cs so = true then _ else none) = _
    by_cases h : okRow u as cs so = true
    · rw [if_pos h, row_find hg f _ (hs.snoc (by omega)) (fun c hcm => by rw [List.length_append]; show Lits (so.length + 1 + f) c; rw [show so.length + 1 + f = so.length + (f + 1) by omega]; exact hc c hcm),
        row_find hg f _ (hs.snoc (by omega)) (fun c hcm => by rw [List.length_append]; show Lits (so.length + 1 + f) c; rw [show so.length + 1 + f = so.length + (f + 1) by omega]; exact hc c hcm), ← List.find?_append]
      rfl
    · rw [if_neg h]
      symm
      rw [List.find?_eq_none]
      intro r hr
      obtain ⟨t, rfl, h2, h3⟩ := ext_mem hs hr
      rw [not_good hg h2 (fun c hcm => by rw [h3]; exact hc c hcm) (by simpa using h)]
      decide
theorem isRow_nil : IsRow [] := fun i x h => by simp at h
/-- **the first world** -/
theorem world_prog {u : Nat} {as : List Atom} {cs : List (List Int)} (hg : ∀ l, Good u (edgesOf as l)) (hc : ∀ c ∈ cs, Lits as.length c) :
    world u as cs = (rowF u as cs as.length []).map fun r => (r, numbersOf u u 1 (edgesOf as r)) := by
  unfold world
  rw [row_find hg as.length [] isRow_nil (fun c h => by simpa using hc c h), ← rows_ext]
  rfl
theorem row_some {u : Nat} {as : List Atom} {cs : List (List Int)} (hg : ∀ l, Good u (edgesOf as l)) : ∀ {f : Nat} {so r : List Int}, IsRow so → rowF u as cs f so = some r → okRow u as cs r = true ∧ r.length = so.length + f ∧ IsRow r
  | 0, so, r, hs, h => by
    unfold rowF at h
    split at h
    · rename_i c
      cases h
      exact ⟨c, rfl, hs⟩
    · cases h
  | f + 1, so, r, hs, h => by
    unfold rowF at h
    split at h
    · rw [Option.or_eq_some_iff] at h
      rcases h with h | ⟨_, h⟩
      · obtain ⟨a, b, c⟩ := row_some hg (hs.snoc (by omega)) h
        exact ⟨a, by rw [b, List.length_append]; simp; omega, c⟩
      · obtain ⟨a, b, c⟩ := row_some hg (hs.snoc (by omega)) h
        exact ⟨a, by rw [b, List.length_append]; simp; omega, c⟩
    · cases h
end Cp
/-! MathM -/
namespace Cp
open Sm15
/-! ### marks, and what stays behind back -/
/-- no line is put together by atom 0 -/
def JOk (ls : List Line) : Prop := ∀ x ∈ ls, ∀ i j a, x.way = .joined i j a → 1 ≤ a
/-- of what stands above a mark: what is older than the mark stands in it -/
def Cov (ls : List Line) (m : Stand × Nat) : Prop := ∀ x ∈ ls, x.num < m.2 → x.num ∈ numsOf m.1.lines
structure MOk (s : St) (ms : List (Stand × Nat)) : Prop where
  is : s.marks = ms.map (·.1)
  old : ∀ m ∈ ms, (∀ y ∈ m.1.lines, y.num < m.2) ∧ m.2 ≤ s.next
  now : ∀ m ∈ ms, Cov s.now.lines m
  pw : ms.Pairwise fun a b => Cov a.1.lines b
  j : JOk s.now.lines
  jm : ∀ m ∈ ms, JOk m.1.lines
theorem mok_init : MOk init [] := ⟨rfl, fun _ h => by simp at h, fun _ h => by simp at h, .nil, fun _ h => by simp [init] at h, fun _ h => by simp at h⟩
/-- the marks behind a call -/
def msAfter (s : St) (ms : List (Stand × Nat)) : Call → List (Stand × Nat)
  | .start u => if u = 0 ∨ 4 < u then ms else []
  | .mark => if 8 ≤ ms.length then ms else (s.now, s.next) :: ms
  | .back => ms.tail
  | _ => ms
/-- only newer lines come, or some go -/
theorem MOk.lines {s : St} {ms : List (Stand × Nat)} (h : MOk s ms) {u : Nat} {as : List Atom} {ls : List Line} {nx : Nat} (hn : s.next ≤ nx) (hl : ∀ x ∈ ls, x ∈ s.now.lines ∨ s.next ≤ x.num) (hj : JOk ls) : MOk ⟨u, ⟨as, ls⟩, nx, s.marks⟩ ms := by
  refine ⟨h.is, fun m hm => ⟨(h.old m hm).1, Nat.le_trans (h.old m hm).2 hn⟩, fun m hm x hx lt => ?_, h.pw, hj, h.jm⟩
  rcases hl x hx with q | q
  · exact h.now m hm x q lt
  · have := (h.old m hm).2
    have lt : x.num < m.2 := lt
    omega
theorem JOk.snoc {ls : List Line} {x : Line} (h : JOk ls) (hx : ∀ i j a, x.way = .joined i j a → 1 ≤ a) : JOk (ls ++ [x]) := fun y hy => by
  rcases List.mem_append.mp hy with q | q
  · exact h y q
  · rw [List.mem_singleton.mp q]; exact hx
theorem shows_joined {u n next : Nat} {as : List Atom} {ls : List Line} {c : Clause} {i j a : Nat} (hb : BOk n ls next) (h : shows u as ls c (.joined i j a) = true) : 1 ≤ a := by
  unfold shows at h
  dsimp only at h
  split at h
  · rename_i x y hx hy
    have h := of_decide_eq_true h
    unfold join at h
    split at h
    · rename_i q
      have hm : (a : Int) ∈ x := by simpa using q.1
      unfold clauseAt at hx
      cases e : lineAt ls i with
      | none => rw [e] at hx; cases hx
      | some z =>
        rw [e] at hx
        have hx : z.clause = x := Option.some.inj hx
        have := ((hb.lits z (lineAt_some e).1).1 a (by rw [hx]; exact hm)).1
        omega
    · cases h
  · cases h
def stays (n : Nat) (got : List Line) (x : Line) : Bool := decide (x.way ≠ .claim) && (x.clause.all (isLit n) && ((sources x.way).all (fun k => got.any fun y => y.num == k) && (match x.way with
  | .joined _ _ a => decide (a ≤ n)
  | _ => true)))
theorem kept_cons (n : Nat) (x : Line) (l got : List Line) : kept n (x :: l) got = if got.any (fun y => y.num == x.num) = false ∧ stays n got x = true then kept n l (got ++ [x]) else kept n l got := by
  rw [kept]
  have hh : stays n got x = true ↔ (x.way ≠ .claim ∧ x.clause.all (isLit n) = true ∧ (sources x.way).all (fun k => got.any fun y => y.num == k) = true ∧ (match x.way with
      | .joined _ _ a => decide (a ≤ n)
      | _ => true) = true) := by
    unfold stays
    rw [Bool.and_eq_true, Bool.and_eq_true, Bool.and_eq_true, decide_eq_true_eq]
  by_cases c : got.any (fun y => y.num == x.num) = false ∧ stays n got x = true
  · rw [if_pos c, if_pos ⟨c.1, hh.mp c.2⟩]
  · rw [if_neg c, if_neg fun z => c ⟨z.1, hh.mpr z.2⟩]
theorem kept_mem {n : Nat} : ∀ (ls got : List Line), ∀ x ∈ kept n ls got, x ∈ got ∨ x ∈ ls
  | [], got, x, h => .inl (by unfold kept at h; exact h)
  | y :: ls, got, x, h => by
    rw [kept_cons] at h
    split at h
    · rcases kept_mem ls (got ++ [y]) x h with q | q
      · rcases List.mem_append.mp q with q | q
        · exact .inl q
        · exact .inr (by rw [List.mem_singleton.mp q]; simp)
      · exact .inr (List.mem_cons_of_mem _ q)
    · rcases kept_mem ls got x h with q | q
      · exact .inl q
      · exact .inr (List.mem_cons_of_mem _ q)
/-- as the program goes: only what came since the mark -/
def keptP (n : Nat) : List Line → List Line → List Line
  | [], got => got
  | x :: l, got => if stays n got x = true then keptP n l (got ++ [x]) else keptP n l got
theorem kept_prog {n mn : Nat} : ∀ (ls got : List Line), (numsOf ls).Nodup → (∀ x ∈ ls, x.num < mn → x.num ∈ numsOf got) → (∀ x ∈ ls, mn ≤ x.num → x.num ∉ numsOf got) → kept n ls got = keptP n (ls.filter fun x => decide (mn ≤ x.num)) got
  | [], got, _, _, _ => rfl
  | x :: l, got, nd, h1, h2 => by
    have nd2 := List.nodup_cons.mp (show (x.num :: numsOf l).Nodup from nd)
    rw [kept_cons, List.filter_cons]
    by_cases c : mn ≤ x.num
    · have hn := h2 x List.mem_cons_self c
      have ha : got.any (fun y => y.num == x.num) = false := by
        rw [List.any_eq_false]
        intro y hy z
        exact hn (List.mem_map.mpr ⟨y, hy, by simpa using z⟩)
      rw [if_pos (show decide (mn ≤ x.num) = true from decide_eq_true c)]
      show _ = if stays n got x = true then keptP n (l.filter _) (got ++ [x]) else keptP n (l.filter _) got
      by_cases st : stays n got x = true
      · rw [if_pos ⟨ha, st⟩, if_pos st]
        refine kept_prog l (got ++ [x]) nd2.2 (fun y hy lt => ?_) (fun y hy le m => ?_)
        · exact nums_more (h1 y (List.mem_cons_of_mem _ hy) lt)
        · unfold numsOf at m
          rw [List.map_append, List.mem_append] at m
          rcases m with m | m
          · exact h2 y (List.mem_cons_of_mem _ hy) le m
          · have : y.num = x.num := by simpa using m
            exact nd2.1 (this ▸ List.mem_map.mpr ⟨y, hy, rfl⟩)
      · rw [if_neg (fun z => st z.2), if_neg st]
        exact kept_prog l got nd2.2 (fun y hy => h1 y (List.mem_cons_of_mem _ hy)) (fun y hy => h2 y (List.mem_cons_of_mem _ hy))
    · have hi := h1 x List.mem_cons_self (by omega)
      have ha : ¬ got.any (fun y => y.num == x.num) = false := by
        obtain ⟨y, hy, e⟩ := List.mem_map.mp hi
        rw [Bool.not_eq_false, List.any_eq_true]
        exact ⟨y, hy, by simpa using e⟩
      rw [if_neg (fun z => ha z.1), if_neg (show ¬ decide (mn ≤ x.num) = true by simpa using c)]
      exact kept_prog l got nd2.2 (fun y hy => h1 y (List.mem_cons_of_mem _ hy)) (fun y hy => h2 y (List.mem_cons_of_mem _ hy))
/-- only new lines come -/
def Grow (b c : Book) : Prop := b.next ≤ c.next ∧ ∀ x ∈ c.lines, x ∈ b.lines ∨ (b.next ≤ x.num ∧ ∀ i j a, x.way = .joined i j a → 1 ≤ a)
theorem Grow.refl (b : Book) : Grow b b := ⟨Nat.le_refl _, fun _ h => .inl h⟩
theorem Grow.trans {a b c : Book} (h : Grow a b) (k : Grow b c) : Grow a c := ⟨Nat.le_trans h.1 k.1, fun x hx => by
  rcases k.2 x hx with q | q
  · exact h.2 x q
  · exact .inr ⟨Nat.le_trans h.1 q.1, q.2⟩⟩
theorem write_g {b : Book} {c : Clause} {w : Way} (hw : ∀ i j a, w = .joined i j a → 1 ≤ a) : Grow b (write b c w).1 := by
  unfold write
  split
  · exact Grow.refl _
  · refine ⟨Nat.le_succ _, fun x hx => ?_⟩
    rcases List.mem_append.mp hx with q | q
    · exact .inl q
    · rw [List.mem_singleton.mp q]; exact .inr ⟨Nat.le_refl _, hw⟩
theorem prove_g {u : Nat} {as : List Atom} : ∀ (f i : Nat) (ls : List Int) (b : Book) (r : Book × Nat), prove u as f i ls b = some r → 1 ≤ i → Grow b r.1 := by
  intro f
  induction f with
  | zero =>
    intro i ls b r h hi
    unfold prove at h
    split at h
    · cases h; exact Grow.refl _
    · split at h
      · cases h
        exact write_g fun _ _ _ z => by cases z
      · cases h
  | succ f ih =>
    intro i ls b r h hi
    unfold prove at h
    split at h
    · cases h; exact Grow.refl _
    · split at h
      · cases h
        exact write_g fun _ _ _ z => by cases z
      · dsimp only at h
        cases q : prove u as f (i + 1) (ls ++ [0 - (i : Int)]) b with
        | none => rw [q] at h; cases h
        | some x =>
          rw [q, Option.bind_some] at h
          have j1 := ih _ _ _ _ q (by omega)
          cases q1 : clauseAt x.1.lines x.2 with
          | none => rw [q1] at h; cases h
          | some c =>
            rw [q1] at h
            dsimp only at h
            by_cases hc : c.contains (i : Int) = false
            · rw [if_pos hc] at h
              cases h
              exact j1
            · rw [if_neg hc] at h
              cases q2 : prove u as f (i + 1) (ls ++ [(i : Int)]) x.1 with
              | none => rw [q2] at h; cases h
              | some y =>
                rw [q2, Option.bind_some] at h
                have j2 := j1.trans (ih _ _ _ _ q2 (by omega))
                cases q3 : clauseAt y.1.lines y.2 with
                | none => rw [q3] at h; cases h
                | some d =>
                  rw [q3] at h
                  dsimp only at h
                  by_cases hd : d.contains (0 - (i : Int)) = false
                  · rw [if_pos hd] at h
                    cases h
                    exact j2
                  · rw [if_neg hd] at h
                    cases q4 : join c d i with
                    | none => rw [q4] at h; cases h
                    | some e =>
                      rw [q4] at h
                      have h : write y.1 e (.joined x.2 y.2 i) = r := Option.some.inj h
                      rw [← h]
                      exact j2.trans (write_g fun _ _ _ z => by cases z; exact hi)
theorem MOk.after {t : Nat} {s : St} {ms : List (Stand × Nat)} (ho : Ok t s) (h : MOk s ms) (c : Call) (hw : ∀ w l, c = .step w l → w ≠ .claim) : MOk (Sm15.step s c).1 (msAfter s ms c) := by
  have same : ∀ {ls : List Line}, (∀ x ∈ ls, x ∈ s.now.lines) → ∀ x ∈ ls, x ∈ s.now.lines ∨ s.next ≤ x.num := fun q x hx => .inl (q x hx)
  cases c with
  | start u =>
    dsimp only [Sm15.step, msAfter]
    split
    · exact h
    · exact ⟨rfl, fun _ z => by simp at z, fun _ z => by simp at z, .nil, fun _ z => by simp at z, fun _ z => by simp at z⟩
  | atom a =>
    dsimp only [Sm15.step, msAfter]
    split
    · exact h
    · split
      · exact h
      · exact h.lines (Nat.le_refl _) (fun x hx => .inl hx) h.j
  | claim l =>
    dsimp only [Sm15.step, msAfter]
    split
    · exact h
    · split
      · exact h
      · split
        · exact h
        · refine h.lines (Nat.le_succ _) (fun x hx => ?_) (h.j.snoc fun _ _ _ z => by cases z)
          rcases List.mem_append.mp hx with q | q
          · exact .inl q
          · rw [List.mem_singleton.mp q]; exact .inr (Nat.le_refl _)
  | step w l =>
    dsimp only [Sm15.step, msAfter]
    split
    · exact h
    · split
      · exact h
      · split
        · exact h
        · split
          · exact h
          · rename_i sh _
            refine h.lines (Nat.le_succ _) (fun x hx => ?_) (h.j.snoc fun i j a z => ?_)
            · rcases List.mem_append.mp hx with q | q
              · exact .inl q
              · rw [List.mem_singleton.mp q]; exact .inr (Nat.le_refl _)
            · have z : w = .joined i j a := z
              subst z
              exact shows_joined ho.now.ok (by simpa using sh)
  | drop k =>
    dsimp only [Sm15.step, msAfter]
    split
    · exact h
    · split
      · exact h
      · have sub : ∀ x ∈ without [k] s.now.lines, x ∈ s.now.lines := fun x hx => by
          unfold without at hx
          exact (List.mem_filter.mp hx).1
        exact h.lines (Nat.le_refl _) (fun x hx => .inl (sub x hx)) fun x hx => h.j x (sub x hx)
  | mark =>
    dsimp only [Sm15.step, msAfter]
    rw [h.is, List.length_map]
    split
    · exact h
    · refine ⟨by rw [← h.is]; simp [h.is], fun m hm => ?_, fun m hm => ?_, ?_, h.j, fun m hm => ?_⟩
      · rcases List.mem_cons.mp hm with rfl | hm
        · exact ⟨ho.now.ok.lt, Nat.le_refl _⟩
        · exact h.old m hm
      · rcases List.mem_cons.mp hm with rfl | hm
        · intro x hx _
          exact List.mem_map.mpr ⟨x, hx, rfl⟩
        · exact h.now m hm
      · exact List.pairwise_cons.mpr ⟨fun m hm => h.now m hm, h.pw⟩
      · rcases List.mem_cons.mp hm with rfl | hm
        · exact h.j
        · exact h.jm m hm
  | back =>
    dsimp only [Sm15.step, msAfter]
    have e := h.is
    cases ms with
    | nil =>
      rw [List.map_nil] at e
      rw [e]
      exact h
    | cons m r =>
      rw [List.map_cons] at e
      rw [e]
      have pw := List.pairwise_cons.mp h.pw
      refine ⟨rfl, fun m' hm => h.old m' (List.mem_cons_of_mem _ hm), fun m' hm x hx lt => ?_, pw.2, fun x hx => ?_, fun m' hm => h.jm m' (List.mem_cons_of_mem _ hm)⟩
      · rcases kept_mem _ _ x hx with q | q
        · exact pw.1 m' hm x q lt
        · exact h.now m' (List.mem_cons_of_mem _ hm) x q lt
      · rcases kept_mem _ _ x hx with q | q
        · exact h.jm m List.mem_cons_self x q
        · exact h.j x q
  | decide => exact h
  | prove =>
    dsimp only [Sm15.step, msAfter]
    cases q : Sm15.prove s.u s.now.atoms s.now.atoms.length 1 [] ⟨s.now.lines, s.next⟩ with
    | none => exact h
    | some r =>
      dsimp only
      split
      · exact h
      · have g := prove_g _ _ _ _ _ q (by decide)
        refine h.lines g.1 (fun x hx => ?_) (fun x hx => ?_)
        · rcases g.2 x hx with z | z
          · exact .inl z
          · exact .inr z.1
        · rcases g.2 x hx with z | z
          · exact h.j x z
          · exact z.2
  | «show» k => exact h
  | rests k => exact h
  | came k => exact h
  | judge l => exact h
  | reason l => exact h
end Cp
/-! MathN -/
namespace Cp
open Sm15
/-! ### what a line came of and rests on, as the program finds it -/
def wantN : List Line → List Nat → List Nat
  | [], w => w
  | x :: l, w => if w.contains x.num = true then wantN l ((sources x.way).foldl (fun m n => if m.contains n = true then m else m ++ [n]) w) else wantN l w
theorem needs_has : ∀ {l : List Line} {w : List Nat} {n : Nat}, n ∈ w → n ∈ numsOf l → n ∈ needs l w
  | [], w, n, _, h => by simp [numsOf] at h
  | x :: l, w, n, hw, h => by
    unfold needs
    have h : n = x.num ∨ n ∈ numsOf l := by
      unfold numsOf at h
      rw [List.map_cons] at h
      exact List.mem_cons.mp h
    split
    · rcases h with rfl | h
      · exact List.mem_cons_self
      · exact List.mem_cons_of_mem _ (needs_has (List.mem_append_right _ hw) h)
    · rename_i c
      rcases h with rfl | h
      · exact absurd (by simpa using hw) c
      · exact needs_has hw h
theorem needs_mem : ∀ {l : List Line} {a b : List Nat}, (∀ n, n ∈ a ↔ n ∈ b) → needs l a = needs l b
  | [], _, _, _ => rfl
  | x :: l, a, b, h => by
    unfold needs
    have e : a.contains x.num = b.contains x.num := by
      rw [Bool.eq_iff_iff]
      simp only [List.contains_iff_mem]
      exact h _
    rw [e, needs_mem (l := l) h, needs_mem (l := l) (a := sources x.way ++ a) (b := sources x.way ++ b) fun n => by rw [List.mem_append, List.mem_append, h n]]
theorem wants_needs : ∀ {l : List Line} {w : List Nat}, (∀ pre x post, l = pre ++ x :: post → ∀ k ∈ sources x.way, k ∈ numsOf post) → ∀ n, n ∈ wantN l w ↔ n ∈ w ∨ n ∈ needs l w
  | [], w, _, n => by simp [wantN, needs]
  | x :: l, w, h, n => by
    have hl : ∀ pre y post, l = pre ++ y :: post → ∀ k ∈ sources y.way, k ∈ numsOf post := fun pre y post e => h (x :: pre) y post (by rw [e]; rfl)
    have hx := h [] x l rfl
    unfold wantN needs
    split
    · rename_i c
      rw [wants_needs hl n, mem_dedup_aux, needs_mem (l := l) (b := sources x.way ++ w) (fun k => by rw [mem_dedup_aux, List.mem_append]; exact or_comm), List.mem_cons]
      have c : x.num ∈ w := by simpa using c
      constructor
      · rintro ((q | q) | q)
        · exact .inl q
        · exact .inr (.inr (needs_has (List.mem_append_left _ q) (hx n q)))
        · exact .inr (.inr q)
      · rintro (q | q | q)
        · exact .inl (.inl q)
        · exact .inl (.inl (q ▸ c))
        · exact .inr q
    · exact wants_needs hl n
theorem nums_rev (ls : List Line) (k : Nat) : k ∈ numsOf ls.reverse ↔ k ∈ numsOf ls := by
  unfold numsOf
  rw [List.map_reverse, List.mem_reverse]
theorem wf_rev {ls : List Line} (wf : WfL ls) : ∀ pre x post, ls.reverse = pre ++ x :: post → ∀ k ∈ sources x.way, k ∈ numsOf post := fun pre x post e k hk => by
  have e2 : ls = post.reverse ++ x :: pre.reverse := by
    have := congrArg List.reverse e
    rw [List.reverse_reverse] at this
    rw [this]
    simp
  have := (wf_iff.mp wf _ _ _ e2).2 k hk
  exact (nums_rev post k).mp this
theorem wants_came {ls : List Line} (wf : WfL ls) {k : Nat} (hk : k ∈ numsOf ls) (n : Nat) : n ∈ wantN ls.reverse [k] ↔ n ∈ cameOf ls k := by
  rw [wants_needs (wf_rev wf)]
  unfold cameOf
  rw [mem_rising]
  constructor
  · rintro (q | q)
    · exact needs_has q ((nums_rev ls n).mpr (by rw [List.mem_singleton.mp q]; exact hk))
    · exact q
  · exact .inr
theorem rests_more {l : List Line} {x : Line} (wf : WfL (l ++ [x])) {k : Nat} (hk : k ∈ numsOf l) : rests (l ++ [x]) k = rests l k := by
  obtain ⟨y, hy, rfl⟩ := List.mem_map.mp hk
  obtain ⟨pre, post, e⟩ := split_at hy
  rw [rests_at wf.init e, rests_at wf (pre := pre) (post := post ++ [x]) (by rw [e]; simp)]
def isClaim (ls : List Line) (n : Nat) : Prop := ∃ x, lineAt ls n = some x ∧ x.way = .claim
theorem lineAt_more {l : List Line} {x : Line} {n : Nat} {y : Line} (h : lineAt l n = some y) : lineAt (l ++ [x]) n = some y := by
  unfold lineAt at h ⊢
  rw [List.find?_append, h]
  rfl
theorem rests_came {ls : List Line} (wf : WfL ls) : ∀ k ∈ numsOf ls, ∀ c ∈ rests ls k, Came ls k c ∧ isClaim ls c := by
  induction ls using snoc_ind with
  | nil => intro k hk; simp [numsOf] at hk
  | append_singleton l x ih =>
    intro k hk c hc
    by_cases h : k ∈ numsOf l
    · rw [rests_more wf h] at hc
      obtain ⟨a, y, b1, b2⟩ := ih wf.init k h c hc
      exact ⟨a.more, y, lineAt_more b1, b2⟩
    · obtain ⟨y, hy⟩ := has_line.mp hk
      obtain ⟨ym, yk⟩ := lineAt_some hy
      have e : y = x := by
        rcases List.mem_append.mp ym with q | q
        · exact absurd (List.mem_map.mpr ⟨y, q, yk⟩) h
        · exact List.mem_singleton.mp q
      subst e
      rcases (rests_iff wf hy).mp hc with ⟨h1, rfl⟩ | ⟨h1, q, hq, hcq⟩
      · exact ⟨.self hk, y, hy, h1⟩
      · have hql := wf.last.2 q hq
        rw [rests_more wf hql] at hcq
        obtain ⟨a, z, b1, b2⟩ := ih wf.init q hql c hcq
        rw [← yk]
        exact ⟨.step ym hq a.more, z, lineAt_more b1, b2⟩
theorem came_rests {ls : List Line} (wf : WfL ls) {k c : Nat} (h : Came ls k c) (hc : isClaim ls c) : c ∈ rests ls k := by
  induction h with
  | self hk =>
    obtain ⟨x, h1, h2⟩ := hc
    exact (rests_iff wf h1).mpr (.inl ⟨h2, rfl⟩)
  | @step y q n hx hq _ ih =>
    have hl : lineAt ls y.num = some y := by
      obtain ⟨z, hz⟩ := has_line.mp (List.mem_map.mpr ⟨y, hx, rfl⟩ : y.num ∈ numsOf ls)
      obtain ⟨zm, zk⟩ := lineAt_some hz
      have nd := wf.nodup
      have : z = y := by
        obtain ⟨i, hi, ei⟩ := List.getElem_of_mem zm
        obtain ⟨j, hj, ej⟩ := List.getElem_of_mem hx
        have ij : i = j := (List.getElem_inj (i := i) (j := j) (h₀ := by unfold numsOf; simpa using hi) (h₁ := by unfold numsOf; simpa using hj) nd).mp (by unfold numsOf; simp [ei, ej, zk])
        subst ij
        rw [← ei, ← ej]
      rw [this] at hz
      exact hz
    refine (rests_iff wf hl).mpr (.inr ⟨fun z => ?_, q, hq, ih hc⟩)
    rw [z] at hq
    simp [sources] at hq
theorem rests_prog {ls : List Line} (wf : WfL ls) {k : Nat} (hk : k ∈ numsOf ls) (p : Nat → Bool) (hp : ∀ n ∈ numsOf ls, (p n = true ↔ isClaim ls n)) : (cameOf ls k).filter p = rests ls k := by
  have r1 : Ris ((cameOf ls k).filter p) := (ris_rising _).sublist List.filter_sublist
  obtain ⟨y, hy, rfl⟩ := List.mem_map.mp hk
  obtain ⟨pre, post, e⟩ := split_at hy
  have r2 : Ris (rests ls y.num) := by
    rw [rests_at wf e]
    exact ris_rising _
  refine ris_one _ _ r1 r2 fun n => ?_
  rw [List.mem_filter, came_iff wf hk]
  constructor
  · rintro ⟨a, b⟩
    exact came_rests wf a ((hp n a.num).mp b)
  · intro h
    obtain ⟨a, b⟩ := rests_came wf _ hk n h
    exact ⟨a, (hp n a.num).mpr b⟩
end Cp
/-! MathO -/
namespace Cp
open Sm15
/-! ### the house's proof, step by step -/
def brokenF (ls : List Int) (x : Line) : Bool := x.way == .claim && x.clause.all fun l => ls.contains (0 - l)
def bothS (u : Nat) (as : List Atom) (f i : Nat) (ls : List Int) (b : Book) : Option (Book × Nat) := (prove u as f (i + 1) (ls ++ [0 - (i : Int)]) b).bind fun x => match clauseAt x.1.lines x.2 with
  | none => none
  | some c => if c.contains (i : Int) = false then some x else (prove u as f (i + 1) (ls ++ [(i : Int)]) x.1).bind fun y => match clauseAt y.1.lines y.2 with
    | none => none
    | some d => if d.contains (0 - (i : Int)) = false then some y else (join c d i).map fun e => write y.1 e (.joined x.2 y.2 i)
def nextS (u : Nat) (as : List Atom) (i : Nat) (ls : List Int) (b : Book) : Nat → Option (Book × Nat)
  | 0 => none
  | f + 1 => bothS u as f i ls b
theorem prove_is (u : Nat) (as : List Atom) (f i : Nat) (ls : List Int) (b : Book) : prove u as f i ls b = match b.lines.find? (brokenF ls) with
    | some x => some (b, x.num)
    | none => match (if fit u (edgesOf as ls) = true then none else reason u as ls) with
      | some r => some (write b (clauseOf (r.map fun l => 0 - l)) .bounds)
      | none => nextS u as i ls b f := by
  cases f with
  | zero =>
    rw [prove]
    rfl
  | succ f =>
    rw [prove]
    rfl
theorem find_claims {ls : List Line} {so : List Int} : ls.find? (brokenF so) = (ls.filter fun x => x.way == .claim).find? fun x => x.clause.all fun l => so.contains (0 - l) := by
  induction ls with
  | nil => rfl
  | cons x r ih =>
    rw [List.find?_cons, List.filter_cons]
    unfold brokenF
    cases h : x.way == .claim with
    | true =>
      rw [if_pos rfl, List.find?_cons, Bool.true_and]
      cases x.clause.all fun l => so.contains (0 - l) with
      | true => rfl
      | false => exact ih
    | false =>
      rw [Bool.false_and, if_neg Bool.false_ne_true]
      exact ih
theorem clauseAt_more {a b : List Line} {k : Nat} {c : Clause} (h : clauseAt a k = some c) : clauseAt (a ++ b) k = some c := by
  unfold clauseAt lineAt at h ⊢
  rw [List.find?_append]
  cases q : a.find? (fun x => x.num == k) with
  | none => rw [q] at h; cases h
  | some x => rw [q] at h; exact h
theorem has_clause {ls : List Line} {k : Nat} (h : k ∈ numsOf ls) : ∃ x, lineAt ls k = some x ∧ clauseAt ls k = some x.clause := by
  obtain ⟨x, hx⟩ := has_line.mp h
  exact ⟨x, hx, by unfold clauseAt; rw [hx]; rfl⟩
theorem write_size (b : Book) (c : Clause) (w : Way) : (write b c w).1.lines.length ≤ b.lines.length + 1 := by
  unfold write
  split
  · exact Nat.le_succ _
  · rw [List.length_append]
    exact Nat.le_refl _
theorem prove_size {u : Nat} {as : List Atom} : ∀ (f i : Nat) (ls : List Int) (b : Book) (r : Book × Nat), prove u as f i ls b = some r → r.1.lines.length + 1 ≤ b.lines.length + 2 ^ (f + 1) := by
  intro f
  induction f with
  | zero =>
    intro i ls b r h
    rw [prove_is] at h
    split at h
    · cases h; show b.lines.length + 1 ≤ b.lines.length + 2; omega
    · split at h
      · cases h
        show _ + 1 ≤ b.lines.length + 2
        exact Nat.succ_le_succ (write_size b _ .bounds)
      · cases h
  | succ f ih =>
    intro i ls b r h
    have p1 : 1 ≤ 2 ^ (f + 1) := Nat.one_le_two_pow
    have p2 : 2 ^ (f + 1 + 1) = 2 * 2 ^ (f + 1) := by rw [Nat.pow_succ, Nat.mul_comm]
    rw [prove_is] at h
    split at h
    · cases h; show b.lines.length + 1 ≤ _; omega
    · split at h
      · cases h
        refine Nat.le_trans (Nat.succ_le_succ (write_size b _ .bounds)) ?_
        omega
      · have h : bothS u as f i ls b = some r := h
        unfold bothS at h
        cases q : prove u as f (i + 1) (ls ++ [0 - (i : Int)]) b with
        | none => rw [q] at h; cases h
        | some x =>
          rw [q, Option.bind_some] at h
          have j1 := ih _ _ _ _ q
          cases q1 : clauseAt x.1.lines x.2 with
          | none => rw [q1] at h; cases h
          | some c =>
            rw [q1] at h
            dsimp only at h
            by_cases hc : c.contains (i : Int) = false
            · rw [if_pos hc] at h
              cases h
              omega
            · rw [if_neg hc] at h
              cases q2 : prove u as f (i + 1) (ls ++ [(i : Int)]) x.1 with
              | none => rw [q2] at h; cases h
              | some y =>
                rw [q2, Option.bind_some] at h
                have j2 := ih _ _ _ _ q2
                cases q3 : clauseAt y.1.lines y.2 with
                | none => rw [q3] at h; cases h
                | some d =>
                  rw [q3] at h
                  dsimp only at h
                  by_cases hd : d.contains (0 - (i : Int)) = false
                  · rw [if_pos hd] at h
                    cases h
                    omega
                  · rw [if_neg hd] at h
                    cases q4 : join c d i with
                    | none => rw [q4] at h; cases h
                    | some e =>
                      rw [q4] at h
                      have h : write y.1 e (.joined x.2 y.2 i) = r := Option.some.inj h
                      have := write_size y.1 e (.joined x.2 y.2 i)
                      rw [h] at this
                      omega
end Cp
/-! RuleSet -/
namespace Cp
open PySem PySem.Spec PyProof.Rows L2
abbrev set0 (w : World) : Obj := { cls := .type "set", dict := none, data := .set #[] 0 (.fresh 0 0 (!w.params.followText "set-order")) }
theorem off2 {a b c : Addr} (h : a ≠ b) (k : a ≠ c) : a ∉ [b, c] := fun m => by
  rcases List.mem_cons.mp m with e | e
  · exact h e
  · exact k (List.mem_singleton.mp e)
section
variable {P : Program} {w : World} {A : Around} {E : Value → Shared → Prop} {s : Shared}
/-- set(l) of a list of ints -/
theorem set_of_list {l : Addr} {xs : Array Value} (ns : List Int) {Q : Value → Shared → Prop} (calm : A.handled = none) (hl : s.heap.IsList l xs) (hi : IntsAre xs.toList ns) (room : ns.length + 1 < scanBound)
    (next : ∀ (h' : Heap) (tk c : Nat), SetR w h' s.heap.objs.size (fun j => decide (j ∈ ns)) c → c ≤ ns.length → (∀ b o, s.heap.get? b = some o → h'.get? b = some o) → Q (.ref s.heap.objs.size) { s with heap := h', toks := tk }) :
    wpAny (model P w) A (call (.type "set") [.ref l]) Q E s := by
  have size : xs.size = ns.length := by have q := hi.length; rw [Array.length_toList] at q; exact q
  obtain ⟨c, tl, mro⟩ := F.called_set.mro
  have z0 := F.called_set.made; have z1 := F.called_set.sub
  refine wpAny_call (codeAny_of_tree ?_)
  show wpAny _ _ (callAny (.type "set") _) _ _ _
  refine wpAny_pure ⟨Code.quiet_builtin _ (by decide +kernel), codeAny_builtin F.entry_type_call ?_⟩
  rw [Around.under_plain (weight_type_call_type "set" [.ref l] []) rfl]
  have z2 := F.called_set.notType; have z3 := F.called_set.canCreate; have z4 := F.typeCall_set_1 (.ref l)
  repeat (any_goals (first | assumption | wp_step))
  refine codeAny_mono (code_set_led1 (.ref l) (E := E) (Q₁ := fun v s1 => v = .ref s.heap.objs.size ∧ s1 = { s with heap := s.heap.push (set0 w) }) ⟨rfl, rfl⟩) fun r s1 hr => ?_
  cases r with
  | error e => exact hr
  | ok fl => cases fl with
    | ret obj =>
      obtain ⟨rfl, rfl⟩ := hr
      have at0 : (s.heap.push (set0 w)).get? s.heap.objs.size = some (set0 w) := Heap.get?_push_size _ rfl
      have ty0 : Shared.TypeIs { s with heap := s.heap.push (set0 w) } (.ref s.heap.objs.size) "set" := ⟨_, at0, rfl⟩
      have z5 := F.called_set.init.lookup; have z6 := F.called_set.init.bind (.ref s.heap.objs.size)
      repeat (any_goals (first | assumption | wp_step))
      refine codeAny_mono (codeAny_call_builtin (R := wants (fun r s2 => r = .none ∧ ∃ h' tk c, s2 = { s with heap := h', toks := tk } ∧ SetR w h' s.heap.objs.size (fun j => decide (j ∈ ns)) c ∧ c ≤ ns.length ∧ (∀ b o, s.heap.get? b = some o → h'.get? b = some o)) E)
        F.called_set.init.plain F.entry_set_init (check_set_init_1 ty0 ?_)) fun r2 s2 hr2 => ?_
      · obtain ⟨⟨oc, od, oda, osl⟩, hol, hcl, nl, hdl⟩ := hl
        simp only at hcl hdl
        subst hcl hdl
        have there : (s.heap.push (set0 w)).get? l = some { cls := .type "list", dict := od, data := .seq xs nl, slots := osl } := Heap.get?_push_of_some _ hol
        have z7 := F.sub_list_set; have z8 := F.sub_list_frozenset
        have z9 : (Value.type "list" == Value.type "dict") = false := by decide
        have isl : (s.heap.push (set0 w)).IsList l xs := ⟨_, there, rfl, nl, rfl⟩
        unfold Builtin.«set.__init__» noKeywords Builtin.Frozenset.updateFrom
        generalize hPI : pyIter = PI
        wp_walk
        subst hPI
        refine wpAny_pyIter_list isl (wpAny_bind (wpAny_runValue ?_))
        have lt0 : l < s.heap.objs.size := Heap.lt_size hol
        have calm3 : A.in1.in1.in1.handled = none := by simp [calm]
        have sz1 : (s.heap.push (set0 w)).objs.size = s.heap.objs.size + 1 := Heap.size_push ..
        have val : ∀ (i : Nat) (v : Value), xs[i]? = some v → ∃ k t, ns[i]? = some k ∧ v = .int k t := fun i v hv => by
          have lt : i < ns.length := by rw [← size]; exact (Array.getElem?_eq_some_iff.mp hv).1
          obtain ⟨t, e⟩ := IntsAre.int_at hi i v (by rw [Array.getElem?_toList]; exact hv)
          exact ⟨ns[i], t, List.getElem?_eq_getElem lt, by rw [e, List.getD_eq_getElem?_getD, List.getElem?_eq_getElem lt] <;> rfl⟩
        refine set_update_ints ((Walks.list calm3 _ l (by rw [sz1]; exact Nat.ne_of_lt (Nat.lt_succ_of_lt lt0)) xs).toS) s.heap.objs.size (by rw [sz1]; exact off2 (Nat.ne_of_lt (Nat.lt_succ_self _)) (Nat.ne_of_gt lt0)) ns size room val (xs.size - 0) 0 _ (by omega) (Nat.zero_le _)
          ⟨⟨_, Heap.get?_push_size _ rfl, rfl, rfl⟩, isl.push _⟩ ⟨0, Nat.le_refl 0, setR_new_at (Heap.get?_push_of_some _ at0)⟩ ?hR
        intro s3 c3 hm hc3 hS3
        obtain ⟨h3, g3, d3, tk3, os3⟩ := s3
        obtain rfl : g3 = s.gens := hm.gens
        obtain rfl : d3 = s.drawn := hm.drawn
        obtain rfl : os3 = s.os := hm.os
        refine wpAny_pure (show wpAny _ _ (ret Value.none) _ _ _ from wpAny_pure ⟨rfl, h3, tk3, c3, rfl, hS3, by rw [← size]; exact hc3, fun b o e => ?_⟩)
        have lb := Heap.lt_size e
        exact hm.heap b o (by rw [sz1]; exact off2 (Nat.ne_of_lt lb) (Nat.ne_of_lt (Nat.lt_succ_of_lt lb))) (Heap.get?_push_of_some _ (Heap.get?_push_of_some _ e))
      · cases r2 with
        | error e => exact hr2
        | ok fl2 => cases fl2 with
          | ret r =>
            obtain ⟨rfl, h', tk, c', rfl, hS', hc', hk'⟩ := hr2
            repeat (any_goals (first | assumption | wp_step))
            exact next _ _ _ hS' hc' hk'
          | _ => exact hr2.elim
    | _ => exact hr.elim
end
section
variable {X : Cx}
/-- set(l): a set of just the list's ints; l: its members, one by one -/
def rSetL (K : PySem.W.Frag) (w : World) : List V → Hp → VK → Prop := fun vs H Q => ∃ (a : Addr) (ns : List Int), vs = [V.ref a] ∧ (SqL K H a (ns.map V.int) ∨ SqT K H a (ns.map V.int)) ∧ ns.length ≤ 1000 ∧
  ∀ (p : Addr) (l : List Int), l.Nodup → (∀ k, k ∈ l ↔ k ∈ ns) → H p = none → Q (.ref p) (upd H p (SetO w p (fun j => decide (j ∈ ns)) l.length))
theorem setR_list {w : World} {h : Heap} {a : Addr} {ns : List Int} {c : Nat} (R : SetR w h a (fun j => decide (j ∈ ns)) c) : ∃ l : List Int, l.Nodup ∧ (∀ k, k ∈ l ↔ k ∈ ns) ∧ l.length = c := by
  obtain ⟨o, es, ep, t, ho, hx, hd, g, nd, hm, hb, hf, hn, _⟩ := R
  refine ⟨es.toList.map keyOf, nd, fun k => (hm k).symm.trans decide_eq_true_iff, ?_⟩
  rw [List.length_map, Array.length_toList]
  exact hn
theorem cr_setL (hc : X.calm = true) : CallR X (.type "set") (rSetL X.K X.w) := by
  intro pins s σ H vs us Q I r h
  obtain ⟨a, ns, rfl, hs, hn, q⟩ := h
  rw [Vals.ref1 r]
  have big : ns.length + 1 < scanBound := by unfold scanBound; omega
  have fin : ∀ (h' : Heap) (tk c : Nat), SetR X.w h' s.heap.objs.size (fun j => decide (j ∈ ns)) c → c ≤ ns.length → (∀ b o, s.heap.get? b = some o → h'.get? b = some o) → EP X pins σ Q (.ref s.heap.objs.size) { s with heap := h', toks := tk } := by
    intro h' tk c R le kp
    obtain ⟨l, l1, l2, l3⟩ := setR_list R
    subst l3
    exact ⟨.ref _, upd H s.heap.objs.size (SetO X.w s.heap.objs.size (fun j => decide (j ∈ ns)) l.length), I.laid (t' := tk) kp (Nat.le_refl _) (setO_new R), rfl, q _ l l1 l2 (I.hok.fresh (Nat.le_refl _))⟩
  rcases hs with hs | hs
  · obtain ⟨its, rv, hl, hz⟩ := I.list hs
    exact set_of_list ns (I.ok.hd hc) hl.isList (xs := its.toArray) (ints_of_vals rv) big fin
  · obtain ⟨its, rv, hl, hz⟩ := I.tuple hs
    exact call_set_tupI ns (I.ok.hd hc) hl (items := its.toArray) (ints_of_vals rv) big fin
end
end Cp
/-! RuleSort -/
namespace Cp
open PySem PySem.Spec PyProof.Rows L2
/-! sorted(xs, key=f), f a def of the program that gives an int for an int and leaves all as it is -/
section
variable {X : Cx}
/-- what is known between two calls of the key: from the beginning (I) on nothing but new lists has come -/
structure Mid (X : Cx) (H : Hp) (s : Shared) (a kS : Addr) (e1 : Nat) (ks : List Int) (s' : Shared) : Prop where
  os : s'.os = s.os
  bare : AllBare s'.gens
  un : Un (frs X.stack) [] H (upd H kS (.lst (ks.map V.int))) s.heap s'.heap
  hok : HOk X.prog X.w (upd H kS (.lst (ks.map V.int))) s'.heap
  own : s'.heap.get? a = some (seqObj "list" #[] e1)
theorem fr_there {base h : Heap} : ∀ {l : List Env}, h.FunFrames base l → ∀ b ∈ frs l, ∃ o, h.get? b = some o
  | [], _, b, hb => by simp [frs] at hb
  | env :: l, ⟨hk, ⟨L, o, hf, hn, ho, hd⟩, hr⟩, b, hb => by
    have q : b = L ∨ b ∈ frs l := by
      unfold frs at hb ⊢
      rw [List.filterMap_cons, hf] at hb
      exact List.mem_cons.mp hb
    rcases q with e | e
    · exact ⟨o, by rw [e]; exact ho⟩
    · exact fr_there hr b e
theorem upd_over {H : Hp} {a : Addr} {o o' : HO} : upd (upd H a o) a o' = upd H a o' := by
  funext b
  unfold upd
  by_cases e : b = a
  · rw [if_pos e, if_pos e]
  · rw [if_neg e, if_neg e, if_neg e]
theorem ints_eachR {h : Heap} {g : Int → Int} : ∀ {vs : List Value} {ns : List Int}, IntsAre vs (ns.map g) → PySem.W.EachIs (fun v k => ∃ as, Reads h v k as) vs (ns.map fun n => PyData.int (g n))
  | _, [], .nil => .nil
  | _, n :: ns, .cons _ t r => .cons ⟨[], .int _ t⟩ (ints_eachR r)
theorem ints_eachI : ∀ {vs : List Value} {ns : List Int}, IntsAre vs ns → PySem.W.EachIs (fun v n => ∃ t, v = Value.int n t) vs ns
  | _, [], .nil => .nil
  | _, n :: ns, .cons _ t r => .cons ⟨t, rfl⟩ (ints_eachI r)
theorem each_ints : ∀ {vs : List Value} {ns : List Int}, PySem.W.EachIs (fun v n => ∃ t, v = Value.int n t) vs ns → IntsAre vs ns
  | _, _, .nil => .nil
  | _, _, .cons h r => by
    obtain ⟨t, rfl⟩ := h
    exact .cons _ t (each_ints r)
def rSortBy (K : PySem.W.Frag) (f : Addr) (g : Int → Int) : List V → List V → Hp → VK → Prop := fun vs zs H Q => ∃ (a : Addr) (ns : List Int), vs = [V.ref a] ∧ zs = [V.ref f] ∧ SqL K H a (ns.map V.int) ∧
  ∀ p : Addr, H p = none → Q (.ref p) (upd H p (.lst ((ns.mergeSort fun a b => decide (g a ≤ g b)).map V.int)))
theorem cr_sortBy {k : Nat} {f : Addr} {fd : FuncData} {ps : List Str} {sp : Sp} {g : Int → Int} (F : FnOk X.prog X.w X.K X.mg X.base CX0 k f fd ps sp) (hr : Room (k + 2) X.A) (hb : Binds X.K fd ps [])
    (hsp : ∀ n H Q E, Q (.int (g n)) H → sp [.int n] H Q E) : CallRK X (.builtin "sorted") [Str.ofString "key"] (rSortBy X.K f g) := by
  intro pins s σ H vs zs us ws Q I r rz h
  obtain ⟨l, ns, rfl, rfl, hs, q⟩ := h
  obtain rfl := Vals.ref1 r
  obtain ⟨w1, rfl, e1⟩ := vals1 rz
  obtain rfl : w1 = Value.ref f := e1
  obtain ⟨its, rv, hl, hz⟩ := I.list hs
  have hi : IntsAre its ns := rv.ints
  have hlen : its.length = ns.length := hi.length
  have hz' : its.length ≤ sizeLine := by rw [hlen]; rw [List.length_map] at hz; exact hz
  have hcl : ∀ n : Nat, (2 : Nat) ≤ 64 := fun _ => by decide
  refine PySem.W.sorted_of_sort (vs := its) hl.isList hz' (ksk_s1 _ _) (fun _ => ksk_l1 _ _) fun E' => ?_
  rw [show ([Str.ofString "key"].zip [Value.ref f]) = [(Str.ofString "key", Value.ref f)] from rfl, ksk_t1]
  generalize ha : s.heap.objs.size + 1 = a
  have at0 : (PySem.W.copyHeap s.heap its).get? a = some (seqObj "list" its.toArray 0) := by rw [← ha]; exact PySem.W.copyHeap_at s.heap its
  have lt0 : a < (PySem.W.copyHeap s.heap its).objs.size := Heap.lt_size at0
  have old0 : ∀ b o, s.heap.get? b = some o → (PySem.W.copyHeap s.heap its).get? b = some o := fun b o e => PySem.W.copyHeap_old e
  generalize PySem.W.copyHeap s.heap its = h0 at *
  have nea : ∀ b o, s.heap.get? b = some o → b ≠ a := fun b o e => by rw [← ha]; exact Nat.ne_of_lt (Nat.lt_succ_of_lt (Heap.lt_size e))
  have sb1 := Heap.SameBut.update h0 a (Obj.mapSeq fun _ => (#[] : Array Value))
  obtain ⟨e1, at1⟩ : ∃ e1, (h0.update a (Obj.mapSeq fun _ => (#[] : Array Value))).get? a = some (seqObj "list" #[] e1) := ⟨_, get?_update_seq at0 fun _ => #[]⟩
  have sz1 : (h0.update a (Obj.mapSeq fun _ => (#[] : Array Value))).objs.size = h0.objs.size := Heap.size_update ..
  unfold ksk_tree
  refine wpAny_bind (listItems_at at0 rfl (wpAny_bind (listUpdate_at at0 rfl (wpAny_bind (seqEpoch_at at1 rfl (wpAny_bind (wpAny_newTuple (wpAny_bind (wpAny_newList (wpAny_holding ?_) (Nat.zero_le _))) hz')))) (by rw [List.size_toArray]; exact hz') (Nat.zero_le _))))
  generalize hk0 : (h0.update a (Obj.mapSeq fun _ => (#[] : Array Value))) = h1 at *
  dsimp only
  have lt1 : a < h1.objs.size := by rw [sz1]; exact lt0
  have atT : ∀ b o, h1.get? b = some o → (h1.push (seqObj "tuple" its.toArray 0)).get? b = some o := fun b o e => Heap.get?_push_of_some _ e
  have szT : (h1.push (seqObj "tuple" its.toArray 0)).objs.size = h1.objs.size + 1 := size_push' _ _
  have keep1 : ∀ b o, s.heap.get? b = some o → (h1.push (seqObj "tuple" its.toArray 0)).get? b = some o := fun b o e => atT b o ((sb1.2 b (nea b o e)).trans (old0 b o e))
  have leA : s.heap.objs.size ≤ a := by rw [← ha]; exact Nat.le_succ _
  have hok1 : HOk X.prog X.w H (h1.push (seqObj "tuple" its.toArray 0)) := I.hok.kept keep1
  have u1 : Un (frs X.stack) [] H H s.heap (h1.push (seqObj "tuple" its.toArray 0)) := Un.kept keep1
  have atA := atT _ _ at1
  generalize hh2 : h1.push (seqObj "tuple" its.toArray 0) = h2 at *
  generalize hkS : h2.objs.size = kS at *
  have atK : (h2.push (seqObj "list" #[] 0)).get? kS = some (seqObj "list" #[] 0) := by rw [← hkS]; exact Heap.get?_push_size _ rfl
  have neK : kS ≠ a := Nat.ne_of_gt (by rw [szT]; exact Nat.lt_succ_of_lt lt1)
  have keep2 : ∀ b o, h2.get? b = some o → (h2.push (seqObj "list" #[] 0)).get? b = some o := fun b o e => Heap.get?_push_of_some _ e
  have leK : h2.objs.size ≤ kS := Nat.le_of_eq hkS
  have hnK : H kS = none := hok1.fresh leK
  have hnA : H a = none := I.hok.fresh leA
  have M0 : Mid X H s a kS e1 [] { s with heap := h2.push (seqObj "list" #[] 0) } :=
    ⟨rfl, I.bare, u1.trans (Un.laid keep2 leK hnK), hok1.laid keep2 leK ⟨Nat.zero_le _, [], 0, .nil, atK⟩, keep2 _ _ atA⟩
  have naF : a ∉ frs X.stack := fun m => by
    obtain ⟨o, e⟩ := fr_there I.stack a m
    exact nea a o e rfl
  have neK' : ∀ b o, s.heap.get? b = some o → b ≠ kS := fun b o e => Nat.ne_of_lt (Nat.lt_of_lt_of_le (Heap.lt_size (keep1 b o e)) leK)
  unfold ksk_rest
  refine wpAny_bind (wpAny_rule ?_)
  first
    | rw [List.forIn_toArray]
    | (rw [← Array.forIn_toList]; simp only [List.toList_toArray])
  refine wpAny_bind (ksk_fold (fun i s' => Mid X H s a kS e1 ((ns.take i).map g) s') its 0 _ M0 ?step ?done)
  case step =>
    intro j x s' hx M
    simp only [Nat.zero_add] at M ⊢
    obtain ⟨n, t, hn, rfl⟩ : ∃ n t, ns[j]? = some n ∧ x = Value.int n t := by
      have hj : j < ns.length := by rw [← hlen]; exact (List.getElem?_eq_some_iff.mp hx).1
      obtain ⟨t, e⟩ := hi.get j _ (List.getElem?_eq_getElem hj)
      exact ⟨_, t, List.getElem?_eq_getElem hj, Option.some.inj (hx.symm.trans e)⟩
    have Is : Inv X pins σ (upd H kS (.lst (((ns.take j).map g).map V.int))) s' := I.call' (ch := []) M.os M.un M.hok M.bare (fun _ z => nomatch z)
    have hl1 : ([.int n t] : List Value).length = ps.length := by
      have q := F.len [.int n] H (fun _ _ => True) E0 (hsp n H _ _ trivial)
      exact q
    refine wpAny_bind (wpAny_attempt (wpAny_mono (Q := fun u s'' => (∃ t', u = Value.int (g n) t') ∧ Mid X H s a kS e1 ((ns.take j).map g) s'') (E := fun _ _ => False) ?call (fun v s'' hv => ?_) fun _ _ hF => hF.elim))
    case call =>
      refine wpAny_call (codeAny_mono (F.run X.A.in1.in1 X.stack s' _ ⟨[.int n t], []⟩ [.int n t] [.int n] (fun v H' => v = .int (g n) ∧ H' = upd H kS (.lst (((ns.take j).map g).map V.int))) E0 (hr.in1.in1) Is.env0.in1.in1 ?_ (.cons ⟨t, rfl⟩ .nil) (hsp n _ _ _ ⟨rfl, rfl⟩)) fun rr s'' hq => ?_)
      · have bb := hb s' [.int n t] Is.kIn (by rw [List.append_nil]; exact hl1)
        rw [List.append_nil] at bb
        exact bb
      · cases rr with
        | error e => exact hq.elim
        | ok fl =>
          cases fl with
          | ret u =>
            obtain ⟨v, H', os, bare, un, hok, rv, rfl, rfl⟩ := hq
            obtain ⟨t', rfl⟩ := rv
            exact ⟨⟨t', rfl⟩, os.trans M.os, bare, M.un.trans un, hok, un.keep _ _ M.own (by rw [upd_ne neK.symm]; exact hnA) naF (by simp)⟩
          | next => exact False.elim hq
          | brk => exact False.elim hq
          | cont => exact False.elim hq
    · obtain ⟨⟨t', rfl⟩, M2⟩ := hv
      dsimp only
      obtain ⟨z, kits, kn, kv, ke⟩ := M2.hok kS (.lst (((ns.take j).map g).map V.int)) upd_same
      have klen : kits.length ≤ sizeLine := by rw [← kv.length]; exact z
      have klt : kits.length < ns.length := by
        rw [← kv.length, List.length_map, List.length_map, List.length_take]
        have := (List.getElem?_eq_some_iff.mp hn).1
        omega
      refine wpAny_bind (listUpdate_at ke rfl ?_ (by rw [List.size_toArray]; exact klen) (by rw [Array.size_push, List.size_toArray]; omega))
      refine wpAny_pure ⟨rfl, ?_⟩
      have sb := Heap.SameBut.update s''.heap kS (Obj.mapSeq (·.push (Value.int (g n) t')))
      obtain ⟨c2, hc2⟩ : ∃ c2, (s''.heap.update kS (Obj.mapSeq (·.push (Value.int (g n) t')))).get? kS = some (seqObj "list" (kits.toArray.push (Value.int (g n) t')) c2) := ⟨_, get?_update_seq ke (·.push (Value.int (g n) t'))⟩
      have ek : (ns.take (j + 1)).map g = (ns.take j).map g ++ [g n] := by
        rw [List.take_add_one, hn]
        simp
      have mu : Mut ((upd H kS (.lst (((ns.take j).map g).map V.int))) kS) := by rw [upd_same]; exact trivial
      have kp : ∀ b u, b ≠ kS → s''.heap.get? b = some u → (s''.heap.update kS (Obj.mapSeq (·.push (Value.int (g n) t')))).get? b = some u := fun b u hb e => (sb.2 b hb).trans e
      have new : ObjOk X.prog X.w (upd (upd H kS (.lst (((ns.take j).map g).map V.int))) kS (.lst (((ns.take (j + 1)).map g).map V.int))) (s''.heap.update kS (Obj.mapSeq (·.push (Value.int (g n) t')))) kS (.lst (((ns.take (j + 1)).map g).map V.int)) := by
        rw [ek, List.map_append]
        refine ⟨?_, kits ++ [Value.int (g n) t'], c2, kv.append (.cons ⟨t', rfl⟩ .nil), ?_⟩
        · rw [List.length_append, kv.length]
          show kits.length + 1 ≤ sizeLine
          have : ns.length ≤ sizeLine := by rw [← hlen]; exact hz'
          omega
        · rw [hc2]
          simp [seqObj]
      have un2 := Un.write (fs := frs X.stack) (ex := []) mu (.inl rfl) kp ⟨_, hc2⟩ (o := .lst (((ns.take (j + 1)).map g).map V.int))
      have hok2 := M2.hok.write mu (.inl rfl) kp ⟨_, hc2⟩ new
      rw [upd_over] at un2 hok2
      exact ⟨M2.os, M2.bare, M2.un.trans un2, hok2, (sb.2 a neK.symm).trans M2.own⟩
  case done =>
    intro s' M
    simp only [Nat.zero_add] at M
    rw [List.take_of_length_le (by omega)] at M
    obtain ⟨z, kits, kn, kv, ke⟩ := M.hok kS (.lst ((ns.map g).map V.int)) upd_same
    have ki : IntsAre kits (ns.map g) := kv.ints
    have kl : kits.length = its.length := by rw [ki.length, List.length_map, hlen]
    have hkd : PySem.W.EachIs (fun v k => ∃ as, Reads s'.heap v k as) kits (ns.map fun n => PyData.int (g n)) := ints_eachR ki
    have hal : PySem.W.AllAlike (ns.map fun n => PyData.int (g n)) := by
      intro d hd d' hd'
      obtain ⟨n, _, rfl⟩ := List.mem_map.mp hd
      obtain ⟨n', _, rfl⟩ := List.mem_map.mp hd'
      rfl
    have hsk : PySem.W.Sortable (ns.map fun n => PyData.int (g n)) := .inr fun d hd => by
      obtain ⟨n, _, rfl⟩ := List.mem_map.mp hd
      exact ⟨(fun z => nomatch z), (fun xs z => nomatch z)⟩
    refine wpAny_bind (listItems_at ke rfl ?_)
    have hun : ∀ d, d ∈ (ns.map fun n => PyData.int (g n)) → X.A.in1.in1.units + d.depth < cLine := fun d hd => by
      obtain ⟨n, _, rfl⟩ := List.mem_map.mp hd
      exact (hr.in1.in1).units0
    have hh1 : (PySem.W.hideAll s'.heap [kS]).get? kS = none := PySem.W.hideAll_none _ (List.mem_singleton.mpr rfl)
    have kb : PySem.W.KeepsBut a (PySem.W.hideAll s'.heap [kS]) s'.heap := fun b o _ e => PySem.W.of_hideAll _ e
    refine PySem.W.keyH_end (κ := PySem.W.dataKind s'.heap (ns.map fun n => PyData.int (g n))) (h₁ := PySem.W.hideAll s'.heap [kS]) kb hh1 ke M.own neK (PySem.W.SortsAt.data (s := s') hkd hal hsk hun) (by rw [List.size_toArray]; exact kl) hz' fun h' tk c kp' na' => ⟨rfl, ?_⟩
    have ko : PySem.W.KeyedOut false (ns.map fun n => PyData.int (g n)) its (PySem.W.sortVals (PySem.W.dataKind s'.heap (ns.map fun n => PyData.int (g n))) false kits its) := ⟨s'.heap, kits, hal, rfl, hkd⟩
    have eo := PySem.W.keyedOut_each (fun n => PyData.int (g n)) ko (ints_eachI hi)
    rw [PySem.W.dataLe_int] at eo
    rw [List.toList_toArray] at na'
    generalize hout : PySem.W.sortVals (PySem.W.dataKind s'.heap (ns.map fun n => PyData.int (g n))) false kits its = out at *
    have oi := each_ints eo
    have stay : ∀ b o, b ≠ a → b ≠ kS → s'.heap.get? b = some o → h'.get? b = some o := fun b o h1 h2 e => kp' b o h1 (PySem.W.hideAll_get _ e fun m => h2 (List.mem_singleton.mp m))
    have olen : ((ns.mergeSort fun a b => decide (g a ≤ g b)).map V.int).length ≤ sizeLine := by
      rw [List.length_map, List.length_mergeSort, ← hlen]
      exact hz'
    have hu : Un (frs X.stack) [] H (upd H a (.lst ((ns.mergeSort fun a b => decide (g a ≤ g b)).map V.int))) s.heap h' :=
      ⟨fun b o e n hf hx => stay b o (nea b o e) (neK' b o e) (M.un.keep b o e n hf hx), fun b o e n hf hx => by
        obtain ⟨sl, q⟩ := M.un.slot b o e n hf hx
        exact ⟨sl, stay b _ (nea b o e) (neK' b o e) q⟩, fun b o e n _ => by rw [upd_ne (nea b o e)]; exact n, fun b o e hx => by
        obtain ⟨o', q⟩ := M.un.there b o e hx
        exact ⟨o', stay b _ (nea b o e) (neK' b o e) q⟩, fun b xs e => by rw [upd_ne (ne_of_none e hnA)]; exact e, fun b o u e => by rw [upd_ne (ne_of_none e hnA)]; exact e,
        fun b ps e => ⟨#[], by rw [upd_ne (ne_of_none e hnA), e]; simp⟩⟩
    have hh : HOk X.prog X.w (upd H a (.lst ((ns.mergeSort fun a b => decide (g a ≤ g b)).map V.int))) h' := fun b u e => by
      by_cases ba : b = a
      · subst ba
        rw [upd_same] at e
        cases e
        exact ⟨olen, out, c, vals_of_ints oi, na'⟩
      · rw [upd_ne ba] at e
        have bk : b ≠ kS := ne_of_none e hnK
        have was : ∀ c x, (upd H kS (.lst ((ns.map g).map V.int))) c = some (.own x) → H c = some (.own x) ∧ c ≠ kS := fun c x e => by
          have ck : c ≠ kS := fun z => by
            rw [z, upd_same] at e
            cases e
          rw [upd_ne ck] at e
          exact ⟨e, ck⟩
        refine (M.hok b u (by rw [upd_ne bk]; exact e)).stay (fun c v hc q => ?_) (fun c hc => ?_) fun c xs hc => ?_
        · rcases hc with rfl | hc
          · exact stay _ _ ba bk q
          · obtain ⟨w1, w2⟩ := was c b hc
            exact stay _ _ (ne_of_none w1 hnA) w2 q
        · obtain ⟨w1, w2⟩ := was c b hc
          rw [upd_ne (ne_of_none w1 hnA)]
          exact w1
        · have ck : c ≠ kS := fun z => by
            rw [z, upd_same] at hc
            cases hc
          rw [upd_ne ck] at hc
          rw [upd_ne (ne_of_none hc hnA)]
          exact hc
    exact ⟨.ref a, _, I.call' (ch := []) (s' := { s' with heap := h', toks := tk }) M.os hu hh M.bare (fun _ z => nomatch z), rfl, q a hnA⟩
end
end Cp
/-! RuleMore -/
namespace Cp
open PySem PySem.Spec PyProof.Rows L2
/-! sorted of a set of ints and of a dict with int keys, any number of them; setdefault at tuple keys -/
theorem pw_lt : ∀ (l : List Int), l.Pairwise (· ≤ ·) → l.Nodup → l.Pairwise (· < ·)
  | [], _, _ => .nil
  | x :: l, a, b => by
    obtain ⟨a1, a2⟩ := List.pairwise_cons.mp a
    obtain ⟨b1, b2⟩ := List.nodup_cons.mp b
    refine List.pairwise_cons.mpr ⟨fun y hy => ?_, pw_lt l a2 b2⟩
    have := a1 y hy
    have ne : x ≠ y := fun z => b1 (z ▸ hy)
    omega
section
variable {P : Program} {w : World} {A : Around} {E : Value → Shared → Prop} {s : Shared} {a : Addr}
theorem sorted_setB {S : Int → Bool} {n : Nat} {Q : Value → Shared → Prop} (R : SetR w s.heap a S n) (calm : A.handled = none) (room : n ≤ 1000)
    (fin : ∀ s' p (out : Array Value) (c : Nat) (ns : List Int), (∀ b o, s.heap.get? b = some o → s'.heap.get? b = some o) → s'.gens = s.gens → s'.os = s.os → s.heap.objs.size ≤ p →
      s'.heap.get? p = some (seqObj "list" out c) → IntsAre out.toList ns → ns.Pairwise (· < ·) → (∀ k, k ∈ ns ↔ S k = true) → ns.length = n → Q (.ref p) s') : wpAny (model P w) A (call (.builtin "sorted") [.ref a]) Q E s := by
  obtain ⟨o, es, ep, t, ho, hex, hd, g, nd, hm, hb, hf, hn, hr, hl⟩ := R
  refine Calls.call_function_entry kind_sorted plain_sorted entry_sorted (args_sorted1 (.ref a)) ?_
  unfold Builtin.«sorted»
  refine wpAny_bind (m := checkCount "sorted" 1 1 _) (wpAny_pure ?_)
  refine wpAny_bind (collect_set (A := A.in1) calm ⟨o, ho, hex.1, hd⟩ hf hb hr hl fun s1 vs k1 hz g1 o1 pm => ?_)
  have many : vs.length = n := by rw [pm.length_eq, List.length_map, Array.length_toList, hn]
  have isI : IntsAre vs (vs.map SrtO.iv) := SrtO.ints_iv fun v hv => by
    obtain ⟨e, he, q⟩ := List.mem_map.mp (pm.mem_iff.mp hv)
    obtain ⟨k, tk, h1, _⟩ := g e he
    exact ⟨k, tk, q.symm.trans h1⟩
  have pk : (vs.map SrtO.iv).Perm (es.toList.map keyOf) := by
    have q := pm.map SrtO.iv
    rw [List.map_map] at q
    have e : es.toList.map (SrtO.iv ∘ fun e => e.2) = es.toList.map keyOf := List.map_congr_left fun e he => by
      obtain ⟨k, tk, h1, _⟩ := g e he
      show SrtO.iv e.2 = keyOf e
      unfold keyOf
      rw [h1]
      rfl
    exact e ▸ q
  have fits : vs.length ≤ sizeLine := by rw [many, sizeLine_eq]; omega
  refine wpAny_bind (wpAny_newList ?_ fits)
  have there : (s1.heap.push (seqObj "list" vs.toArray 0)).get? s1.heap.objs.size = some (seqObj "list" vs.toArray 0) := Heap.get?_push_size s1.heap rfl
  refine wpAny_bind (wpAny_holding (wpAny_call_entry slot_list_sort ⟨_, there, rfl⟩ entry_list_sort (SrtO.list_sort_ord SrtO.swo_int there fits (fun h2 => SrtO.ints_sortable isI h2) fun out h1 h2 => ⟨_, rfl, ?_⟩) (args_list_sort (.ref s1.heap.objs.size))))
  obtain ⟨k1', k2, k3⟩ := SrtO.ints_out isI h1 h2
  obtain ⟨c, hc⟩ := sortedHeap_at (vs := vs) (out := out.toArray) there
  have pn : (out.map SrtO.iv).Perm (es.toList.map keyOf) := k2.trans pk
  refine wpAny_pure ⟨_, rfl, fin _ s1.heap.objs.size out.toArray c (out.map SrtO.iv) (fun b u e => ?_) g1 o1 hz hc k1' (pw_lt _ k3 (pn.nodup_iff.mpr nd)) (fun k => by rw [pn.mem_iff, ← hm k]) ?_⟩
  · have q := k1 b u e
    have lt := Heap.lt_size q
    show (sortedHeap (s1.heap.push (seqObj "list" vs.toArray 0)) s1.heap.objs.size vs out.toArray).get? b = some u
    rw [sortedHeap_old (Nat.ne_of_lt lt) (by rw [size_push']; exact Nat.lt_succ_of_lt lt)]
    exact Heap.get?_push_of_some _ q
  · rw [pn.length_eq, List.length_map, Array.length_toList, hn]
end
section
variable {X : Cx}
def rSortSetB (w : World) : List V → Hp → VK → Prop := fun vs H Q => ∃ (a : Addr) (S : Int → Bool) (n : Nat), vs = [V.ref a] ∧ H a = some (SetO w a S n) ∧ n ≤ 1000 ∧
  ∀ (ns : List Int) (p : Addr), ns.Pairwise (· < ·) → (∀ k : Int, k ∈ ns ↔ S k = true) → ns.length = n → H p = none → Q (.ref p) (upd H p (.lst (ns.map V.int)))
theorem cr_sortSetB (hc : X.calm = true) : CallR X (.builtin "sorted") (rSortSetB X.w) := by
  intro pins s σ H vs us Q I r h
  obtain ⟨a, S, n, rfl, ha, room, q⟩ := h
  rw [Vals.ref1 r]
  refine sorted_setB (setO_get I ha) (I.ok.hd hc) room fun s' p out c ns k g o hp hg hi hs hm hl => ?_
  have small : (ns.map V.int).length ≤ sizeLine := by rw [List.length_map, hl, sizeLine_eq]; omega
  have free : H p = none := I.hok.fresh hp
  have J : Inv X pins σ (upd H p (.lst (ns.map V.int))) { s with heap := s'.heap, gens := s'.gens, drawn := s'.drawn, toks := s'.toks } :=
    I.call (ch := []) (Un.laid k hp free) (I.hok.laid k hp ⟨small, out.toList, c, vals_of_ints hi, hg⟩) (by rw [g]; exact I.bare) (fun _ z => nomatch z)
  obtain ⟨h1, g1, d1, t1, o1⟩ := s'
  obtain rfl : o1 = s.os := o
  exact ⟨.ref p, _, J, rfl, q ns p hs hm hl free⟩
/-- sorted(d), d's keys ints -/
def rSortDB : List V → Hp → VK → Prop := fun xs H Q => ∃ (a : Addr) (kvs : List (Key × V)) (ks : List Int), xs = [.ref a] ∧ Rd H a (.dK kvs) ∧ kvs.map (·.1) = ks.map Sum.inl ∧
  ∀ (ys : List Int) (p : Addr), ys.Perm ks → ys.Pairwise (· ≤ ·) → H p = none → Q (.ref p) (upd H p (.lst (ys.map V.int)))
theorem cr_sortDB (calm : X.calm = true) : CallR X (.builtin "sorted") rSortDB := by
  intro pins s σ H xs us Q I r h
  obtain ⟨a, kvs, ks, rfl, hd, hks, q⟩ := h
  rw [Vals.ref1 r]
  obtain ⟨z, lo, vs, rel, dd⟩ := dk_rd I.hok hd
  obtain ⟨ep, at_⟩ := dd.dictAt
  have keys : vs.map (·.1) = ks.map Sum.inl := rel.keys.symm.trans hks
  have many : vs.length = ks.length := by
    have e := congrArg List.length keys
    rwa [List.length_map, List.length_map] at e
  have fits : vs.length ≤ sizeLine := by rw [← rel.length]; exact z
  refine Calls.call_function_entry kind_sorted plain_sorted entry_sorted (args_sorted1 (.ref a)) ?_
  unfold Builtin.«sorted»
  refine wpAny_bind (m := checkCount "sorted" 1 1 _) (wpAny_pure ?_)
  refine wpAny_bind (PySem.W.kdu_collect (A := X.A.in1) (PySem.W.kdl_dict (knd := mixKind X.prog X.w) (kvs := vs) (ep := ep) lo) (I.ok.hd calm) at_ fits fun h' tk acc hk hacc => ?_)
  have al : acc.toList.length = ks.length := by rw [Array.length_toList, hacc.1, many]
  have isI : IntsAre acc.toList ks := ints_each al fun j v e => by
    obtain ⟨k, x, e1, e2⟩ := hacc.2 j v (by rw [← Array.getElem?_toList]; exact e)
    have e3 : (vs.map (·.1))[j]? = some k := by rw [List.getElem?_map, e1]; rfl
    rw [keys, List.getElem?_map] at e3
    cases e4 : ks[j]? with
    | none => rw [e4] at e3; cases e3
    | some y =>
      rw [e4] at e3
      obtain rfl : Sum.inl y = k := Option.some.inj e3
      rcases keyIs_shape (show keyIs (Sum.inl y) v = true from e2) with ⟨i, t, ek, ev⟩ | ⟨zz, t, ek, ev⟩
      · cases ek
        exact ⟨y, t, rfl, ev⟩
      · cases ek
  have I1 : Inv X pins σ H { s with heap := h', toks := tk } := I.kept hk
  have fits2 : acc.toList.length ≤ sizeLine := by rw [al, ← many]; exact fits
  refine wpAny_bind (wpAny_newList ?_ fits2)
  have there : (h'.push (seqObj "list" acc.toList.toArray 0)).get? h'.objs.size = some (seqObj "list" acc.toList.toArray 0) := Heap.get?_push_size h' rfl
  show wpAny (model X.prog X.w) X.A.in1 _ _ _ { s with heap := h'.push (seqObj "list" acc.toList.toArray 0), toks := tk }
  refine wpAny_bind (wpAny_holding (wpAny_call_entry slot_list_sort ⟨_, there, rfl⟩ entry_list_sort (SrtO.list_sort_ord (s := { s with heap := h'.push (seqObj "list" acc.toList.toArray 0), toks := tk }) SrtO.swo_int there fits2 (fun h2 => SrtO.ints_sortable isI h2) fun out h1 h2 => ⟨_, rfl, ?_⟩) (args_list_sort (.ref h'.objs.size))))
  obtain ⟨k1, k2, k3⟩ := SrtO.ints_out isI h1 h2
  obtain ⟨e', he'⟩ := sortedHeap_at (vs := acc.toList) (out := out.toArray) there
  have small : ((out.map SrtO.iv).map V.int).length ≤ sizeLine := by
    rw [List.length_map, k2.length_eq, ← many]
    exact fits
  refine wpAny_pure ⟨_, rfl, .ref h'.objs.size, upd H h'.objs.size (.lst ((out.map SrtO.iv).map V.int)), I1.laid (t' := tk) (fun b u e => ?_) (Nat.le_refl _)
    (show ObjOk X.prog X.w _ _ _ (.lst ((out.map SrtO.iv).map V.int)) from ⟨small, out, e', vals_of_ints k1, he'⟩), rfl, q _ _ k2 k3 (I1.hok.fresh (Nat.le_refl _))⟩
  have lt : b < h'.objs.size := Heap.lt_size e
  rw [sortedHeap_old (Nat.ne_of_lt lt) (by rw [size_push']; exact Nat.lt_succ_of_lt lt)]
  exact Heap.get?_push_of_some _ e
/-- d.setdefault(k, x), k a tuple -/
def rSetdT : V → List V → Hp → VK → Prop := fun x xs H Q => ∃ (a : Addr) (kvs : List (List L2.Key × V)) (k : List L2.Key) (b : Addr) (d : V), x = .ref a ∧ xs = [.ref b, d] ∧ H a = some (.dT kvs) ∧ H b = some (.tup (k.map kV)) ∧ kvs.length < sizeLine ∧
  (∀ v, valV kvs k = some v → Q v H) ∧ (valV kvs k = none → Q d (upd H a (.dT (kvs ++ [(k, d)]))))
theorem mt_setdT (hu : X.A.units + 1 < cLine) : MtR X "dict.setdefault" rSetdT := by
  intro pins s σ H x xs v us Q I rx rxs h
  obtain ⟨a, kvs, k, b, d, rfl, rfl, ha, hb, small, q1, q2⟩ := h
  cases rx
  obtain ⟨u1, u2, rfl, r1, r2⟩ := vals2 rxs
  cases r1
  obtain ⟨z, hd, ws, rel, dd⟩ := dt_of I.hok ha
  have fits : ws.length ≤ sizeLine := by rw [← Paired.length rel]; exact z
  have rv := rel.val k
  refine call_setdefault_heap (knd := tupleKind (mixKind X.prog X.w)) (k := k) (tupleKind_room_in1 hu) (key_of I.hok hb) hd dd (fun p hp => ?_) (fun hn h' dd' hs => ?_) fits
  · rw [hp] at rv
    cases ev : valV kvs k with
    | none => rw [ev] at rv; exact (show False from rv).elim
    | some v0 =>
      rw [ev] at rv
      exact ⟨v0, H, I.tok _, rv, q1 v0 ev⟩
  · rw [hn] at rv
    have ev : valV kvs k = none := by
      cases ev : valV kvs k with
      | none => rfl
      | some v0 => rw [ev] at rv; exact (show False from rv).elim
    have put := KT.put rel k (y := d) (u := u2) hb r2
    rw [putK_new d ev] at put
    obtain ⟨o, es, ep, hq, h2, h3, h4, _, h5⟩ := dd'
    refine ⟨d, upd H a (.dT (kvs ++ [(k, d)])), d_write I (by rw [ha]; exact True.intro) hs ⟨o, hq⟩ ⟨?_, hd, _, put.keeps (fun c ys ec => (by rw [upd_ne (ne_of ec ha (fun z => nomatch z))]; exact ec)), o, es, ep, hq, h2, h3, h4, h5⟩, r2, q2 ev⟩
    rw [List.length_append]
    exact small
end
end Cp
/-! CpBase -/
namespace Cp
open PySem PySem.Spec PyProof.Rows L2
/-! ### the text by places -/
def top (i : Nat) : Stmt := PySem.Challenge.pw_clauseproofs_s01_answers.main.body.getD i (.Pass ⟨0, 0, 0, 0⟩)
abbrev s_Call___init__ : Stmt := inClass (top 19) 0
theorem sc_Call___init__ : FnScope ["self", "number", "numbers", "rows"] ["self", "number", "numbers", "rows"] (defScope s_Call___init__) := ⟨rfl, rfl, rfl, by decide +kernel, rfl, by decide +kernel, by decide +kernel⟩
abbrev s_split_calls : Stmt := top 20
theorem sc_split_calls : FnScope ["handed", "found", "at", "number", "form", "rows_at", "numbers", "rows", "end"] ["handed"] (defScope s_split_calls) := ⟨rfl, rfl, rfl, by decide +kernel, rfl, by decide +kernel, by decide +kernel⟩
abbrev s_place : Stmt := top 22
theorem sc_place : FnScope ["literal"] ["literal"] (defScope s_place) := ⟨rfl, rfl, rfl, by decide +kernel, rfl, by decide +kernel, by decide +kernel⟩
abbrev s_clause_of : Stmt := top 23
theorem sc_clause_of : FnScope ["literals"] ["literals"] (defScope s_clause_of) := ⟨rfl, rfl, rfl, by decide +kernel, rfl, by decide +kernel, by decide +kernel⟩
abbrev s_opposites : Stmt := top 24
theorem sc_opposites : FnScope ["literals", "literal"] ["literals"] (defScope s_opposites) := ⟨rfl, rfl, rfl, by decide +kernel, rfl, by decide +kernel, by decide +kernel⟩
abbrev s_without : Stmt := top 25
theorem sc_without : FnScope ["clause", "literal", "other"] ["clause", "literal"] (defScope s_without) := ⟨rfl, rfl, rfl, by decide +kernel, rfl, by decide +kernel, by decide +kernel⟩
abbrev s_put_together : Stmt := top 26
theorem sc_put_together : FnScope ["first", "second", "atom"] ["first", "second", "atom"] (defScope s_put_together) := ⟨rfl, rfl, rfl, by decide +kernel, rfl, by decide +kernel, by decide +kernel⟩
abbrev s_is_loose : Stmt := top 27
theorem sc_is_loose : FnScope ["clause", "literal"] ["clause"] (defScope s_is_loose) := ⟨rfl, rfl, rfl, by decide +kernel, rfl, by decide +kernel, by decide +kernel⟩
abbrev s_is_broken : Stmt := top 28
theorem sc_is_broken : FnScope ["clause", "so", "literal"] ["clause", "so"] (defScope s_is_broken) := ⟨rfl, rfl, rfl, by decide +kernel, rfl, by decide +kernel, by decide +kernel⟩
abbrev s_said_by : Stmt := top 31
theorem sc_said_by : FnScope ["atom", "literal"] ["atom", "literal"] (defScope s_said_by) := ⟨rfl, rfl, rfl, by decide +kernel, rfl, by decide +kernel, by decide +kernel⟩
abbrev s_bounds_said : Stmt := top 32
theorem sc_bounds_said : FnScope ["atoms", "literals", "said", "literal", "atom"] ["atoms", "literals"] (defScope s_bounds_said) := ⟨rfl, rfl, rfl, by decide +kernel, rfl, by decide +kernel, by decide +kernel⟩
abbrev s_lower_once : Stmt := top 33
theorem sc_lower_once : FnScope ["values", "said", "lowered", "bound", "most"] ["values", "said"] (defScope s_lower_once) := ⟨rfl, rfl, rfl, by decide +kernel, rfl, by decide +kernel, by decide +kernel⟩
abbrev s_can_be_together : Stmt := top 34
theorem sc_can_be_together : FnScope ["atoms", "u", "literals", "said", "values", "turn"] ["atoms", "u", "literals"] (defScope s_can_be_together) := ⟨rfl, rfl, rfl, by decide +kernel, rfl, by decide +kernel, by decide +kernel⟩
abbrev s_add_up_to_less_than_0 : Stmt := top 35
theorem sc_add_up_to_less_than_0 : FnScope ["said", "bound"] ["said"] (defScope s_add_up_to_less_than_0) := ⟨rfl, rfl, rfl, by decide +kernel, rfl, by decide +kernel, by decide +kernel⟩
abbrev s_one_place_more : Stmt := top 36
theorem sc_one_place_more : FnScope ["choices", "count", "longer", "choice", "behind", "spot"] ["choices", "count"] (defScope s_one_place_more) := ⟨rfl, rfl, rfl, by decide +kernel, rfl, by decide +kernel, by decide +kernel⟩
abbrev s_reason_of : Stmt := top 37
theorem sc_reason_of : FnScope ["atoms", "u", "literals", "bounding", "said", "choices", "size", "choice", "literal", "spot"] ["atoms", "u", "literals"] (defScope s_reason_of) := ⟨rfl, rfl, rfl, by decide +kernel, rfl, by decide +kernel, by decide +kernel⟩
abbrev s_most_above : Stmt := top 38
theorem sc_most_above : FnScope ["u", "said", "base", "values", "turn"] ["u", "said", "base"] (defScope s_most_above) := ⟨rfl, rfl, rfl, by decide +kernel, rfl, by decide +kernel, by decide +kernel⟩
abbrev s_nearest_to_0 : Stmt := top 39
theorem sc_nearest_to_0 : FnScope ["u", "said", "unknown", "most", "most_below"] ["u", "said", "unknown"] (defScope s_nearest_to_0) := ⟨rfl, rfl, rfl, by decide +kernel, rfl, by decide +kernel, by decide +kernel⟩
abbrev s_nearest_values : Stmt := top 40
theorem sc_nearest_values : FnScope ["u", "said", "settled", "values", "unknown", "value"] ["u", "said"] (defScope s_nearest_values) := ⟨rfl, rfl, rfl, by decide +kernel, rfl, by decide +kernel, by decide +kernel⟩
abbrev s_Line___init__ : Stmt := inClass (top 47) 0
theorem sc_Line___init__ : FnScope ["self", "way", "named", "clause"] ["self", "way", "named", "clause"] (defScope s_Line___init__) := ⟨rfl, rfl, rfl, by decide +kernel, rfl, by decide +kernel, by decide +kernel⟩
abbrev s_Line_sources : Stmt := inClass (top 47) 1
theorem sc_Line_sources : FnScope ["self"] ["self"] (defScope s_Line_sources) := ⟨rfl, rfl, rfl, by decide +kernel, rfl, by decide +kernel, by decide +kernel⟩
abbrev s_shown_by_differences : Stmt := top 48
theorem sc_shown_by_differences : FnScope ["clause", "atoms", "u"] ["clause", "atoms", "u"] (defScope s_shown_by_differences) := ⟨rfl, rfl, rfl, by decide +kernel, rfl, by decide +kernel, by decide +kernel⟩
abbrev s_shown_by_joining : Stmt := top 49
theorem sc_shown_by_joining : FnScope ["clause", "first", "second", "atom"] ["clause", "first", "second", "atom"] (defScope s_shown_by_joining) := ⟨rfl, rfl, rfl, by decide +kernel, rfl, by decide +kernel, by decide +kernel⟩
abbrev s_shown_by_widening : Stmt := top 50
theorem sc_shown_by_widening : FnScope ["clause", "source", "literal"] ["clause", "source"] (defScope s_shown_by_widening) := ⟨rfl, rfl, rfl, by decide +kernel, rfl, by decide +kernel, by decide +kernel⟩
abbrev s_shown_by_chain : Stmt := top 51
theorem sc_shown_by_chain : FnScope ["clause", "sources", "not_so", "source", "left", "literal"] ["clause", "sources"] (defScope s_shown_by_chain) := ⟨rfl, rfl, rfl, by decide +kernel, rfl, by decide +kernel, by decide +kernel⟩
abbrev s_is_shown : Stmt := top 52
theorem sc_is_shown : FnScope ["line", "lines", "atoms", "u", "sources", "source"] ["line", "lines", "atoms", "u"] (defScope s_is_shown) := ⟨rfl, rfl, rfl, by decide +kernel, rfl, by decide +kernel, by decide +kernel⟩
abbrev s_Proof___init__ : Stmt := inClass (top 54) 0
theorem sc_Proof___init__ : FnScope ["self", "atoms", "u", "lines", "next_number", "number", "line"] ["self", "atoms", "u", "lines", "next_number"] (defScope s_Proof___init__) := ⟨rfl, rfl, rfl, by decide +kernel, rfl, by decide +kernel, by decide +kernel⟩
abbrev s_Proof_line_found : Stmt := inClass (top 54) 1
theorem sc_Proof_line_found : FnScope ["self", "so", "number", "reason"] ["self", "so"] (defScope s_Proof_line_found) := ⟨rfl, rfl, rfl, by decide +kernel, rfl, by decide +kernel, by decide +kernel⟩
abbrev s_Proof_line_of_both : Stmt := inClass (top 54) 2
theorem sc_Proof_line_of_both : FnScope ["self", "so", "atom", "first", "second", "clause"] ["self", "so", "atom"] (defScope s_Proof_line_of_both) := ⟨rfl, rfl, rfl, by decide +kernel, rfl, by decide +kernel, by decide +kernel⟩
abbrev s_Proof_line_for : Stmt := inClass (top 54) 3
theorem sc_Proof_line_for : FnScope ["self", "way", "named", "clause"] ["self", "way", "named", "clause"] (defScope s_Proof_line_for) := ⟨rfl, rfl, rfl, by decide +kernel, rfl, by decide +kernel, by decide +kernel⟩
abbrev s_split_steps : Stmt := top 57
theorem sc_split_steps : FnScope ["steps", "found", "at", "way", "named_at", "end"] ["steps"] (defScope s_split_steps) := ⟨rfl, rfl, rfl, by decide +kernel, rfl, by decide +kernel, by decide +kernel⟩
abbrev s_count_right : Stmt := top 58
theorem sc_count_right : FnScope ["steps", "lines", "next_number", "atoms", "u", "known", "right", "step"] ["steps", "lines", "next_number", "atoms", "u"] (defScope s_count_right) := ⟨rfl, rfl, rfl, by decide +kernel, rfl, by decide +kernel, by decide +kernel⟩
abbrev s_first_row : Stmt := top 60
theorem sc_first_row : FnScope ["atoms", "u", "clauses", "so", "atom", "found", "clause"] ["atoms", "u", "clauses", "so"] (defScope s_first_row) := ⟨rfl, rfl, rfl, by decide +kernel, rfl, by decide +kernel, by decide +kernel⟩
abbrev s_first_world : Stmt := top 61
theorem sc_first_world : FnScope ["atoms", "u", "clauses", "so"] ["atoms", "u", "clauses"] (defScope s_first_world) := ⟨rfl, rfl, rfl, by decide +kernel, rfl, by decide +kernel, by decide +kernel⟩
abbrev s_Mark___init__ : Stmt := inClass (top 78) 0
theorem sc_Mark___init__ : FnScope ["self", "atoms", "lines", "next_number"] ["self", "atoms", "lines", "next_number"] (defScope s_Mark___init__) := ⟨rfl, rfl, rfl, by decide +kernel, rfl, by decide +kernel, by decide +kernel⟩
abbrev s_Book___init__ : Stmt := inClass (top 79) 0
theorem sc_Book___init__ : FnScope ["self"] ["self"] (defScope s_Book___init__) := ⟨rfl, rfl, rfl, by decide +kernel, rfl, by decide +kernel, by decide +kernel⟩
abbrev s_Book_begin : Stmt := inClass (top 79) 1
theorem sc_Book_begin : FnScope ["self", "u"] ["self", "u"] (defScope s_Book_begin) := ⟨rfl, rfl, rfl, by decide +kernel, rfl, by decide +kernel, by decide +kernel⟩
abbrev s_Book_start : Stmt := inClass (top 79) 2
theorem sc_Book_start : FnScope ["self", "u"] ["self", "u"] (defScope s_Book_start) := ⟨rfl, rfl, rfl, by decide +kernel, rfl, by decide +kernel, by decide +kernel⟩
abbrev s_Book_yes : Stmt := inClass (top 79) 3
theorem sc_Book_yes : FnScope ["self"] ["self"] (defScope s_Book_yes) := ⟨rfl, rfl, rfl, by decide +kernel, rfl, by decide +kernel, by decide +kernel⟩
abbrev s_Book_bound : Stmt := inClass (top 79) 4
theorem sc_Book_bound : FnScope ["self", "a", "b", "c"] ["self", "a", "b", "c"] (defScope s_Book_bound) := ⟨rfl, rfl, rfl, by decide +kernel, rfl, by decide +kernel, by decide +kernel⟩
abbrev s_Book_claim : Stmt := inClass (top 79) 5
theorem sc_Book_claim : FnScope ["self", "literals", "clause"] ["self", "literals"] (defScope s_Book_claim) := ⟨rfl, rfl, rfl, by decide +kernel, rfl, by decide +kernel, by decide +kernel⟩
abbrev s_Book_bounds : Stmt := inClass (top 79) 6
theorem sc_Book_bounds : FnScope ["self", "literals"] ["self", "literals"] (defScope s_Book_bounds) := ⟨rfl, rfl, rfl, by decide +kernel, rfl, by decide +kernel, by decide +kernel⟩
abbrev s_Book_joined : Stmt := inClass (top 79) 7
theorem sc_Book_joined : FnScope ["self", "i", "j", "a", "literals"] ["self", "i", "j", "a", "literals"] (defScope s_Book_joined) := ⟨rfl, rfl, rfl, by decide +kernel, rfl, by decide +kernel, by decide +kernel⟩
abbrev s_Book_wider : Stmt := inClass (top 79) 8
theorem sc_Book_wider : FnScope ["self", "i", "literals"] ["self", "i", "literals"] (defScope s_Book_wider) := ⟨rfl, rfl, rfl, by decide +kernel, rfl, by decide +kernel, by decide +kernel⟩
abbrev s_Book_chain : Stmt := inClass (top 79) 9
theorem sc_Book_chain : FnScope ["self", "lines", "literals"] ["self", "lines", "literals"] (defScope s_Book_chain) := ⟨rfl, rfl, rfl, by decide +kernel, rfl, by decide +kernel, by decide +kernel⟩
abbrev s_Book_drop : Stmt := inClass (top 79) 10
theorem sc_Book_drop : FnScope ["self", "k", "gone", "number"] ["self", "k"] (defScope s_Book_drop) := ⟨rfl, rfl, rfl, by decide +kernel, rfl, by decide +kernel, by decide +kernel⟩
abbrev s_Book_mark : Stmt := inClass (top 79) 11
theorem sc_Book_mark : FnScope ["self"] ["self"] (defScope s_Book_mark) := ⟨rfl, rfl, rfl, by decide +kernel, rfl, by decide +kernel, by decide +kernel⟩
abbrev s_Book_back : Stmt := inClass (top 79) 12
theorem sc_Book_back : FnScope ["self", "mark", "since", "at_mark", "number", "line"] ["self"] (defScope s_Book_back) := ⟨rfl, rfl, rfl, by decide +kernel, rfl, by decide +kernel, by decide +kernel⟩
abbrev s_Book_decide : Stmt := inClass (top 79) 13
theorem sc_Book_decide : FnScope ["self", "clauses", "world", "row", "number", "literal"] ["self"] (defScope s_Book_decide) := ⟨rfl, rfl, rfl, by decide +kernel, rfl, by decide +kernel, by decide +kernel⟩
abbrev s_Book_prove : Stmt := inClass (top 79) 14
theorem sc_Book_prove : FnScope ["self", "proof", "found", "fresh"] ["self"] (defScope s_Book_prove) := ⟨rfl, rfl, rfl, by decide +kernel, rfl, by decide +kernel, by decide +kernel⟩
abbrev s_Book_show : Stmt := inClass (top 79) 15
theorem sc_Book_show : FnScope ["self", "k", "line"] ["self", "k"] (defScope s_Book_show) := ⟨rfl, rfl, rfl, by decide +kernel, rfl, by decide +kernel, by decide +kernel⟩
abbrev s_Book_rests : Stmt := inClass (top 79) 16
theorem sc_Book_rests : FnScope ["self", "k"] ["self", "k"] (defScope s_Book_rests) := ⟨rfl, rfl, rfl, by decide +kernel, rfl, by decide +kernel, by decide +kernel⟩
abbrev s_Book_came : Stmt := inClass (top 79) 17
theorem sc_Book_came : FnScope ["self", "k"] ["self", "k"] (defScope s_Book_came) := ⟨rfl, rfl, rfl, by decide +kernel, rfl, by decide +kernel, by decide +kernel⟩
abbrev s_Book_judge : Stmt := inClass (top 79) 18
theorem sc_Book_judge : FnScope ["self", "steps", "lines", "right", "line"] ["self", "steps"] (defScope s_Book_judge) := ⟨rfl, rfl, rfl, by decide +kernel, rfl, by decide +kernel, by decide +kernel⟩
abbrev s_Book_reason : Stmt := inClass (top 79) 19
theorem sc_Book_reason : FnScope ["self", "literals", "found"] ["self", "literals"] (defScope s_Book_reason) := ⟨rfl, rfl, rfl, by decide +kernel, rfl, by decide +kernel, by decide +kernel⟩
abbrev s_Book_derive : Stmt := inClass (top 79) 20
theorem sc_Book_derive : FnScope ["self", "way", "named", "literals", "line"] ["self", "way", "named", "literals"] (defScope s_Book_derive) := ⟨rfl, rfl, rfl, by decide +kernel, rfl, by decide +kernel, by decide +kernel⟩
abbrev s_Book_add_atom : Stmt := inClass (top 79) 21
theorem sc_Book_add_atom : FnScope ["self", "atom"] ["self", "atom"] (defScope s_Book_add_atom) := ⟨rfl, rfl, rfl, by decide +kernel, rfl, by decide +kernel, by decide +kernel⟩
abbrev s_Book_add_line : Stmt := inClass (top 79) 22
theorem sc_Book_add_line : FnScope ["self", "line", "number"] ["self", "line"] (defScope s_Book_add_line) := ⟨rfl, rfl, rfl, by decide +kernel, rfl, by decide +kernel, by decide +kernel⟩
abbrev s_Book_has_strange : Stmt := inClass (top 79) 23
theorem sc_Book_has_strange : FnScope ["self", "literals", "literal"] ["self", "literals"] (defScope s_Book_has_strange) := ⟨rfl, rfl, rfl, by decide +kernel, rfl, by decide +kernel, by decide +kernel⟩
abbrev s_Book_has_all : Stmt := inClass (top 79) 24
theorem sc_Book_has_all : FnScope ["self", "numbers", "number"] ["self", "numbers"] (defScope s_Book_has_all) := ⟨rfl, rfl, rfl, by decide +kernel, rfl, by decide +kernel, by decide +kernel⟩
abbrev s_Book_claims_among : Stmt := inClass (top 79) 25
theorem sc_Book_claims_among : FnScope ["self", "numbers", "number"] ["self", "numbers"] (defScope s_Book_claims_among) := ⟨rfl, rfl, rfl, by decide +kernel, rfl, by decide +kernel, by decide +kernel⟩
abbrev s_Book_can_stay : Stmt := inClass (top 79) 26
theorem sc_Book_can_stay : FnScope ["self", "line"] ["self", "line"] (defScope s_Book_can_stay) := ⟨rfl, rfl, rfl, by decide +kernel, rfl, by decide +kernel, by decide +kernel⟩
abbrev s_Book_resting_on : Stmt := inClass (top 79) 27
theorem sc_Book_resting_on : FnScope ["self", "k", "resting", "number", "line", "source"] ["self", "k"] (defScope s_Book_resting_on) := ⟨rfl, rfl, rfl, by decide +kernel, rfl, by decide +kernel, by decide +kernel⟩
abbrev s_Book_ancestry : Stmt := inClass (top 79) 28
theorem sc_Book_ancestry : FnScope ["self", "k", "found", "number", "source"] ["self", "k"] (defScope s_Book_ancestry) := ⟨rfl, rfl, rfl, by decide +kernel, rfl, by decide +kernel, by decide +kernel⟩
abbrev s_counted : Stmt := top 80
theorem sc_counted : FnScope ["numbers"] ["numbers"] (defScope s_counted) := ⟨rfl, rfl, rfl, by decide +kernel, rfl, by decide +kernel, by decide +kernel⟩
abbrev s_one_number : Stmt := top 81
theorem sc_one_number : FnScope ["book", "call", "numbers", "rows"] ["book", "call"] (defScope s_one_number) := ⟨rfl, rfl, rfl, by decide +kernel, rfl, by decide +kernel, by decide +kernel⟩
abbrev s_answer_of : Stmt := top 82
theorem sc_answer_of : FnScope ["book", "call"] ["book", "call"] (defScope s_answer_of) := ⟨rfl, rfl, rfl, by decide +kernel, rfl, by decide +kernel, by decide +kernel⟩
abbrev s_answers : Stmt := top 83
theorem sc_answers : FnScope ["calls", "book", "given", "call"] ["calls"] (defScope s_answers) := ⟨rfl, rfl, rfl, by decide +kernel, rfl, by decide +kernel, by decide +kernel⟩
/-- a tuple of tuples of ints, written at the top -/
def RowsT (K : PySem.W.Frag) (H : Hp) (a : Addr) (rows : List (List Int)) : Prop := ∃ ps : List Addr, SqT K H a (ps.map V.ref) ∧ Paired (fun (p : Addr) (r : List Int) => SqT K H p (r.map V.int)) ps rows
structure Ad where
  c_Call : Addr
  c_Line : Addr
  c_Proof : Addr
  c_Mark : Addr
  c_Book : Addr
  a_Call___init__ : Addr
  d_Call___init__ : FuncData
  a_split_calls : Addr
  d_split_calls : FuncData
  a_place : Addr
  d_place : FuncData
  a_clause_of : Addr
  d_clause_of : FuncData
  a_opposites : Addr
  d_opposites : FuncData
  a_without : Addr
  d_without : FuncData
  a_put_together : Addr
  d_put_together : FuncData
  a_is_loose : Addr
  d_is_loose : FuncData
  a_is_broken : Addr
  d_is_broken : FuncData
  a_said_by : Addr
  d_said_by : FuncData
  a_bounds_said : Addr
  d_bounds_said : FuncData
  a_lower_once : Addr
  d_lower_once : FuncData
  a_can_be_together : Addr
  d_can_be_together : FuncData
  a_add_up_to_less_than_0 : Addr
  d_add_up_to_less_than_0 : FuncData
  a_one_place_more : Addr
  d_one_place_more : FuncData
  a_reason_of : Addr
  d_reason_of : FuncData
  a_most_above : Addr
  d_most_above : FuncData
  a_nearest_to_0 : Addr
  d_nearest_to_0 : FuncData
  a_nearest_values : Addr
  d_nearest_values : FuncData
  a_Line___init__ : Addr
  d_Line___init__ : FuncData
  a_Line_sources : Addr
  d_Line_sources : FuncData
  a_shown_by_differences : Addr
  d_shown_by_differences : FuncData
  a_shown_by_joining : Addr
  d_shown_by_joining : FuncData
  a_shown_by_widening : Addr
  d_shown_by_widening : FuncData
  a_shown_by_chain : Addr
  d_shown_by_chain : FuncData
  a_is_shown : Addr
  d_is_shown : FuncData
  a_Proof___init__ : Addr
  d_Proof___init__ : FuncData
  a_Proof_line_found : Addr
  d_Proof_line_found : FuncData
  a_Proof_line_of_both : Addr
  d_Proof_line_of_both : FuncData
  a_Proof_line_for : Addr
  d_Proof_line_for : FuncData
  a_split_steps : Addr
  d_split_steps : FuncData
  a_count_right : Addr
  d_count_right : FuncData
  a_first_row : Addr
  d_first_row : FuncData
  a_first_world : Addr
  d_first_world : FuncData
  a_Mark___init__ : Addr
  d_Mark___init__ : FuncData
  a_Book___init__ : Addr
  d_Book___init__ : FuncData
  a_Book_begin : Addr
  d_Book_begin : FuncData
  a_Book_start : Addr
  d_Book_start : FuncData
  a_Book_yes : Addr
  d_Book_yes : FuncData
  a_Book_bound : Addr
  d_Book_bound : FuncData
  a_Book_claim : Addr
  d_Book_claim : FuncData
  a_Book_bounds : Addr
  d_Book_bounds : FuncData
  a_Book_joined : Addr
  d_Book_joined : FuncData
  a_Book_wider : Addr
  d_Book_wider : FuncData
  a_Book_chain : Addr
  d_Book_chain : FuncData
  a_Book_drop : Addr
  d_Book_drop : FuncData
  a_Book_mark : Addr
  d_Book_mark : FuncData
  a_Book_back : Addr
  d_Book_back : FuncData
  a_Book_decide : Addr
  d_Book_decide : FuncData
  a_Book_prove : Addr
  d_Book_prove : FuncData
  a_Book_show : Addr
  d_Book_show : FuncData
  a_Book_rests : Addr
  d_Book_rests : FuncData
  a_Book_came : Addr
  d_Book_came : FuncData
  a_Book_judge : Addr
  d_Book_judge : FuncData
  a_Book_reason : Addr
  d_Book_reason : FuncData
  a_Book_derive : Addr
  d_Book_derive : FuncData
  a_Book_add_atom : Addr
  d_Book_add_atom : FuncData
  a_Book_add_line : Addr
  d_Book_add_line : FuncData
  a_Book_has_strange : Addr
  d_Book_has_strange : FuncData
  a_Book_has_all : Addr
  d_Book_has_all : FuncData
  a_Book_claims_among : Addr
  d_Book_claims_among : FuncData
  a_Book_can_stay : Addr
  d_Book_can_stay : FuncData
  a_Book_resting_on : Addr
  d_Book_resting_on : FuncData
  a_Book_ancestry : Addr
  d_Book_ancestry : FuncData
  a_counted : Addr
  d_counted : FuncData
  a_one_number : Addr
  d_one_number : FuncData
  a_answer_of : Addr
  d_answer_of : FuncData
  a_answers : Addr
  d_answers : FuncData
  o_FORMS : Addr
  o_QUESTION : Addr
  o_NAMED : Addr
structure Txt (K : PySem.W.Frag) (mg : Str → Option Value) (D : Ad) : Prop where
  k_Call : Cls K D.c_Call
  g_Call : mg "Call" = some (.ref D.c_Call)
  m_Call : Mk K D.c_Call D.a_Call___init__
  x_Call_number : NoAttr K D.c_Call "number"
  x_Call_numbers : NoAttr K D.c_Call "numbers"
  x_Call_rows : NoAttr K D.c_Call "rows"
  k_Line : Cls K D.c_Line
  g_Line : mg "Line" = some (.ref D.c_Line)
  m_Line : Mk K D.c_Line D.a_Line___init__
  x_Line_way : NoAttr K D.c_Line "way"
  x_Line_named : NoAttr K D.c_Line "named"
  x_Line_clause : NoAttr K D.c_Line "clause"
  k_Proof : Cls K D.c_Proof
  g_Proof : mg "Proof" = some (.ref D.c_Proof)
  m_Proof : Mk K D.c_Proof D.a_Proof___init__
  x_Proof_atoms : NoAttr K D.c_Proof "atoms"
  x_Proof_u : NoAttr K D.c_Proof "u"
  x_Proof_lines : NoAttr K D.c_Proof "lines"
  x_Proof_next_number : NoAttr K D.c_Proof "next_number"
  x_Proof_claims : NoAttr K D.c_Proof "claims"
  x_Proof_first_with : NoAttr K D.c_Proof "first_with"
  k_Mark : Cls K D.c_Mark
  g_Mark : mg "Mark" = some (.ref D.c_Mark)
  m_Mark : Mk K D.c_Mark D.a_Mark___init__
  x_Mark_atoms : NoAttr K D.c_Mark "atoms"
  x_Mark_lines : NoAttr K D.c_Mark "lines"
  x_Mark_next_number : NoAttr K D.c_Mark "next_number"
  k_Book : Cls K D.c_Book
  g_Book : mg "Book" = some (.ref D.c_Book)
  m_Book : Mk K D.c_Book D.a_Book___init__
  x_Book_u : NoAttr K D.c_Book "u"
  x_Book_atoms : NoAttr K D.c_Book "atoms"
  x_Book_lines : NoAttr K D.c_Book "lines"
  x_Book_next_number : NoAttr K D.c_Book "next_number"
  x_Book_marks : NoAttr K D.c_Book "marks"
  f_Call___init__ : Fun K "__init__" "Call.__init__" s_Call___init__ D.a_Call___init__ D.d_Call___init__
  n_Call___init__ : Binds K D.d_Call___init__ ["self", "number", "numbers", "rows"] []
  f_split_calls : Fun K "split_calls" "split_calls" s_split_calls D.a_split_calls D.d_split_calls
  n_split_calls : Binds K D.d_split_calls ["handed"] []
  g_split_calls : mg "split_calls" = some (.ref D.a_split_calls)
  f_place : Fun K "place" "place" s_place D.a_place D.d_place
  n_place : Binds K D.d_place ["literal"] []
  g_place : mg "place" = some (.ref D.a_place)
  f_clause_of : Fun K "clause_of" "clause_of" s_clause_of D.a_clause_of D.d_clause_of
  n_clause_of : Binds K D.d_clause_of ["literals"] []
  g_clause_of : mg "clause_of" = some (.ref D.a_clause_of)
  f_opposites : Fun K "opposites" "opposites" s_opposites D.a_opposites D.d_opposites
  n_opposites : Binds K D.d_opposites ["literals"] []
  g_opposites : mg "opposites" = some (.ref D.a_opposites)
  f_without : Fun K "without" "without" s_without D.a_without D.d_without
  n_without : Binds K D.d_without ["clause", "literal"] []
  g_without : mg "without" = some (.ref D.a_without)
  f_put_together : Fun K "put_together" "put_together" s_put_together D.a_put_together D.d_put_together
  n_put_together : Binds K D.d_put_together ["first", "second", "atom"] []
  g_put_together : mg "put_together" = some (.ref D.a_put_together)
  f_is_loose : Fun K "is_loose" "is_loose" s_is_loose D.a_is_loose D.d_is_loose
  n_is_loose : Binds K D.d_is_loose ["clause"] []
  g_is_loose : mg "is_loose" = some (.ref D.a_is_loose)
  f_is_broken : Fun K "is_broken" "is_broken" s_is_broken D.a_is_broken D.d_is_broken
  n_is_broken : Binds K D.d_is_broken ["clause", "so"] []
  g_is_broken : mg "is_broken" = some (.ref D.a_is_broken)
  f_said_by : Fun K "said_by" "said_by" s_said_by D.a_said_by D.d_said_by
  n_said_by : Binds K D.d_said_by ["atom", "literal"] []
  g_said_by : mg "said_by" = some (.ref D.a_said_by)
  f_bounds_said : Fun K "bounds_said" "bounds_said" s_bounds_said D.a_bounds_said D.d_bounds_said
  n_bounds_said : Binds K D.d_bounds_said ["atoms", "literals"] []
  g_bounds_said : mg "bounds_said" = some (.ref D.a_bounds_said)
  f_lower_once : Fun K "lower_once" "lower_once" s_lower_once D.a_lower_once D.d_lower_once
  n_lower_once : Binds K D.d_lower_once ["values", "said"] []
  g_lower_once : mg "lower_once" = some (.ref D.a_lower_once)
  f_can_be_together : Fun K "can_be_together" "can_be_together" s_can_be_together D.a_can_be_together D.d_can_be_together
  n_can_be_together : Binds K D.d_can_be_together ["atoms", "u", "literals"] []
  g_can_be_together : mg "can_be_together" = some (.ref D.a_can_be_together)
  f_add_up_to_less_than_0 : Fun K "add_up_to_less_than_0" "add_up_to_less_than_0" s_add_up_to_less_than_0 D.a_add_up_to_less_than_0 D.d_add_up_to_less_than_0
  n_add_up_to_less_than_0 : Binds K D.d_add_up_to_less_than_0 ["said"] []
  g_add_up_to_less_than_0 : mg "add_up_to_less_than_0" = some (.ref D.a_add_up_to_less_than_0)
  f_one_place_more : Fun K "one_place_more" "one_place_more" s_one_place_more D.a_one_place_more D.d_one_place_more
  n_one_place_more : Binds K D.d_one_place_more ["choices", "count"] []
  g_one_place_more : mg "one_place_more" = some (.ref D.a_one_place_more)
  f_reason_of : Fun K "reason_of" "reason_of" s_reason_of D.a_reason_of D.d_reason_of
  n_reason_of : Binds K D.d_reason_of ["atoms", "u", "literals"] []
  g_reason_of : mg "reason_of" = some (.ref D.a_reason_of)
  f_most_above : Fun K "most_above" "most_above" s_most_above D.a_most_above D.d_most_above
  n_most_above : Binds K D.d_most_above ["u", "said", "base"] []
  g_most_above : mg "most_above" = some (.ref D.a_most_above)
  f_nearest_to_0 : Fun K "nearest_to_0" "nearest_to_0" s_nearest_to_0 D.a_nearest_to_0 D.d_nearest_to_0
  n_nearest_to_0 : Binds K D.d_nearest_to_0 ["u", "said", "unknown"] []
  g_nearest_to_0 : mg "nearest_to_0" = some (.ref D.a_nearest_to_0)
  f_nearest_values : Fun K "nearest_values" "nearest_values" s_nearest_values D.a_nearest_values D.d_nearest_values
  n_nearest_values : Binds K D.d_nearest_values ["u", "said"] []
  g_nearest_values : mg "nearest_values" = some (.ref D.a_nearest_values)
  f_Line___init__ : Fun K "__init__" "Line.__init__" s_Line___init__ D.a_Line___init__ D.d_Line___init__
  n_Line___init__ : Binds K D.d_Line___init__ ["self", "way", "named", "clause"] []
  f_Line_sources : Fun K "sources" "Line.sources" s_Line_sources D.a_Line_sources D.d_Line_sources
  n_Line_sources : Binds K D.d_Line_sources ["self"] []
  t_Line_sources : Meth K D.c_Line "sources" D.a_Line_sources
  f_shown_by_differences : Fun K "shown_by_differences" "shown_by_differences" s_shown_by_differences D.a_shown_by_differences D.d_shown_by_differences
  n_shown_by_differences : Binds K D.d_shown_by_differences ["clause", "atoms", "u"] []
  g_shown_by_differences : mg "shown_by_differences" = some (.ref D.a_shown_by_differences)
  f_shown_by_joining : Fun K "shown_by_joining" "shown_by_joining" s_shown_by_joining D.a_shown_by_joining D.d_shown_by_joining
  n_shown_by_joining : Binds K D.d_shown_by_joining ["clause", "first", "second", "atom"] []
  g_shown_by_joining : mg "shown_by_joining" = some (.ref D.a_shown_by_joining)
  f_shown_by_widening : Fun K "shown_by_widening" "shown_by_widening" s_shown_by_widening D.a_shown_by_widening D.d_shown_by_widening
  n_shown_by_widening : Binds K D.d_shown_by_widening ["clause", "source"] []
  g_shown_by_widening : mg "shown_by_widening" = some (.ref D.a_shown_by_widening)
  f_shown_by_chain : Fun K "shown_by_chain" "shown_by_chain" s_shown_by_chain D.a_shown_by_chain D.d_shown_by_chain
  n_shown_by_chain : Binds K D.d_shown_by_chain ["clause", "sources"] []
  g_shown_by_chain : mg "shown_by_chain" = some (.ref D.a_shown_by_chain)
  f_is_shown : Fun K "is_shown" "is_shown" s_is_shown D.a_is_shown D.d_is_shown
  n_is_shown : Binds K D.d_is_shown ["line", "lines", "atoms", "u"] []
  g_is_shown : mg "is_shown" = some (.ref D.a_is_shown)
  f_Proof___init__ : Fun K "__init__" "Proof.__init__" s_Proof___init__ D.a_Proof___init__ D.d_Proof___init__
  n_Proof___init__ : Binds K D.d_Proof___init__ ["self", "atoms", "u", "lines", "next_number"] []
  f_Proof_line_found : Fun K "line_found" "Proof.line_found" s_Proof_line_found D.a_Proof_line_found D.d_Proof_line_found
  n_Proof_line_found : Binds K D.d_Proof_line_found ["self", "so"] []
  t_Proof_line_found : Meth K D.c_Proof "line_found" D.a_Proof_line_found
  f_Proof_line_of_both : Fun K "line_of_both" "Proof.line_of_both" s_Proof_line_of_both D.a_Proof_line_of_both D.d_Proof_line_of_both
  n_Proof_line_of_both : Binds K D.d_Proof_line_of_both ["self", "so", "atom"] []
  t_Proof_line_of_both : Meth K D.c_Proof "line_of_both" D.a_Proof_line_of_both
  f_Proof_line_for : Fun K "line_for" "Proof.line_for" s_Proof_line_for D.a_Proof_line_for D.d_Proof_line_for
  n_Proof_line_for : Binds K D.d_Proof_line_for ["self", "way", "named", "clause"] []
  t_Proof_line_for : Meth K D.c_Proof "line_for" D.a_Proof_line_for
  f_split_steps : Fun K "split_steps" "split_steps" s_split_steps D.a_split_steps D.d_split_steps
  n_split_steps : Binds K D.d_split_steps ["steps"] []
  g_split_steps : mg "split_steps" = some (.ref D.a_split_steps)
  f_count_right : Fun K "count_right" "count_right" s_count_right D.a_count_right D.d_count_right
  n_count_right : Binds K D.d_count_right ["steps", "lines", "next_number", "atoms", "u"] []
  g_count_right : mg "count_right" = some (.ref D.a_count_right)
  f_first_row : Fun K "first_row" "first_row" s_first_row D.a_first_row D.d_first_row
  n_first_row : Binds K D.d_first_row ["atoms", "u", "clauses", "so"] []
  g_first_row : mg "first_row" = some (.ref D.a_first_row)
  f_first_world : Fun K "first_world" "first_world" s_first_world D.a_first_world D.d_first_world
  n_first_world : Binds K D.d_first_world ["atoms", "u", "clauses"] []
  g_first_world : mg "first_world" = some (.ref D.a_first_world)
  f_Mark___init__ : Fun K "__init__" "Mark.__init__" s_Mark___init__ D.a_Mark___init__ D.d_Mark___init__
  n_Mark___init__ : Binds K D.d_Mark___init__ ["self", "atoms", "lines", "next_number"] []
  f_Book___init__ : Fun K "__init__" "Book.__init__" s_Book___init__ D.a_Book___init__ D.d_Book___init__
  n_Book___init__ : Binds K D.d_Book___init__ ["self"] []
  f_Book_begin : Fun K "begin" "Book.begin" s_Book_begin D.a_Book_begin D.d_Book_begin
  n_Book_begin : Binds K D.d_Book_begin ["self", "u"] []
  t_Book_begin : Meth K D.c_Book "begin" D.a_Book_begin
  f_Book_start : Fun K "start" "Book.start" s_Book_start D.a_Book_start D.d_Book_start
  n_Book_start : Binds K D.d_Book_start ["self", "u"] []
  t_Book_start : Meth K D.c_Book "start" D.a_Book_start
  f_Book_yes : Fun K "yes" "Book.yes" s_Book_yes D.a_Book_yes D.d_Book_yes
  n_Book_yes : Binds K D.d_Book_yes ["self"] []
  t_Book_yes : Meth K D.c_Book "yes" D.a_Book_yes
  f_Book_bound : Fun K "bound" "Book.bound" s_Book_bound D.a_Book_bound D.d_Book_bound
  n_Book_bound : Binds K D.d_Book_bound ["self", "a", "b", "c"] []
  t_Book_bound : Meth K D.c_Book "bound" D.a_Book_bound
  f_Book_claim : Fun K "claim" "Book.claim" s_Book_claim D.a_Book_claim D.d_Book_claim
  n_Book_claim : Binds K D.d_Book_claim ["self", "literals"] []
  t_Book_claim : Meth K D.c_Book "claim" D.a_Book_claim
  f_Book_bounds : Fun K "bounds" "Book.bounds" s_Book_bounds D.a_Book_bounds D.d_Book_bounds
  n_Book_bounds : Binds K D.d_Book_bounds ["self", "literals"] []
  t_Book_bounds : Meth K D.c_Book "bounds" D.a_Book_bounds
  f_Book_joined : Fun K "joined" "Book.joined" s_Book_joined D.a_Book_joined D.d_Book_joined
  n_Book_joined : Binds K D.d_Book_joined ["self", "i", "j", "a", "literals"] []
  t_Book_joined : Meth K D.c_Book "joined" D.a_Book_joined
  f_Book_wider : Fun K "wider" "Book.wider" s_Book_wider D.a_Book_wider D.d_Book_wider
  n_Book_wider : Binds K D.d_Book_wider ["self", "i", "literals"] []
  t_Book_wider : Meth K D.c_Book "wider" D.a_Book_wider
  f_Book_chain : Fun K "chain" "Book.chain" s_Book_chain D.a_Book_chain D.d_Book_chain
  n_Book_chain : Binds K D.d_Book_chain ["self", "lines", "literals"] []
  t_Book_chain : Meth K D.c_Book "chain" D.a_Book_chain
  f_Book_drop : Fun K "drop" "Book.drop" s_Book_drop D.a_Book_drop D.d_Book_drop
  n_Book_drop : Binds K D.d_Book_drop ["self", "k"] []
  t_Book_drop : Meth K D.c_Book "drop" D.a_Book_drop
  f_Book_mark : Fun K "mark" "Book.mark" s_Book_mark D.a_Book_mark D.d_Book_mark
  n_Book_mark : Binds K D.d_Book_mark ["self"] []
  t_Book_mark : Meth K D.c_Book "mark" D.a_Book_mark
  f_Book_back : Fun K "back" "Book.back" s_Book_back D.a_Book_back D.d_Book_back
  n_Book_back : Binds K D.d_Book_back ["self"] []
  t_Book_back : Meth K D.c_Book "back" D.a_Book_back
  f_Book_decide : Fun K "decide" "Book.decide" s_Book_decide D.a_Book_decide D.d_Book_decide
  n_Book_decide : Binds K D.d_Book_decide ["self"] []
  t_Book_decide : Meth K D.c_Book "decide" D.a_Book_decide
  f_Book_prove : Fun K "prove" "Book.prove" s_Book_prove D.a_Book_prove D.d_Book_prove
  n_Book_prove : Binds K D.d_Book_prove ["self"] []
  t_Book_prove : Meth K D.c_Book "prove" D.a_Book_prove
  f_Book_show : Fun K "show" "Book.show" s_Book_show D.a_Book_show D.d_Book_show
  n_Book_show : Binds K D.d_Book_show ["self", "k"] []
  t_Book_show : Meth K D.c_Book "show" D.a_Book_show
  f_Book_rests : Fun K "rests" "Book.rests" s_Book_rests D.a_Book_rests D.d_Book_rests
  n_Book_rests : Binds K D.d_Book_rests ["self", "k"] []
  t_Book_rests : Meth K D.c_Book "rests" D.a_Book_rests
  f_Book_came : Fun K "came" "Book.came" s_Book_came D.a_Book_came D.d_Book_came
  n_Book_came : Binds K D.d_Book_came ["self", "k"] []
  t_Book_came : Meth K D.c_Book "came" D.a_Book_came
  f_Book_judge : Fun K "judge" "Book.judge" s_Book_judge D.a_Book_judge D.d_Book_judge
  n_Book_judge : Binds K D.d_Book_judge ["self", "steps"] []
  t_Book_judge : Meth K D.c_Book "judge" D.a_Book_judge
  f_Book_reason : Fun K "reason" "Book.reason" s_Book_reason D.a_Book_reason D.d_Book_reason
  n_Book_reason : Binds K D.d_Book_reason ["self", "literals"] []
  t_Book_reason : Meth K D.c_Book "reason" D.a_Book_reason
  f_Book_derive : Fun K "derive" "Book.derive" s_Book_derive D.a_Book_derive D.d_Book_derive
  n_Book_derive : Binds K D.d_Book_derive ["self", "way", "named", "literals"] []
  t_Book_derive : Meth K D.c_Book "derive" D.a_Book_derive
  f_Book_add_atom : Fun K "add_atom" "Book.add_atom" s_Book_add_atom D.a_Book_add_atom D.d_Book_add_atom
  n_Book_add_atom : Binds K D.d_Book_add_atom ["self", "atom"] []
  t_Book_add_atom : Meth K D.c_Book "add_atom" D.a_Book_add_atom
  f_Book_add_line : Fun K "add_line" "Book.add_line" s_Book_add_line D.a_Book_add_line D.d_Book_add_line
  n_Book_add_line : Binds K D.d_Book_add_line ["self", "line"] []
  t_Book_add_line : Meth K D.c_Book "add_line" D.a_Book_add_line
  f_Book_has_strange : Fun K "has_strange" "Book.has_strange" s_Book_has_strange D.a_Book_has_strange D.d_Book_has_strange
  n_Book_has_strange : Binds K D.d_Book_has_strange ["self", "literals"] []
  t_Book_has_strange : Meth K D.c_Book "has_strange" D.a_Book_has_strange
  f_Book_has_all : Fun K "has_all" "Book.has_all" s_Book_has_all D.a_Book_has_all D.d_Book_has_all
  n_Book_has_all : Binds K D.d_Book_has_all ["self", "numbers"] []
  t_Book_has_all : Meth K D.c_Book "has_all" D.a_Book_has_all
  f_Book_claims_among : Fun K "claims_among" "Book.claims_among" s_Book_claims_among D.a_Book_claims_among D.d_Book_claims_among
  n_Book_claims_among : Binds K D.d_Book_claims_among ["self", "numbers"] []
  t_Book_claims_among : Meth K D.c_Book "claims_among" D.a_Book_claims_among
  f_Book_can_stay : Fun K "can_stay" "Book.can_stay" s_Book_can_stay D.a_Book_can_stay D.d_Book_can_stay
  n_Book_can_stay : Binds K D.d_Book_can_stay ["self", "line"] []
  t_Book_can_stay : Meth K D.c_Book "can_stay" D.a_Book_can_stay
  f_Book_resting_on : Fun K "resting_on" "Book.resting_on" s_Book_resting_on D.a_Book_resting_on D.d_Book_resting_on
  n_Book_resting_on : Binds K D.d_Book_resting_on ["self", "k"] []
  t_Book_resting_on : Meth K D.c_Book "resting_on" D.a_Book_resting_on
  f_Book_ancestry : Fun K "ancestry" "Book.ancestry" s_Book_ancestry D.a_Book_ancestry D.d_Book_ancestry
  n_Book_ancestry : Binds K D.d_Book_ancestry ["self", "k"] []
  t_Book_ancestry : Meth K D.c_Book "ancestry" D.a_Book_ancestry
  f_counted : Fun K "counted" "counted" s_counted D.a_counted D.d_counted
  n_counted : Binds K D.d_counted ["numbers"] []
  g_counted : mg "counted" = some (.ref D.a_counted)
  f_one_number : Fun K "one_number" "one_number" s_one_number D.a_one_number D.d_one_number
  n_one_number : Binds K D.d_one_number ["book", "call"] []
  g_one_number : mg "one_number" = some (.ref D.a_one_number)
  f_answer_of : Fun K "answer_of" "answer_of" s_answer_of D.a_answer_of D.d_answer_of
  n_answer_of : Binds K D.d_answer_of ["book", "call"] []
  g_answer_of : mg "answer_of" = some (.ref D.a_answer_of)
  f_answers : Fun K "answers" "answers" s_answers D.a_answers D.d_answers
  n_answers : Binds K D.d_answers ["calls"] []
  g_answers : mg "answers" = some (.ref D.a_answers)
  c_START : ∃ t, mg "START" = some (.int (0) t)
  c_YES : ∃ t, mg "YES" = some (.int (1) t)
  c_BOUND : ∃ t, mg "BOUND" = some (.int (2) t)
  c_CLAIM : ∃ t, mg "CLAIM" = some (.int (3) t)
  c_BOUNDS : ∃ t, mg "BOUNDS" = some (.int (4) t)
  c_JOINED : ∃ t, mg "JOINED" = some (.int (5) t)
  c_WIDER : ∃ t, mg "WIDER" = some (.int (6) t)
  c_CHAIN : ∃ t, mg "CHAIN" = some (.int (7) t)
  c_DROP : ∃ t, mg "DROP" = some (.int (8) t)
  c_MARK : ∃ t, mg "MARK" = some (.int (9) t)
  c_BACK : ∃ t, mg "BACK" = some (.int (10) t)
  c_DECIDE : ∃ t, mg "DECIDE" = some (.int (11) t)
  c_PROVE : ∃ t, mg "PROVE" = some (.int (12) t)
  c_SHOW : ∃ t, mg "SHOW" = some (.int (13) t)
  c_RESTS : ∃ t, mg "RESTS" = some (.int (14) t)
  c_CAME : ∃ t, mg "CAME" = some (.int (15) t)
  c_JUDGE : ∃ t, mg "JUDGE" = some (.int (16) t)
  c_FORMS : mg "FORMS" = some (.ref D.o_FORMS)
  w_FORMS : ∀ H : Hp, RowsT K H D.o_FORMS [[1, 0], [0, 0], [3, 0], [0, 1], [0, 1], [3, 1], [1, 1], [0, 2], [1, 0], [0, 0], [0, 0], [0, 0], [0, 0], [1, 0], [1, 0], [1, 0], [0, 1], [0, 1]]
  c_QUESTION : mg "QUESTION" = some (.ref D.o_QUESTION)
  w_QUESTION : ∀ H : Hp, SqT K H D.o_QUESTION []
  c_AS_CLAIM : ∃ t, mg "AS_CLAIM" = some (.int (0) t)
  c_BY_BOUNDS : ∃ t, mg "BY_BOUNDS" = some (.int (1) t)
  c_BY_JOINING : ∃ t, mg "BY_JOINING" = some (.int (2) t)
  c_BY_WIDENING : ∃ t, mg "BY_WIDENING" = some (.int (3) t)
  c_BY_CHAIN : ∃ t, mg "BY_CHAIN" = some (.int (4) t)
  c_NAMED : mg "NAMED" = some (.ref D.o_NAMED)
  w_NAMED : ∀ H : Hp, SqT K H D.o_NAMED ([0, 0, 3, 1].map V.int)
  c_FIRST_U : ∃ t, mg "FIRST_U" = some (.int (3) t)
  c_MOST_U : ∃ t, mg "MOST_U" = some (.int (4) t)
  c_MOST_APART : ∃ t, mg "MOST_APART" = some (.int (1000) t)
  c_MOST_ATOMS : ∃ t, mg "MOST_ATOMS" = some (.int (8) t)
  c_MOST_LINES : ∃ t, mg "MOST_LINES" = some (.int (300) t)
  c_MOST_CLAIMS : ∃ t, mg "MOST_CLAIMS" = some (.int (16) t)
  c_MOST_MARKS : ∃ t, mg "MOST_MARKS" = some (.int (8) t)
  c_MOST_TO_REASON : ∃ t, mg "MOST_TO_REASON" = some (.int (8) t)
  c_WRONG : ∃ t, mg "WRONG" = some (.int (-1) t)
  c_NO_ATOM : ∃ t, mg "NO_ATOM" = some (.int (-2) t)
  c_NO_LINE : ∃ t, mg "NO_LINE" = some (.int (-3) t)
  c_FULL : ∃ t, mg "FULL" = some (.int (-5) t)
  c_NOT_SHOWN : ∃ t, mg "NOT_SHOWN" = some (.int (-6) t)
  c_NO_MARK : ∃ t, mg "NO_MARK" = some (.int (-7) t)
  c_HAS_WORLD : ∃ t, mg "HAS_WORLD" = some (.int (-8) t)
  b_abs : mg "abs" = none
  b_all : mg "all" = none
  b_any : mg "any" = none
  b_dict : mg "dict" = none
  b_enumerate : mg "enumerate" = none
  b_len : mg "len" = none
  b_list : mg "list" = none
  b_range : mg "range" = none
  b_reversed : mg "reversed" = none
  b_set : mg "set" = none
  b_sorted : mg "sorted" = none
  b_sum : mg "sum" = none
  b_tuple : mg "tuple" = none
section
variable {X : Cx}
/-- what is walked may be of two kinds -/
def iOr (a b : TI) : TI := fun σ H R => a σ H R ∨ b σ H R
theorem pi_or {tg l : Expr} {a b : TI} (h : PI X tg l a) (k : PI X tg l b) : PI X tg l (iOr a b) := ⟨fun pins s σ H R I q => q.elim (h.run pins s σ H R I) (k.run pins s σ H R I)⟩
/-- a number of the top -/
theorem pe_gi {x : Str} {i : Int} {pos : Pos} (hg : Gl X x) (hm : ∃ t, X.mg x = some (.int i t)) (hd : (x == ("__debug__" : Str)) = false := by decide) : PE X (.Name x pos) (tC (.int i)) := by
  obtain ⟨t, h⟩ := hm
  exact pe_glob hg h ⟨t, rfl⟩ hd
/-- a def, a class, a tuple of the top -/
theorem pe_gr {x : Str} {a : Addr} {pos : Pos} (hg : Gl X x) (hm : X.mg x = some (.ref a)) (hd : (x == ("__debug__" : Str)) = false := by decide) : PE X (.Name x pos) (tC (.ref a)) := pe_glob (v := .ref a) hg hm rfl hd
/-! within a comprehension the context is another, its written part the same: the readings name it -/
theorem op_inK (K : PySem.W.Frag) (h : X.K = K := by rfl) : OpR X (compareOp .In) (rIn K false) := h ▸ op_in_seq
theorem op_notInK (K : PySem.W.Frag) (h : X.K = K := by rfl) : OpR X (compareOp .NotIn) (rIn K true) := h ▸ op_notIn_seq
theorem ix_tupK (K : PySem.W.Frag) (h : X.K = K := by rfl) : IxR X (rIxT K) := h ▸ ix_tup
theorem ix_listK (K : PySem.W.Frag) (h : X.K = K := by rfl) : IxR X (rIxL K) := h ▸ ix_list
theorem op_eqDK (K : PySem.W.Frag) (hu : X.A.units + 64 < cLine) (h : X.K = K := by rfl) : OpR X (compareOp .Eq) (rEqD K) := h ▸ op_eqD hu
theorem op_neDK (K : PySem.W.Frag) (hu : X.A.units + 64 < cLine) (h : X.K = K := by rfl) : OpR X (compareOp .NotEq) (rNeD K) := h ▸ op_neD hu
theorem len_seqK (K : PySem.W.Frag) (h : X.K = K := by rfl) : CallR X (.builtin "len") (fun xs H Q => ∃ p ys, xs = [.ref p] ∧ (SqL K H p ys ∨ SqT K H p ys) ∧ Q (.int ys.length) H) := h ▸ call_len_seq
theorem anyK (K : PySem.W.Frag) (hc : X.calm = true) (h : X.K = K := by rfl) : CallR X (.builtin "any") (rAny K) := h ▸ cr_any hc
theorem allK (K : PySem.W.Frag) (hc : X.calm = true) (h : X.K = K := by rfl) : CallR X (.builtin "all") (rAll K) := h ▸ cr_all hc
theorem pe_fldK (K : PySem.W.Frag) {e : Expr} {f : Str} {pos : Pos} {ta : TE} (he : PE X e ta) (hb : attributeBase e f X.env (eval e X.env) = eval e X.env) (h : X.K = K := by rfl) : PE X (.Attribute e f pos) (tFld K ta f) := h ▸ pe_fld he hb
end
end Cp
/-! CpEv -/
namespace Cp
open PySem PySem.Spec PyProof.Rows L2 Evl
/-! ### what readings come to (over Evl) -/
theorem Ex.t {K : PySem.W.Frag} {H H' : Hp} {a : Addr} {xs : List V} (e : Ex H H') (h : SqT K H a xs) : SqT K H' a xs := ex_t e h
theorem Ex.l {K : PySem.W.Frag} {H H' : Hp} {a : Addr} {xs : List V} (e : Ex H H') (h : SqL K H a xs) : SqL K H' a xs := ex_l e h
def RetU (xs : List V) (H : Hp) (Q : VK) : Prop := ∀ p H2, H p = none → Ex H H2 → H2 p = some (.tup xs) → Q (.ref p) H2
section
variable {K : PySem.W.Frag} {σ : L2.St} {H H' : Hp} {ta tb te tx tl : TE} {t u : TT} {x y z v : V} {α : Type}
theorem et_yes : EvT tYes σ H true := fun H1 _ _ q => q H1 (Ex.refl H1)
theorem ev_fld {a C dx : Addr} {fs : List (Str × V)} {f : Str} (h : Ev te σ H (.ref a)) (ho : H a = some (.ins C dx fs)) (hc : Cls K C) (hn : NoAttr K C f) (hl : fs.lookup f = some v) : Ev (tFld K te f) σ H v := fun H1 e Q q =>
  h H1 e _ fun H2 e2 => ⟨a, C, dx, fs, v, rfl, (e.trans e2) a _ ho, hc, hn, hl, q H2 e2⟩
theorem ev_meth {a C dx : Addr} {fs : List (Str × V)} {m : Str} {sp : Sp} {dvs vs : List V} {E : XK} {tr : TA} (h : Ev te σ H (.ref a)) (ho : H a = some (.ins C dx fs)) (hl : fs.lookup m = none) (hr : EvA tr σ H vs) (hs : SpV sp (.ref a :: (vs ++ dvs)) H z) :
    Ev (tMeth C m sp dvs E te tr) σ H z := fun H1 e Q q =>
  h H1 e _ fun H2 e2 => ⟨a, dx, fs, rfl, (e.trans e2) a _ ho, hl, hr H2 (e.trans e2) _ fun H3 e3 => hs H3 ((e.trans e2).trans e3) Q (fun H4 e4 => q H4 ((e2.trans e3).trans e4)) E⟩
/-- a call that gives a new tuple -/
def SpU (sp : Sp) (vs : List V) (H : Hp) (xs : List V) : Prop := ∀ H1, Ex H H1 → ∀ Q : VK, (∀ p H2, H1 p = none → Ex H1 H2 → H2 p = some (.tup xs) → Q (.ref p) H2) → ∀ E : XK, sp vs H1 Q E
theorem eu_call {sp : Sp} {dvs vs xs : List V} {E : XK} {ta : TA} (h : EvA ta σ H vs) (hs : SpU sp (vs ++ dvs) H xs) : EvU (tCall sp dvs E ta) σ H xs := fun H1 e Q q =>
  h H1 e _ fun H2 e2 => hs H2 (e.trans e2) Q (fun p H3 hp e3 h3 => q p H3 (fresh_back e2 hp) (e2.trans e3) h3) E
/-- [e for x in xs if t]: the items that the test takes, each by e -/
def Lw (H : Hp) (ms : List α) (f : α → Bool) (v : α → V) (Dl : Addr) (i : Nat) (H' : Hp) : Prop := H Dl = none ∧ Ex H H' ∧ H' Dl = some (.lst (((ms.take i).filter f).map v))
theorem lw_turn {ms : List α} {f : α → Bool} {e : α → V} {Dl : Addr} {i : Nat} {m : α} {σ2 : L2.St} (p : Lw H ms f e Dl i H') (hm : ms[i]? = some m) (hz : ms.length ≤ 40000) (ht : EvT t σ2 H (f m)) (he : f m = true → Ev te σ2 H (e m)) :
    t σ2 H' fun b H3 => if b = true then te σ2 H3 fun y H4 => ∃ acc, H4 Dl = some (.lst acc) ∧ acc.length < sizeLine ∧ Lw H ms f e Dl (i + 1) (upd H4 Dl (.lst (acc ++ [y]))) else Lw H ms f e Dl (i + 1) H3 := by
  obtain ⟨p1, p2, p3⟩ := p
  have more : (ms.take (i + 1)).filter f = (ms.take i).filter f ++ (if f m = true then [m] else []) := by
    rw [List.take_add_one, hm, List.filter_append]
    cases hf : f m <;> simp [hf]
  refine ht H' p2 _ fun H3 e3 => ?_
  cases hf : f m with
  | true =>
    rw [hf, if_pos rfl] at more
    show te σ2 H3 fun y H4 => ∃ acc, H4 Dl = some (.lst acc) ∧ acc.length < sizeLine ∧ Lw H ms f e Dl (i + 1) (upd H4 Dl (.lst (acc ++ [y])))
    refine he hf H3 (p2.trans e3) _ fun H4 e4 => ⟨((ms.take i).filter f).map e, e4 Dl _ (e3 Dl _ p3), sz_lt ?_, p1, Ex.mut ((p2.trans e3).trans e4) p1, ?_⟩
    · rw [List.length_map]
      have h1 := List.length_filter_le f (ms.take i)
      rw [List.length_take] at h1
      omega
    · rw [more, List.map_append]
      exact upd_same
  | false =>
    rw [hf, if_neg Bool.false_ne_true, List.append_nil] at more
    show Lw H ms f e Dl (i + 1) H3
    refine ⟨p1, p2.trans e3, ?_⟩
    rw [more]
    exact e3 Dl _ p3
theorem map_at {emb : α → V} {ms : List α} {i : Nat} {x : V} (h : (ms.map emb)[i]? = some x) : ∃ m, ms[i]? = some m ∧ x = emb m ∧ m ∈ ms := by
  rw [List.getElem?_map] at h
  cases q : ms[i]? with
  | none => rw [q] at h; cases h
  | some m =>
    rw [q] at h
    exact ⟨m, rfl, (Option.some.inj h).symm, List.mem_of_getElem? q⟩
theorem lcT {a : Addr} {ms : List α} {emb : α → V} {j : Nat} {vs : List Nat} (f : α → Bool) (e : α → V) (h : Ev tl σ H (.ref a)) (hx : SqT K H a (ms.map emb)) (hz : ms.length ≤ 40000) (hw : ∀ x, wipe ((wipe σ vs).set j (some x)) vs = wipe σ vs)
    (ht : ∀ m ∈ ms, ∀ H1, Ex H H1 → EvT t ((wipe σ vs).set j (some (emb m))) H1 (f m)) (he : ∀ m ∈ ms, ∀ H1, Ex H H1 → f m = true → Ev te ((wipe σ vs).set j (some (emb m))) H1 (e m)) :
    EvL (tLc (iTup K tl) (gName j) t te vs) σ H ((ms.filter f).map e) := fun H0 e0 Q q => h H0 e0 _ fun H1 e1 => ⟨a, rfl, ⟨_, ex_t (e0.trans e1) hx⟩, fun Dl hD =>
  lc_tup (xs := ms.map emb) (Lw H1 ms f e Dl) ⟨hD, Ex.new hD, upd_same⟩ (fun i H' _ p => ex_t ((e0.trans e1).trans p.2.1) hx) (fun i x H' hi p => by
    obtain ⟨m, hm, rfl, mm⟩ := map_at hi
    exact ⟨hw _, lw_turn p hm hz (ht m mm H1 (e0.trans e1)) (fun hf => he m mm H1 (e0.trans e1) hf)⟩)
    (fun H' p => q Dl H' (fresh_back e1 p.1) (e1.trans p.2.1) (by
      have z := p.2.2
      rw [List.length_map, List.take_length] at z
      exact z))⟩
theorem lcL {a : Addr} {ms : List α} {emb : α → V} {j : Nat} {vs : List Nat} (f : α → Bool) (e : α → V) (h : Ev tl σ H (.ref a)) (hx : SqL K H a (ms.map emb)) (hz : ms.length ≤ 40000) (hw : ∀ x, wipe ((wipe σ vs).set j (some x)) vs = wipe σ vs)
    (ht : ∀ m ∈ ms, ∀ H1, Ex H H1 → EvT t ((wipe σ vs).set j (some (emb m))) H1 (f m)) (he : ∀ m ∈ ms, ∀ H1, Ex H H1 → f m = true → Ev te ((wipe σ vs).set j (some (emb m))) H1 (e m)) :
    EvL (tLc (iList K tl) (gName j) t te vs) σ H ((ms.filter f).map e) := fun H0 e0 Q q => h H0 e0 _ fun H1 e1 => ⟨a, rfl, ⟨_, ex_l (e0.trans e1) hx⟩, fun Dl hD =>
  lc_list (xs := ms.map emb) (Lw H1 ms f e Dl) ⟨hD, Ex.new hD, upd_same⟩ (fun i H' _ p => ex_l ((e0.trans e1).trans p.2.1) hx) (fun i x H' hi p => by
    obtain ⟨m, hm, rfl, mm⟩ := map_at hi
    exact ⟨hw _, lw_turn p hm hz (ht m mm H1 (e0.trans e1)) (fun hf => he m mm H1 (e0.trans e1) hf)⟩)
    (fun H' p => q Dl H' (fresh_back e1 p.1) (e1.trans p.2.1) (by
      have z := p.2.2
      rw [List.length_map, List.take_length] at z
      exact z))⟩
/-- over a new tuple -/
theorem lcNT {ms : List α} {emb : α → V} {j : Nat} {vs : List Nat} (f : α → Bool) (e : α → V) (h : EvU tl σ H (ms.map emb)) (hz : ms.length ≤ 40000) (hw : ∀ x, wipe ((wipe σ vs).set j (some x)) vs = wipe σ vs)
    (ht : ∀ m ∈ ms, ∀ H1, Ex H H1 → EvT t ((wipe σ vs).set j (some (emb m))) H1 (f m)) (he : ∀ m ∈ ms, ∀ H1, Ex H H1 → f m = true → Ev te ((wipe σ vs).set j (some (emb m))) H1 (e m)) :
    EvL (tLc (iTup K tl) (gName j) t te vs) σ H ((ms.filter f).map e) := fun H0 e0 Q q => h H0 e0 _ fun a H1 _ e1 hx => ⟨a, rfl, ⟨_, st_of hx⟩, fun Dl hD =>
  lc_tup (xs := ms.map emb) (Lw H1 ms f e Dl) ⟨hD, Ex.new hD, upd_same⟩ (fun i H' _ p => ex_t p.2.1 (st_of hx)) (fun i x H' hi p => by
    obtain ⟨m, hm, rfl, mm⟩ := map_at hi
    exact ⟨hw _, lw_turn p hm hz (ht m mm H1 (e0.trans e1)) (fun hf => he m mm H1 (e0.trans e1) hf)⟩)
    (fun H' p => q Dl H' (fresh_back e1 p.1) (e1.trans p.2.1) (by
      have z := p.2.2
      rw [List.length_map, List.take_length] at z
      exact z))⟩
theorem lc_inl {wa wb : TI} {g : TG} {vs : List Nat} {xs : List V} (h : EvL (tLc wa g t te vs) σ H xs) : EvL (tLc (iOr wa wb) g t te vs) σ H xs := fun H1 e Q q => Or.inl (h H1 e Q q)
theorem lc_inr {wa wb : TI} {g : TG} {vs : List Nat} {xs : List V} (h : EvL (tLc wb g t te vs) σ H xs) : EvL (tLc (iOr wa wb) g t te vs) σ H xs := fun H1 e Q q => Or.inr (h H1 e Q q)
/-- over a list or a tuple -/
theorem lcQ {a : Addr} {ms : List α} {emb : α → V} {j : Nat} {vs : List Nat} (f : α → Bool) (e : α → V) (h : Ev tl σ H (.ref a)) (hx : SqL K H a (ms.map emb) ∨ SqT K H a (ms.map emb)) (hz : ms.length ≤ 40000) (hw : ∀ x, wipe ((wipe σ vs).set j (some x)) vs = wipe σ vs)
    (ht : ∀ m ∈ ms, ∀ H1, Ex H H1 → EvT t ((wipe σ vs).set j (some (emb m))) H1 (f m)) (he : ∀ m ∈ ms, ∀ H1, Ex H H1 → f m = true → Ev te ((wipe σ vs).set j (some (emb m))) H1 (e m)) :
    EvL (tLc (iOr (iList K tl) (iTup K tl)) (gName j) t te vs) σ H ((ms.filter f).map e) := by
  rcases hx with hx | hx
  · exact lc_inl (lcL f e h hx hz hw ht he)
  · exact lc_inr (lcT f e h hx hz hw ht he)
/-- a list or a tuple -/
abbrev SqQ (K : PySem.W.Frag) (H : Hp) (a : Addr) (xs : List V) : Prop := SqL K H a xs ∨ SqT K H a xs
theorem ex_q {a : Addr} {xs : List V} (e : Ex H H') (h : SqQ K H a xs) : SqQ K H' a xs := h.elim (fun h => .inl (ex_l e h)) (fun h => .inr (ex_t e h))
/-- None, or not -/
def optV (f : α → V) : Option α → V
  | none => .non
  | some x => f x
theorem ev_isN (h : Ev ta σ H v) (hb : Ev tb σ H .non) : Ev (tOp (fun x y H Q => y = .non ∧ Q (.bl (decide (x = .non))) H) ta tb) σ H (.bl (decide (v = .non))) := fun H1 e Q q => h H1 e _ fun H2 e2 => hb H2 (e.trans e2) _ fun H3 e3 => ⟨rfl, q H3 (e2.trans e3)⟩
theorem ev_notN (h : Ev ta σ H v) (hb : Ev tb σ H .non) : Ev (tOp (fun x y H Q => y = .non ∧ Q (.bl (!decide (x = .non))) H) ta tb) σ H (.bl (!decide (v = .non))) := fun H1 e Q q => h H1 e _ fun H2 e2 => hb H2 (e.trans e2) _ fun H3 e3 => ⟨rfl, q H3 (e2.trans e3)⟩
theorem opt_non {f : α → V} (hf : ∀ x, f x ≠ .non) (o : Option α) : decide (optV f o = .non) = !o.isSome := by
  cases o with
  | none => rfl
  | some x => exact decide_eq_false (hf x)
theorem ev_isO {o : Option α} {f : α → V} (hf : ∀ x, f x ≠ .non) (h : Ev ta σ H (optV f o)) : Ev (tOp (fun x y H Q => y = .non ∧ Q (.bl (decide (x = .non))) H) ta (tC .non)) σ H (.bl (!o.isSome)) := by
  have := ev_isN h (tb := tC .non) ev_c
  rw [opt_non hf] at this
  exact this
theorem ev_notO {o : Option α} {f : α → V} (hf : ∀ x, f x ≠ .non) (h : Ev ta σ H (optV f o)) : Ev (tOp (fun x y H Q => y = .non ∧ Q (.bl (!decide (x = .non))) H) ta (tC .non)) σ H (.bl o.isSome) := by
  have := ev_notN h (tb := tC .non) ev_c
  rw [opt_non hf, Bool.not_not] at this
  exact this
theorem filter_yes (ms : List α) : ms.filter (fun _ => true) = ms := by
  induction ms with
  | nil => rfl
  | cons a r ih => rw [List.filter_cons, if_pos rfl, ih]
theorem any_map_id (ms : List α) (f : α → Bool) : (ms.map f).any id = ms.any f := by rw [List.any_map]; rfl
theorem all_map_id (ms : List α) (f : α → Bool) : (ms.map f).all id = ms.all f := by rw [List.all_map]; rfl
/-- any([..]), all([..]) -/
theorem ev_any {bs : List Bool} (h : EvL te σ H (bs.map V.bl)) : Ev (tCB (rAny K) (tCons te tNil)) σ H (.bl (bs.any id)) := fun H1 e Q q => h H1 e _ fun p H2 _ e2 hp => ⟨p, bs, rfl, sq_of hp, q H2 e2⟩
theorem ev_all {bs : List Bool} (h : EvL te σ H (bs.map V.bl)) : Ev (tCB (rAll K) (tCons te tNil)) σ H (.bl (bs.all id)) := fun H1 e Q q => h H1 e _ fun p H2 _ e2 hp => ⟨p, bs, rfl, sq_of hp, q H2 e2⟩
theorem inV_ints (k : Int) : ∀ ns : List Int, inV (.int k) (ns.map V.int) = ns.contains k
  | [] => rfl
  | a :: r => by
    have ih := inV_ints k r
    unfold inV at ih ⊢
    rw [List.map_cons, List.any_cons, List.contains_cons, ih]
    show (a == k || r.contains k) = (k == a || r.contains k)
    rw [show (a == k) = (k == a) from by rw [Bool.eq_iff_iff, beq_iff_eq, beq_iff_eq]; exact eq_comm]
theorem flat_ints : ∀ ns : List Int, (ns.map V.int).all flatV = true
  | [] => rfl
  | a :: r => by rw [List.map_cons, List.all_cons, flat_ints r]; rfl
theorem ev_inT {k : Int} {a : Addr} {ns : List Int} (h1 : Ev ta σ H (.int k)) (h2 : Ev tb σ H (.ref a)) (hx : SqT K H a (ns.map V.int)) : Ev (tOp (rIn K false) ta tb) σ H (.bl (ns.contains k)) := by
  have := ev_op h1 h2 (rv_isT hx rfl (flat_ints ns))
  rw [inV_ints] at this
  exact this
theorem ev_inL {k : Int} {a : Addr} {ns : List Int} (h1 : Ev ta σ H (.int k)) (h2 : Ev tb σ H (.ref a)) (hx : SqL K H a (ns.map V.int)) : Ev (tOp (rIn K false) ta tb) σ H (.bl (ns.contains k)) := by
  have := ev_op h1 h2 (rv_isL hx rfl (flat_ints ns))
  rw [inV_ints] at this
  exact this
theorem ev_niT {k : Int} {a : Addr} {ns : List Int} (h1 : Ev ta σ H (.int k)) (h2 : Ev tb σ H (.ref a)) (hx : SqT K H a (ns.map V.int)) : Ev (tOp (rIn K true) ta tb) σ H (.bl (!ns.contains k)) := by
  have := ev_op h1 h2 (rv_niT hx rfl (flat_ints ns))
  rw [inV_ints] at this
  exact this
theorem ev_niL {k : Int} {a : Addr} {ns : List Int} (h1 : Ev ta σ H (.int k)) (h2 : Ev tb σ H (.ref a)) (hx : SqL K H a (ns.map V.int)) : Ev (tOp (rIn K true) ta tb) σ H (.bl (!ns.contains k)) := by
  have := ev_op h1 h2 (rv_niL hx rfl (flat_ints ns))
  rw [inV_ints] at this
  exact this
theorem ev_neg {i : Int} (h : Ev ta σ H (.int i)) : Ev (tUn (rU fun i => .int (-i)) ta) σ H (.int (-i)) := ev_un h ru_neg
theorem ev_add {i j : Int} (h1 : Ev ta σ H (.int i)) (h2 : Ev tb σ H (.int j)) : Ev (tOp (rI0 fun i j => .int (i + j)) ta tb) σ H (.int (i + j)) := ev_op h1 h2 rv_I0
theorem ev_sub {i j : Int} (h1 : Ev ta σ H (.int i)) (h2 : Ev tb σ H (.int j)) : Ev (tOp (rI0 fun i j => .int (i - j)) ta tb) σ H (.int (i - j)) := ev_op h1 h2 rv_I0
theorem ev_gt {i j : Int} (h1 : Ev ta σ H (.int i)) (h2 : Ev tb σ H (.int j)) : Ev (tOp (rI0 fun i j => .bl (decide (j < i))) ta tb) σ H (.bl (decide (j < i))) := ev_op h1 h2 rv_I0
theorem ev_lt {i j : Int} (h1 : Ev ta σ H (.int i)) (h2 : Ev tb σ H (.int j)) : Ev (tOp (rI0 fun i j => .bl (decide (i < j))) ta tb) σ H (.bl (decide (i < j))) := ev_op h1 h2 rv_I0
theorem dec_int (i j : Int) : decide (V.int i = V.int j) = decide (i = j) := by
  by_cases h : i = j
  · rw [h, decide_eq_true rfl, decide_eq_true rfl]
  · rw [decide_eq_false h, decide_eq_false (fun z => h (by cases z; rfl))]
theorem ev_ge {i j : Int} (h1 : Ev ta σ H (.int i)) (h2 : Ev tb σ H (.int j)) : Ev (tOp (rI0 fun i j => .bl (decide (j ≤ i))) ta tb) σ H (.bl (decide (j ≤ i))) := ev_op h1 h2 rv_I0
theorem ev_le {i j : Int} (h1 : Ev ta σ H (.int i)) (h2 : Ev tb σ H (.int j)) : Ev (tOp (rI0 fun i j => .bl (decide (i ≤ j))) ta tb) σ H (.bl (decide (i ≤ j))) := ev_op h1 h2 rv_I0
theorem ev_eq {i j : Int} (h1 : Ev ta σ H (.int i)) (h2 : Ev tb σ H (.int j)) : Ev (tOp rEq ta tb) σ H (.bl (decide (i = j))) := by
  rw [← dec_int]
  exact ev_op h1 h2 (rv_eq rfl)
theorem ev_ne {i j : Int} (h1 : Ev ta σ H (.int i)) (h2 : Ev tb σ H (.int j)) : Ev (tOp rNe ta tb) σ H (.bl (!decide (i = j))) := by
  rw [← dec_int]
  exact ev_op h1 h2 (rv_ne rfl)
def rAbs : List V → Hp → VK → Prop := fun xs H Q => ∃ i, xs = [.int i] ∧ Q (.int (if i < 0 then -i else i)) H
theorem ev_abs {i : Int} (h : Ev ta σ H (.int i)) : Ev (tCB (fun xs H Q => ∃ i, xs = [.int i] ∧ Q (.int (if i < 0 then -i else i)) H) (tCons ta tNil)) σ H (.int (i.natAbs : Int)) := fun H1 e Q q => h H1 e _ fun H2 e2 => ⟨i, rfl, by
  rw [show (if i < 0 then -i else i) = (i.natAbs : Int) by split <;> omega]
  exact q H2 e2⟩
theorem ev_lenL {a : Addr} {xs : List V} (h : Ev ta σ H (.ref a)) (hx : SqL K H a xs) : Ev (tCB (fun xs H Q => ∃ p ys, xs = [.ref p] ∧ (SqL K H p ys ∨ SqT K H p ys) ∧ Q (.int ys.length) H) (tCons ta tNil)) σ H (.int (xs.length : Int)) := ev_len h hx
theorem ev_lenT {a : Addr} {xs : List V} (h : Ev ta σ H (.ref a)) (hx : SqT K H a xs) : Ev (tCB (fun xs H Q => ∃ p ys, xs = [.ref p] ∧ (SqL K H p ys ∨ SqT K H p ys) ∧ Q (.int ys.length) H) (tCons ta tNil)) σ H (.int (xs.length : Int)) := fun H1 e Q q =>
  h H1 e _ fun H2 e2 => ⟨a, xs, rfl, Or.inr (ex_t (e.trans e2) hx), q H2 e2⟩
theorem ev_lenNL {xs : List V} (h : EvL ta σ H xs) : Ev (tCB (fun xs H Q => ∃ p ys, xs = [.ref p] ∧ (SqL K H p ys ∨ SqT K H p ys) ∧ Q (.int ys.length) H) (tCons ta tNil)) σ H (.int (xs.length : Int)) := ev_lenN h
theorem ev_ixT {a : Addr} {xs : List V} {i : Int} (h : Ev ta σ H (.ref a)) (hx : SqT K H a xs) (h2 : Ev tb σ H (.int i)) (hv : atI xs i = some v) : Ev (tOp (rIxT K) ta tb) σ H v := ev_op h h2 (rv_ixT hx hv)
theorem ev_ixL {a : Addr} {xs : List V} {i : Int} (h : Ev ta σ H (.ref a)) (hx : SqL K H a xs) (h2 : Ev tb σ H (.int i)) (hv : atI xs i = some v) : Ev (tOp (rIxL K) ta tb) σ H v := ev_op h h2 (rv_ixL hx hv)
end
end Cp
/-! Cp1 -/
namespace Cp
open PySem PySem.Spec PyProof.Rows L2
theorem same_new {H : Hp} {p : Addr} {o : HO} (h : H p = none) : Same H (upd H p o) := fun b x e => by
  rw [upd_ne (ne_of_none e h)]
  exact e
theorem Same.seqT {K : PySem.W.Frag} {H H' : Hp} {a : Addr} {xs : List V} (e : Same H H') (h : SqT K H a xs) : SqT K H' a xs := by
  rcases h with (h | ⟨o, h⟩) | h
  · exact .inl (.inl (e _ _ h))
  · exact .inl (.inr ⟨o, e _ _ h⟩)
  · exact .inr h
section
variable {P : Program} {w : World} {K : PySem.W.Frag} {mg : Str → Option Value} {base : Heap} {D : Ad}
/-! ### place -/
def spPlace : Sp := fun vs H Q _ => ∃ n : Int, vs = [.int n] ∧ Q (.int (rank n)) H
theorem sb_place {n : Int} {H : Hp} {Q : VK} {E : XK} (h : Q (.int (rank n)) H) : spPlace [.int n] H Q E := ⟨n, rfl, h⟩
theorem rank_is (n : Int) : 2 * (if n < 0 then -n else n) + (if 0 < n then 1 else 0) = rank n := by
  unfold rank
  split <;> split <;> omega
theorem ok_place (T : Txt K mg D) : FnOk P w K mg base CX0 1 D.a_place D.d_place ["literal"] spPlace := by
  refine T.f_place.ok sc_place (fun vs H Q E h => ?_) (fun cdv A outer s H vs Q E hr h => ?_)
  · obtain ⟨n, rfl, _⟩ := h
    rfl
  · obtain ⟨n, rfl, q⟩ := h
    refine ⟨_, (pss_one (ps_ret (pe_op op_add (pe_op op_mul pe_int (pe_callB call_abs (by rfl) T.b_abs (by decide +kernel) (pa_cons (pv 0) pa_nil))) (pe_ifExp (pt_cmpR op_gt (pv 0) pe_int (nomark _)) pe_int pe_int)))), ?_⟩
    refine ⟨.int n, rfl, n, rfl, 2, _, rfl, rfl, .inl ⟨by decide, by decide⟩, .int n, rfl, n, 0, rfl, rfl, _, rfl, ?_⟩
    rw [← rank_is] at q
    by_cases c : 0 < n
    · rw [if_pos c] at q
      rw [decide_eq_true c]
      exact iteT ⟨_, _, rfl, rfl, q⟩
    · rw [if_neg c] at q
      rw [decide_eq_false c]
      exact iteF ⟨_, _, rfl, rfl, q⟩
/-! ### clause_of -/
def spClause (K : PySem.W.Frag) : Sp := fun vs H Q _ => ∃ (a : Addr) (ns : List Int), vs = [.ref a] ∧ SqL K H a (ns.map V.int) ∧ ns.length ≤ 1000 ∧
  ∀ (H' : Hp) (p : Addr), Same H H' → H p = none → H' p = some (.tup ((Sm15.clauseOf ns).map V.int)) → Q (.ref p) H'
theorem sorted_clause {ns l : List Int} (pw : l.Pairwise (· < ·)) (hm : ∀ k, k ∈ l ↔ decide (k ∈ ns) = true) : (l.mergeSort fun a b => decide (rank a ≤ rank b)) = Sm15.clauseOf ns := by
  have pm := List.mergeSort_perm l fun a b => decide (rank a ≤ rank b)
  refine clauseOf_one ?_ fun y => ?_
  · have st := List.pairwise_mergeSort (le := fun a b => decide (rank a ≤ rank b)) (fun a b c h1 h2 => by
      have h1 := of_decide_eq_true h1
      have h2 := of_decide_eq_true h2
      exact decide_eq_true (by omega)) (fun a b => by
      by_cases h : rank a ≤ rank b
      · simp [h]
      · have : rank b ≤ rank a := by omega
        simp [this]) l
    have nd : (l.mergeSort fun a b => decide (rank a ≤ rank b)).Nodup := pm.nodup_iff.mpr (pw.imp fun {a b} h => by omega)
    refine (st.and nd).imp fun {a b} h => ?_
    have h1 := of_decide_eq_true h.1
    have h2 : rank a ≠ rank b := fun z => h.2 (rank_inj z)
    omega
  · rw [pm.mem_iff, hm y, decide_eq_true_iff]
theorem ok_clause_of (T : Txt K mg D) : FnOk P w K mg base CX0 4 D.a_clause_of D.d_clause_of ["literals"] (spClause K) := by
  refine T.f_clause_of.ok sc_clause_of (fun vs H Q E h => ?_) (fun cdv A outer s H vs Q E hr h => ?_)
  · obtain ⟨n, _, rfl, _⟩ := h
    rfl
  · obtain ⟨a, ns, rfl, hS, hlen, q⟩ := h
    refine ⟨_, (pss_one (ps_ret (pe_callTy call_tuple_of (by rfl) T.b_tuple (by decide +kernel) (pa_cons (pe_callBK (cr_sortBy (ok_place T) hr T.n_place (fun n H Q E h => sb_place h)) (by rfl) T.b_sorted (by decide +kernel) (pa_cons (pe_callB (cr_sortSetB (by rfl)) (by rfl) T.b_sorted (by decide +kernel) (pa_cons (pe_callTy (cr_setL (by rfl)) (by rfl) T.b_set (by decide +kernel) (pa_cons (pv 0) pa_nil)) pa_nil)) pa_nil) (pk_cons (pe_gr (by rfl) T.g_place) pk_nil)) pa_nil)))), ?_⟩
    refine ⟨.ref a, rfl, a, ns, rfl, .inl hS, hlen, fun p l nd hm np => ?_⟩
    obtain ⟨l', l1, l2⟩ := nodup_sub nd fun y hy => (hm y).mp hy
    have ll : l.length ≤ ns.length := by rw [← l2.length_eq]; exact l1.length_le
    refine ⟨p, _, _, rfl, upd_same, by omega, fun n1 p1 pw hm1 hl1 np1 => ?_⟩
    refine ⟨p1, n1, rfl, rfl, SqL.of upd_same, fun p2 np2 => ?_⟩
    refine ⟨p2, _, rfl, .inl ⟨SqL.of upd_same, fun p3 np3 => ?_⟩⟩
    have s1 := same_new (o := SetO w p (fun j => decide (j ∈ ns)) l.length) np
    have s2 := same_new (o := .lst (n1.map V.int)) np1
    have s3 := same_new (o := .lst ((n1.mergeSort fun a b => decide (rank a ≤ rank b)).map V.int)) np2
    have s4 := same_new (o := .tup ((n1.mergeSort fun a b => decide (rank a ≤ rank b)).map V.int)) np3
    have s14 := s1.trans (s2.trans s3)
    refine q _ p3 (s14.trans s4) (s14.free np3) ?_
    rw [upd_same, sorted_clause pw hm1]
end
end Cp
/-! Cp2 -/
namespace Cp
open PySem PySem.Spec PyProof.Rows L2 Evl
section
variable {P : Program} {w : World} {K : PySem.W.Frag} {mg : Str → Option Value} {base : Heap} {D : Ad}
/-! ### opposites -/
def spOpp (K : PySem.W.Frag) : Sp := fun vs H Q _ => ∃ (a : Addr) (ns : List Int), vs = [.ref a] ∧ SqQ K H a (ns.map V.int) ∧ ns.length ≤ 1000 ∧ RetL ((ns.map fun n => -n).map V.int) H Q
theorem ok_opposites (T : Txt K mg D) : FnOk P w K mg base CX0 1 D.a_opposites D.d_opposites ["literals"] (spOpp K) := by
  refine T.f_opposites.ok sc_opposites (fun vs H Q E h => ?_) (fun cdv A outer s H vs Q E hr h => ?_)
  · obtain ⟨n, _, rfl, _⟩ := h
    rfl
  · obtain ⟨a, ns, rfl, hS, hlen, q⟩ := h
    refine ⟨_, (pss_one (ps_ret (pe_lc (own := [("literal", 1)]) (g := gName 1) (by rfl) sc_opposites.nd (pi_or (pi_list (pv 0)) (pi_tup (pv 0))) (blkOk_by (own := [("literal", 1)]) (N := ["literals", "literal"]) (sc := defScope s_opposites) (by decide +kernel)) (fun _ _ _ _ _ => (pg_name (i := 1) sc_opposites.nd rfl (Or.inl rfl))) (fun _ _ _ _ _ => pts_nil) (fun _ _ _ _ _ => (pe_un un_neg (pv 1)))))), ?_⟩
    have g := lcQ (K := K) (σ := [some (.ref a), none]) (H := H) (t := tYes) (tl := tVar 0) (j := 1) (vs := [1]) (emb := V.int) (fun _ => true) (fun n => V.int (-n)) (ev_var rfl) hS (by omega) (fun x => rfl) (fun m _ H1 e => et_yes) (fun m _ H1 e _ => ev_neg (i := m) (ev_var (i := 1) rfl))
    rw [filter_yes, show ns.map (fun n => V.int (-n)) = (ns.map fun n => -n).map V.int by rw [List.map_map]; rfl] at g
    exact s_retL g q
/-! ### without -/
def spWo (K : PySem.W.Frag) : Sp := fun vs H Q _ => ∃ (a : Addr) (ns : List Int) (k : Int), vs = [.ref a, .int k] ∧ SqT K H a (ns.map V.int) ∧ ns.length ≤ 1000 ∧ RetL ((ns.filter fun x => x != k).map V.int) H Q
theorem ok_without (T : Txt K mg D) : FnOk P w K mg base CX0 1 D.a_without D.d_without ["clause", "literal"] (spWo K) := by
  refine T.f_without.ok sc_without (fun vs H Q E h => ?_) (fun cdv A outer s H vs Q E hr h => ?_)
  · obtain ⟨n, _, _, rfl, _⟩ := h
    rfl
  · obtain ⟨a, ns, k, rfl, hS, hlen, q⟩ := h
    refine ⟨_, (pss_one (ps_ret (pe_lc (own := [("other", 2)]) (g := gName 2) (by rfl) sc_without.nd (pi_tup (pv 0)) (blkOk_by (own := [("other", 2)]) (N := ["clause", "literal", "other"]) (sc := defScope s_without) (by decide +kernel)) (fun _ _ _ _ _ => (pg_name (i := 2) sc_without.nd rfl (Or.inl rfl))) (fun _ _ _ _ _ => (pts_one (pt_cmpR op_ne (pv 2) (pv 1) (nomark _)))) (fun _ _ _ _ _ => (pv 2))))), ?_⟩
    have g := lcT (K := K) (σ := [some (.ref a), some (.int k), none]) (H := H) (t := tTest (tOp rNe (tVar 2) (tVar 1))) (te := tVar 2) (tl := tVar 0) (j := 2) (vs := [2]) (emb := V.int) (fun x => x != k) V.int (ev_var rfl) hS (by omega) (fun x => rfl)
      (fun m _ H1 e => et_is (et_test (ev_ne (i := m) (j := k) (ev_var (i := 2) rfl) (ev_var (i := 1) rfl))) (by
        rw [Bool.eq_iff_iff]
        simp)) (fun m _ H1 e _ => ev_var (i := 2) rfl)
    exact s_retL g q
/-! ### is_loose -/
def spLoose (K : PySem.W.Frag) : Sp := fun vs H Q _ => ∃ (a : Addr) (ns : List Int), vs = [.ref a] ∧ SqT K H a (ns.map V.int) ∧ ns.length ≤ 1000 ∧ RetV (.bl (Sm15.loose ns)) H Q
theorem ok_is_loose (T : Txt K mg D) : FnOk P w K mg base CX0 1 D.a_is_loose D.d_is_loose ["clause"] (spLoose K) := by
  refine T.f_is_loose.ok sc_is_loose (fun vs H Q E h => ?_) (fun cdv A outer s H vs Q E hr h => ?_)
  · obtain ⟨n, _, rfl, _⟩ := h
    rfl
  · obtain ⟨a, ns, rfl, hS, hlen, q⟩ := h
    refine ⟨_, (pss_one (ps_ret (pe_callB (cr_any (by rfl)) (by rfl) T.b_any (by decide +kernel) (pa_cons (pe_lc (own := [("literal", 1)]) (g := gName 1) (by rfl) sc_is_loose.nd (pi_tup (pv 0)) (blkOk_by (own := [("literal", 1)]) (N := ["clause", "literal"]) (sc := defScope s_is_loose) (by decide +kernel)) (fun _ _ _ _ _ => (pg_name (i := 1) sc_is_loose.nd rfl (Or.inl rfl))) (fun _ _ _ _ _ => pts_nil) (fun _ _ _ _ _ => (pe_cmpR (op_inK K) (pe_un un_neg (pv 1)) (pv 0) (by rfl)))) pa_nil)))), ?_⟩
    have g := lcT (K := K) (σ := [some (.ref a), none]) (H := H) (t := tYes) (tl := tVar 0) (j := 1) (vs := [1]) (emb := V.int) (fun _ => true) (fun n => V.bl (ns.contains (-n))) (ev_var rfl) hS (by omega) (fun x => rfl) (fun m _ H1 e => et_yes)
      (fun m _ H1 e _ => ev_inT (K := K) (ev_neg (i := m) (ev_var (i := 1) rfl)) (ev_var (i := 0) rfl) (ex_t e hS))
    rw [filter_yes, show ns.map (fun n => V.bl (ns.contains (-n))) = (ns.map fun n => ns.contains (-n)).map V.bl by rw [List.map_map]; rfl] at g
    have g2 := ev_any (K := K) g
    rw [any_map_id] at g2
    refine s_ret g2 fun H1 e => ?_
    have z := q H1 e
    have ez : Sm15.loose ns = ns.any fun n => ns.contains (-n) := by
      unfold Sm15.loose
      simp only [Int.zero_sub]
    rw [ez] at z
    exact z
/-! ### put_together -/
/-- two clauses put together -/
def joinC (x y : List Int) (a : Int) : List Int := Sm15.clauseOf ((x.filter fun z => z != a) ++ y.filter fun z => z != -a)
def spPt (K : PySem.W.Frag) : Sp := fun vs H Q _ => ∃ (t1 t2 : Addr) (x y : List Int) (a : Int), vs = [.ref t1, .ref t2, .int a] ∧ SqT K H t1 (x.map V.int) ∧ SqT K H t2 (y.map V.int) ∧ x.length ≤ 400 ∧ y.length ≤ 400 ∧ RetU ((joinC x y a).map V.int) H Q
theorem ok_put_together (T : Txt K mg D) : FnOk P w K mg base CX0 5 D.a_put_together D.d_put_together ["first", "second", "atom"] (spPt K) := by
  refine T.f_put_together.ok sc_put_together (fun vs H Q E h => ?_) (fun cdv A outer s H vs Q E hr h => ?_)
  · obtain ⟨_, _, _, _, _, rfl, _⟩ := h
    rfl
  · obtain ⟨t1, t2, x, y, a, rfl, h1, h2, z1, z2, q⟩ := h
    refine ⟨_, (pss_one (ps_ret (pe_call (ok_clause_of T) hr (by rfl) T.g_clause_of T.f_clause_of.kp T.n_clause_of .nil pass0 (pa_cons (pe_op op_cat (pe_call (ok_without T) (hr.mono (by decide)) (by rfl) T.g_without T.f_without.kp T.n_without .nil pass0 (pa_cons (pv 0) (pa_cons (pv 2) pa_nil))) (pe_call (ok_without T) (hr.mono (by decide)) (by rfl) T.g_without T.f_without.kp T.n_without .nil pass0 (pa_cons (pv 1) (pa_cons (pe_un un_neg (pv 2)) pa_nil)))) pa_nil)))), ?_⟩
    refine ⟨.ref t1, rfl, .int a, rfl, t1, x, a, rfl, h1, by omega, fun p1 H2 n1 e2 w1 => ?_⟩
    refine ⟨.ref t2, rfl, .int a, rfl, a, rfl, t2, y, -a, rfl, ex_t e2 h2, by omega, fun p2 H3 n2 e3 w2 => ?_⟩
    have f1 := List.length_filter_le (fun z => z != a) x
    have f2 := List.length_filter_le (fun z => z != -a) y
    refine ⟨p1, p2, _, _, rfl, rfl, e3 _ _ w1, w2, sz_of (by rw [List.length_map, List.length_map]; omega), fun p3 n3 => ?_⟩
    refine ⟨p3, (x.filter fun z => z != a) ++ y.filter fun z => z != -a, rfl, SqL.of (by rw [upd_same, List.map_append]), by rw [List.length_append]; omega, fun H4 p4 s4 n4 w4 => ?_⟩
    have e4 : Ex H3 H4 := (Ex.new n3).trans s4
    refine q p4 H4 ?_ ((e2.trans e3).trans e4) w4
    exact fresh_back ((e2.trans e3).trans (Ex.new n3)) n4
/-! ### is_broken -/
def spBr (K : PySem.W.Frag) : Sp := fun vs H Q _ => ∃ (tc aS : Addr) (c so : List Int), vs = [.ref tc, .ref aS] ∧ SqT K H tc (c.map V.int) ∧ SqL K H aS (so.map V.int) ∧ c.length ≤ 1000 ∧ RetV (.bl (brokenBy c so)) H Q
theorem ok_is_broken (T : Txt K mg D) : FnOk P w K mg base CX0 1 D.a_is_broken D.d_is_broken ["clause", "so"] (spBr K) := by
  refine T.f_is_broken.ok sc_is_broken (fun vs H Q E h => ?_) (fun cdv A outer s H vs Q E hr h => ?_)
  · obtain ⟨_, _, _, _, rfl, _⟩ := h
    rfl
  · obtain ⟨tc, aS, c, so, rfl, hc, hS, hz, q⟩ := h
    refine ⟨_, (pss_one (ps_ret (pe_callB (cr_all (by rfl)) (by rfl) T.b_all (by decide +kernel) (pa_cons (pe_lc (own := [("literal", 2)]) (g := gName 2) (by rfl) sc_is_broken.nd (pi_tup (pv 0)) (blkOk_by (own := [("literal", 2)]) (N := ["clause", "so", "literal"]) (sc := defScope s_is_broken) (by decide +kernel)) (fun _ _ _ _ _ => (pg_name (i := 2) sc_is_broken.nd rfl (Or.inl rfl))) (fun _ _ _ _ _ => pts_nil) (fun _ _ _ _ _ => (pe_cmpR (op_inK K) (pe_un un_neg (pv 2)) (pv 1) (by rfl)))) pa_nil)))), ?_⟩
    have g := lcT (K := K) (σ := [some (.ref tc), some (.ref aS), none]) (H := H) (t := tYes) (tl := tVar 0) (j := 2) (vs := [2]) (emb := V.int) (fun _ => true) (fun n => V.bl (so.contains (-n))) (ev_var rfl) hc (by omega) (fun x => rfl) (fun m _ H1 e => et_yes)
      (fun m _ H1 e _ => ev_inL (K := K) (ev_neg (i := m) (ev_var (i := 2) rfl)) (ev_var (i := 1) rfl) (ex_l e hS))
    rw [filter_yes, show c.map (fun n => V.bl (so.contains (-n))) = (c.map fun n => so.contains (-n)).map V.bl by rw [List.map_map]; rfl] at g
    have g2 := ev_all (K := K) g
    rw [all_map_id] at g2
    exact s_ret g2 q
end
end Cp
/-! Cp3 -/
namespace Cp
open PySem PySem.Spec PyProof.Rows L2 Evl
/-! ### how atoms and bounds lie in the heap -/
/-- all but the object at v stands -/
def ExB (v : Addr) (H H' : Hp) : Prop := ∀ b o, b ≠ v → H b = some o → H' b = some o
theorem ExB.refl (v : Addr) (H : Hp) : ExB v H H := fun _ _ _ h => h
theorem ExB.trans {v : Addr} {H H1 H2 : Hp} (a : ExB v H H1) (b : ExB v H1 H2) : ExB v H H2 := fun c o n h => b c o n (a c o n h)
theorem ExB.of {v : Addr} {H H' : Hp} (e : Ex H H') : ExB v H H' := fun b o _ h => e b o h
theorem ExB.upd {v : Addr} {H : Hp} {o : HO} : ExB v H (upd H v o) := fun b u n h => by
  rw [upd_ne n]
  exact h
theorem ExB.new {v : Addr} {H H1 H2 : Hp} (e : Ex H H1) (h : H v = none) (k : ExB v H1 H2) : Ex H H2 := fun b o q => k b o (ne_of_none q h) (e b o q)
theorem ExB.tup {K : PySem.W.Frag} {v p : Addr} {H H' : Hp} {xs ys : List V} (e : ExB v H H') (hv : H v = some (.lst xs)) (h : SqT K H p ys) : SqT K H' p ys := by
  rcases h with (h | ⟨o, h⟩) | h
  · exact .inl (.inl (e _ _ (fun z => by rw [z, hv] at h; cases h) h))
  · exact .inl (.inr ⟨o, e _ _ (fun z => by rw [z, hv] at h; cases h) h⟩)
  · exact .inr h
theorem ExB.lst {K : PySem.W.Frag} {v p : Addr} {H H' : Hp} {ys : List V} (e : ExB v H H') (hn : p ≠ v) (h : SqL K H p ys) : SqL K H' p ys := by
  rcases h with (h | ⟨o, h⟩) | h
  · exact .inl (.inl (e _ _ hn h))
  · exact .inl (.inr ⟨o, e _ _ hn h⟩)
  · exact .inr h
def AtomAt (K : PySem.W.Frag) (H : Hp) (p : Addr) : Sm15.Atom → Prop
  | .yes => SqT K H p []
  | .bound a b c => SqT K H p [.int (a : Int), .int (b : Int), .int c]
theorem AtomAt.ex {K : PySem.W.Frag} {H H' : Hp} {p : Addr} (e : Ex H H') : ∀ {x : Sm15.Atom}, AtomAt K H p x → AtomAt K H' p x
  | .yes, h => ex_t e h
  | .bound _ _ _, h => ex_t e h
def EdgeAt (K : PySem.W.Frag) (H : Hp) (p : Addr) (e : Sm15.Edge) : Prop := SqT K H p [.int (e.a : Int), .int (e.b : Int), .int e.c]
theorem EdgeAt.ex {K : PySem.W.Frag} {H H' : Hp} {p : Addr} {x : Sm15.Edge} (e : Ex H H') (h : EdgeAt K H p x) : EdgeAt K H' p x := ex_t e h
theorem EdgeAt.exb {K : PySem.W.Frag} {v p : Addr} {H H' : Hp} {xs : List V} {x : Sm15.Edge} (e : ExB v H H') (hv : H v = some (.lst xs)) (h : EdgeAt K H p x) : EdgeAt K H' p x := ExB.tup e hv h
theorem pr_imp {α β : Type} {R S : α → β → Prop} (f : ∀ a b, R a b → S a b) : ∀ {as : List α} {bs : List β}, Paired R as bs → Paired S as bs
  | _, _, .nil => .nil
  | _, _, .cons h t => .cons (f _ _ h) (pr_imp f t)
theorem pr_get {α β : Type} {R : α → β → Prop} : ∀ {as : List α} {bs : List β}, Paired R as bs → ∀ {i : Nat} {b : β}, bs[i]? = some b → ∃ a, as[i]? = some a ∧ R a b
  | _, _, .nil, i, b, h => by simp at h
  | _, _, .cons h t, 0, b, q => by
    simp at q
    subst q
    exact ⟨_, rfl, h⟩
  | _, _, .cons h t, i + 1, b, q => by
    simp at q
    obtain ⟨a, e, r⟩ := pr_get t q
    exact ⟨a, by simpa using e, r⟩
theorem pr_get2 {α β : Type} {R : α → β → Prop} : ∀ {as : List α} {bs : List β}, Paired R as bs → ∀ {i : Nat} {a : α}, as[i]? = some a → ∃ b, bs[i]? = some b ∧ R a b
  | _, _, .nil, i, b, h => by simp at h
  | _, _, .cons h t, 0, b, q => by
    simp at q
    subst q
    exact ⟨_, rfl, h⟩
  | _, _, .cons h t, i + 1, b, q => by
    simp at q
    obtain ⟨a, e, r⟩ := pr_get2 t q
    exact ⟨a, by simpa using e, r⟩
theorem pr_snoc {α β : Type} {R : α → β → Prop} {a : α} {b : β} (h : R a b) : ∀ {as : List α} {bs : List β}, Paired R as bs → Paired R (as ++ [a]) (bs ++ [b])
  | _, _, .nil => .cons h .nil
  | _, _, .cons q t => .cons q (pr_snoc h t)
theorem pr_len {α β : Type} {R : α → β → Prop} : ∀ {as : List α} {bs : List β}, Paired R as bs → as.length = bs.length
  | _, _, .nil => rfl
  | _, _, .cons _ t => congrArg (· + 1) (pr_len t)
def AtomsAt (K : PySem.W.Frag) (H : Hp) (a : Addr) (as : List Sm15.Atom) : Prop := ∃ ps : List Addr, SqL K H a (ps.map V.ref) ∧ Paired (AtomAt K H) ps as
theorem AtomsAt.ex {K : PySem.W.Frag} {H H' : Hp} {a : Addr} {as : List Sm15.Atom} (e : Ex H H') (h : AtomsAt K H a as) : AtomsAt K H' a as := by
  obtain ⟨ps, h1, h2⟩ := h
  exact ⟨ps, ex_l e h1, pr_imp (fun _ _ => AtomAt.ex e) h2⟩
def EdgesAt (K : PySem.W.Frag) (H : Hp) (a : Addr) (es : List Sm15.Edge) : Prop := ∃ ps : List Addr, H a = some (.lst (ps.map V.ref)) ∧ Paired (EdgeAt K H) ps es
theorem at3_0 {x y z : V} : atI [x, y, z] 0 = some x := rfl
theorem at3_1 {x y z : V} : atI [x, y, z] 1 = some y := rfl
theorem at3_2 {x y z : V} : atI [x, y, z] 2 = some z := rfl
theorem at_ints {vs : List Int} {j : Nat} (h : j < vs.length) : atI (vs.map V.int) (j : Int) = some (.int (vs.getD j 0)) := by
  refine atI_nat ?_
  rw [List.getElem?_map, List.getD_eq_getElem?_getD, List.getElem?_eq_getElem h]
  rfl
section
variable {P : Program} {w : World} {K : PySem.W.Frag} {mg : Str → Option Value} {base : Heap} {D : Ad}
/-! ### said_by -/
def edgeBy (a b : Nat) (c k : Int) : Sm15.Edge := if 0 < k then ⟨a, b, c⟩ else ⟨b, a, 0 - c - 1⟩
def spSaid (K : PySem.W.Frag) : Sp := fun vs H Q _ => ∃ (p : Addr) (a b : Nat) (c k : Int), vs = [.ref p, .int k] ∧ SqT K H p [.int (a : Int), .int (b : Int), .int c] ∧
  ∀ (q : Addr) (H2 : Hp), Ex H H2 → EdgeAt K H2 q (edgeBy a b c k) → Q (.ref q) H2
theorem ok_said_by (T : Txt K mg D) : FnOk P w K mg base CX0 1 D.a_said_by D.d_said_by ["atom", "literal"] (spSaid K) := by
  refine T.f_said_by.ok sc_said_by (fun vs H Q E h => ?_) (fun cdv A outer s H vs Q E hr h => ?_)
  · obtain ⟨_, _, _, _, _, rfl, _⟩ := h
    rfl
  · obtain ⟨p, a, b, c, k, rfl, hS, q⟩ := h
    refine ⟨_, (pss_cons (ps_if (pt_cmpR op_gt (pv 1) pe_int (nomark _)) (pss_one (ps_ret (pv 0))) pss_nil)
      (pss_one (ps_ret (pe_tup (pa_cons (pe_ix ix_tup (pv 0) pe_int (fun _ _ => rfl)) (pa_cons (pe_ix ix_tup (pv 0) pe_int (fun _ _ => rfl)) (pa_cons (pe_op op_sub (pe_un un_neg (pe_ix ix_tup (pv 0) pe_int (fun _ _ => rfl))) pe_int) pa_nil))))))), ?_⟩
    refine q_when (et_test (ev_gt (i := k) (j := 0) (ev_var (i := 1) rfl) ev_c)) (fun hb H1 e1 => ?_) (fun hb H1 e1 => ?_)
    · refine s_ret (ev_var (i := 0) rfl) fun H2 e2 => q p H2 (e1.trans e2) ?_
      unfold edgeBy
      rw [if_pos (of_decide_eq_true hb)]
      exact ex_t (e1.trans e2) hS
    · have h1 := ex_t e1 hS
      refine s_retU (xs := [.int (b : Int), .int (a : Int), .int (-c - 1)]) (eu_tup (ea_cons (ev_ixT (ev_var (i := 0) rfl) h1 ev_c at3_1) (ea_cons (ev_ixT (ev_var (i := 0) rfl) h1 ev_c at3_0)
        (ea_cons (ev_sub (ev_neg (ev_ixT (ev_var (i := 0) rfl) h1 ev_c at3_2)) ev_c) ea_nil))) (by show 3 ≤ 100000; decide)) fun r H2 _ e2 h2 => q r H2 (e1.trans e2) ?_
      unfold edgeBy EdgeAt
      rw [if_neg (of_decide_eq_false hb), Int.zero_sub]
      exact st_of h2
/-! ### bounds_said -/
theorem edgeOf_yes {as : List Sm15.Atom} {l : Int} (h : as[l.natAbs - 1]? = some .yes) : Sm15.edgeOf as l = none := by
  unfold Sm15.edgeOf
  rw [h]
theorem edgeOf_bound {as : List Sm15.Atom} {l : Int} {a b : Nat} {c : Int} (h : as[l.natAbs - 1]? = some (.bound a b c)) : Sm15.edgeOf as l = some (edgeBy a b c l) := by
  unfold Sm15.edgeOf edgeBy
  rw [h]
  dsimp only
  split <;> rfl
theorem edgesOf_more {as : List Sm15.Atom} {ls : List Int} {i : Nat} {l : Int} (h : ls[i]? = some l) : Sm15.edgesOf as (ls.take (i + 1)) = Sm15.edgesOf as (ls.take i) ++ (Sm15.edgeOf as l).toList := by
  unfold Sm15.edgesOf
  rw [List.take_add_one, h, List.filterMap_append]
  cases q : Sm15.edgeOf as l <;> simp [q]
def spBs (K : PySem.W.Frag) : Sp := fun vs H Q _ => ∃ (aA aL : Addr) (as : List Sm15.Atom) (ls : List Int), vs = [.ref aA, .ref aL] ∧ AtomsAt K H aA as ∧ SqL K H aL (ls.map V.int) ∧ Lits as.length ls ∧ ls.length ≤ 1000 ∧
  ∀ (q : Addr) (H2 : Hp), H q = none → Ex H H2 → EdgesAt K H2 q (Sm15.edgesOf as ls) → Q (.ref q) H2
theorem dp_tup0 {K : PySem.W.Frag} {H : Hp} {p : Addr} (h : SqT K H p []) : Dp K H (.ref p) (.tuple []) := .tup h .nil
theorem dp_tup3 {K : PySem.W.Frag} {H : Hp} {p : Addr} {x y z : Int} (h : SqT K H p [.int x, .int y, .int z]) : Dp K H (.ref p) (.tuple [.int x, .int y, .int z]) := .tup h (.cons (.int _) (.cons (.int _) (.cons (.int _) .nil)))
theorem ok_bounds_said (T : Txt K mg D) : FnOk P w K mg base CX0 2 D.a_bounds_said D.d_bounds_said ["atoms", "literals"] (spBs K) := by
  refine T.f_bounds_said.ok sc_bounds_said (fun vs H Q E h => ?_) (fun cdv A outer s H vs Q E hr h => ?_)
  · obtain ⟨_, _, _, _, rfl, _⟩ := h
    rfl
  · obtain ⟨aA, aL, as, ls, rfl, hA, hL, hl, hz, q⟩ := h
    refine ⟨_, (pss_cons (ps_set (i := 2) sc_bounds_said.nd rfl (Or.inl rfl) (pe_lst pa_nil))
      (pss_cons (ps_for PassesOwn.never rfl (pi_list (pv 1)) (pg_name (i := 3) sc_bounds_said.nd rfl (Or.inl rfl)) (pss_cons (ps_set (i := 4) sc_bounds_said.nd rfl (Or.inl rfl) (pe_ix ix_list (pv 0) (pe_op op_sub (pe_callB call_abs (by rfl) T.b_abs (by decide +kernel) (pa_cons (pv 3) pa_nil)) pe_int) (fun _ _ => rfl)))
      (pss_one (ps_if (pt_cmpR (op_neD hr.units) (pv 4) (pe_gr (by rfl) T.c_QUESTION) (nomark _)) (pss_one (ps_expr (pe_bm PySem.F.plainAttrs_list PySem.F.slot_list_append PySem.F.type_list_append mt_append (pv 2) (pa_cons (pe_call (ok_said_by T) hr (by rfl) T.g_said_by T.f_said_by.kp T.n_said_by .nil pass0 (pa_cons (pv 4) (pa_cons (pv 3) pa_nil))) pa_nil)))) pss_nil))))
      (pss_one (ps_ret (pv 2))))), ?_⟩
    refine q_asgL (el_lst ea_nil (Nat.zero_le _)) fun o H1 no e1 h1 => ?_
    have pre : ∀ H', Ex H H' → ∀ {i : Nat} {l : Int}, ls[i]? = some l → ∃ (pa : List Addr) (p : Addr) (x : Sm15.Atom), SqL K H' aA (pa.map V.ref) ∧ pa[l.natAbs - 1]? = some p ∧ as[l.natAbs - 1]? = some x ∧ AtomAt K H' p x := by
      intro H' e i l hi
      obtain ⟨pa, s1, s2⟩ := hA.ex e
      have hb := hl l (List.mem_of_getElem? hi)
      have lt : l.natAbs - 1 < as.length := by omega
      obtain ⟨p, hp, r⟩ := pr_get s2 (List.getElem?_eq_getElem lt)
      exact ⟨pa, p, _, s1, hp, List.getElem?_eq_getElem lt, r⟩
    refine q_forLn (K := K) (xs := ls.map V.int) (ev_var (i := 1) rfl) (ex_l e1 hL) (fun i σ H' => ∃ y3 y4, σ = [some (.ref aA), some (.ref aL), some (.ref o), y3, y4] ∧ Ex H H' ∧ ∃ ps : List Addr, H' o = some (.lst (ps.map V.ref)) ∧ Paired (EdgeAt K H') ps (Sm15.edgesOf as (ls.take i)) ∧ ps.length ≤ i)
      (fun H2 e2 => ⟨none, none, rfl, e1.trans e2, [], e2 _ _ h1, .nil, Nat.le_refl _⟩) (fun i σ H' _ ⟨_, _, _, e, _⟩ => ex_l e hL) ?_ ?_
    · rintro i x σ H' hi ⟨y3, y4, rfl, e, ps, hps, hpr, hpl⟩
      obtain ⟨l, hl0, rfl, hmem⟩ := map_at hi
      have hlt : i < ls.length := (List.getElem?_eq_some_iff.mp hl0).1
      obtain ⟨pa, p, x, s1, hp, hx, hat⟩ := pre H' e hl0
      have ab : ((l.natAbs : Int) - 1) = ((l.natAbs - 1 : Nat) : Int) := by
        have := (hl l hmem).1
        omega
      refine q_asg (v := .ref p) (ev_ixL (ev_var (i := 0) rfl) s1 (ev_sub (ev_abs (i := l) (ev_var (i := 3) rfl)) ev_c) (at_of ab (by rw [List.getElem?_map, hp]; rfl))) fun H2 e2 => ?_
      have more := edgesOf_more (as := as) hl0
      cases x with
      | yes =>
        have h0 : SqT K H2 p [] := ex_t e2 hat
        refine s_when (b := false) (et_test (ev_op (z := .bl false) (ev_var (i := 4) rfl) ev_c fun H3 e3 Q3 q3 => ?_)) (fun z => Bool.noConfusion z) fun _ H3 e3 => ?_
        · exact ⟨_, _, dp_tup0 (ex_t e3 h0), dp_tup0 (T.w_QUESTION H3), rfl, rfl, q3 H3 (Ex.refl H3)⟩
        · rw [edgeOf_yes hx] at more
          refine ⟨_, _, rfl, (e.trans e2).trans e3, ps, e3 _ _ (e2 _ _ hps), ?_, by omega⟩
          rw [more, show (none : Option Sm15.Edge).toList = [] from rfl, List.append_nil]
          exact pr_imp (fun _ _ => EdgeAt.ex (e2.trans e3)) hpr
      | bound a b c =>
        have h0 : SqT K H2 p [.int (a : Int), .int (b : Int), .int c] := ex_t e2 hat
        refine s_when (b := true) (et_test (ev_op (z := .bl true) (ev_var (i := 4) rfl) ev_c fun H3 e3 Q3 q3 => ?_)) (fun _ H3 e3 => ?_) fun z => Bool.noConfusion z
        · exact ⟨_, _, dp_tup3 (ex_t e3 h0), dp_tup0 (T.w_QUESTION H3), rfl, rfl, q3 H3 (Ex.refl H3)⟩
        · rw [edgeOf_bound hx] at more
          have ho : H3 o = some (.lst (ps.map V.ref)) := e3 _ _ (e2 _ _ hps)
          refine ⟨.ref o, rfl, .inl ⟨rfl, _, sq_of ho⟩, .ref p, rfl, .int l, rfl, p, a, b, c, l, rfl, ex_t e3 h0, fun r H4 e4 hr4 => ?_⟩
          refine ⟨o, _, _, rfl, rfl, e4 _ _ ho, sz_lt (by rw [List.length_map]; omega), ?_⟩
          have ho4 := e4 _ _ ho
          have eB : ExB o H' (upd H4 o (.lst (ps.map V.ref ++ [.ref r]))) := (ExB.of ((e2.trans e3).trans e4)).trans ExB.upd
          refine ⟨_, _, rfl, ExB.new e no eB, ps ++ [r], by rw [upd_same, List.map_append]; rfl, ?_, by rw [List.length_append]; show ps.length + 1 ≤ i + 1; omega⟩
          rw [more]
          exact pr_snoc (EdgeAt.exb ExB.upd ho4 hr4) (pr_imp (fun _ _ => EdgeAt.exb eB hps) hpr)
    · rintro σ H' ⟨y3, y4, rfl, e, ps, hps, hpr, hpl⟩
      rw [List.length_map, List.take_length] at hpr
      exact s_ret (ev_var (i := 2) rfl) fun H2 e2 => q o H2 no (e.trans e2) ⟨ps, e2 _ _ hps, pr_imp (fun _ _ => EdgeAt.ex e2) hpr⟩
/-! ### lower_once -/
theorem low1_ne {v : List Int} {e : Sm15.Edge} (h : v.getD e.b 0 + e.c < v.getD e.a 0) (ha : e.a < v.length) : ∀ w, Le w (low1 v e) → w ≠ v := by
  intro w hw z
  have q := hw e.a
  unfold low1 at q
  rw [if_pos h, getD_set, if_pos ⟨rfl, ha⟩, z] at q
  omega
/-- whether a round has changed something -/
def lowF (s : List Int × Bool) (e : Sm15.Edge) : List Int × Bool := if s.1.getD e.b 0 + e.c < s.1.getD e.a 0 then (low1 s.1 e, true) else s
theorem lowF_fst (s : List Int × Bool) (e : Sm15.Edge) : (lowF s e).1 = low1 s.1 e := by
  unfold lowF low1
  split <;> rfl
theorem foldF_fst : ∀ (es : List Sm15.Edge) (s : List Int × Bool), (es.foldl lowF s).1 = es.foldl low1 s.1
  | [], s => rfl
  | e :: r, s => by rw [List.foldl_cons, List.foldl_cons, foldF_fst r, lowF_fst]
theorem foldF_snd {u : Nat} : ∀ (es : List Sm15.Edge) (s : List Int × Bool), Good u es → s.1.length = u + 1 → (es.foldl lowF s).2 = (s.2 || !decide (es.foldl low1 s.1 = s.1))
  | [], s, _, _ => by simp
  | e :: r, s, hg, hl => by
    have ha : e.a < s.1.length := by have := (hg e (by simp)).1; omega
    have ih := foldF_snd r (lowF s e) (fun e' he => hg e' (by simp [he])) (by rw [lowF_fst, low1_len, hl])
    rw [List.foldl_cons, ih, lowF_fst, List.foldl_cons]
    by_cases c : s.1.getD e.b 0 + e.c < s.1.getD e.a 0
    · have n1 := low1_ne c ha (r.foldl low1 (low1 s.1 e)) (fold_le r _)
      have e2 : (lowF s e).2 = true := by unfold lowF; rw [if_pos c]
      rw [e2, decide_eq_false n1]
      simp
    · have e1 : lowF s e = s := by unfold lowF; rw [if_neg c]
      have e3 : low1 s.1 e = s.1 := by unfold low1; rw [if_neg c]
      rw [e1, e3]
/-- a round over numbers that need not be known -/
def lowO (s : List (Option Int) × Bool) (e : Sm15.Edge) : List (Option Int) × Bool := match s.1.getD e.b none with
  | none => s
  | some m => if (match s.1.getD e.a none with | none => true | some h => decide (m + e.c < h)) = true then (s.1.set e.a (some (m + e.c)), true) else s
theorem set_selfO (v : List (Option Int)) (i : Nat) : v.set i (v.getD i none) = v := by
  apply List.ext_getElem?
  intro j
  rw [List.getElem?_set]
  split
  · rename_i e
    subst e
    split
    · rename_i h
      rw [List.getD_eq_getElem?_getD, List.getElem?_eq_getElem h]
      rfl
    · rename_i h
      rw [List.getElem?_eq_none (by omega)]
  · rfl
theorem lowO_fst (s : List (Option Int) × Bool) (e : Sm15.Edge) : (lowO s e).1 = relax s.1 e := by
  unfold lowO relax
  cases qb : s.1.getD e.b none with
  | none =>
    dsimp only
    rw [Option.map_none, show Sm15.less (s.1.getD e.a none) none = s.1.getD e.a none by cases s.1.getD e.a none <;> rfl, set_selfO]
  | some m =>
    dsimp only
    rw [Option.map_some]
    cases qa : s.1.getD e.a none with
    | none =>
      rw [if_pos rfl]
      show s.1.set e.a (some (m + e.c)) = s.1.set e.a (some (e.c + m))
      rw [Int.add_comm]
    | some h =>
      by_cases c : m + e.c < h
      · rw [if_pos (decide_eq_true c)]
        show s.1.set e.a (some (m + e.c)) = s.1.set e.a (some (min h (e.c + m)))
        congr 2
        omega
      · rw [if_neg (by simpa using c)]
        show s.1 = s.1.set e.a (some (min h (e.c + m)))
        rw [show min h (e.c + m) = h by omega, ← qa, set_selfO]
theorem foldO_fst : ∀ (es : List Sm15.Edge) (s : List (Option Int) × Bool), (es.foldl lowO s).1 = es.foldl relax s.1
  | [], s => rfl
  | e :: r, s => by rw [List.foldl_cons, List.foldl_cons, foldO_fst r, lowO_fst]
theorem getD_somes {ns : List Int} {i : Nat} (h : i < ns.length) : (ns.map some).getD i none = some (ns.getD i 0) := by
  rw [List.getD_eq_getElem?_getD, List.getD_eq_getElem?_getD, List.getElem?_map, List.getElem?_eq_getElem h]
  rfl
theorem lowO_somes {u : Nat} {ns : List Int} {b : Bool} {e : Sm15.Edge} (hl : ns.length = u + 1) (ha : e.a ≤ u) (hb : e.b ≤ u) : lowO (ns.map some, b) e = ((lowF (ns, b) e).1.map some, (lowF (ns, b) e).2) := by
  unfold lowO lowF low1
  dsimp only
  rw [getD_somes (by omega), getD_somes (by omega)]
  dsimp only
  by_cases c : ns.getD e.b 0 + e.c < ns.getD e.a 0
  · rw [if_pos (decide_eq_true c), if_pos c]
    dsimp only
    rw [if_pos c, List.map_set]
  · rw [if_neg (by simpa using c), if_neg c]
theorem foldO_somes {u : Nat} : ∀ (es : List Sm15.Edge) (ns : List Int) (b : Bool), Good u es → ns.length = u + 1 → es.foldl lowO (ns.map some, b) = ((es.foldl lowF (ns, b)).1.map some, (es.foldl lowF (ns, b)).2)
  | [], ns, b, _, _ => rfl
  | e :: r, ns, b, hg, hl => by
    obtain ⟨ga, gb⟩ := hg e List.mem_cons_self
    have len : (lowF (ns, b) e).1.length = u + 1 := by rw [lowF_fst, low1_len, hl]
    rw [List.foldl_cons, List.foldl_cons, lowO_somes hl ga gb]
    exact foldO_somes r (lowF (ns, b) e).1 (lowF (ns, b) e).2 (fun e' he => hg e' (List.mem_cons_of_mem _ he)) len
/-- a number, or None -/
abbrev optI : Option Int → V := optV V.int
theorem optI_ne (x : Int) : V.int x ≠ .non := fun z => nomatch z
theorem at_opts {vs : List (Option Int)} {j : Nat} (h : j < vs.length) : atI (vs.map optI) (j : Int) = some (optI (vs.getD j none)) := by
  refine atI_nat ?_
  rw [List.getElem?_map, List.getD_eq_getElem?_getD, List.getElem?_eq_getElem h]
  rfl
def spLow (K : PySem.W.Frag) : Sp := fun vs H Q _ => ∃ (av aE : Addr) (u : Nat) (ns : List (Option Int)) (es : List Sm15.Edge), vs = [.ref av, .ref aE] ∧ H av = some (.lst (ns.map optI)) ∧ EdgesAt K H aE es ∧ aE ≠ av ∧ Good u es ∧ ns.length = u + 1 ∧ es.length ≤ 1000 ∧
  ∀ H2 : Hp, ExB av H H2 → H2 av = some (.lst ((es.foldl lowO (ns, false)).1.map optI)) → Q (.bl (es.foldl lowO (ns, false)).2) H2
theorem lowO_len (s : List (Option Int) × Bool) (e : Sm15.Edge) : (lowO s e).1.length = s.1.length := by
  rw [lowO_fst]
  unfold relax
  rw [List.length_set]
theorem foldO_len : ∀ (es : List Sm15.Edge) (s : List (Option Int) × Bool), (es.foldl lowO s).1.length = s.1.length
  | [], s => rfl
  | e :: r, s => by rw [List.foldl_cons, foldO_len r, lowO_len]
theorem ok_lower_once (T : Txt K mg D) : FnOk P w K mg base CX0 1 D.a_lower_once D.d_lower_once ["values", "said"] (spLow K) := by
  refine T.f_lower_once.ok sc_lower_once (fun vs H Q E h => ?_) (fun cdv A outer s H vs Q E hr h => ?_)
  · obtain ⟨_, _, _, _, _, rfl, _⟩ := h
    rfl
  · obtain ⟨av, aE, u, ns, es, rfl, hv, ⟨ps, hE, hP⟩, hne, hg, hl, hz, q⟩ := h
    refine ⟨_, (pss_cons (ps_set (i := 2) sc_lower_once.nd rfl (Or.inl rfl) pe_bl)
      (pss_cons (ps_for PassesOwn.never rfl (pi_list (pv 1)) (pg_name (i := 3) sc_lower_once.nd rfl (Or.inl rfl)) (pss_one (ps_if (pt_cmpR op_notN (pe_ix ix_list (pv 0) (pe_ix ix_tup (pv 3) pe_int (fun _ _ => rfl)) (fun _ _ => rfl)) pe_non (nomark _)) (pss_cons (ps_set (i := 4) sc_lower_once.nd rfl (Or.inl rfl) (pe_op op_add (pe_ix ix_list (pv 0) (pe_ix ix_tup (pv 3) pe_int (fun _ _ => rfl)) (fun _ _ => rfl)) (pe_ix ix_tup (pv 3) pe_int (fun _ _ => rfl))))
      (pss_one (ps_if (PW.pt (pw_or (pt_cmpR op_isN (pe_ix ix_list (pv 0) (pe_ix ix_tup (pv 3) pe_int (fun _ _ => rfl)) (fun _ _ => rfl)) pe_non (nomark _)) (pw_or1 (pt_cmpR op_gt (pe_ix ix_list (pv 0) (pe_ix ix_tup (pv 3) pe_int (fun _ _ => rfl)) (fun _ _ => rfl)) (pv 4) (nomark _))))) (pss_cons (ps_asg (pv 4) (pg_sub (pv 0) (pe_ix ix_tup (pv 3) pe_int (fun _ _ => rfl)) set_list))
      (pss_one (ps_set (i := 2) sc_lower_once.nd rfl (Or.inl rfl) pe_bl))) pss_nil))) pss_nil)))
      (pss_one (ps_ret (pv 2))))), ?_⟩
    refine q_asg ev_c fun H1 e1 => ?_
    refine q_forLn (K := K) (xs := ps.map V.ref) (ev_var (i := 1) rfl) (sq_of (e1 _ _ hE)) (fun i σ H' => ∃ y3 y4, σ = [some (.ref av), some (.ref aE), some (.bl ((es.take i).foldl lowO (ns, false)).2), y3, y4] ∧ ExB av H H' ∧ H' av = some (.lst (((es.take i).foldl lowO (ns, false)).1.map optI)))
      (fun H2 e2 => ⟨none, none, rfl, ExB.of (e1.trans e2), (e1.trans e2) _ _ hv⟩) (fun i σ H' _ ⟨_, _, _, e, _⟩ => sq_of (e _ _ hne hE)) ?_ ?_
    · rintro i x σ H' hi ⟨y3, y4, rfl, eB, hv'⟩
      obtain ⟨p, hp, rfl, _⟩ := map_at hi
      obtain ⟨d, hd, hat⟩ := pr_get2 hP hp
      have hat' : EdgeAt K H' p d := EdgeAt.exb eB hv hat
      have more : (es.take (i + 1)).foldl lowO (ns, false) = lowO ((es.take i).foldl lowO (ns, false)) d := by
        rw [List.take_add_one, hd, List.foldl_append]
        rfl
      have len : ((es.take i).foldl lowO (ns, false)).1.length = u + 1 := by rw [foldO_len]; exact hl
      obtain ⟨ga, gb⟩ := hg d (List.mem_of_getElem? hd)
      rw [more]
      generalize (es.take i).foldl lowO (ns, false) = st at *
      obtain ⟨cur, fl⟩ := st
      dsimp only at len hv'
      have rdb : ∀ {H2}, Ex H' H2 → ∀ {y4}, Ev (tOp (rIxL K) (tVar 0) (tOp (rIxT K) (tVar 3) (tC (.int 1)))) [some (.ref av), some (.ref aE), some (.bl fl), some (.ref p), y4] H2 (optI (cur.getD d.b none)) := fun e2 => ev_ixL (ev_var (i := 0) rfl) (sq_of (e2 _ _ hv')) (ev_ixT (ev_var (i := 3) rfl) (EdgeAt.ex e2 hat') ev_c at3_1) (at_opts (by omega))
      have rda : ∀ {H2}, Ex H' H2 → ∀ {y4}, Ev (tOp (rIxL K) (tVar 0) (tOp (rIxT K) (tVar 3) (tC (.int 0)))) [some (.ref av), some (.ref aE), some (.bl fl), some (.ref p), y4] H2 (optI (cur.getD d.a none)) := fun e2 => ev_ixL (ev_var (i := 0) rfl) (sq_of (e2 _ _ hv')) (ev_ixT (ev_var (i := 3) rfl) (EdgeAt.ex e2 hat') ev_c at3_0) (at_opts (by omega))
      refine s_when (et_test (ev_notO optI_ne (rdb (Ex.refl _)))) (fun hb H2 e2 => ?_) (fun hb H2 e2 => ?_)
      · obtain ⟨m, hm⟩ := Option.isSome_iff_exists.mp hb
        rw [hm] at rdb
        refine q_asg (v := .int (m + d.c)) (ev_add (rdb e2) (ev_ixT (ev_var (i := 3) rfl) (EdgeAt.ex e2 hat') ev_c at3_2)) fun H3 e3 => ?_
        have e23 := e2.trans e3
        refine s_when (b := match cur.getD d.a none with | none => true | some h => decide (m + d.c < h)) (et_is (et_or (et_test (ev_isO optI_ne (rda e23))) (b := match cur.getD d.a none with | none => true | some h => decide (m + d.c < h)) fun hn => ?_) ?_) (fun hb2 H4 e4 => ?_) (fun hb2 H4 e4 => ?_)
        · cases qa : cur.getD d.a none with
          | none => rw [qa] at hn; cases hn
          | some h =>
            rw [qa] at rda
            exact et_test (ev_gt (rda e23) (ev_var (i := 4) rfl))
        · cases cur.getD d.a none <;> rfl
        · refine q_setL (e4 _ _ (e23 _ _ hv')) (ev_var (i := 4) rfl) (ev_var (i := 0) rfl) (ev_ixT (ev_var (i := 3) rfl) (EdgeAt.ex (e23.trans e4) hat') ev_c at3_0) (by rw [List.length_map]; omega) fun H5 e5 => ?_
          have st : lowO (cur, fl) d = (cur.set d.a (some (m + d.c)), true) := by
            unfold lowO
            dsimp only
            rw [hm]
            dsimp only
            rw [if_pos hb2]
          refine s_asg ev_c fun H6 e6 => ⟨some (.ref p), some (.int (m + d.c)), by rw [st]; rfl, (eB.trans ((ExB.of ((e23.trans e4).trans e5)).trans ExB.upd)).trans (ExB.of e6), e6 _ _ (by rw [upd_same, st, List.map_set]; rfl)⟩
        · have st : lowO (cur, fl) d = (cur, fl) := by
            unfold lowO
            dsimp only
            rw [hm]
            dsimp only
            rw [if_neg (by rw [hb2]; decide)]
          rw [st]
          exact ⟨some (.ref p), some (.int (m + d.c)), rfl, eB.trans (ExB.of (e23.trans e4)), (e23.trans e4) _ _ hv'⟩
      · have st : lowO (cur, fl) d = (cur, fl) := by
          unfold lowO
          dsimp only
          cases qb : cur.getD d.b none with
          | none => rfl
          | some m => rw [qb] at hb; cases hb
        rw [st]
        exact ⟨some (.ref p), y4, rfl, eB.trans (ExB.of e2), e2 _ _ hv'⟩
    · rintro σ H' ⟨y3, y4, rfl, eB, hv'⟩
      rw [List.length_map, pr_len hP, List.take_length] at hv' ⊢
      exact s_ret (ev_var (i := 2) rfl) fun H2 e2 => q H2 (eB.trans (ExB.of e2)) (e2 _ _ hv')
/-! ### can_be_together -/
def spCan (K : PySem.W.Frag) : Sp := fun vs H Q _ => ∃ (aA aL : Addr) (u : Nat) (as : List Sm15.Atom) (ls : List Int), vs = [.ref aA, .int (u : Int), .ref aL] ∧ AtomsAt K H aA as ∧ SqL K H aL (ls.map V.int) ∧ Lits as.length ls ∧ ls.length ≤ 1000 ∧ u ≤ 1000 ∧
  Good u (Sm15.edgesOf as ls) ∧ RetV (.bl (Sm15.fit u (Sm15.edgesOf as ls))) H Q
theorem flat_rep (n : Nat) (x : V) : (List.replicate n [x]).flatten = List.replicate n x := by
  induction n with
  | zero => rfl
  | succ n ih => rw [List.replicate_succ, List.replicate_succ, List.flatten_cons, ih]; rfl
theorem edgesOf_len (as : List Sm15.Atom) (ls : List Int) : (Sm15.edgesOf as ls).length ≤ ls.length := List.length_filterMap_le _ _
theorem rests0_no {es : List Sm15.Edge} : ∀ {k : Nat} {v : List Int}, (∀ j, j < k → Sm15.lower es (iter es j v) ≠ iter es j v) → rests0 es k v = false := by
  intro k v h
  cases e : rests0 es k v with
  | false => rfl
  | true =>
    obtain ⟨j, a, b⟩ := (rests0_iff es k v).mp e
    exact absurd b (h j a)
theorem ok_can_be_together (T : Txt K mg D) : FnOk P w K mg base CX0 3 D.a_can_be_together D.d_can_be_together ["atoms", "u", "literals"] (spCan K) := by
  refine T.f_can_be_together.ok sc_can_be_together (fun vs H Q E h => ?_) (fun cdv A outer s H vs Q E hr h => ?_)
  · obtain ⟨_, _, _, _, _, rfl, _⟩ := h
    rfl
  · obtain ⟨aA, aL, u, as, ls, rfl, hA, hL, hl, hz, hu, hg, q⟩ := h
    refine ⟨_, (pss_cons (ps_set (i := 3) sc_can_be_together.nd rfl (Or.inl rfl) (pe_call (ok_bounds_said T) hr (by rfl) T.g_bounds_said T.f_bounds_said.kp T.n_bounds_said .nil pass0 (pa_cons (pv 0) (pa_cons (pv 2) pa_nil))))
      (pss_cons (ps_set (i := 4) sc_can_be_together.nd rfl (Or.inl rfl) (pe_op op_rep (pe_lst (pa_cons pe_int pa_nil)) (pe_op op_add (pv 1) pe_int)))
      (pss_cons (ps_for PassesOwn.never rfl (pi_range1 (by rfl) T.b_range (pa_cons (pe_op op_add (pv 1) pe_int) pa_nil)) (pg_name (i := 5) sc_can_be_together.nd rfl (Or.inl rfl)) (pss_one (ps_if (pt_not (pt_val (pe_call (ok_lower_once T) (hr.mono (by decide)) (by rfl) T.g_lower_once T.f_lower_once.kp T.n_lower_once .nil pass0 (pa_cons (pv 4) (pa_cons (pv 3) pa_nil))))) (pss_one (ps_ret pe_bl)) pss_nil)))
      (pss_one (ps_ret pe_bl))))), ?_⟩
    refine ⟨.ref aA, rfl, .ref aL, rfl, aA, aL, as, ls, rfl, hA, hL, hl, hz, fun aE H1 nE e1 hE => ?_⟩
    generalize hes : Sm15.edgesOf as ls = es at *
    have hel : es.length ≤ 1000 := by rw [← hes]; exact Nat.le_trans (edgesOf_len as ls) hz
    -- values = [0] * (u + 1)
    refine ⟨by show 1 ≤ sizeLine; decide, fun p0 n0 => ⟨.int (u : Int), rfl, (u : Int), 1, rfl, rfl, p0, (u : Int) + 1, [.int 0], rfl, rfl, upd_same, by omega, by omega, sz_of (by show 1 * ((u : Int) + 1).toNat ≤ 100000; omega), fun av nv => ?_⟩⟩
    have e2 : Ex H1 (upd H1 p0 (.lst [.int 0])) := Ex.new n0
    have nv1 : H1 av = none := fresh_back e2 nv
    obtain ⟨ps, hEl, hEp⟩ := hE
    have nvE : aE ≠ av := ne_of_none hEl nv1
    have e3 : Ex (upd H1 p0 (.lst [.int 0])) (upd (upd H1 p0 (.lst [.int 0])) av (.lst (List.replicate ((u : Int) + 1).toNat [V.int 0]).flatten)) := Ex.new nv
    have e13 := (e1.trans e2).trans e3
    have nvH : H av = none := fresh_back (e1.trans e2) nv
    have e23 := e2.trans e3
    have hrep : (List.replicate ((u : Int) + 1).toNat [V.int 0]).flatten = (List.replicate (u + 1) (0 : Int)).map V.int := by
      rw [flat_rep, List.map_replicate, show ((u : Int) + 1).toNat = u + 1 by omega]
    have h0 : (upd (upd H1 p0 (.lst [.int 0])) av (.lst (List.replicate ((u : Int) + 1).toNat [V.int 0]).flatten)) av = some (.lst ((List.replicate (u + 1) (0 : Int)).map V.int)) := by rw [upd_same, hrep]
    have hE0 : EdgesAt K (upd (upd H1 p0 (.lst [.int 0])) av (.lst (List.replicate ((u : Int) + 1).toNat [V.int 0]).flatten)) aE es := ⟨ps, e23 _ _ hEl, pr_imp (fun _ _ => EdgeAt.ex e23) hEp⟩
    generalize hH3 : upd (upd H1 p0 (.lst [.int 0])) av (.lst (List.replicate ((u : Int) + 1).toNat [V.int 0]).flatten) = H3 at *
    clear hH3
    have hfit := fit_rounds hg
    have som : ∀ l : List Int, (l.map some).map optI = l.map V.int := fun l => by rw [List.map_map]; rfl
    refine ⟨.int (u : Int), rfl, (u : Int), 1, rfl, rfl, (u : Int) + 1, rfl, by omega, by omega, ?_⟩
    refine for_range (lo := 0) (n := ((u : Int) + 1).toNat) (fun i σ H' => ∃ y, σ = [some (.ref aA), some (.int (u : Int)), some (.ref aL), some (.ref aE), some (.ref av), y] ∧ ExB av H3 H' ∧ H' av = some (.lst (((iter es i (List.replicate (u + 1) 0)).map some).map optI)) ∧
      ∀ j, j < i → Sm15.lower es (iter es j (List.replicate (u + 1) 0)) ≠ iter es j (List.replicate (u + 1) 0)) ⟨none, rfl, ExB.refl _ _, by rw [som]; exact h0, fun j hj => absurd hj (Nat.not_lt_zero _)⟩ ?_ ?_
    · rintro i σ H' hi ⟨y, rfl, eB, hv, hno⟩
      obtain ⟨ps', hq, hqp⟩ := hE0
      have hE' : EdgesAt K H' aE es := ⟨ps', eB _ _ nvE hq, pr_imp (fun _ _ => EdgeAt.exb eB h0) hqp⟩
      refine ⟨.ref av, rfl, .ref aE, rfl, av, aE, u, (iter es i (List.replicate (u + 1) 0)).map some, es, rfl, hv, hE', nvE, hg, by rw [List.length_map, iter_len]; simp, hel, fun H2 eB2 hv2 => ⟨_, rfl, ?_⟩⟩
      have il : (iter es i (List.replicate (u + 1) 0)).length = u + 1 := by rw [iter_len]; simp
      rw [foldO_somes es _ false hg il] at hv2 ⊢
      dsimp only at hv2 ⊢
      rw [foldF_snd es (iter es i (List.replicate (u + 1) 0), false) hg il]
      rw [foldF_fst] at hv2
      show if (!(false || !decide (Sm15.lower es (iter es i (List.replicate (u + 1) 0)) = iter es i (List.replicate (u + 1) 0)))) = true then _ else _
      by_cases c : Sm15.lower es (iter es i (List.replicate (u + 1) 0)) = iter es i (List.replicate (u + 1) 0)
      · rw [decide_eq_true c]
        refine iteT ?_
        have ft : Sm15.fit u es = true := by
          rw [hfit, rests0_iff]
          exact ⟨i, by omega, c⟩
        have z := q H2 (ExB.new e13 nvH (eB.trans eB2))
        rw [ft] at z
        exact z
      · rw [decide_eq_false c]
        refine iteF ⟨_, rfl, eB.trans eB2, ?_, fun j hj => ?_⟩
        · rw [iter_succ]
          exact hv2
        · by_cases e : j = i
          · rw [e]; exact c
          · exact hno j (by omega)
    · rintro σ H' ⟨y, rfl, eB, hv, hno⟩
      have ff : Sm15.fit u es = false := by
        rw [hfit]
        exact rests0_no fun j hj => hno j (by omega)
      have z := q H' (ExB.new e13 nvH eB)
      rw [ff] at z
      exact z
end
end Cp
/-! Cp3b -/
namespace Cp
open PySem PySem.Spec PyProof.Rows L2 Evl
/-! ### small words -/
theorem pr_zip {α β : Type} {R : α → β → Prop} : ∀ {as : List α} {bs : List β}, Paired R as bs → ∃ ms : List (α × β), ms.map (·.1) = as ∧ ms.map (·.2) = bs ∧ ∀ m ∈ ms, R m.1 m.2
  | _, _, .nil => ⟨[], rfl, rfl, fun _ h => by simp at h⟩
  | _, _, .cons (a := a) (b := b) h t => by
    obtain ⟨ms, h1, h2, h3⟩ := pr_zip t
    exact ⟨(a, b) :: ms, by simp [h1], by simp [h2], fun m hm => by
      rcases List.mem_cons.mp hm with rfl | hm
      · exact h
      · exact h3 m hm⟩
theorem pr_mk {α β γ : Type} {R : β → γ → Prop} {f : α → β} {g : α → γ} : ∀ {l : List α}, (∀ x ∈ l, R (f x) (g x)) → Paired R (l.map f) (l.map g)
  | [], _ => .nil
  | a :: l, h => .cons (h a List.mem_cons_self) (pr_mk fun x hx => h x (List.mem_cons_of_mem _ hx))
/-- the sorted row -/
def sortI (l : List Int) : List Int := l.mergeSort fun a b => decide (a ≤ b)
theorem sortI_perm (l : List Int) : (sortI l).Perm l := List.mergeSort_perm l _
theorem sortI_le (l : List Int) : (sortI l).Pairwise (· ≤ ·) := by
  have := List.pairwise_mergeSort (le := fun a b : Int => decide (a ≤ b)) (fun a b c h1 h2 => decide_eq_true (Int.le_trans (of_decide_eq_true h1) (of_decide_eq_true h2))) (fun a b => by
    rcases Int.le_total a b with h | h
    · simp [h]
    · simp [h]) l
  exact this.imp fun {a b} h => of_decide_eq_true h
theorem sorted_one {a b : List Int} (p : a.Perm b) (h1 : a.Pairwise (· ≤ ·)) (h2 : b.Pairwise (· ≤ ·)) : a = b := List.Perm.eq_of_pairwise (fun x y _ _ h k => Int.le_antisymm h k) h1 h2 p
theorem sortI_of {a l : List Int} (p : a.Perm l) (h : a.Pairwise (· ≤ ·)) : a = sortI l := sorted_one (p.trans (sortI_perm l).symm) h (sortI_le l)
theorem sortI_eq {a b : List Int} : sortI a = sortI b ↔ a.Perm b := ⟨fun h => ((sortI_perm a).symm.trans (h ▸ List.Perm.refl _)).trans (sortI_perm b), fun h => sorted_one ((sortI_perm a).trans (h.trans (sortI_perm b).symm)) (sortI_le a) (sortI_le b)⟩
theorem cast_perm {a b : List Nat} : (a.map fun (n : Nat) => (n : Int)).Perm (b.map fun (n : Nat) => (n : Int)) ↔ a.Perm b := by
  constructor
  · intro h
    have := h.map Int.toNat
    rw [List.map_map, List.map_map, show Int.toNat ∘ (fun (n : Nat) => (n : Int)) = id from rfl, List.map_id, List.map_id] at this
    exact this
  · exact fun h => h.map _
theorem dp_intsL {K : PySem.W.Frag} {H : Hp} : ∀ ns : List Int, DpAll K H (ns.map V.int) (ns.map PyData.int)
  | [] => .nil
  | n :: r => .cons (.int n) (dp_intsL r)
theorem shaped_intsL (ns : List Int) : SeqAt.shaped (.list (ns.map .int)) = true := by
  unfold SeqAt.shaped
  rw [show PyData.canLay0 (.list (ns.map .int)) = PyData.canLayAll0 (ns.map .int) from rfl, canLayAll_ints, show PyData.depth (.list (ns.map .int)) = PyData.depthAll (ns.map .int) + 1 from rfl, depthAll_ints]
  rfl
theorem eqv_intsL : ∀ a b : List Int, PyData.eqvAll (a.map .int) (b.map .int) = decide (a = b)
  | [], [] => rfl
  | [], _ :: _ => rfl
  | _ :: _, [] => rfl
  | x :: a, y :: b => by
    show (x == y && PyData.eqvAll (a.map .int) (b.map .int)) = _
    rw [eqv_intsL a b]
    by_cases h : x = y
    · subst h
      by_cases k : a = b
      · subst k; simp
      · simp [k]
    · simp [h]
section
variable {K : PySem.W.Frag} {σ : L2.St} {H H' : Hp} {ta tb te tl : TE} {t : TT} {α : Type}
theorem ev_sum {ns : List Int} (h : EvL te σ H (ns.map V.int)) : Ev (tCB (rSum K) (tCons te tNil)) σ H (.int ns.sum) := fun H1 e Q q => h H1 e _ fun p H2 _ e2 hp => ⟨p, ns, rfl, sq_of hp, q H2 e2⟩
theorem el_sorted {ns : List Int} (h : EvL te σ H (ns.map V.int)) : EvL (tCB (rSortedI K) (tCons te tNil)) σ H ((sortI ns).map V.int) := fun H1 e Q q => h H1 e _ fun p H2 hp1 e2 hp => ⟨p, ns, rfl, sq_of hp, fun ns' p' pm pw np => by
  rw [sortI_of pm pw] at *
  exact q p' _ (fresh_back e2 np) (e2.trans (Ex.new np)) upd_same⟩
/-- two new lists of ints, compared -/
theorem ev_eqL {a b : List Int} (ha : EvL ta σ H (a.map V.int)) (hb : EvL tb σ H (b.map V.int)) : Ev (tOp (rEqD K) ta tb) σ H (.bl (decide (a = b))) := ev_opLL ha hb fun p q H1 hp hq e H2 e2 Q k => ⟨_, _, .lst (sq_of (e2 _ _ hp)) (dp_intsL a), .lst (sq_of (e2 _ _ hq)) (dp_intsL b), shaped_intsL a, shaped_intsL b, by
  show Q (.bl (PyData.eqvAll (a.map .int) (b.map .int))) H2
  rw [eqv_intsL]
  exact k H2 (Ex.refl H2)⟩
end
/-- a heap without one object -/
def hidT (o : Addr) (H : Hp) : Hp := fun b => if b = o then none else H b
theorem hidT_sub {o : Addr} {H : Hp} : Ex (hidT o H) H := fun b x h => by
  unfold hidT at h
  split at h
  · cases h
  · exact h
theorem hidT_ex {o : Addr} {H H' : Hp} (e : Ex H H') : Ex (hidT o H) (hidT o H') := fun b x h => by
  unfold hidT at h ⊢
  split at h
  · cases h
  · rename_i c
    rw [if_neg c]
    exact e b x h
theorem hidT_at {o b : Addr} {H : Hp} {x : HO} (n : b ≠ o) (h : H b = some x) : hidT o H b = some x := by
  unfold hidT
  rw [if_neg n]
  exact h
theorem hidT_upd {o : Addr} {H : Hp} {x : HO} : Ex (hidT o H) (hidT o (upd H o x)) := fun b y h => by
  unfold hidT at h ⊢
  split at h
  · cases h
  · rename_i c
    rw [if_neg c, upd_ne c]
    exact h
/-- places -/
def natV (l : List Nat) : List V := l.map fun (n : Nat) => V.int (n : Int)
theorem natV_ints (l : List Nat) : natV l = (l.map fun (n : Nat) => (n : Int)).map V.int := by
  unfold natV
  rw [List.map_map]
  rfl
theorem natV_len (l : List Nat) : (natV l).length = l.length := by unfold natV; rw [List.length_map]
def ChoicesAt (K : PySem.W.Frag) (H : Hp) (a : Addr) (cs : List (List Nat)) : Prop := ∃ ps : List Addr, H a = some (.lst (ps.map V.ref)) ∧ Paired (fun (p : Addr) (c : List Nat) => SqT K H p (natV c)) ps cs
theorem ChoicesAt.ex {K : PySem.W.Frag} {H H' : Hp} {a : Addr} {cs : List (List Nat)} (e : Ex H H') (h : ChoicesAt K H a cs) : ChoicesAt K H' a cs := by
  obtain ⟨ps, h1, h2⟩ := h
  exact ⟨ps, e _ _ h1, pr_imp (fun _ _ => ex_t e) h2⟩
section
variable {P : Program} {w : World} {K : PySem.W.Frag} {mg : Str → Option Value} {base : Heap} {D : Ad}
theorem EdgesAt.ex {H H' : Hp} {a : Addr} {es : List Sm15.Edge} (e : Ex H H') (h : EdgesAt K H a es) : EdgesAt K H' a es := by
  obtain ⟨ps, h1, h2⟩ := h
  exact ⟨ps, e _ _ h1, pr_imp (fun _ _ => EdgeAt.ex e) h2⟩
/-! ### add_up_to_less_than_0 -/
def spAdd (K : PySem.W.Frag) : Sp := fun vs H Q _ => ∃ (aE : Addr) (es : List Sm15.Edge), vs = [.ref aE] ∧ EdgesAt K H aE es ∧ es.length ≤ 1000 ∧ RetV (.bl (balB es)) H Q
theorem ok_add_up_to_less_than_0 (T : Txt K mg D) : FnOk P w K mg base CX0 1 D.a_add_up_to_less_than_0 D.d_add_up_to_less_than_0 ["said"] (spAdd K) := by
  refine T.f_add_up_to_less_than_0.ok sc_add_up_to_less_than_0 (fun vs H Q E h => ?_) (fun cdv A outer s H vs Q E hr h => ?_)
  · obtain ⟨_, _, rfl, _⟩ := h
    rfl
  · obtain ⟨aE, es, rfl, ⟨ps, h1, h2⟩, hz, q⟩ := h
    refine ⟨_, (pss_cons (ps_if (pt_cmpR op_ge (pe_callB (cr_sum (by rfl)) (by rfl) T.b_sum (by decide +kernel) (pa_cons (pe_lc (own := [("bound", 1)]) (g := gName 1) (by rfl) sc_add_up_to_less_than_0.nd (pi_list (pv 0)) (blkOk_by (own := [("bound", 1)]) (N := ["said", "bound"]) (sc := defScope s_add_up_to_less_than_0) (by decide +kernel)) (fun _ _ _ _ _ => (pg_name (i := 1) sc_add_up_to_less_than_0.nd rfl (Or.inl rfl))) (fun _ _ _ _ _ => pts_nil) (fun _ _ _ _ _ => (pe_ix (ix_tupK K) (pv 1) pe_int (fun _ _ => rfl)))) pa_nil)) pe_int (nomark _)) (pss_one (ps_ret pe_bl)) pss_nil)
      (pss_one (ps_ret (pe_cmpR (op_eqD hr.units) (pe_callB cr_sortedI (by rfl) T.b_sorted (by decide +kernel) (pa_cons (pe_lc (own := [("bound", 1)]) (g := gName 1) (by rfl) sc_add_up_to_less_than_0.nd (pi_list (pv 0)) (blkOk_by (own := [("bound", 1)]) (N := ["said", "bound"]) (sc := defScope s_add_up_to_less_than_0) (by decide +kernel)) (fun _ _ _ _ _ => (pg_name (i := 1) sc_add_up_to_less_than_0.nd rfl (Or.inl rfl))) (fun _ _ _ _ _ => pts_nil) (fun _ _ _ _ _ => (pe_ix (ix_tupK K) (pv 1) pe_int (fun _ _ => rfl)))) pa_nil)) (pe_callB cr_sortedI (by rfl) T.b_sorted (by decide +kernel) (pa_cons (pe_lc (own := [("bound", 1)]) (g := gName 1) (by rfl) sc_add_up_to_less_than_0.nd (pi_list (pv 0)) (blkOk_by (own := [("bound", 1)]) (N := ["said", "bound"]) (sc := defScope s_add_up_to_less_than_0) (by decide +kernel)) (fun _ _ _ _ _ => (pg_name (i := 1) sc_add_up_to_less_than_0.nd rfl (Or.inl rfl))) (fun _ _ _ _ _ => pts_nil) (fun _ _ _ _ _ => (pe_ix (ix_tupK K) (pv 1) pe_int (fun _ _ => rfl)))) pa_nil)) (nomark _))))), ?_⟩
    obtain ⟨ms, m1, m2, m3⟩ := pr_zip h2
    have ml : ms.length = es.length := by rw [← m2, List.length_map]
    have hS : SqL K H aE (ms.map fun m => V.ref m.1) := by
      rw [show ms.map (fun m => V.ref m.1) = (ms.map (·.1)).map V.ref by rw [List.map_map]; rfl, m1]
      exact sq_of h1
    have part : ∀ {H2} (e2 : Ex H H2) (k : Int) (f : Sm15.Edge → Int), (∀ e : Sm15.Edge, atI [V.int (e.a : Int), .int (e.b : Int), .int e.c] k = some (.int (f e))) → EvL (tLc (iList K (tVar 0)) (gName 1) tYes (tOp (rIxT K) (tVar 1) (tC (.int k))) [1]) [some (.ref aE), none] H2 ((es.map f).map V.int) := fun e2 k f hf => by
      have g := lcL (K := K) (σ := [some (.ref aE), none]) (t := tYes) (te := tOp (rIxT K) (tVar 1) (tC (.int k))) (tl := tVar 0) (j := 1) (vs := [1]) (emb := fun m : Addr × Sm15.Edge => V.ref m.1) (fun _ => true) (fun m => V.int (f m.2)) (ev_var rfl) (ex_l e2 hS) (by omega) (fun x => rfl) (fun m _ H1 e => et_yes)
        (fun m hm H1 e _ => ev_ixT (ev_var (i := 1) rfl) (ex_t (e2.trans e) (m3 m hm)) ev_c (hf m.2))
      rw [filter_yes, show ms.map (fun m => V.int (f m.2)) = ((ms.map (·.2)).map f).map V.int by rw [List.map_map, List.map_map]; rfl, m2] at g
      exact g
    have hsum : (es.map fun e => e.c).sum = wt es := rfl
    have g0 := ev_sum (K := K) (part (Ex.refl H) 2 (fun e => e.c) fun e => rfl)
    refine q_when (et_test (ev_ge (j := 0) g0 ev_c)) (fun hb H1 e1 => ?_) (fun hb H1 e1 => ?_)
    · have hb : 0 ≤ wt es := of_decide_eq_true hb
      refine s_ret ev_c fun H2 e2 => ?_
      have z := q H2 (e1.trans e2)
      unfold balB at z
      rw [decide_eq_false (by omega)] at z
      exact z
    · have hb : ¬ 0 ≤ wt es := of_decide_eq_false hb
      have g1 := ev_eqL (K := K) (el_sorted (K := K) (part e1 0 (fun e => (e.a : Int)) fun e => rfl)) (el_sorted (K := K) (part e1 1 (fun e => (e.b : Int)) fun e => rfl))
      refine s_ret g1 fun H2 e2 => ?_
      have z := q H2 (e1.trans e2)
      unfold balB at z
      rw [decide_eq_true (by omega), Bool.true_and] at z
      have e : decide (sortI (es.map fun e => (e.a : Int)) = sortI (es.map fun e => (e.b : Int))) = (es.map fun e => e.a).isPerm (es.map fun e => e.b) := by
        rw [Bool.eq_iff_iff, decide_eq_true_eq, sortI_eq, List.isPerm_iff, ← cast_perm, List.map_map, List.map_map]
        rfl
      rw [e]
      exact z
/-! ### one_place_more -/
def spOpm (K : PySem.W.Frag) : Sp := fun vs H Q _ => ∃ (aC : Addr) (n : Nat) (cs : List (List Nat)), vs = [.ref aC, .int (n : Int)] ∧ ChoicesAt K H aC cs ∧ n ≤ 100 ∧ cs.length ≤ 500 ∧ (∀ c ∈ cs, c.length ≤ 100 ∧ ∀ i ∈ c, i < n) ∧ ∀ (q : Addr) (H2 : Hp), H q = none → Ex H H2 → ChoicesAt K H2 q (moreD 0 n cs) → Q (.ref q) H2
theorem ok_one_place_more (T : Txt K mg D) : FnOk P w K mg base CX0 1 D.a_one_place_more D.d_one_place_more ["choices", "count"] (spOpm K) := by
  refine T.f_one_place_more.ok sc_one_place_more (fun vs H Q E h => ?_) (fun cdv A outer s H vs Q E hr h => ?_)
  · obtain ⟨_, _, _, rfl, _⟩ := h
    rfl
  · obtain ⟨aC, n, cs, rfl, ⟨ps, h1, h2⟩, hn, hz, hc, q⟩ := h
    refine ⟨_, (pss_cons (ps_set (i := 2) sc_one_place_more.nd rfl (Or.inl rfl) (pe_lst pa_nil))
      (pss_cons (ps_for PassesOwn.never rfl (pi_list (pv 0)) (pg_name (i := 3) sc_one_place_more.nd rfl (Or.inl rfl)) (pss_cons (ps_set (i := 4) sc_one_place_more.nd rfl (Or.inl rfl) (pe_ifExp (pt_cmpR op_gt (pe_callB call_len_seq (by rfl) T.b_len PySem.boot_len (pa_cons (pv 3) pa_nil)) pe_int (nomark _)) (pe_op op_add (pe_ix ix_tup (pv 3) (pe_un un_neg pe_int) (fun _ _ => rfl)) pe_int) pe_int))
      (pss_one (ps_for PassesOwn.never rfl (pi_range2 (by rfl) T.b_range (pa_cons (pv 4) (pa_cons (pv 1) pa_nil))) (pg_name (i := 5) sc_one_place_more.nd rfl (Or.inl rfl)) (pss_one (ps_expr (pe_bm PySem.F.plainAttrs_list PySem.F.slot_list_append PySem.F.type_list_append mt_append (pv 2) (pa_cons (pe_op op_catA (pv 3) (pe_tup (pa_cons (pv 5) pa_nil))) pa_nil))))))))
      (pss_one (ps_ret (pv 2))))), ?_⟩
    refine q_asgL (el_lst ea_nil (Nat.zero_le _)) fun o H1 no e1 ho => ?_
    refine q_forLn (K := K) (xs := ps.map V.ref) (ev_var (i := 0) rfl) (sq_of (e1 _ _ h1)) (fun i σ H' => ∃ y3 y4 y5, σ = [some (.ref aC), some (.int (n : Int)), some (.ref o), y3, y4, y5] ∧ Ex H H' ∧ ∃ qs : List Addr, H' o = some (.lst (qs.map V.ref)) ∧ Paired (fun (p : Addr) (c : List Nat) => SqT K (hidT o H') p (natV c)) qs (moreD 0 n (cs.take i)) ∧ qs.length ≤ 100 * i)
      (fun H2 e2 => ⟨none, none, none, rfl, e1.trans e2, [], e2 _ _ ho, .nil, Nat.zero_le _⟩) (fun i σ H' _ ⟨_, _, _, _, e, _⟩ => sq_of (e _ _ h1)) ?_ ?_
    · rintro i x σ H' hi ⟨y3, y4, y5, rfl, e, qs, hq, hP, hql⟩
      obtain ⟨p, hp, rfl, _⟩ := map_at hi
      obtain ⟨c, hcm, hat⟩ := pr_get2 h2 hp
      obtain ⟨cl, cn⟩ := hc c (List.mem_of_getElem? hcm)
      have hil : i < cs.length := (List.getElem?_eq_some_iff.mp hcm).1
      have hat' : SqT K H' p (natV c) := ex_t e hat
      have more : moreD 0 n (cs.take (i + 1)) = moreD 0 n (cs.take i) ++ (List.range' (nxtD 0 c) (n - nxtD 0 c)).map fun s => c ++ [s] := by
        unfold moreD
        rw [List.take_add_one, hcm, List.flatMap_append]
        simp
      have nx : nxtD 0 c ≤ n := by
        unfold nxtD
        cases q : c.getLast? with
        | none => exact Nat.zero_le _
        | some x => exact cn x (List.mem_of_getLast? q)
      -- behind
      have hlen := ev_lenT (K := K) (σ := [some (.ref aC), some (.int (n : Int)), some (.ref o), some (.ref p), y4, y5]) (ta := tVar 3) (ev_var rfl) hat'
      rw [natV_len] at hlen
      refine q_asg (v := .int ((nxtD 0 c : Nat) : Int)) (ev_if (et_test (ev_gt (j := 0) hlen ev_c)) (fun hb => ?_) (fun hb => ?_)) fun H2 e2 => ?_
      · have hb := of_decide_eq_true hb
        have cne : c ≠ [] := fun z => by rw [z] at hb; exact absurd hb (by decide)
        obtain ⟨c0, z, rfl⟩ : ∃ c0 z, c = c0 ++ [z] := ⟨c.dropLast, c.getLast cne, (List.dropLast_concat_getLast cne).symm⟩
        have hz1 : nxtD 0 (c0 ++ [z]) = z + 1 := by
          unfold nxtD
          rw [List.getLast?_append]
          rfl
        rw [hz1]
        refine ev_is (ev_add (i := (z : Int)) (j := 1) (ev_ixT (i := -1) (ev_var (i := 3) rfl) hat' (ev_neg (i := 1) ev_c) ?_) ev_c) (congrArg V.int (by omega))
        unfold natV atI ixN
        rw [if_neg (by decide), List.map_append, List.length_append, List.length_map]
        rw [if_pos (by show -((c0.length + 1 : Nat) : Int) ≤ -1; omega)]
        show ((c0.map fun (n : Nat) => V.int (n : Int)) ++ [V.int (z : Int)])[((-1 : Int) + ((c0.length + 1 : Nat) : Int)).toNat]? = some (.int (z : Int))
        rw [show ((-1 : Int) + ((c0.length + 1 : Nat) : Int)).toNat = (c0.map fun (n : Nat) => V.int (n : Int)).length by rw [List.length_map]; omega]
        simp
      · have hb := of_decide_eq_false hb
        have : c = [] := List.eq_nil_of_length_eq_zero (by omega)
        subst this
        exact ev_c
      -- the inner loop
      refine s_forR2 (lo := ((nxtD 0 c : Nat) : Int)) (n := (n : Int)) (ea_cons (ev_var (i := 4) rfl) (ea_cons (ev_var (i := 1) rfl) ea_nil)) (by omega)
        (fun j σ H' => ∃ y5, σ = [some (.ref aC), some (.int (n : Int)), some (.ref o), some (.ref p), some (.int ((nxtD 0 c : Nat) : Int)), y5] ∧ Ex H H' ∧ ∃ qs : List Addr, H' o = some (.lst (qs.map V.ref)) ∧ Paired (fun (p : Addr) (c : List Nat) => SqT K (hidT o H') p (natV c)) qs (moreD 0 n (cs.take i) ++ (List.range' (nxtD 0 c) j).map fun s => c ++ [s]) ∧ qs.length ≤ 100 * i + j)
        (fun H3 e3 => ⟨y5, rfl, (e.trans e2).trans e3, qs, (e2.trans e3) _ _ hq, by
          rw [List.range'_zero, List.map_nil, List.append_nil]
          exact pr_imp (fun _ _ q => ex_t (hidT_ex (e2.trans e3)) q) hP, by omega⟩) ?_ ?_
      · rintro j σ H3 hj ⟨y5, rfl, e3, qs, hq3, hP3, hql3⟩
        have hat3 : SqT K H3 p (natV c) := ex_t e3 hat
        -- choice + (spot,)
        have fin : ∀ (t : Addr) (H4 : Hp), Ex H3 H4 → SqT K (hidT o H4) t (natV (c ++ [nxtD 0 c + j])) → ∃ y5', [some (V.ref aC), some (.int (n : Int)), some (.ref o), some (.ref p), some (.int ((nxtD 0 c : Nat) : Int)), some (.int (((nxtD 0 c : Nat) : Int) + (j : Int)))] = [some (.ref aC), some (.int (n : Int)), some (.ref o), some (.ref p), some (.int ((nxtD 0 c : Nat) : Int)), y5'] ∧ Ex H (upd H4 o (.lst (qs.map V.ref ++ [.ref t]))) ∧ ∃ qs' : List Addr, (upd H4 o (.lst (qs.map V.ref ++ [.ref t]))) o = some (.lst (qs'.map V.ref)) ∧ Paired (fun (p : Addr) (c : List Nat) => SqT K (hidT o (upd H4 o (.lst (qs.map V.ref ++ [.ref t])))) p (natV c)) qs' (moreD 0 n (cs.take i) ++ (List.range' (nxtD 0 c) (j + 1)).map fun s => c ++ [s]) ∧ qs'.length ≤ 100 * i + (j + 1) := by
          intro t H4 e4 ht
          have keep : Ex (hidT o H4) (hidT o (upd H4 o (.lst (qs.map V.ref ++ [.ref t])))) := hidT_upd
          refine ⟨_, rfl, Ex.mut (e3.trans e4) no, qs ++ [t], by rw [upd_same, List.map_append]; rfl, ?_, by rw [List.length_append]; show qs.length + 1 ≤ _; omega⟩
          rw [List.range'_concat, List.map_append, ← List.append_assoc]
          refine pr_snoc ?_ (pr_imp (fun _ _ q => ex_t keep (ex_t (hidT_ex e4) q)) hP3)
          show SqT K _ t (natV (c ++ [nxtD 0 c + 1 * j]))
          rw [Nat.one_mul]
          exact ex_t keep ht
        have small : qs.length < 100000 := by
          have : j < 100 := by omega
          omega
        refine ⟨.ref o, rfl, .inl ⟨rfl, _, sq_of hq3⟩, .ref p, rfl, .int (((nxtD 0 c : Nat) : Int) + (j : Int)), rfl, by show 1 ≤ sizeLine; decide, fun t1 nt1 => ?_⟩
        have eT : Ex H3 (upd H3 t1 (.tup [.int (((nxtD 0 c : Nat) : Int) + (j : Int))])) := Ex.new nt1
        have hT : (upd H3 t1 (.tup [.int (((nxtD 0 c : Nat) : Int) + (j : Int))])) t1 = some (.tup [.int (((nxtD 0 c : Nat) : Int) + (j : Int))]) := upd_same
        generalize upd H3 t1 (.tup [.int (((nxtD 0 c : Nat) : Int) + (j : Int))]) = H4 at *
        have one : [V.int (((nxtD 0 c : Nat) : Int) + (j : Int))] = natV [nxtD 0 c + j] := by
          show [V.int _] = [V.int _]
          congr 2
        have no1 : t1 ≠ o := fun z => by rw [z, hq3] at nt1; cases nt1
        refine ⟨p, t1, natV c, [.int (((nxtD 0 c : Nat) : Int) + (j : Int))], rfl, rfl, ex_t eT hat3, st_of hT, sz_of (by rw [natV_len]; show c.length + 1 ≤ 100000; omega), fun z => ?_, fun _ z => absurd z (by simp), fun z _ t2 nt2 => ?_⟩
        · refine ⟨o, _, _, rfl, rfl, eT _ _ hq3, sz_lt (by rw [List.length_map]; exact small), fin t1 H4 eT ?_⟩
          have c0 : c = [] := by
            unfold natV at z
            exact List.map_eq_nil_iff.mp z
          subst c0
          rw [List.nil_append, ← one]
          exact st_of (hidT_at no1 hT)
        · have e5 : Ex H4 (upd H4 t2 (.tup (natV c ++ [.int (((nxtD 0 c : Nat) : Int) + (j : Int))]))) := Ex.new nt2
          have no2 : t2 ≠ o := fun z => by have := eT _ _ hq3; rw [← z, nt2] at this; cases this
          refine ⟨o, _, _, rfl, rfl, (eT.trans e5) _ _ hq3, sz_lt (by rw [List.length_map]; exact small), fin t2 _ (eT.trans e5) (st_of (hidT_at no2 ?_))⟩
          rw [upd_same, one]
          unfold natV
          rw [← List.map_append]
      · rintro σ H3 ⟨y5, rfl, e3, qs, hq3, hP3, hql3⟩
        have en : ((n : Int) - ((nxtD 0 c : Nat) : Int)).toNat = n - nxtD 0 c := by omega
        rw [en] at hP3 hql3
        rw [← more] at hP3
        exact ⟨_, _, _, rfl, e3, qs, hq3, hP3, by omega⟩
    · rintro σ H' ⟨y3, y4, y5, rfl, e, qs, hq, hP, hql⟩
      rw [List.length_map, pr_len h2, List.take_length] at hP
      exact s_ret (ev_var (i := 2) rfl) fun H2 e2 => q o H2 no (e.trans e2) ⟨qs, e2 _ _ hq, pr_imp (fun _ _ q => ex_t ((hidT_sub).trans e2) q) hP⟩
end
end Cp
/-! Cp3c -/
namespace Cp
open PySem PySem.Spec PyProof.Rows L2 Evl
theorem good_edges {u : Nat} {as : List Sm15.Atom} (h : AtomsOk u as) (ls : List Int) : Good u (Sm15.edgesOf as ls) := by
  intro e he
  obtain ⟨l, _, hl⟩ := List.mem_filterMap.mp he
  unfold Sm15.edgeOf at hl
  split at hl
  · rename_i a b c q
    have g := h _ (List.mem_of_getElem? q)
    unfold Sm15.goodBound at g
    simp only [Bool.and_eq_true, decide_eq_true_eq] at g
    split at hl
    · cases hl
      exact ⟨g.1, g.2.1⟩
    · cases hl
      exact ⟨g.2.1, g.1⟩
  · cases hl
theorem ev_callL1 {σ : L2.St} {H : Hp} {te : TE} {sp : Sp} {E : XK} {xs : List V} {z : V} (h : EvL te σ H xs) (hs : ∀ p H1, Ex H H1 → H1 p = some (.lst xs) → ∀ Q : VK, RetV z H1 Q → ∀ E, sp [.ref p] H1 Q E) : Ev (tCall sp [] E (tCons te tNil)) σ H z := fun H1 e Q q =>
  h H1 e _ fun p H2 _ e2 hp => hs p H2 (e.trans e2) hp Q (fun H3 e3 => q H3 (e2.trans e3)) E
/-! ### the reason -/
def eD (as : List Sm15.Atom) (l : Int) : Sm15.Edge := (Sm15.edgeOf as l).getD ⟨0, 0, 0⟩
theorem edges_all {as : List Sm15.Atom} : ∀ {B : List Int}, (∀ l ∈ B, (Sm15.edgeOf as l).isSome = true) → Sm15.edgesOf as B = B.map (eD as)
  | [], _ => rfl
  | l :: B, h => by
    have ih := edges_all (B := B) fun l' hl => h l' (List.mem_cons_of_mem _ hl)
    obtain ⟨e, he⟩ := Option.isSome_iff_exists.mp (h l List.mem_cons_self)
    unfold Sm15.edgesOf at ih ⊢
    rw [List.filterMap_cons, he, List.map_cons, ih]
    unfold eD
    rw [he]
    rfl
theorem bounding_all {as : List Sm15.Atom} {ls : List Int} : ∀ l ∈ bounding as ls, (Sm15.edgeOf as l).isSome = true := fun l hl => (List.mem_filter.mp hl).2
theorem edges_bounding {as : List Sm15.Atom} {ls : List Int} : Sm15.edgesOf as (bounding as ls) = Sm15.edgesOf as ls := filterMap_some _ _
theorem edges_choice {as : List Sm15.Atom} {B : List Int} (hB : ∀ l ∈ B, (Sm15.edgeOf as l).isSome = true) {c : List Nat} (hc : ∀ i ∈ c, i < B.length) : Sm15.edgesOf as (c.map fun j => B.getD j 0) = c.map fun j => (Sm15.edgesOf as B).getD j ⟨0, 0, 0⟩ := by
  rw [edges_all hB, edges_all, List.map_map]
  · refine List.map_congr_left fun j hj => ?_
    have := hc j hj
    show eD as (B.getD j 0) = (B.map (eD as)).getD j ⟨0, 0, 0⟩
    rw [List.getD_eq_getElem?_getD, List.getD_eq_getElem?_getD, List.getElem?_map, List.getElem?_eq_getElem this]
    rfl
  · intro l hl
    obtain ⟨j, hj, rfl⟩ := List.mem_map.mp hl
    have := hc j hj
    refine hB _ ?_
    rw [List.getD_eq_getElem?_getD, List.getElem?_eq_getElem this]
    exact List.getElem_mem this
theorem first_found {n u i j : Nat} {p : List Nat → Bool} {c : List Nat} (hi : i ≤ u) (h0 : ∀ k, k < i → ∀ c ∈ levelP n (k + 1), p c = false) (h1 : ∀ c ∈ (levelP n (i + 1)).take j, p c = false) (hc : (levelP n (i + 1))[j]? = some c) (hp : p c = true) : firstP n p u = some c := by
  unfold firstP
  rw [find_level (L := fun s => levelP n (s + 1)) (m := i) (by omega) h0 ⟨c, List.mem_of_getElem? hc, hp⟩]
  have lt : j < (levelP n (i + 1)).length := (List.getElem?_eq_some_iff.mp hc).1
  have e : levelP n (i + 1) = (levelP n (i + 1)).take j ++ c :: (levelP n (i + 1)).drop (j + 1) := by
    have := List.take_append_drop j (levelP n (i + 1))
    rw [List.drop_eq_getElem_cons lt] at this
    rw [List.getElem?_eq_getElem lt] at hc
    rw [Option.some.inj hc] at this
    exact this.symm
  show (levelP n (i + 1)).find? p = some c
  rw [e, List.find?_append, List.find?_eq_none.mpr (fun x hx => by rw [h1 x hx]; decide), Option.none_or, List.find?_cons, hp]
theorem first_none {n u : Nat} {p : List Nat → Bool} (h0 : ∀ k, k < u + 1 → ∀ c ∈ levelP n (k + 1), p c = false) : firstP n p u = none := by
  unfold firstP
  rw [List.find?_eq_none]
  intro c hc
  obtain ⟨k, hk, hc⟩ := List.mem_flatMap.mp hc
  rw [h0 k (List.mem_range.mp hk) c hc]
  decide
theorem level_len2 (n k : Nat) : (levelP n k).length ≤ 2 ^ n := by
  have := level_len (List.replicate n 0) k
  rw [List.length_replicate] at this
  exact this
section
variable {P : Program} {w : World} {K : PySem.W.Frag} {mg : Str → Option Value} {base : Heap} {D : Ad}
def spReason (K : PySem.W.Frag) : Sp := fun vs H Q _ => ∃ (aA aL : Addr) (u : Nat) (as : List Sm15.Atom) (ls : List Int), vs = [.ref aA, .int (u : Int), .ref aL] ∧ AtomsAt K H aA as ∧ SqL K H aL (ls.map V.int) ∧ Lits as.length ls ∧ ls.length ≤ 8 ∧ u ≤ 4 ∧ AtomsOk u as ∧
  (Sm15.reason u as ls = none → RetV .non H Q) ∧ ∀ r, Sm15.reason u as ls = some r → RetL (r.map V.int) H Q
theorem ok_reason_of (T : Txt K mg D) : FnOk P w K mg base CX0 4 D.a_reason_of D.d_reason_of ["atoms", "u", "literals"] (spReason K) := by
  refine T.f_reason_of.ok sc_reason_of (fun vs H Q E h => ?_) (fun cdv A outer s H vs Q E hr h => ?_)
  · obtain ⟨_, _, _, _, _, rfl, _⟩ := h
    rfl
  · obtain ⟨aA, aL, u, as, ls, rfl, hA, hL, hl, hz, hu, hok, q1, q2⟩ := h
    have hg := good_edges hok
    refine ⟨_, (pss_cons (ps_if (pt_val (pe_call (ok_can_be_together T) hr (by rfl) T.g_can_be_together T.f_can_be_together.kp T.n_can_be_together .nil pass0 (pa_cons (pv 0) (pa_cons (pv 1) (pa_cons (pv 2) pa_nil))))) (pss_one (ps_ret pe_non)) pss_nil)
      (pss_cons (ps_set (i := 3) sc_reason_of.nd rfl (Or.inr rfl) (pe_lc (own := [("literal", 8)]) (g := gName 8) (by rfl) sc_reason_of.nd (pi_list (pv 2)) (blkOk_by (own := [("literal", 8)]) (N := ["atoms", "u", "literals", "bounding", "said", "choices", "size", "choice", "literal", "spot"]) (sc := defScope s_reason_of) (by decide +kernel)) (fun _ _ _ _ _ => (pg_name (i := 8) sc_reason_of.nd rfl (Or.inl rfl))) (fun _ _ _ _ _ => (pts_one (pt_cmpR (op_neDK K hr.units) (pe_ix (ix_listK K) (pv 0) (pe_op op_sub (pe_callB call_abs (by rfl) T.b_abs (by decide +kernel) (pa_cons (pv 8) pa_nil)) pe_int) (fun _ _ => rfl)) (pe_gr (by rfl) T.c_QUESTION) (nomark _)))) (fun _ _ _ _ _ => (pv 8))))
      (pss_cons (ps_set (i := 4) sc_reason_of.nd rfl (Or.inr rfl) (pe_call (ok_bounds_said T) (hr.mono (by decide)) (by rfl) T.g_bounds_said T.f_bounds_said.kp T.n_bounds_said .nil pass0 (pa_cons (pv 0) (pa_cons (pv 3) pa_nil))))
      (pss_cons (ps_set (i := 5) sc_reason_of.nd rfl (Or.inl rfl) (pe_lst (pa_cons (pe_tup pa_nil) pa_nil)))
      (pss_cons (ps_for PassesOwn.never rfl (pi_range1 (by rfl) T.b_range (pa_cons (pe_op op_add (pv 1) pe_int) pa_nil)) (pg_name (i := 6) sc_reason_of.nd rfl (Or.inl rfl)) (pss_cons (ps_set (i := 5) sc_reason_of.nd rfl (Or.inl rfl) (pe_call (ok_one_place_more T) (hr.mono (by decide)) (by rfl) T.g_one_place_more T.f_one_place_more.kp T.n_one_place_more .nil pass0 (pa_cons (pv 5) (pa_cons (pe_callB call_len_seq (by rfl) T.b_len PySem.boot_len (pa_cons (pv 4) pa_nil)) pa_nil))))
      (pss_one (ps_for PassesOwn.never rfl (pi_list (pv 5)) (pg_name (i := 7) sc_reason_of.nd rfl (Or.inl rfl)) (pss_one (ps_if (pt_val (pe_call (ok_add_up_to_less_than_0 T) (hr.mono (by decide)) (by rfl) T.g_add_up_to_less_than_0 T.f_add_up_to_less_than_0.kp T.n_add_up_to_less_than_0 .nil pass0 (pa_cons (pe_lc (own := [("spot", 9)]) (g := gName 9) (by rfl) sc_reason_of.nd (pi_tup (pv 7)) (blkOk_by (own := [("spot", 9)]) (N := ["atoms", "u", "literals", "bounding", "said", "choices", "size", "choice", "literal", "spot"]) (sc := defScope s_reason_of) (by decide +kernel)) (fun _ _ _ _ _ => (pg_name (i := 9) sc_reason_of.nd rfl (Or.inl rfl))) (fun _ _ _ _ _ => pts_nil) (fun _ _ _ _ _ => (pe_ix (ix_listK K) (pv 4) (pv 9) (fun _ _ => rfl)))) pa_nil))) (pss_one (ps_ret (pe_lc (own := [("spot", 9)]) (g := gName 9) (by rfl) sc_reason_of.nd (pi_tup (pv 7)) (blkOk_by (own := [("spot", 9)]) (N := ["atoms", "u", "literals", "bounding", "said", "choices", "size", "choice", "literal", "spot"]) (sc := defScope s_reason_of) (by decide +kernel)) (fun _ _ _ _ _ => (pg_name (i := 9) sc_reason_of.nd rfl (Or.inl rfl))) (fun _ _ _ _ _ => pts_nil) (fun _ _ _ _ _ => (pe_ix (ix_listK K) (pv 3) (pv 9) (fun _ _ => rfl)))))) pss_nil))))))
      (pss_one (ps_ret pe_non))))))), ?_⟩
    refine q_when (et_B (ev_call (dvs := []) (ea_cons (ev_var (i := 0) rfl) (ea_cons (ev_var (i := 1) rfl) (ea_cons (ev_var (i := 2) rfl) ea_nil))) fun H1 e1 Q1 k1 E1 => ⟨aA, aL, u, as, ls, rfl, hA.ex e1, ex_l e1 hL, hl, by omega, by omega, hg ls, k1⟩)) (fun hb H1 e1 => ?_) (fun hb H1 e1 => ?_)
    · exact s_ret ev_c fun H2 e2 => q1 (reason_none hg hb) H2 (e1.trans e2)
    · obtain ⟨r1, r2⟩ := reason_prog hg hb
      -- bounding
      have atom : ∀ {H'}, Ex H H' → ∀ l ∈ ls, ∃ (pa : List Addr) (p : Addr) (x : Sm15.Atom), SqL K H' aA (pa.map V.ref) ∧ pa[l.natAbs - 1]? = some p ∧ as[l.natAbs - 1]? = some x ∧ AtomAt K H' p x := fun e l hm => by
        obtain ⟨pa, s1, s2⟩ := hA.ex e
        have hb := hl l hm
        have lt : l.natAbs - 1 < as.length := by omega
        obtain ⟨p, hp, r⟩ := pr_get s2 (List.getElem?_eq_getElem lt)
        exact ⟨pa, p, _, s1, hp, List.getElem?_eq_getElem lt, r⟩
      have gb := lcL (K := K) (σ := [some (.ref aA), some (.int (u : Int)), some (.ref aL), none, none, none, none, none, none, none]) (H := H1) (t := tTest (tOp (rNeD K) (tOp (rIxL K) (tVar 0) (tOp (rI0 fun i j => .int (i - j)) (tCB (fun xs H Q => ∃ i, xs = [.int i] ∧ Q (.int (if i < 0 then -i else i)) H) (tCons (tVar 8) tNil)) (tC (.int 1)))) (tC (.ref D.o_QUESTION)))) (te := tVar 8) (tl := tVar 2) (j := 8) (vs := [8]) (emb := V.int) (fun l => (Sm15.edgeOf as l).isSome) V.int (ev_var rfl) (ex_l e1 hL) (by omega) (fun x => rfl)
        (fun m hm H2 e2 => by
          obtain ⟨pa, p, x, s1, hp, hx, hat⟩ := atom (e1.trans e2) m hm
          have ab : ((m.natAbs : Int) - 1) = ((m.natAbs - 1 : Nat) : Int) := by
            have := (hl m hm).1
            omega
          have rd : Ev (tOp (rIxL K) (tVar 0) (tOp (rI0 fun i j => .int (i - j)) (tCB (fun xs H Q => ∃ i, xs = [.int i] ∧ Q (.int (if i < 0 then -i else i)) H) (tCons (tVar 8) tNil)) (tC (.int 1)))) ((wipe [some (.ref aA), some (.int (u : Int)), some (.ref aL), none, none, none, none, none, none, none] [8]).set 8 (some (.int m))) H2 (.ref p) :=
            ev_ixL (ev_var (i := 0) rfl) s1 (ev_sub (ev_abs (i := m) (ev_var (i := 8) rfl)) ev_c) (at_of ab (by rw [List.getElem?_map, hp]; rfl))
          cases x with
          | yes =>
            rw [edgeOf_yes hx]
            exact et_test (ev_op (z := .bl false) rd ev_c fun H3 e3 Q3 q3 => ⟨_, _, dp_tup0 (ex_t e3 hat), dp_tup0 (T.w_QUESTION H3), rfl, rfl, q3 H3 (Ex.refl H3)⟩)
          | bound a b c =>
            rw [edgeOf_bound hx]
            exact et_test (ev_op (z := .bl true) rd ev_c fun H3 e3 Q3 q3 => ⟨_, _, dp_tup3 (ex_t e3 hat), dp_tup0 (T.w_QUESTION H3), rfl, rfl, q3 H3 (Ex.refl H3)⟩)) (fun m _ H2 e _ => ev_var (i := 8) rfl)
      refine q_asgL gb fun aB H2 nB e2 hB => ?_
      have hBl : (bounding as ls).length ≤ 8 := Nat.le_trans (List.length_filter_le _ _) hz
      have hBall := bounding_all (as := as) (ls := ls)
      have litB : Lits as.length (bounding as ls) := fun y hy => hl y (List.mem_filter.mp hy).1
      have hB : H2 aB = some (.lst ((bounding as ls).map V.int)) := hB
      rw [reason_places] at r1 r2
      generalize hBd : bounding as ls = B at *
      have e12 := e1.trans e2
      -- said
      refine ⟨.ref aA, rfl, .ref aB, rfl, aA, aB, as, B, rfl, hA.ex e12, sq_of hB, litB, by omega, fun aE H3 nE e3 hE => ?_⟩
      have hEl : (Sm15.edgesOf as B).length = B.length := by rw [edges_all hBall, List.length_map]
      have hB3 := e3 _ _ hB
      have e13 := e12.trans e3
      -- choices = [()]
      refine ⟨by show 0 ≤ sizeLine; decide, fun t0 nt0 => ?_⟩
      have eT : Ex H3 (upd H3 t0 (.tup [])) := Ex.new nt0
      have hT : (upd H3 t0 (.tup [])) t0 = some (.tup []) := upd_same
      generalize upd H3 t0 (.tup []) = H4 at *
      refine ⟨by show 1 ≤ sizeLine; decide, fun aC naC => ?_⟩
      have eC : Ex H4 (upd H4 aC (.lst [.ref t0])) := Ex.new naC
      have hC : ChoicesAt K (upd H4 aC (.lst [.ref t0])) aC (levelP B.length 0) := ⟨[t0], by rw [upd_same]; rfl, .cons (st_of (eC _ _ hT)) .nil⟩
      generalize upd H4 aC (.lst [.ref t0]) = H5 at *
      have e35 := eT.trans eC
      have pw : 2 ^ B.length ≤ 256 := Nat.le_trans (Nat.pow_le_pow_right (by decide) hBl) (by decide)
      refine q_forR1 (n := (u : Int) + 1) (ea_cons (ev_add (ev_var (i := 1) rfl) ev_c) ea_nil) (by omega)
        (fun i σ H' => ∃ aC y6 y7 y8 y9, σ = [some (.ref aA), some (.int (u : Int)), some (.ref aL), some (.ref aB), some (.ref aE), some (.ref aC), y6, y7, y8, y9] ∧ Ex H3 H' ∧ ChoicesAt K H' aC (levelP B.length i) ∧ ∀ k, k < i → ∀ c ∈ levelP B.length (k + 1), balB (Sm15.edgesOf as (c.map fun j => B.getD j 0)) = false)
        (fun H6 e6 => ⟨aC, none, none, none, none, rfl, e35.trans e6, hC.ex e6, fun k hk => absurd hk (Nat.not_lt_zero _)⟩) ?_ ?_
      · rintro i σ H6 hi ⟨aC, y6, y7, y8, y9, rfl, e6, hC, hno⟩
        have hE6 := hE.ex e6
        obtain ⟨ps, hE1, hE2⟩ := id hE6
        have psl : ps.length = B.length := by rw [pr_len hE2, hEl]
        have hlenE := ev_lenL (K := K) (σ := [some (.ref aA), some (.int (u : Int)), some (.ref aL), some (.ref aB), some (.ref aE), some (.ref aC), some (.int (i : Int)), y7, y8, y9]) (ta := tVar 4) (ev_var rfl) (sq_of hE1)
        rw [List.length_map, psl] at hlenE
        -- choices = one_place_more(choices, len(said))
        refine ⟨.ref aC, rfl, hlenE H6 (Ex.refl _) _ fun H7 e7 => ⟨aC, B.length, levelP B.length i, rfl, hC.ex e7, by omega, by have := level_len2 B.length i; omega, fun c hc => ?_, fun aC2 H8 nC2 e8 hC2 => ?_⟩⟩
        · obtain ⟨h1, h2⟩ := level_mem hc
          exact ⟨by omega, h2⟩
        have e78 := e7.trans e8
        have e68 := e6.trans e78
        have hC2 : ChoicesAt K H8 aC2 (levelP B.length (i + 1)) := hC2
        obtain ⟨cps, hc1, hc2⟩ := id hC2
        refine s_forL (K := K) (xs := cps.map V.ref) (ev_var (i := 5) rfl) (sq_of hc1) (fun j σ H' => ∃ y7 y8 y9, σ = [some (.ref aA), some (.int (u : Int)), some (.ref aL), some (.ref aB), some (.ref aE), some (.ref aC2), some (.int (i : Int)), y7, y8, y9] ∧ Ex H8 H' ∧ ∀ c ∈ (levelP B.length (i + 1)).take j, balB (Sm15.edgesOf as (c.map fun j => B.getD j 0)) = false)
          (fun H9 e9 => ⟨y7, y8, y9, rfl, e9, fun c hc => by simp at hc⟩) (fun j σ H' _ ⟨_, _, _, _, e, _⟩ => sq_of (e _ _ hc1)) ?_ ?_
        · rintro j x σ H9 hj ⟨y7, y8, y9, rfl, e9, hno2⟩
          obtain ⟨cp, hcp, rfl, _⟩ := map_at hj
          obtain ⟨c, hcm, hat⟩ := pr_get2 hc2 hcp
          obtain ⟨cl, cn⟩ := level_mem (List.mem_of_getElem? hcm)
          have hat9 : SqT K H9 cp (c.map fun (n : Nat) => V.int (n : Int)) := ex_t e9 hat
          have e39 := e68.trans e9
          have hE9 := hE.ex e39
          obtain ⟨ps9, hE91, hE92⟩ := id hE9
          have ps9l : ps9.length = B.length := by rw [pr_len hE92, hEl]
          -- [said[spot] for spot in choice]
          have gs := lcT (K := K) (σ := [some (.ref aA), some (.int (u : Int)), some (.ref aL), some (.ref aB), some (.ref aE), some (.ref aC2), some (.int (i : Int)), some (.ref cp), y8, y9]) (H := H9) (t := tYes) (te := tOp (rIxL K) (tVar 4) (tVar 9)) (tl := tVar 7) (j := 9) (vs := [9]) (emb := fun (n : Nat) => V.int (n : Int)) (fun _ => true) (fun j => V.ref (ps9.getD j 0)) (ev_var rfl) hat9 (by omega) (fun x => rfl) (fun m _ H1 e => et_yes)
            (fun m hm H1 e _ => ev_ixL (i := (m : Int)) (ev_var (i := 4) rfl) (sq_of (e _ _ hE91)) (ev_var (i := 9) rfl) (atI_nat (by
              have := cn m hm
              rw [List.getElem?_map, List.getD_eq_getElem?_getD, List.getElem?_eq_getElem (by omega)]
              rfl)))
          rw [filter_yes, show c.map (fun j => V.ref (ps9.getD j 0)) = (c.map fun j => ps9.getD j 0).map V.ref by rw [List.map_map]; rfl] at gs
          have hadd : EvT (tB (tCall (spAdd K) [] E0 (tCons (tLc (iTup K (tVar 7)) (gName 9) tYes (tOp (rIxL K) (tVar 4) (tVar 9)) [9]) tNil))) [some (.ref aA), some (.int (u : Int)), some (.ref aL), some (.ref aB), some (.ref aE), some (.ref aC2), some (.int (i : Int)), some (.ref cp), y8, y9] H9 (balB (Sm15.edgesOf as (c.map fun j => B.getD j 0))) := by
            refine et_B (ev_callL1 gs fun aS H11 e11 hS Q11 q11 E11 => ⟨aS, Sm15.edgesOf as (c.map fun j => B.getD j 0), rfl, ?_, ?_, q11⟩)
            · refine ⟨c.map fun j => ps9.getD j 0, hS, ?_⟩
              rw [edges_choice hBall cn]
              refine pr_mk fun j hj => ?_
              have jl := cn j hj
              obtain ⟨a, ha, hR⟩ := pr_get hE92 (i := j) (List.getElem?_eq_getElem (by omega))
              have e1 : ps9.getD j 0 = a := by rw [List.getD_eq_getElem?_getD, ha]; rfl
              have e2 : (Sm15.edgesOf as B).getD j ⟨0, 0, 0⟩ = (Sm15.edgesOf as B)[j]'(by omega) := by rw [List.getD_eq_getElem?_getD, List.getElem?_eq_getElem (by omega)]; rfl
              rw [e1, e2]
              exact EdgeAt.ex e11 hR
            · rw [edges_choice hBall cn, List.length_map]
              omega
          refine s_when hadd (fun hb2 H10 e10 => ?_) (fun hb2 H10 e10 => ?_)
          · have ff := first_found (u := u) (by omega) hno hno2 hcm hb2
            rw [ff] at r1
            have gr := lcT (K := K) (σ := [some (.ref aA), some (.int (u : Int)), some (.ref aL), some (.ref aB), some (.ref aE), some (.ref aC2), some (.int (i : Int)), some (.ref cp), y8, y9]) (H := H10) (t := tYes) (te := tOp (rIxL K) (tVar 3) (tVar 9)) (tl := tVar 7) (j := 9) (vs := [9]) (emb := fun (n : Nat) => V.int (n : Int)) (fun _ => true) (fun j => V.int (B.getD j 0)) (ev_var rfl) (ex_t e10 hat9) (by omega) (fun x => rfl) (fun m _ H1 e => et_yes)
              (fun m hm H1 e _ => ev_ixL (ev_var (i := 3) rfl) (sq_of (e _ _ (e10 _ _ (e39 _ _ hB3)))) (ev_var (i := 9) rfl) (at_ints (cn m hm)))
            rw [filter_yes, show c.map (fun j => V.int (B.getD j 0)) = (c.map fun j => B.getD j 0).map V.int by rw [List.map_map]; rfl] at gr
            exact s_retL gr fun p H11 np e11 hp => q2 _ r1 p H11 (fresh_back (e13.trans (e39.trans e10)) np) ((e13.trans (e39.trans e10)).trans e11) hp
          · refine ⟨_, _, _, rfl, e9.trans e10, fun c' hc' => ?_⟩
            rw [List.take_add_one, hcm, List.mem_append] at hc'
            rcases hc' with z | z
            · exact hno2 c' z
            · have : c' = c := by simpa using z
              rw [this]
              exact hb2
        · rintro σ H9 ⟨y7, y8, y9, rfl, e9, hno2⟩
          rw [List.length_map, pr_len hc2, List.take_length] at hno2
          refine ⟨aC2, _, _, _, _, rfl, e68.trans e9, hC2.ex e9, fun k hk c hc => ?_⟩
          by_cases z : k = i
          · subst z
            exact hno2 c hc
          · exact hno k (by omega) c hc
      · rintro σ H6 ⟨aC, y6, y7, y8, y9, rfl, e6, hC, hno⟩
        rw [show ((u : Int) + 1).toNat = u + 1 by omega] at hno
        rw [first_none hno] at r2
        cases r2
end
end Cp
/-! Cp3d -/
namespace Cp
open PySem PySem.Spec PyProof.Rows L2 Evl
def neg0 : Option Int → Bool
  | some h => decide (h < 0)
  | none => false
theorem neg0_some {o : Option Int} (h : neg0 o = true) : ∃ x, o = some x ∧ x < 0 := by
  cases o with
  | none => cases h
  | some x => exact ⟨x, rfl, of_decide_eq_true h⟩
def pickP (a b : Option Int) : Int := if neg0 a = true then a.getD 0 else if neg0 b = true then -(b.getD 0) else 0
theorem near_pick (u : Nat) (es : List Sm15.Edge) (x : Nat) : nearP u es x = pickP ((Sm15.rounds es u (startB u 0)).getD x none) ((Sm15.rounds es u (startB u x)).getD 0 none) := by
  unfold nearP
  generalize (Sm15.rounds es u (startB u 0)).getD x none = a
  generalize (Sm15.rounds es u (startB u x)).getD 0 none = b
  unfold pickP
  cases a with
  | none =>
    cases b with
    | none => rfl
    | some l =>
      show (if l < 0 then -l else 0) = if decide (l < 0) = true then -l else 0
      by_cases c : l < 0
      · rw [if_pos c, if_pos (decide_eq_true c)]
      · rw [if_neg c, if_neg (by simpa using c)]
  | some h =>
    show (if h < 0 then h else _) = if decide (h < 0) = true then h else _
    by_cases c : h < 0
    · rw [if_pos c, if_pos (decide_eq_true c)]
    · rw [if_neg c, if_neg (by simpa using c)]
      cases b with
      | none => rfl
      | some l =>
        show (if l < 0 then -l else 0) = if decide (l < 0) = true then -l else 0
        by_cases c : l < 0
        · rw [if_pos c, if_pos (decide_eq_true c)]
        · rw [if_neg c, if_neg (by simpa using c)]
section
variable {P : Program} {w : World} {K : PySem.W.Frag} {mg : Str → Option Value} {base : Heap} {D : Ad}
/-! ### most_above -/
theorem rounds_len (es : List Sm15.Edge) : ∀ (k : Nat) (v : List (Option Int)), (Sm15.rounds es k v).length = v.length
  | 0, v => rfl
  | k + 1, v => by
    rw [rounds_succ, toRound_eq, ← foldO_fst es (Sm15.rounds es k v, false), foldO_len]
    exact rounds_len es k v
def spMa (K : PySem.W.Frag) : Sp := fun vs H Q _ => ∃ (aE : Addr) (u b : Nat) (es : List Sm15.Edge), vs = [.int (u : Int), .ref aE, .int (b : Int)] ∧ EdgesAt K H aE es ∧ Good u es ∧ b ≤ u ∧ u ≤ 4 ∧ es.length ≤ 1000 ∧ RetL ((Sm15.rounds es u (startB u b)).map optI) H Q
theorem ok_most_above (T : Txt K mg D) : FnOk P w K mg base CX0 2 D.a_most_above D.d_most_above ["u", "said", "base"] (spMa K) := by
  refine T.f_most_above.ok sc_most_above (fun vs H Q E h => ?_) (fun cdv A outer s H vs Q E hr h => ?_)
  · obtain ⟨_, _, _, _, rfl, _⟩ := h
    rfl
  · obtain ⟨aE, u, b, es, rfl, hE, hg, hb, hu, hz, q⟩ := h
    refine ⟨_, (pss_cons (ps_set (i := 3) sc_most_above.nd rfl (Or.inl rfl) (pe_op op_rep (pe_lst (pa_cons pe_non pa_nil)) (pe_op op_add (pv 0) pe_int)))
      (pss_cons (ps_asg pe_int (pg_sub (pv 3) (pv 2) set_list))
      (pss_cons (ps_for PassesOwn.never rfl (pi_range1 (by rfl) T.b_range (pa_cons (pv 0) pa_nil)) (pg_name (i := 4) sc_most_above.nd rfl (Or.inl rfl)) (pss_one (ps_expr (pe_call (ok_lower_once T) hr (by rfl) T.g_lower_once T.f_lower_once.kp T.n_lower_once .nil pass0 (pa_cons (pv 3) (pa_cons (pv 1) pa_nil))))))
      (pss_one (ps_ret (pv 3)))))), ?_⟩
    refine ⟨by show 1 ≤ sizeLine; decide, fun p0 n0 => ⟨.int (u : Int), rfl, (u : Int), 1, rfl, rfl, p0, (u : Int) + 1, [.non], rfl, rfl, upd_same, by omega, by omega, sz_of (by show 1 * ((u : Int) + 1).toNat ≤ 100000; omega), fun av nv => ?_⟩⟩
    have e2 : Ex H (upd H p0 (.lst [.non])) := Ex.new n0
    have nvH : H av = none := fresh_back e2 nv
    have e3 : Ex (upd H p0 (.lst [.non])) (upd (upd H p0 (.lst [.non])) av (.lst (List.replicate ((u : Int) + 1).toNat [V.non]).flatten)) := Ex.new nv
    have hrep : (List.replicate ((u : Int) + 1).toNat [V.non]).flatten = (List.replicate (u + 1) (none : Option Int)).map optI := by
      rw [flat_rep, List.map_replicate, show ((u : Int) + 1).toNat = u + 1 by omega]
      rfl
    have h0 : (upd (upd H p0 (.lst [.non])) av (.lst (List.replicate ((u : Int) + 1).toNat [V.non]).flatten)) av = some (.lst ((List.replicate (u + 1) (none : Option Int)).map optI)) := by rw [upd_same, hrep]
    have e03 := e2.trans e3
    generalize upd (upd H p0 (.lst [.non])) av (.lst (List.replicate ((u : Int) + 1).toNat [V.non]).flatten) = H3 at *
    have nvE : aE ≠ av := by
      obtain ⟨ps, h1, _⟩ := hE
      exact ne_of_none h1 nvH
    -- values[base] = 0
    refine q_setL (j := b) h0 ev_c (ev_var (i := 3) rfl) (ev_var (i := 2) rfl) (by rw [List.length_map, List.length_replicate]; omega) fun H4 e4 => ?_
    have hst : ((List.replicate (u + 1) (none : Option Int)).map optI).set b (.int 0) = (startB u b).map optI := by
      unfold startB
      rw [List.map_set]
      rfl
    have hv4 : (upd H4 av (.lst (((List.replicate (u + 1) (none : Option Int)).map optI).set b (.int 0)))) av = some (.lst ((startB u b).map optI)) := by rw [upd_same, hst]
    have eB4 : ExB av H (upd H4 av (.lst (((List.replicate (u + 1) (none : Option Int)).map optI).set b (.int 0)))) := (ExB.of (e03.trans e4)).trans ExB.upd
    generalize upd H4 av (.lst (((List.replicate (u + 1) (none : Option Int)).map optI).set b (.int 0))) = H5 at *
    have hEat : ∀ {H'}, ExB av H H' → EdgesAt K H' aE es := fun eB => by
      obtain ⟨ps, h1, h2⟩ := hE
      exact ⟨ps, eB _ _ nvE h1, pr_imp (fun p x h => by
        have h : SqT K H p _ := h
        rcases h with (h | ⟨o, h⟩) | h
        · exact .inl (.inl (eB _ _ (ne_of_none h nvH) h))
        · exact .inl (.inr ⟨o, eB _ _ (ne_of_none h nvH) h⟩)
        · exact .inr h) h2⟩
    refine q_forR1 (n := (u : Int)) (ea_cons (ev_var (i := 0) rfl) ea_nil) (by omega)
      (fun i σ H' => ∃ y, σ = [some (.int (u : Int)), some (.ref aE), some (.int (b : Int)), some (.ref av), y] ∧ ExB av H H' ∧ H' av = some (.lst ((Sm15.rounds es i (startB u b)).map optI)))
      (fun H6 e6 => ⟨none, rfl, eB4.trans (ExB.of e6), e6 _ _ hv4⟩) ?_ ?_
    · rintro i σ H6 hi ⟨y, rfl, eB, hv⟩
      refine ⟨.ref av, rfl, .ref aE, rfl, av, aE, u, Sm15.rounds es i (startB u b), es, rfl, hv, hEat eB, nvE, hg, by rw [rounds_len]; simp [startB], hz, fun H7 eB7 hv7 => ⟨_, rfl, eB.trans eB7, ?_⟩⟩
      rw [foldO_fst, ← toRound_eq, ← rounds_succ] at hv7
      exact hv7
    · rintro σ H6 ⟨y, rfl, eB, hv⟩
      rw [show ((u : Int)).toNat = u by omega] at hv
      exact s_ret (ev_var (i := 3) rfl) fun H7 e7 => q av H7 nvH (ExB.new (Ex.refl H) nvH (eB.trans (ExB.of e7))) (e7 _ _ hv)
/-! ### nearest_to_0 -/
def spNt (K : PySem.W.Frag) : Sp := fun vs H Q _ => ∃ (aE : Addr) (u x : Nat) (es : List Sm15.Edge), vs = [.int (u : Int), .ref aE, .int (x : Int)] ∧ EdgesAt K H aE es ∧ Good u es ∧ x ≤ u ∧ u ≤ 4 ∧ es.length ≤ 1000 ∧ RetV (.int (nearP u es x)) H Q
theorem ev_nth {σ : L2.St} {H : Hp} {te tb : TE} {vs : List (Option Int)} {j : Nat} (h : EvL te σ H (vs.map optI)) (hb : ∀ H1, Ex H H1 → Ev tb σ H1 (.int (j : Int))) (hj : j < vs.length) : Ev (tOp (rIxL K) te tb) σ H (optI (vs.getD j none)) := ev_opL1 h hb fun p H1 hp e => rv_ixL (sq_of hp) (at_opts hj)
theorem ok_nearest_to_0 (T : Txt K mg D) : FnOk P w K mg base CX0 3 D.a_nearest_to_0 D.d_nearest_to_0 ["u", "said", "unknown"] (spNt K) := by
  refine T.f_nearest_to_0.ok sc_nearest_to_0 (fun vs H Q E h => ?_) (fun cdv A outer s H vs Q E hr h => ?_)
  · obtain ⟨_, _, _, _, rfl, _⟩ := h
    rfl
  · obtain ⟨aE, u, x, es, rfl, hE, hg, hx, hu, hz, q⟩ := h
    refine ⟨_, (pss_cons (ps_set (i := 3) sc_nearest_to_0.nd rfl (Or.inl rfl) (pe_ix ix_list (pe_call (ok_most_above T) hr (by rfl) T.g_most_above T.f_most_above.kp T.n_most_above .nil pass0 (pa_cons (pv 0) (pa_cons (pv 1) (pa_cons pe_int pa_nil)))) (pv 2) (fun _ _ => rfl)))
      (pss_cons (ps_if (PW.pt (pw_and (pt_cmpR op_notN (pv 3) pe_non (nomark _)) (pw_and1 (pt_cmpR op_lt (pv 3) pe_int (nomark _))))) (pss_one (ps_ret (pv 3))) pss_nil)
      (pss_cons (ps_set (i := 4) sc_nearest_to_0.nd rfl (Or.inl rfl) (pe_ix ix_list (pe_call (ok_most_above T) hr (by rfl) T.g_most_above T.f_most_above.kp T.n_most_above .nil pass0 (pa_cons (pv 0) (pa_cons (pv 1) (pa_cons (pv 2) pa_nil)))) pe_int (fun _ _ => rfl)))
      (pss_cons (ps_if (PW.pt (pw_and (pt_cmpR op_notN (pv 4) pe_non (nomark _)) (pw_and1 (pt_cmpR op_lt (pv 4) pe_int (nomark _))))) (pss_one (ps_ret (pe_un un_neg (pv 4)))) pss_nil)
      (pss_one (ps_ret pe_int)))))), ?_⟩
    have len : ∀ b, (Sm15.rounds es u (startB u b)).length = u + 1 := fun b => by rw [rounds_len]; simp [startB]
    have call : ∀ {σ : L2.St} {H1 : Hp} {tu tx tz : TE} (b : Nat), b ≤ u → Ex H H1 → Ev tu σ H1 (.int (u : Int)) → Ev tx σ H1 (.ref aE) → Ev tz σ H1 (.int (b : Int)) → EvL (tCall (spMa K) [] E0 (tCons tu (tCons tx (tCons tz tNil)))) σ H1 ((Sm15.rounds es u (startB u b)).map optI) := fun b hb e1 h1 h2 h3 =>
      el_call (dvs := []) (ea_cons h1 (ea_cons h2 (ea_cons h3 ea_nil))) fun H2 e2 Q2 q2 E2 => ⟨aE, u, b, es, rfl, hE.ex (e1.trans e2), hg, hb, hu, hz, q2⟩
    have r1 := fun {y4} => ev_nth (K := K) (H := H) (j := x) (tb := tVar 2) (call (σ := [some (.int (u : Int)), some (.ref aE), some (.int (x : Int)), none, y4]) (tu := tVar 0) (tx := tVar 1) (tz := tC (.int 0)) 0 (Nat.zero_le _) (Ex.refl H) (ev_var rfl) (ev_var rfl) ev_c) (fun H1 _ => ev_var rfl) (by rw [len]; omega)
    refine q_asg r1 fun H1 e1 => ?_
    rw [near_pick] at q
    clear r1
    generalize (Sm15.rounds es u (startB u 0)).getD x none = o1 at *
    have test : ∀ {H' : Hp} {σ : L2.St} {i : Nat} {o : Option Int}, σ[i]? = some (some (optI o)) → EvT (tAnd (tTest (tOp (fun x y H Q => y = V.non ∧ Q (.bl (!decide (x = V.non))) H) (tVar i) (tC .non))) (tTest (tOp (rI0 fun i j => .bl (decide (i < j))) (tVar i) (tC (.int 0))))) σ H' (neg0 o) := fun {H' σ i o} h => by
      refine et_is (et_and (et_test (ev_notO (o := o) optI_ne (ev_var h))) (b := neg0 o) fun hs => ?_) (by cases o <;> rfl)
      cases o with
      | none => cases hs
      | some x => exact et_test (ev_lt (i := x) (ev_var h) ev_c)
    refine q_when (test (o := o1) rfl) (fun hb H2 e2 => ?_) (fun hb H2 e2 => ?_)
    · obtain ⟨h, rfl, _⟩ := neg0_some hb
      unfold pickP at q
      rw [if_pos hb] at q
      exact s_ret (ev_var (i := 3) rfl) fun H3 e3 => q H3 ((e1.trans e2).trans e3)
    · have e12 := e1.trans e2
      have r2 := ev_nth (K := K) (H := H2) (j := 0) (tb := tC (.int 0)) (call (σ := [some (.int (u : Int)), some (.ref aE), some (.int (x : Int)), some (optI o1), none]) (tu := tVar 0) (tx := tVar 1) (tz := tVar 2) x hx e12 (ev_var rfl) (ev_var rfl) (ev_var rfl)) (fun H1 _ => ev_c) (by rw [len]; omega)
      refine q_asg r2 fun H3 e3 => ?_
      unfold pickP at q
      rw [if_neg (by rw [hb]; decide)] at q
      clear r2
      generalize (Sm15.rounds es u (startB u x)).getD 0 none = o2 at *
      refine q_when (test (o := o2) rfl) (fun hb2 H4 e4 => ?_) (fun hb2 H4 e4 => ?_)
      · obtain ⟨l, rfl, _⟩ := neg0_some hb2
        rw [if_pos hb2] at q
        exact s_ret (ev_neg (i := l) (ev_var (i := 4) rfl)) fun H5 e5 => q H5 (((e12.trans e3).trans e4).trans e5)
      · rw [if_neg (by rw [hb2]; decide)] at q
        exact s_ret ev_c fun H5 e5 => q H5 (((e12.trans e3).trans e4).trans e5)
/-! ### nearest_values -/
def spNv (K : PySem.W.Frag) : Sp := fun vs H Q _ => ∃ (aE : Addr) (u : Nat) (es : List Sm15.Edge), vs = [.int (u : Int), .ref aE] ∧ EdgesAt K H aE es ∧ Good u es ∧ u ≤ 4 ∧ es.length ≤ 100 ∧ RetL ((numbersP u u 1 es).map V.int) H Q
theorem ok_nearest_values (T : Txt K mg D) : FnOk P w K mg base CX0 4 D.a_nearest_values D.d_nearest_values ["u", "said"] (spNv K) := by
  refine T.f_nearest_values.ok sc_nearest_values (fun vs H Q E h => ?_) (fun cdv A outer s H vs Q E hr h => ?_)
  · obtain ⟨_, _, _, rfl, _⟩ := h
    rfl
  · obtain ⟨aE, u, es, rfl, ⟨ps0, hE1, hE2⟩, hg, hu, hz, q⟩ := h
    refine ⟨_, (pss_cons (ps_set (i := 2) sc_nearest_values.nd rfl (Or.inl rfl) (pe_callTy call_list_of (by rfl) T.b_list (by decide +kernel) (pa_cons (pv 1) pa_nil)))
      (pss_cons (ps_set (i := 3) sc_nearest_values.nd rfl (Or.inl rfl) (pe_lst pa_nil))
      (pss_cons (ps_for PassesOwn.never rfl (pi_range2 (by rfl) T.b_range (pa_cons pe_int (pa_cons (pe_op op_add (pv 0) pe_int) pa_nil))) (pg_name (i := 4) sc_nearest_values.nd rfl (Or.inl rfl)) (pss_cons (ps_set (i := 5) sc_nearest_values.nd rfl (Or.inl rfl) (pe_call (ok_nearest_to_0 T) hr (by rfl) T.g_nearest_to_0 T.f_nearest_to_0.kp T.n_nearest_to_0 .nil pass0 (pa_cons (pv 0) (pa_cons (pv 2) (pa_cons (pv 4) pa_nil)))))
      (pss_cons (ps_expr (pe_bm PySem.F.plainAttrs_list PySem.F.slot_list_append PySem.F.type_list_append mt_append (pv 3) (pa_cons (pv 5) pa_nil)))
      (pss_cons (ps_expr (pe_bm PySem.F.plainAttrs_list PySem.F.slot_list_append PySem.F.type_list_append mt_append (pv 2) (pa_cons (pe_tup (pa_cons (pv 4) (pa_cons pe_int (pa_cons (pv 5) pa_nil)))) pa_nil)))
      (pss_one (ps_expr (pe_bm PySem.F.plainAttrs_list PySem.F.slot_list_append PySem.F.type_list_append mt_append (pv 2) (pa_cons (pe_tup (pa_cons pe_int (pa_cons (pv 4) (pa_cons (pe_un un_neg (pv 5)) pa_nil)))) pa_nil))))))))
      (pss_one (ps_ret (pv 3)))))), ?_⟩
    refine q_asgL (el_list (K := K) (ev_var (i := 1) rfl) (sq_of hE1)) fun aS H1 nS e1 hS => ?_
    refine q_asgL (el_lst ea_nil (Nat.zero_le _)) fun aV H2 nV e2 hV => ?_
    have nVS : aV ≠ aS := fun z => by rw [z, hS] at nV; cases nV
    refine q_forR2 (lo := 1) (n := (u : Int) + 1) (ea_cons ev_c (ea_cons (ev_add (ev_var (i := 0) rfl) ev_c) ea_nil)) (by omega)
      (fun i σ H' => ∃ (y4 y5 : Option V) (ps : List Addr) (es' : List Sm15.Edge) (vals : List Int), σ = [some (.int (u : Int)), some (.ref aE), some (.ref aS), some (.ref aV), y4, y5] ∧ Ex H H' ∧ H' aS = some (.lst (ps.map V.ref)) ∧ Paired (EdgeAt K (hidT aV (hidT aS H'))) ps es' ∧ H' aV = some (.lst (vals.map V.int)) ∧ Good u es' ∧ es'.length ≤ es.length + 2 * i ∧ vals.length = i ∧ numbersP u u 1 es = vals ++ numbersP u (u - i) (1 + i) es')
      (fun H3 e3 => ⟨none, none, ps0, es, [], rfl, (e1.trans e2).trans e3, (e2.trans e3) _ _ hS, pr_imp (fun p x h => by
        have h : SqT K H p _ := h
        have nH : H aV = none := fresh_back e1 nV
        have ee : Ex H (hidT aV (hidT aS H3)) := fun b o hb => hidT_at (ne_of_none hb nH) (hidT_at (ne_of_none hb nS) (((e1.trans e2).trans e3) _ _ hb))
        exact ex_t ee h) hE2, e3 _ _ hV, hg, by omega, rfl, rfl⟩) ?_ ?_
    · rintro i σ H3 hi ⟨y4, y5, ps, es', vals, rfl, e3, hps, hP, hvals, hg', hel, hvl, hnum⟩
      have iu : i < u := by omega
      have hEs : EdgesAt K H3 aS es' := ⟨ps, hps, pr_imp (fun p x h => by
        have h : SqT K _ p _ := h
        exact ex_t ((hidT_sub).trans hidT_sub) h) hP⟩
      have pl := pr_len hP
      refine q_asg (v := .int (nearP u es' (1 + i))) (ev_call (dvs := []) (ea_cons (ev_var (i := 0) rfl) (ea_cons (ev_var (i := 2) rfl) (ea_cons (ev_var (i := 4) rfl) ea_nil))) fun H4 e4 Q4 q4 E4 => ⟨aS, u, 1 + i, es', by show [V.int _, V.ref _, V.int _] = [V.int _, V.ref _, V.int _]; congr 3, hEs.ex e4, hg', by omega, hu, by omega, q4⟩) fun H4 e4 => ?_
      generalize hnv : nearP u es' (1 + i) = v at *
      have hnum2 : numbersP u u 1 es = (vals ++ [v]) ++ numbersP u (u - (i + 1)) (1 + (i + 1)) (es' ++ pin (1 + i) v) := by
        rw [hnum, show u - i = (u - (i + 1)) + 1 by omega]
        show vals ++ (nearP u es' (1 + i) :: numbersP u (u - (i + 1)) (1 + i + 1) (es' ++ pin (1 + i) (nearP u es' (1 + i)))) = _
        rw [hnv]
        simp
        rfl
      -- values.append(value)
      refine q_app (K := K) (e4 _ _ hvals) (ev_var (i := 3) rfl) (ev_var (i := 5) rfl) (by rw [List.length_map]; omega) fun H5 e5 => ?_
      have e45 := e4.trans e5
      have hV6 : (upd H5 aV (.lst (vals.map V.int ++ [.int v]))) aV = some (.lst ((vals ++ [v]).map V.int)) := by rw [upd_same, List.map_append]; rfl
      have hS6 : (upd H5 aV (.lst (vals.map V.int ++ [.int v]))) aS = some (.lst (ps.map V.ref)) := by rw [upd_ne nVS.symm]; exact e45 _ _ hps
      have keep6 : Ex (hidT aV (hidT aS H3)) (hidT aV (hidT aS (upd H5 aV (.lst (vals.map V.int ++ [.int v]))))) := fun b o h => by
        have nb : b ≠ aV := fun z => by unfold hidT at h; rw [if_pos z] at h; cases h
        have h2 : hidT aS H3 b = some o := hidT_sub _ _ h
        have ns : b ≠ aS := fun z => by unfold hidT at h2; rw [if_pos z] at h2; cases h2
        exact hidT_at nb (hidT_at ns (by rw [upd_ne nb]; exact e45 _ _ (hidT_sub _ _ h2)))
      have eH6 : Ex H (upd H5 aV (.lst (vals.map V.int ++ [.int v]))) := Ex.mut (e3.trans e45) (fresh_back e1 nV)
      generalize upd H5 aV (.lst (vals.map V.int ++ [.int v])) = H6 at *
      -- settled.append((unknown, 0, value))
      refine q_appU (K := K) hS6 (ev_var (i := 2) rfl) (eu_tup (ea_cons (ev_var (i := 4) rfl) (ea_cons ev_c (ea_cons (ev_var (i := 5) rfl) ea_nil))) (by show 3 ≤ 100000; decide)) (by rw [List.length_map]; omega) fun t1 H7 nt1 e7 ht1 => ?_
      have n1V : t1 ≠ aV := fun z => by rw [z, hV6] at nt1; cases nt1
      have n1S : t1 ≠ aS := fun z => by rw [z, hS6] at nt1; cases nt1
      have hS8 : (upd H7 aS (.lst (ps.map V.ref ++ [.ref t1]))) aS = some (.lst ((ps ++ [t1]).map V.ref)) := by rw [upd_same, List.map_append]; rfl
      have hV8 : (upd H7 aS (.lst (ps.map V.ref ++ [.ref t1]))) aV = some (.lst ((vals ++ [v]).map V.int)) := by rw [upd_ne nVS]; exact e7 _ _ hV6
      have keep8 : Ex (hidT aV (hidT aS H6)) (hidT aV (hidT aS (upd H7 aS (.lst (ps.map V.ref ++ [.ref t1]))))) := fun b o h => by
        have nb : b ≠ aV := fun z => by unfold hidT at h; rw [if_pos z] at h; cases h
        have h2 : hidT aS H6 b = some o := hidT_sub _ _ h
        have ns : b ≠ aS := fun z => by unfold hidT at h2; rw [if_pos z] at h2; cases h2
        exact hidT_at nb (hidT_at ns (by rw [upd_ne ns]; exact e7 _ _ (hidT_sub _ _ h2)))
      have h1at : hidT aV (hidT aS (upd H7 aS (.lst (ps.map V.ref ++ [.ref t1])))) t1 = some (.tup [.int (1 + (i : Int)), .int 0, .int v]) := hidT_at n1V (hidT_at n1S (by rw [upd_ne n1S]; exact ht1))
      have eH8 : Ex H (upd H7 aS (.lst (ps.map V.ref ++ [.ref t1]))) := Ex.mut (eH6.trans e7) nS
      generalize upd H7 aS (.lst (ps.map V.ref ++ [.ref t1])) = H8 at *
      -- settled.append((0, unknown, -value))
      refine s_appU (K := K) hS8 (ev_var (i := 2) rfl) (eu_tup (ea_cons ev_c (ea_cons (ev_var (i := 4) rfl) (ea_cons (ev_neg (i := v) (ev_var (i := 5) rfl)) ea_nil))) (by show 3 ≤ 100000; decide)) (by rw [List.length_map, List.length_append]; show ps.length + 1 < 100000; omega) fun t2 H9 nt2 e9 ht2 => ?_
      have n2V : t2 ≠ aV := fun z => by rw [z, hV8] at nt2; cases nt2
      have n2S : t2 ≠ aS := fun z => by rw [z, hS8] at nt2; cases nt2
      have keep9 : Ex (hidT aV (hidT aS H8)) (hidT aV (hidT aS (upd H9 aS (.lst ((ps ++ [t1]).map V.ref ++ [.ref t2]))))) := fun b o h => by
        have nb : b ≠ aV := fun z => by unfold hidT at h; rw [if_pos z] at h; cases h
        have h2 : hidT aS H8 b = some o := hidT_sub _ _ h
        have ns : b ≠ aS := fun z => by unfold hidT at h2; rw [if_pos z] at h2; cases h2
        exact hidT_at nb (hidT_at ns (by rw [upd_ne ns]; exact e9 _ _ (hidT_sub _ _ h2)))
      refine ⟨some (.int (1 + (i : Int))), some (.int v), (ps ++ [t1]) ++ [t2], es' ++ pin (1 + i) v, vals ++ [v], rfl, Ex.mut (eH8.trans e9) nS, by rw [upd_same, List.map_append (l₂ := [t2])]; rfl, ?_, by rw [upd_ne nVS]; exact e9 _ _ hV8, good_pin hg' (by omega), by rw [List.length_append]; show es'.length + 2 ≤ _; omega, by rw [List.length_append, hvl]; rfl, hnum2⟩
      show Paired _ ((ps ++ [t1]) ++ [t2]) (es' ++ [⟨1 + i, 0, v⟩, ⟨0, 1 + i, 0 - v⟩])
      rw [show es' ++ [⟨1 + i, 0, v⟩, ⟨0, 1 + i, 0 - v⟩] = (es' ++ [(⟨1 + i, 0, v⟩ : Sm15.Edge)]) ++ [(⟨0, 1 + i, 0 - v⟩ : Sm15.Edge)] by simp]
      refine pr_snoc ?_ (pr_snoc ?_ (pr_imp (fun _ _ h => EdgeAt.ex ((keep6.trans keep8).trans keep9) h) hP))
      · refine st_of (hidT_at n2V (hidT_at n2S ?_))
        rw [upd_ne n2S, ht2]
        show some (HO.tup [V.int 0, V.int (1 + (i : Int)), V.int (-v)]) = some (HO.tup [V.int ((0 : Nat) : Int), V.int ((1 + i : Nat) : Int), V.int (0 - v)])
        rw [Int.zero_sub]
        rfl
      · exact st_of (keep9 _ _ h1at)
    · rintro σ H3 ⟨y4, y5, ps, es', vals, rfl, e3, hps, hP, hvals, hg', hel, hvl, hnum⟩
      rw [show ((u : Int) + 1 - 1).toNat = u by omega] at hnum hvl
      rw [Nat.sub_self] at hnum
      have hnum : numbersP u u 1 es = vals := by rw [hnum]; exact List.append_nil _
      rw [hnum] at q
      exact s_ret (ev_var (i := 3) rfl) fun H4 e4 => q aV H4 (fresh_back e1 nV) (e3.trans e4) (e4 _ _ hvals)
end
end Cp
/-! Cp4 -/
namespace Cp
open PySem PySem.Spec PyProof.Rows L2 Evl
/-! ### tuples of ints compared -/
theorem dpAll_ints {K : PySem.W.Frag} {H : Hp} : ∀ ns : List Int, DpAll K H (ns.map V.int) (ns.map PyData.int)
  | [] => .nil
  | n :: r => .cons (.int n) (dpAll_ints r)
theorem dp_ints {K : PySem.W.Frag} {H : Hp} {p : Addr} {ns : List Int} (h : SqT K H p (ns.map V.int)) : Dp K H (.ref p) (.tuple (ns.map .int)) := .tup h (dpAll_ints ns)
theorem shaped_ints (ns : List Int) : SeqAt.shaped (.tuple (ns.map .int)) = true := by
  unfold SeqAt.shaped
  rw [show PyData.canLay0 (.tuple (ns.map .int)) = PyData.canLayAll0 (ns.map .int) from rfl, canLayAll_ints, show PyData.depth (.tuple (ns.map .int)) = PyData.depthAll (ns.map .int) + 1 from rfl, depthAll_ints]
  rfl
theorem eqv_ints : ∀ a b : List Int, PyData.eqvAll (a.map .int) (b.map .int) = decide (a = b)
  | [], [] => rfl
  | [], _ :: _ => rfl
  | _ :: _, [] => rfl
  | x :: a, y :: b => by
    show (x == y && PyData.eqvAll (a.map .int) (b.map .int)) = _
    rw [eqv_ints a b]
    by_cases h : x = y
    · subst h
      by_cases k : a = b
      · subst k; simp
      · simp [k]
    · simp [h]
/-! ### a line of the book in the heap -/
def wayNo : Sm15.Way → Int
  | .claim => 0
  | .bounds => 1
  | .joined _ _ _ => 2
  | .wider _ => 3
  | .chain _ => 4
def namedOf : Sm15.Way → List Int
  | .joined i j a => [(i : Int), (j : Int), (a : Int)]
  | .wider i => [(i : Int)]
  | .chain l => l.map fun (n : Nat) => (n : Int)
  | _ => []
def lF (k : Int) (tn tc : Addr) : List (Str × V) := [("way", .int k), ("named", .ref tn), ("clause", .ref tc)]
theorem lk_one {k : Str} {v : V} {r : List (Str × V)} : List.lookup k ((k, v) :: r) = some v := by
  have e : (k == k) = true := beq_self_eq_true k
  simp only [List.lookup, e]
theorem lk_next {k g : Str} {v : V} {r : List (Str × V)} (h : (k == g) = false) : List.lookup k ((g, v) :: r) = List.lookup k r := by
  simp only [List.lookup, h]
theorem lF_way {k : Int} {tn tc : Addr} : (lF k tn tc).lookup ("way" : Str) = some (.int k) := lk_one
theorem lF_named {k : Int} {tn tc : Addr} : (lF k tn tc).lookup ("named" : Str) = some (.ref tn) := (lk_next (by decide +kernel)).trans lk_one
theorem lF_clause {k : Int} {tn tc : Addr} : (lF k tn tc).lookup ("clause" : Str) = some (.ref tc) := (lk_next (by decide +kernel)).trans ((lk_next (by decide +kernel)).trans lk_one)
theorem lF_sources {k : Int} {tn tc : Addr} : (lF k tn tc).lookup ("sources" : Str) = none := (lk_next (by decide +kernel)).trans ((lk_next (by decide +kernel)).trans ((lk_next (by decide +kernel)).trans rfl))
theorem put_one {f : Str} {v x : V} {r : List (Str × V)} : putF f v ((f, x) :: r) = (f, v) :: r := if_pos rfl
theorem put_next {f g : Str} {v x : V} {r : List (Str × V)} (h : ¬ g = f) : putF f v ((g, x) :: r) = (g, x) :: putF f v r := if_neg h
theorem lF_new (k : Int) (tn tc : Addr) : putF "clause" (.ref tc) (putF "named" (.ref tn) (putF "way" (.int k) [])) = lF k tn tc := by
  show putF "clause" (.ref tc) (putF "named" (.ref tn) [("way", .int k)]) = _
  rw [put_next (by decide +kernel)]
  show putF "clause" (.ref tc) [("way", .int k), ("named", .ref tn)] = _
  rw [put_next (by decide +kernel), put_next (by decide +kernel)]
  rfl
/-- the line x stands at p -/
def LineAt (K : PySem.W.Frag) (C : Addr) (H : Hp) (p : Addr) (way : Sm15.Way) (c : List Int) : Prop := ∃ dx tn tc, H p = some (.ins C dx (lF (wayNo way) tn tc)) ∧ SqT K H tn ((namedOf way).map V.int) ∧ H tc = some (.tup (c.map V.int))
theorem LineAt.ex {K : PySem.W.Frag} {C : Addr} {H H' : Hp} {p : Addr} {way : Sm15.Way} {c : List Int} (e : Ex H H') (h : LineAt K C H p way c) : LineAt K C H' p way c := by
  obtain ⟨dx, tn, tc, h1, h2, h3⟩ := h
  exact ⟨dx, tn, tc, e _ _ h1, ex_t e h2, e _ _ h3⟩
/-- a clause somewhere, or None -/
abbrev OC := Option (Addr × List Int)
abbrev ocV : OC → V := optV fun p => V.ref p.1
theorem oc_ne (p : Addr × List Int) : V.ref p.1 ≠ .non := fun z => nomatch z
def OcAt (K : PySem.W.Frag) (H : Hp) (o : OC) : Prop := ∀ p, o = some p → SqT K H p.1 (p.2.map V.int) ∧ p.2.length ≤ 400
theorem OcAt.ex {K : PySem.W.Frag} {H H' : Hp} {o : OC} (e : Ex H H') (h : OcAt K H o) : OcAt K H' o := fun p q => ⟨ex_t e (h p q).1, (h p q).2⟩
/-- a list of such -/
def OcsAt (K : PySem.W.Frag) (H : Hp) (a : Addr) (os : List OC) : Prop := SqL K H a (os.map ocV) ∧ ∀ o ∈ os, OcAt K H o
theorem OcsAt.ex {K : PySem.W.Frag} {H H' : Hp} {a : Addr} {os : List OC} (e : Ex H H') (h : OcsAt K H a os) : OcsAt K H' a os := ⟨ex_l e h.1, fun o ho => (h.2 o ho).ex e⟩
section
variable {P : Program} {w : World} {K : PySem.W.Frag} {mg : Str → Option Value} {base : Heap} {D : Ad}
/-! ### Line -/
def spLine (C : Addr) : Sp := fun vs H Q _ => ∃ (p dx tn tc : Addr) (k : Int), vs = [.ref p, .int k, .ref tn, .ref tc] ∧ H p = some (.ins C dx []) ∧ Q .non (upd H p (.ins C dx (lF k tn tc)))
theorem ok_Line___init__ (T : Txt K mg D) : FnOk P w K mg base CX0 1 D.a_Line___init__ D.d_Line___init__ ["self", "way", "named", "clause"] (spLine D.c_Line) := by
  refine T.f_Line___init__.ok sc_Line___init__ (fun vs H Q E h => ?_) (fun cdv A outer s H vs Q E hr h => ?_)
  · obtain ⟨_, _, _, _, _, rfl, _⟩ := h
    rfl
  · obtain ⟨p, dx, tn, tc, k, rfl, hp, q⟩ := h
    refine ⟨_, (pss_cons (ps_fld (pv 0) (pv 1) rfl)
      (pss_cons (ps_fld (pv 0) (pv 2) rfl)
      (pss_one (ps_fld (pv 0) (pv 3) rfl)))), ?_⟩
    refine ⟨_, rfl, _, rfl, p, _, dx, [], rfl, hp, T.k_Line, T.x_Line_way, (by show 0 < 1000; decide), ?_⟩
    refine ⟨_, rfl, _, rfl, p, _, dx, _, rfl, upd_same, T.k_Line, T.x_Line_named, (by show 1 < 1000; decide), ?_⟩
    refine ⟨_, rfl, _, rfl, p, _, dx, _, rfl, upd_same, T.k_Line, T.x_Line_clause, ?_, ?_⟩
    · rw [show putF "named" (.ref tn) (putF "way" (.int k) []) = ([("way", .int k), ("named", .ref tn)] : List (Str × V)) from put_next (by decide +kernel)]
      show 2 < 1000
      decide
    · rw [upd_over, upd_over, lF_new]
      exact q
theorem made_ex {H : Hp} {x dx : Addr} {o : HO} (nx : H x = none) (nd : H dx = none) : Ex H (upd (upd H dx (.own x)) x o) := fun b u e => by
  rw [upd_ne (ne_of_none e nx), upd_ne (ne_of_none e nd)]
  exact e
/-- C(way, named, clause): what stands then -/
theorem line_made {H : Hp} {x dx tn tc : Addr} {k : Int} (nx : H x = none) (nd : H dx = none) : upd (upd (upd H dx (.own x)) x (.ins D.c_Line dx [])) x (.ins D.c_Line dx (lF k tn tc)) = upd (upd H dx (.own x)) x (.ins D.c_Line dx (lF k tn tc)) := upd_over
def spSrc (K : PySem.W.Frag) (C : Addr) : Sp := fun vs H Q _ => ∃ (p : Addr) (way : Sm15.Way) (c : List Int), vs = [.ref p] ∧ LineAt K C H p way c ∧
  ∀ (q : Addr) (H2 : Hp), Ex H H2 → SqT K H2 q ((Sm15.sources way).map fun (n : Nat) => V.int (n : Int)) → Q (.ref q) H2
theorem ok_Line_sources (T : Txt K mg D) : FnOk P w K mg base CX0 1 D.a_Line_sources D.d_Line_sources ["self"] (spSrc K D.c_Line) := by
  refine T.f_Line_sources.ok sc_Line_sources (fun vs H Q E h => ?_) (fun cdv A outer s H vs Q E hr h => ?_)
  · obtain ⟨_, _, _, rfl, _⟩ := h
    rfl
  · obtain ⟨p, way, c, rfl, ⟨dx, tn, tc, hp, hn, hc⟩, q⟩ := h
    refine ⟨_, (pss_cons (ps_if (pt_cmpR op_eq (pe_fld (pv 0) rfl) (pe_gi (by rfl) T.c_BY_JOINING) (nomark _)) (pss_one (ps_ret (pe_slice sl_tupA (pe_fld (pv 0) rfl) po_none (po_some pe_int)))) pss_nil)
      (pss_one (ps_ret (pe_fld (pv 0) rfl)))), ?_⟩
    refine q_when (et_test (ev_eq (i := wayNo way) (j := 2) (ev_fld (ev_var (i := 0) rfl) hp T.k_Line T.x_Line_way lF_way) ev_c)) (fun hb H1 e1 => ?_) (fun hb H1 e1 => ?_)
    · cases way with
      | joined i j a =>
        refine ⟨.ref p, rfl, p, _, dx, _, _, rfl, e1 _ _ hp, T.k_Line, T.x_Line_named, lF_named, 2, rfl, tn, _, rfl, ex_t e1 hn, (fun z => ?_), (fun _ t nt => ?_)⟩
        · exact absurd z.2 (by show ¬ HT.sIx 3 3 (some 2) = 3; decide)
        · exact q t _ (e1.trans (Ex.new nt)) (st_of upd_same)
      | claim => exact absurd (of_decide_eq_true hb) (by decide)
      | bounds => exact absurd (of_decide_eq_true hb) (by decide)
      | wider i => exact absurd (of_decide_eq_true hb) (by show ¬ (3 : Int) = 2; decide)
      | chain l => exact absurd (of_decide_eq_true hb) (by show ¬ (4 : Int) = 2; decide)
    · refine s_ret (ev_fld (ev_var (i := 0) rfl) (e1 _ _ hp) T.k_Line T.x_Line_named lF_named) fun H2 e2 => q tn H2 (e1.trans e2) ?_
      have e12 := e1.trans e2
      cases way with
      | joined i j a => exact absurd rfl (of_decide_eq_false hb)
      | claim => exact ex_t e12 hn
      | bounds => exact ex_t e12 hn
      | wider i => exact ex_t e12 hn
      | chain l =>
        have h2 := ex_t e12 hn
        rw [show (namedOf (.chain l)).map V.int = l.map fun (n : Nat) => V.int (n : Int) from by rw [show namedOf (.chain l) = l.map fun (n : Nat) => (n : Int) from rfl, List.map_map]; rfl] at h2
        exact h2
/-! ### shown_by_differences -/
def spSd (K : PySem.W.Frag) : Sp := fun vs H Q _ => ∃ (tc aA : Addr) (u : Nat) (as : List Sm15.Atom) (c : List Int), vs = [.ref tc, .ref aA, .int (u : Int)] ∧ SqT K H tc (c.map V.int) ∧ AtomsAt K H aA as ∧ AtomsOk u as ∧ Lits as.length c ∧ c.length ≤ 1000 ∧ u ≤ 1000 ∧
  RetV (.bl (Sm15.byBounds u as c)) H Q
theorem ok_shown_by_differences (T : Txt K mg D) : FnOk P w K mg base CX0 4 D.a_shown_by_differences D.d_shown_by_differences ["clause", "atoms", "u"] (spSd K) := by
  refine T.f_shown_by_differences.ok sc_shown_by_differences (fun vs H Q E h => ?_) (fun cdv A outer s H vs Q E hr h => ?_)
  · obtain ⟨_, _, _, _, _, rfl, _⟩ := h
    rfl
  · obtain ⟨tc, aA, u, as, c, rfl, hc, hA, hok, hl, hz, hu, q⟩ := h
    refine ⟨_, (pss_one (ps_ret (pe_not (pe_call (ok_can_be_together T) hr (by rfl) T.g_can_be_together T.f_can_be_together.kp T.n_can_be_together .nil pass0 (pa_cons (pv 1) (pa_cons (pv 2) (pa_cons (pe_call (ok_opposites T) (hr.mono (by decide)) (by rfl) T.g_opposites T.f_opposites.kp T.n_opposites .nil pass0 (pa_cons (pv 0) pa_nil)) pa_nil))))))), ?_⟩
    refine ⟨.ref aA, rfl, .int (u : Int), rfl, .ref tc, rfl, tc, c, rfl, .inr hc, hz, fun o H1 no e1 h1 => ?_⟩
    refine ⟨aA, o, u, as, c.map fun n => -n, rfl, hA.ex e1, sq_of h1, fun y hy => ?_, by rw [List.length_map]; exact hz, hu, good_edges hok _, fun H2 e2 => ⟨_, rfl, ?_⟩⟩
    · obtain ⟨z, hz, rfl⟩ := List.mem_map.mp hy
      have := hl z hz
      omega
    · have z := q H2 (e1.trans e2)
      unfold Sm15.byBounds at z
      simp only [Int.zero_sub] at z
      exact z
/-! ### shown_by_joining -/
def joinO (o1 o2 : OC) (a : Nat) (c : List Int) : Bool := match o1, o2 with
  | some x, some y => decide (Sm15.join x.2 y.2 a = some c)
  | _, _ => false
def spSj (K : PySem.W.Frag) : Sp := fun vs H Q _ => ∃ (tc : Addr) (o1 o2 : OC) (a : Nat) (c : List Int), vs = [.ref tc, ocV o1, ocV o2, .int (a : Int)] ∧ SqT K H tc (c.map V.int) ∧ OcAt K H o1 ∧ OcAt K H o2 ∧ RetV (.bl (joinO o1 o2 a c)) H Q
theorem join_no {x y : List Int} {a : Nat} {c : List Int} (h : (!x.contains (a : Int) || !y.contains (-(a : Int))) = true) : decide (Sm15.join x y a = some c) = false := by
  unfold Sm15.join
  rw [if_neg]
  · rfl
  · rintro ⟨h1, h2⟩
    rw [Int.zero_sub] at h2
    rw [h1, h2] at h
    cases h
theorem join_is {x y : List Int} {a : Nat} (h : (!x.contains (a : Int) || !y.contains (-(a : Int))) = false) : Sm15.join x y a = some (joinC x y (a : Int)) := by
  rw [Bool.or_eq_false_iff] at h
  obtain ⟨h1, h2⟩ := h
  unfold Sm15.join joinC
  simp only [Int.zero_sub]
  rw [if_pos ⟨by simpa using h1, by simpa using h2⟩]
theorem join_yes {x y : List Int} {a : Nat} {c : List Int} (h : (!x.contains (a : Int) || !y.contains (-(a : Int))) = false) : decide (Sm15.join x y a = some c) = decide (c = joinC x y (a : Int)) := by
  rw [join_is h]
  by_cases e : c = joinC x y (a : Int)
  · subst e; simp
  · rw [decide_eq_false e, decide_eq_false]
    intro z
    exact e (Option.some.inj z).symm
theorem ok_shown_by_joining (T : Txt K mg D) : FnOk P w K mg base CX0 6 D.a_shown_by_joining D.d_shown_by_joining ["clause", "first", "second", "atom"] (spSj K) := by
  refine T.f_shown_by_joining.ok sc_shown_by_joining (fun vs H Q E h => ?_) (fun cdv A outer s H vs Q E hr h => ?_)
  · obtain ⟨_, _, _, _, _, rfl, _⟩ := h
    rfl
  · obtain ⟨tc, o1, o2, a, c, rfl, hc, h1, h2, q⟩ := h
    refine ⟨_, (pss_cons (ps_if (PW.pt (pw_or (pt_cmpR op_isN (pv 1) pe_non (nomark _)) (pw_or (pt_cmpR op_isN (pv 2) pe_non (nomark _)) (pw_or (pt_cmpR op_notIn_seq (pv 3) (pv 1) (by rfl)) (pw_or1 (pt_cmpR op_notIn_seq (pe_un un_neg (pv 3)) (pv 2) (by rfl))))))) (pss_one (ps_ret pe_bl)) pss_nil)
      (pss_one (ps_ret (pe_cmpR (op_eqD hr.units) (pv 0) (pe_call (ok_put_together T) hr (by rfl) T.g_put_together T.f_put_together.kp T.n_put_together .nil pass0 (pa_cons (pv 1) (pa_cons (pv 2) (pa_cons (pv 3) pa_nil)))) (nomark _))))), ?_⟩
    have no : ∀ {H1}, Ex H H1 → joinO o1 o2 a c = false → tRet (tC (.bl false)) { nx := fun _ H' => Q .non H', rt := Q } [some (.ref tc), some (ocV o1), some (ocV o2), some (.int (a : Int))] H1 := fun e1 hn => s_ret ev_c fun H2 e2 => by
      have z := q H2 (e1.trans e2)
      rw [hn] at z
      exact z
    have v1 : ∀ {H1}, Ev (tVar 1) [some (.ref tc), some (ocV o1), some (ocV o2), some (.int (a : Int))] H1 (ocV o1) := ev_var rfl
    have v2 : ∀ {H1}, Ev (tVar 2) [some (.ref tc), some (ocV o1), some (ocV o2), some (.int (a : Int))] H1 (ocV o2) := ev_var rfl
    cases o1 with
    | none => exact q_when (b := true) (et_is (et_or (a := true) (b := true) (et_test (ev_isO oc_ne v1)) fun z => Bool.noConfusion z) rfl) (fun _ H1 e1 => no e1 rfl) (fun z => Bool.noConfusion z)
    | some x =>
      cases o2 with
      | none => exact q_when (b := true) (et_is (et_or (a := false) (b := true) (et_test (ev_isO oc_ne v1)) fun _ => et_is (et_or (a := true) (b := true) (et_test (ev_isO oc_ne v2)) fun z => Bool.noConfusion z) rfl) rfl) (fun _ H1 e1 => no e1 rfl) (fun z => Bool.noConfusion z)
      | some y =>
        obtain ⟨t1, z1⟩ := h1 x rfl
        obtain ⟨t2, z2⟩ := h2 y rfl
        refine q_when (b := !x.2.contains (a : Int) || !y.2.contains (-(a : Int))) (et_is (et_or (a := false) (et_test (ev_isO oc_ne v1)) fun _ => et_or (a := false) (et_test (ev_isO oc_ne v2)) fun _ => et_or (et_test (ev_niT (k := (a : Int)) (ev_var (i := 3) rfl) v1 t1)) fun _ => et_test (ev_niT (k := -(a : Int)) (ev_neg (ev_var (i := 3) rfl)) v2 t2)) rfl) (fun hb H1 e1 => ?_) (fun hb H1 e1 => ?_)
        · exact no e1 (join_no hb)
        · refine ⟨.ref tc, rfl, _, rfl, _, rfl, .int (a : Int), rfl, x.1, y.1, x.2, y.2, (a : Int), rfl, ex_t e1 t1, ex_t e1 t2, z1, z2, fun p4 H4 n4 e4 w4 => ?_⟩
          refine ⟨_, _, dp_ints (ex_t (e1.trans e4) hc), dp_ints (st_of w4), shaped_ints _, shaped_ints _, ?_⟩
          show Q (.bl (PyData.eqvAll (c.map .int) ((joinC x.2 y.2 (a : Int)).map .int))) H4
          rw [eqv_ints, ← join_yes hb]
          exact q H4 (e1.trans e4)
/-! ### shown_by_widening -/
def wideO (o : OC) (c : List Int) : Bool := match o with
  | some x => x.2.all c.contains
  | none => false
def spSw (K : PySem.W.Frag) : Sp := fun vs H Q _ => ∃ (tc : Addr) (o : OC) (c : List Int), vs = [.ref tc, ocV o] ∧ SqT K H tc (c.map V.int) ∧ OcAt K H o ∧ RetV (.bl (wideO o c)) H Q
theorem ok_shown_by_widening (T : Txt K mg D) : FnOk P w K mg base CX0 1 D.a_shown_by_widening D.d_shown_by_widening ["clause", "source"] (spSw K) := by
  refine T.f_shown_by_widening.ok sc_shown_by_widening (fun vs H Q E h => ?_) (fun cdv A outer s H vs Q E hr h => ?_)
  · obtain ⟨_, _, _, rfl, _⟩ := h
    rfl
  · obtain ⟨tc, o, c, rfl, hc, ho, q⟩ := h
    refine ⟨_, (pss_one (ps_ret (pe_and (pe_cmpR op_notN (pv 1) pe_non (nomark _)) (pe_one (pe_callB (cr_all (by rfl)) (by rfl) T.b_all (by decide +kernel) (pa_cons (pe_lc (own := [("literal", 2)]) (g := gName 2) (by rfl) sc_shown_by_widening.nd (pi_tup (pv 1)) (blkOk_by (own := [("literal", 2)]) (N := ["clause", "source", "literal"]) (sc := defScope s_shown_by_widening) (by decide +kernel)) (fun _ _ _ _ _ => (pg_name (i := 2) sc_shown_by_widening.nd rfl (Or.inl rfl))) (fun _ _ _ _ _ => pts_nil) (fun _ _ _ _ _ => (pe_cmpR (op_inK K) (pv 2) (pv 0) (by rfl)))) pa_nil)))))), ?_⟩
    have v1 : ∀ {H1}, Ev (tVar 1) [some (.ref tc), some (ocV o), none] H1 (ocV o) := ev_var rfl
    cases o with
    | none => exact s_ret (ev_andV (a := false) (b := true) (ev_notO oc_ne v1) fun z => Bool.noConfusion z) q
    | some x =>
      obtain ⟨t1, z1⟩ := ho x rfl
      have g := lcT (K := K) (σ := [some (.ref tc), some (.ref x.1), none]) (H := H) (t := tYes) (tl := tVar 1) (j := 2) (vs := [2]) (emb := V.int) (fun _ => true) (fun n => V.bl (c.contains n)) (ev_var rfl) t1 (by omega) (fun x => rfl) (fun m _ H1 e => et_yes)
        (fun m _ H1 e _ => ev_inT (K := K) (k := m) (ev_var (i := 2) rfl) (ev_var (i := 0) rfl) (ex_t e hc))
      rw [filter_yes, show x.2.map (fun n => V.bl (c.contains n)) = (x.2.map fun n => c.contains n).map V.bl by rw [List.map_map]; rfl] at g
      have g2 := ev_all (K := K) g
      rw [all_map_id] at g2
      exact s_ret (ev_andV (a := true) (ev_notO oc_ne v1) fun _ => g2) q
/-! ### shown_by_chain -/
def chainO : List Int → List OC → Bool
  | _, [] => false
  | _, none :: _ => false
  | no, some c :: r => match c.2.filter fun x => !no.contains x with
    | [] => true
    | [x] => chainO (no ++ [-x]) r
    | _ => false
def spSc (K : PySem.W.Frag) : Sp := fun vs H Q _ => ∃ (tc aS : Addr) (c : List Int) (os : List OC), vs = [.ref tc, .ref aS] ∧ SqT K H tc (c.map V.int) ∧ OcsAt K H aS os ∧ c.length ≤ 1000 ∧ os.length ≤ 1000 ∧ RetV (.bl (chainO c os)) H Q
theorem ok_shown_by_chain (T : Txt K mg D) : FnOk P w K mg base CX0 1 D.a_shown_by_chain D.d_shown_by_chain ["clause", "sources"] (spSc K) := by
  refine T.f_shown_by_chain.ok sc_shown_by_chain (fun vs H Q E h => ?_) (fun cdv A outer s H vs Q E hr h => ?_)
  · obtain ⟨_, _, _, _, rfl, _⟩ := h
    rfl
  · obtain ⟨tc, aS, c, os, rfl, hc, ⟨hS, hO⟩, hz, hzs, q⟩ := h
    refine ⟨_, (pss_cons (ps_set (i := 2) sc_shown_by_chain.nd rfl (Or.inr rfl) (pe_callTy call_list_of (by rfl) T.b_list (by decide +kernel) (pa_cons (pv 0) pa_nil)))
      (pss_cons (ps_for PassesOwn.never rfl (pi_list (pv 1)) (pg_name (i := 3) sc_shown_by_chain.nd rfl (Or.inl rfl)) (pss_cons (ps_if (pt_cmpR op_isN (pv 3) pe_non (nomark _)) (pss_one (ps_ret pe_bl)) pss_nil)
      (pss_cons (ps_setLc (i := 4) (own := [("literal", 5)]) (g := gName 5) (by rfl) sc_shown_by_chain.nd rfl rfl (sw_true rfl rfl rfl (by decide +kernel)) (pi_tup (pv 3)) (blkOk_by (own := [("literal", 5)]) (N := ["clause", "sources", "not_so", "source", "left", "literal"]) (sc := defScope s_shown_by_chain) (by decide +kernel)) (fun _ _ _ _ _ => (pg_name (i := 5) sc_shown_by_chain.nd rfl (Or.inl rfl))) (fun _ _ _ _ _ => (pts_one (pt_cmpR (op_notInK K) (pv 5) (pv 2) (by rfl)))) (fun _ _ _ _ _ => (pv 5)))
      (pss_cons (ps_if (pt_cmpR op_eq (pe_callB call_len_seq (by rfl) T.b_len PySem.boot_len (pa_cons (pv 4) pa_nil)) pe_int (nomark _)) (pss_one (ps_ret pe_bl)) pss_nil)
      (pss_cons (ps_if (pt_cmpR op_gt (pe_callB call_len_seq (by rfl) T.b_len PySem.boot_len (pa_cons (pv 4) pa_nil)) pe_int (nomark _)) (pss_one (ps_ret pe_bl)) pss_nil)
      (pss_one (ps_expr (pe_bm PySem.F.plainAttrs_list PySem.F.slot_list_append PySem.F.type_list_append mt_append (pv 2) (pa_cons (pe_un un_neg (pe_ix ix_list (pv 4) pe_int (fun _ _ => rfl))) pa_nil)))))))))
      (pss_one (ps_ret pe_bl)))), ?_⟩
    refine ⟨.ref tc, rfl, tc, _, rfl, .inr hc, fun o no => ?_⟩
    have e1 : Ex H (upd H o (.lst (c.map V.int))) := Ex.new no
    have h1 : (upd H o (.lst (c.map V.int))) o = some (.lst (c.map V.int)) := upd_same
    generalize upd H o (.lst (c.map V.int)) = H1 at *
    refine q_forLn (K := K) (xs := os.map ocV) (ev_var (i := 1) rfl) (ex_l e1 hS) (fun i σ H' => ∃ y3 y4 y5 ns, σ = [some (.ref tc), some (.ref aS), some (.ref o), y3, y4, y5] ∧ Ex H H' ∧ H' o = some (.lst (ns.map V.int)) ∧ ns.length ≤ c.length + i ∧ chainO c os = chainO ns (os.drop i))
      (fun H2 e2 => ⟨none, none, none, c, rfl, e1.trans e2, e2 _ _ h1, Nat.le_refl _, rfl⟩) (fun i σ H' _ ⟨_, _, _, _, _, e, _⟩ => ex_l e hS) ?_ ?_
    · rintro i x σ H' hi ⟨y3, y4, y5, ns, rfl, e, ho, hl, hch⟩
      obtain ⟨oc, hoc, rfl, hom⟩ := map_at hi
      have hilt : i < os.length := (List.getElem?_eq_some_iff.mp hoc).1
      have drop : os.drop i = oc :: os.drop (i + 1) := by
        rw [List.drop_eq_getElem_cons hilt]
        congr 1
        rw [List.getElem?_eq_getElem hilt] at hoc
        exact Option.some.inj hoc
      rw [drop] at hch
      have v3 : ∀ {H1}, Ev (tVar 3) [some (.ref tc), some (.ref aS), some (.ref o), some (ocV oc), y4, y5] H1 (ocV oc) := ev_var rfl
      refine q_when (et_test (ev_isO oc_ne v3)) (fun hb H2 e2 => ?_) (fun hb H2 e2 => ?_)
      · cases oc with
        | some _ => cases hb
        | none =>
          refine s_ret ev_c fun H3 e3 => ?_
          have z := q H3 ((e.trans e2).trans e3)
          rw [hch] at z
          exact z
      · cases oc with
        | none => cases hb
        | some d =>
          have hat' : SqT K H2 d.1 (d.2.map V.int) := ex_t (e.trans e2) (hO _ hom d rfl).1
          have hdz := (hO _ hom d rfl).2
          have ho2 := e2 _ _ ho
          refine q_asgL (xs := (d.2.filter fun x => !ns.contains x).map V.int) (lcT (K := K) (t := tTest (tOp (rIn K true) (tVar 5) (tVar 2))) (te := tVar 5) (tl := tVar 3) (j := 5) (vs := [5]) (emb := V.int) (fun x => !ns.contains x) V.int (ev_var (i := 3) rfl) hat' (by omega) (fun x => rfl)
            (fun m _ H1 e => et_test (ev_niL (K := K) (k := m) (ev_var (i := 5) rfl) (ev_var (i := 2) rfl) (sq_of (e _ _ ho2)))) (fun m _ H1 e _ => ev_var (i := 5) rfl)) fun l H3 nl e3 hl2 => ?_
          have len2 : ∀ {H4}, Ex H3 H4 → Ev (tCB (fun xs H Q => ∃ p ys, xs = [V.ref p] ∧ (SqL K H p ys ∨ SqT K H p ys) ∧ Q (.int ys.length) H) (tCons (tVar 4) tNil)) [some (.ref tc), some (.ref aS), some (.ref o), some (.ref d.1), some (.ref l), y5] H4 (.int (((d.2.filter fun x => !ns.contains x).length : Nat) : Int)) := fun {H4} e4 => by
            have z := ev_lenL (K := K) (σ := [some (.ref tc), some (.ref aS), some (.ref o), some (.ref d.1), some (.ref l), y5]) (H := H4) (ta := tVar 4) (ev_var rfl) (sq_of (e4 _ _ hl2))
            rw [List.length_map] at z
            exact z
          have e03 := (e.trans e2).trans e3
          refine q_when (et_test (ev_eq (j := 0) (len2 (Ex.refl _)) ev_c)) (fun hb H4 e4 => ?_) (fun hb H4 e4 => ?_)
          · refine s_ret ev_c fun H5 e5 => ?_
            have hb := of_decide_eq_true hb
            have ze : d.2.filter (fun x => !ns.contains x) = [] := List.eq_nil_of_length_eq_zero (by omega)
            have z := q H5 ((e03.trans e4).trans e5)
            rw [hch, chainO, ze] at z
            exact z
          · have hb := of_decide_eq_false hb
            refine q_when (et_test (ev_gt (j := 1) (len2 e4) ev_c)) (fun hb2 H5 e5 => ?_) (fun hb2 H5 e5 => ?_)
            · have hb2 := of_decide_eq_true hb2
              refine s_ret ev_c fun H6 e6 => ?_
              have z := q H6 (((e03.trans e4).trans e5).trans e6)
              rw [hch, chainO] at z
              match hm : d.2.filter (fun x => !ns.contains x), hb2 with
              | _ :: _ :: _, _ =>
                rw [hm] at z
                exact z
              | [_], h => simp at h
              | [], h => simp at h
            · have hb2 := of_decide_eq_false hb2
              obtain ⟨k, hk⟩ : ∃ k, d.2.filter (fun x => !ns.contains x) = [k] := by
                match hm : d.2.filter (fun x => !ns.contains x), hb, hb2 with
                | [k], _, _ => exact ⟨k, rfl⟩
                | [], h, _ => exact absurd rfl h
                | _ :: _ :: _, _, h => exact absurd (by show (1 : Int) < ((_ + 1 + 1 : Nat) : Int); omega) h
              rw [hk] at hl2
              refine s_app (K := K) (l := o) (xs := ns.map V.int) (v := .int (-k)) (e5 _ _ (e4 _ _ (e3 _ _ ho2))) (ev_var (i := 2) rfl) (ev_neg (ev_ixL (i := 0) (ev_var (i := 4) rfl) (sq_of (e5 _ _ (e4 _ _ hl2))) ev_c rfl)) (by rw [List.length_map]; omega) fun H6 e6 => ?_
              refine ⟨_, _, _, ns ++ [-k], rfl, ExB.new e no ((ExB.of ((((e2.trans e3).trans e4).trans e5).trans e6)).trans ExB.upd), by rw [upd_same, List.map_append]; rfl, by rw [List.length_append]; show ns.length + 1 ≤ _; omega, ?_⟩
              rw [hch, chainO, hk]
    · rintro σ H' ⟨y3, y4, y5, ns, rfl, e, ho, hl, hch⟩
      refine s_ret ev_c fun H2 e2 => ?_
      rw [List.length_map, List.drop_length] at hch
      have z := q H2 (e.trans e2)
      rw [hch] at z
      exact z
end
end Cp
/-! Cp5 -/
namespace Cp
open PySem PySem.Spec PyProof.Rows L2 Evl
/-! ### dicts and locks (over Evl) -/
section
variable {K : PySem.W.Frag} {σ : L2.St} {H H' : Hp} {ta tb te td ty : TE} {t : TT} {v : V} {d : Addr} {kvs : List (Key × V)} {α : Type}
theorem ex_rdK {e : Ex H H'} (h : Rd H d (.dK kvs)) : Rd H' d (.dK kvs) := ex_rd e h
theorem ev_din {k : Int} (h1 : Ev ty σ H (.int k)) (h2 : Ev td σ H (.ref d)) (hd : Rd H d (.dK kvs)) : Ev (tDIn ty td) σ H (.bl (valV kvs (Sum.inl k)).isSome) := fun H1 e Q q =>
  h1 H1 e _ fun H2 e2 => h2 H2 (e.trans e2) _ fun H3 e3 => ⟨d, _, rfl, .inl ⟨kvs, Sum.inl k, ex_rd ((e.trans e2).trans e3) hd, rfl, rfl⟩, q H3 (e2.trans e3)⟩
theorem ev_dni {k : Int} (h1 : Ev ty σ H (.int k)) (h2 : Ev td σ H (.ref d)) (hd : Rd H d (.dK kvs)) : Ev (tDNotIn ty td) σ H (.bl (!(valV kvs (Sum.inl k)).isSome)) := fun H1 e Q q =>
  h1 H1 e _ fun H2 e2 => h2 H2 (e.trans e2) _ fun H3 e3 => ⟨d, _, rfl, .inl ⟨kvs, Sum.inl k, ex_rd ((e.trans e2).trans e3) hd, rfl, rfl⟩, q H3 (e2.trans e3)⟩
theorem ev_dget {k : Int} (h2 : Ev td σ H (.ref d)) (h1 : Ev ty σ H (.int k)) (hd : Rd H d (.dK kvs)) (hv : valV kvs (Sum.inl k) = some v) : Ev (tDGet td ty) σ H v := fun H1 e Q q =>
  h2 H1 e _ fun H2 e2 => h1 H2 (e.trans e2) _ fun H3 e3 => ⟨d, v, rfl, .inl ⟨kvs, Sum.inl k, ex_rd ((e.trans e2).trans e3) hd, rfl, hv.symm⟩, q H3 (e2.trans e3)⟩
theorem ev_lenD (h : Ev ta σ H (.ref d)) (hd : H d = some (.dK kvs)) : Ev (tCB (fun xs H Q => ∃ a kvs, xs = [V.ref a] ∧ H a = some (.dK kvs) ∧ Q (.int kvs.length) H) (tCons ta tNil)) σ H (.int (kvs.length : Int)) := fun H1 e Q q =>
  h H1 e _ fun H2 e2 => ⟨d, kvs, rfl, (e.trans e2) _ _ hd, q H2 e2⟩
/-- behind a lock all stands as ahead of it -/
theorem unlock {H1 H2 : Hp} {od : Obj} {u : HO} (hd : H1 d = some u) (e : Ex (upd H1 d (.frz od u)) H2) : Ex H1 (upd H2 d u) := fun b o h => by
  by_cases c : b = d
  · subst c
    rw [hd] at h
    rw [upd_same]
    exact h
  · rw [upd_ne c]
    exact e b o (by rw [upd_ne c]; exact h)
theorem lock_ex {H1 : Hp} {od : Obj} {u : HO} (e : Ex H H1) : Ex (upd H d (.frz od u)) (upd H1 d (.frz od u)) := fun b o h => by
  by_cases c : b = d
  · subst c
    rw [upd_same] at h ⊢
    exact h
  · rw [upd_ne c] at h ⊢
    exact e b o h
theorem el_lock {xs : List V} {u : HO} (hd : H d = some u) (mu : Mut (some u)) (h : ∀ od, EvL te σ (upd H d (.frz od u)) xs) : EvL (tLockE te) σ H xs := fun H1 e Q q =>
  ⟨d, u, e _ _ hd, mu, fun od => h od (upd H1 d (.frz od u)) (lock_ex e) _ fun p H2 hp e2 h2 => ⟨e2 _ _ upd_same, by
    have npd : p ≠ d := fun z => by
      rw [z, upd_same] at hp
      cases hp
    refine q p _ (by rw [upd_ne npd] at hp; exact hp) (unlock (e _ _ hd) e2) ?_
    rw [upd_ne npd]
    exact h2⟩⟩
/-- [e for x in d.values() if t], d locked; ms: what the values stand for -/
theorem lcV {ms : List α} {od : Obj} {j : Nat} {vs : List Nat} (R : Key × V → α → Prop) (f : α → Bool) (g : α → V) (hR : Paired R kvs ms) (h : Ev td σ H (.ref d)) (hd : H d = some (.frz od (.dK kvs))) (hz : ms.length ≤ 40000) (hw : ∀ x, wipe ((wipe σ vs).set j (some x)) vs = wipe σ vs)
    (ht : ∀ kv m, R kv m → ∀ H1, Ex H H1 → EvT t ((wipe σ vs).set j (some kv.2)) H1 (f m)) (he : ∀ kv m, R kv m → ∀ H1, Ex H H1 → f m = true → Ev te ((wipe σ vs).set j (some kv.2)) H1 (g m)) :
    EvL (tLc (iVals td) (gName j) t te vs) σ H ((ms.filter f).map g) := fun H0 e0 Q q => h H0 e0 _ fun H1 e1 => ⟨d, od, kvs, rfl, (e0.trans e1) _ _ hd, fun Dl hD =>
  lc_it walk_values (Lw H1 ms f g Dl) ⟨hD, Ex.new hD, upd_same⟩ (fun i H' _ p => p.2.1 _ _ ((e0.trans e1) _ _ hd)) (fun i x H' H'' hi p y => by
    obtain ⟨rfl, k, hk⟩ := y
    obtain ⟨m, hm, r⟩ := pr_get2 hR hk
    exact ⟨hw _, lw_turn p hm hz (ht _ m r H1 (e0.trans e1)) (fun hf => he _ m r H1 (e0.trans e1) hf)⟩)
    (fun H' p => q Dl H' (fresh_back e1 p.1) (e1.trans p.2.1) (by
      have z := p.2.2
      rw [pr_len hR, List.take_length] at z
      exact z))⟩
/-- [e for x in d if t], d locked -/
theorem lcK {ms : List α} {od : Obj} {j : Nat} {vs : List Nat} (R : Key × V → α → Prop) (f : α → Bool) (g : α → V) (hR : Paired R kvs ms) (h : Ev td σ H (.ref d)) (hd : H d = some (.frz od (.dK kvs))) (hz : ms.length ≤ 40000) (hw : ∀ x, wipe ((wipe σ vs).set j (some x)) vs = wipe σ vs)
    (ht : ∀ kv m, R kv m → ∀ H1, Ex H H1 → EvT t ((wipe σ vs).set j (some (kV kv.1))) H1 (f m)) (he : ∀ kv m, R kv m → ∀ H1, Ex H H1 → f m = true → Ev te ((wipe σ vs).set j (some (kV kv.1))) H1 (g m)) :
    EvL (tLc (iKeys td) (gName j) t te vs) σ H ((ms.filter f).map g) := fun H0 e0 Q q => h H0 e0 _ fun H1 e1 => ⟨d, od, rfl, .inl ⟨kvs, (e0.trans e1) _ _ hd, fun Dl hD =>
  lc_it walk_keys (Lw H1 ms f g Dl) ⟨hD, Ex.new hD, upd_same⟩ (fun i H' _ p => p.2.1 _ _ ((e0.trans e1) _ _ hd)) (fun i x H' H'' hi p y => by
    obtain ⟨rfl, k, v, hk, rfl⟩ := y
    obtain ⟨m, hm, r⟩ := pr_get2 hR hk
    exact ⟨hw _, lw_turn p hm hz (ht _ m r H1 (e0.trans e1)) (fun hf => he _ m r H1 (e0.trans e1) hf)⟩)
    (fun H' p => q Dl H' (fresh_back e1 p.1) (e1.trans p.2.1) (by
      have z := p.2.2
      rw [pr_len hR, List.take_length] at z
      exact z))⟩⟩
end
/-! ### the book's lines in the heap -/
def KvAt (K : PySem.W.Frag) (C : Addr) (H : Hp) (kv : Key × V) (x : Sm15.Line) : Prop := kv.1 = Sum.inl (x.num : Int) ∧ ∃ p, kv.2 = .ref p ∧ LineAt K C H p x.way x.clause
theorem KvAt.ex {K : PySem.W.Frag} {C : Addr} {H H' : Hp} {kv : Key × V} {x : Sm15.Line} (e : Ex H H') (h : KvAt K C H kv x) : KvAt K C H' kv x := by
  obtain ⟨h1, p, h2, h3⟩ := h
  exact ⟨h1, p, h2, h3.ex e⟩
def LinesAt (K : PySem.W.Frag) (C : Addr) (H : Hp) (kvs : List (Key × V)) (ls : List Sm15.Line) : Prop := Paired (KvAt K C H) kvs ls
theorem LinesAt.ex {K : PySem.W.Frag} {C : Addr} {H H' : Hp} {kvs : List (Key × V)} {ls : List Sm15.Line} (e : Ex H H') (h : LinesAt K C H kvs ls) : LinesAt K C H' kvs ls := pr_imp (fun _ _ => KvAt.ex e) h
theorem val_lines {K : PySem.W.Frag} {C : Addr} {H : Hp} {k : Nat} : ∀ {kvs : List (Key × V)} {ls : List Sm15.Line}, LinesAt K C H kvs ls →
    (∃ x p, Sm15.lineAt ls k = some x ∧ x ∈ ls ∧ valV kvs (Sum.inl (k : Int)) = some (.ref p) ∧ LineAt K C H p x.way x.clause) ∨ (Sm15.lineAt ls k = none ∧ valV kvs (Sum.inl (k : Int)) = none)
  | _, _, .nil => .inr ⟨rfl, rfl⟩
  | kv :: kvs, x :: ls, .cons ⟨h1, p, h2, h3⟩ t => by
    obtain ⟨kk, vv⟩ := kv
    dsimp only at h1 h2
    subst h1 h2
    unfold Sm15.lineAt valV
    rw [List.find?_cons, List.find?_cons]
    by_cases c : x.num = k
    · have c1 : (x.num == k) = true := by simpa using c
      have c2 : decide ((Sum.inl (x.num : Int) : Key) = Sum.inl (k : Int)) = true := by rw [c]; exact decide_eq_true rfl
      rw [c1, c2]
      exact .inl ⟨x, p, rfl, List.mem_cons_self, rfl, h3⟩
    · have c1 : (x.num == k) = false := by simpa using c
      have c2 : decide ((Sum.inl (x.num : Int) : Key) = Sum.inl (k : Int)) = false := decide_eq_false fun z => c (by
        have := Sum.inl.inj z
        omega)
      rw [c1, c2]
      rcases val_lines (k := k) t with ⟨y, q, a, m, b, c⟩ | ⟨a, b⟩
      · exact .inl ⟨y, q, a, List.mem_cons_of_mem _ m, b, c⟩
      · exact .inr ⟨a, b⟩
end Cp
/-! Cp6 -/
namespace Cp
open PySem PySem.Spec PyProof.Rows L2 Evl
/-! ### a heap without one object -/
def hid (o : Addr) (H : Hp) : Hp := fun b => if b = o then none else H b
theorem hid_ne {o b : Addr} {H : Hp} (h : b ≠ o) : hid o H b = H b := if_neg h
theorem hid_ex {o : Addr} {H : Hp} : Ex (hid o H) H := fun b x h => by
  by_cases c : b = o
  · unfold hid at h
    rw [if_pos c] at h
    cases h
  · rw [hid_ne c] at h
    exact h
theorem ExB.hid {o : Addr} {H H' : Hp} (e : ExB o H H') : Ex (hid o H) (hid o H') := fun b x h => by
  by_cases c : b = o
  · unfold Cp.hid at h
    rw [if_pos c] at h
    cases h
  · rw [hid_ne c] at h ⊢
    exact e b x c h
theorem hid_none {o b : Addr} {H : Hp} (h : H b = none) : hid o H b = none := by
  unfold hid
  split
  · rfl
  · exact h
/-! ### slices of a row of ints -/
theorem cut_ints {ns : List Int} {i j : Nat} (hij : i ≤ j) (hj : j ≤ ns.length) : cutV (ns.map V.int) (some (i : Int)) (some (j : Int)) = ((ns.drop i).take (j - i)).map V.int := by
  unfold cutV
  rw [HT.sIx_nat, HT.sIx_nat, List.length_map, Nat.min_eq_left hj, Nat.min_eq_left (Nat.le_trans hij hj), List.map_take, List.map_drop]
/-! ### calls in the heap -/
def cF (k : Int) (an ar : Addr) : List (Str × V) := [("number", .int k), ("numbers", .ref an), ("rows", .ref ar)]
theorem cF_number {k : Int} {an ar : Addr} : (cF k an ar).lookup ("number" : Str) = some (.int k) := lk_one
theorem cF_numbers {k : Int} {an ar : Addr} : (cF k an ar).lookup ("numbers" : Str) = some (.ref an) := (lk_next (by decide +kernel)).trans lk_one
theorem cF_rows {k : Int} {an ar : Addr} : (cF k an ar).lookup ("rows" : Str) = some (.ref ar) := (lk_next (by decide +kernel)).trans ((lk_next (by decide +kernel)).trans lk_one)
theorem cF_new (k : Int) (an ar : Addr) : putF "rows" (.ref ar) (putF "numbers" (.ref an) (putF "number" (.int k) [])) = cF k an ar := by
  show putF "rows" (.ref ar) (putF "numbers" (.ref an) [("number", .int k)]) = _
  rw [put_next (by decide +kernel)]
  show putF "rows" (.ref ar) [("number", .int k), ("numbers", .ref an)] = _
  rw [put_next (by decide +kernel), put_next (by decide +kernel)]
  rfl
def RowAt (H : Hp) (p : Addr) (r : List Int) : Prop := H p = some (.lst (r.map V.int))
structure CallAt (C : Addr) (H : Hp) (p : Addr) (c : List (List Int)) : Prop where
  ex : ∃ (dx an ar : Addr) (op : Int) (ns : List Int) (rows : List (List Int)) (rs : List Addr), c = (op :: ns) :: rows ∧ H p = some (.ins C dx (cF op an ar)) ∧ H an = some (.lst (ns.map V.int)) ∧ H ar = some (.lst (rs.map V.ref)) ∧ Paired (RowAt H) rs rows
theorem CallAt.mono {C : Addr} {H H' : Hp} {p : Addr} {c : List (List Int)} (e : Ex H H') (h : CallAt C H p c) : CallAt C H' p c := by
  obtain ⟨dx, an, ar, op, ns, rows, rs, h0, h1, h2, h3, h4⟩ := h.ex
  exact ⟨dx, an, ar, op, ns, rows, rs, h0, e _ _ h1, e _ _ h2, e _ _ h3, pr_imp (fun _ _ q => e _ _ q) h4⟩
/-! ### the row of calls, taken apart -/
theorem calls_cons {f : Nat} {p : Int} {r : List Int} {cs : List (List (List Int))} (h : PyFlat.calls PySm15.shape f (p :: r) = some cs) :
    ∃ f' n k xs t rest, PySm15.shape p = some (n, k) ∧ n ≤ r.length ∧ PyFlat.rows k (r.drop n) = some (xs, t) ∧ PyFlat.calls PySm15.shape f' t = some rest ∧ cs = ((p :: r.take n) :: xs) :: rest := by
  cases f with
  | zero => unfold PyFlat.calls at h; cases h
  | succ f =>
    unfold PyFlat.calls PyFlat.call at h
    cases hs : PySm15.shape p with
    | none => simp [hs] at h
    | some nk =>
      obtain ⟨n, k⟩ := nk
      by_cases hl : r.length < n
      · simp [hs, hl] at h
      · cases hr : PyFlat.rows k (r.drop n) with
        | none => simp [hs, hl, hr] at h
        | some xt =>
          obtain ⟨xs, t⟩ := xt
          cases hq : PyFlat.calls PySm15.shape f t with
          | none => simp [hs, hl, hr, hq] at h
          | some rest =>
            simp [hs, hl, hr, hq] at h
            exact ⟨f, n, k, xs, t, rest, rfl, by omega, hr, hq, h.symm⟩
theorem rows_succ {k : Nat} {l : List Int} {xs : List (List Int)} {t : List Int} (h : PyFlat.rows (k + 1) l = some (xs, t)) :
    ∃ n r xs', l = n :: r ∧ 0 ≤ n ∧ n.toNat ≤ r.length ∧ PyFlat.rows k (r.drop n.toNat) = some (xs', t) ∧ xs = r.take n.toNat :: xs' := by
  unfold PyFlat.rows at h
  split at h
  · cases h
  · rename_i x s hr
    unfold PyFlat.row at hr
    split at hr
    · cases hr
    · rename_i n r
      split at hr
      · rename_i hc
        cases hr
        split at h
        · cases h
        · rename_i xs' t' hq
          cases h
          exact ⟨n, r, xs', rfl, hc.1, hc.2, hq, rfl⟩
      · cases hr
theorem drop_cons {ns : List Int} {i : Nat} {x : Int} {r : List Int} (h : ns.drop i = x :: r) : i < ns.length ∧ ns[i]? = some x ∧ ns.drop (i + 1) = r := by
  have hl : i < ns.length := by
    refine Classical.byContradiction fun c => ?_
    rw [List.drop_eq_nil_of_le (by omega)] at h
    cases h
  rw [List.drop_eq_getElem_cons hl] at h
  injection h with h1 h2
  exact ⟨hl, by rw [List.getElem?_eq_getElem hl, h1], h2⟩
section
variable {P : Program} {w : World} {K : PySem.W.Frag} {mg : Str → Option Value} {base : Heap} {D : Ad}
def spCall (C : Addr) : Sp := fun vs H Q _ => ∃ (p dx an ar : Addr) (k : Int), vs = [.ref p, .int k, .ref an, .ref ar] ∧ H p = some (.ins C dx []) ∧ Q .non (upd H p (.ins C dx (cF k an ar)))
theorem ok_Call___init__ (T : Txt K mg D) : FnOk P w K mg base CX0 1 D.a_Call___init__ D.d_Call___init__ ["self", "number", "numbers", "rows"] (spCall D.c_Call) := by
  refine T.f_Call___init__.ok sc_Call___init__ (fun vs H Q E h => ?_) (fun cdv A outer s H vs Q E hr h => ?_)
  · obtain ⟨_, _, _, _, _, rfl, _⟩ := h
    rfl
  · obtain ⟨p, dx, tn, tc, k, rfl, hp, q⟩ := h
    refine ⟨_, (pss_cons (ps_fld (pv 0) (pv 1) rfl)
      (pss_cons (ps_fld (pv 0) (pv 2) rfl)
      (pss_one (ps_fld (pv 0) (pv 3) rfl)))), ?_⟩
    refine ⟨_, rfl, _, rfl, p, _, dx, [], rfl, hp, T.k_Call, T.x_Call_number, (by show 0 < 1000; decide), ?_⟩
    refine ⟨_, rfl, _, rfl, p, _, dx, _, rfl, upd_same, T.k_Call, T.x_Call_numbers, (by show 1 < 1000; decide), ?_⟩
    refine ⟨_, rfl, _, rfl, p, _, dx, _, rfl, upd_same, T.k_Call, T.x_Call_rows, ?_, ?_⟩
    · rw [show putF "numbers" (.ref tn) (putF "number" (.int k) []) = ([("number", .int k), ("numbers", .ref tn)] : List (Str × V)) from put_next (by decide +kernel)]
      show 2 < 1000
      decide
    · rw [upd_over, upd_over, cF_new]
      exact q
end
end Cp
/-! Cp7 -/
namespace Cp
open PySem PySem.Spec PyProof.Rows L2 Evl
/-! ### more of what readings come to -/
section
variable {K : PySem.W.Frag} {σ : L2.St} {H H' : Hp} {ta tb te tl : TE} {t : TT} {v : V} {α : Type}
/-- a tuple that stands somewhere -/
def EvS (K : PySem.W.Frag) (te : TE) (σ : L2.St) (H : Hp) (xs : List V) : Prop := ∀ H1, Ex H H1 → ∀ Q : VK, (∀ q H2, Ex H1 H2 → SqT K H2 q xs → Q (.ref q) H2) → te σ H1 Q
theorem lcS {ms : List α} {emb : α → V} {j : Nat} {vs : List Nat} (f : α → Bool) (e : α → V) (h : EvS K tl σ H (ms.map emb)) (hz : ms.length ≤ 40000) (hw : ∀ x, wipe ((wipe σ vs).set j (some x)) vs = wipe σ vs)
    (ht : ∀ m ∈ ms, ∀ H1, Ex H H1 → EvT t ((wipe σ vs).set j (some (emb m))) H1 (f m)) (he : ∀ m ∈ ms, ∀ H1, Ex H H1 → f m = true → Ev te ((wipe σ vs).set j (some (emb m))) H1 (e m)) :
    EvL (tLc (iTup K tl) (gName j) t te vs) σ H ((ms.filter f).map e) := fun H0 e0 Q q => h H0 e0 _ fun a H1 e1 hx => ⟨a, rfl, ⟨_, hx⟩, fun Dl hD =>
  lc_tup (xs := ms.map emb) (Lw H1 ms f e Dl) ⟨hD, Ex.new hD, upd_same⟩ (fun i H' _ p => ex_t p.2.1 hx) (fun i x H' hi p => by
    obtain ⟨m, hm, rfl, mm⟩ := map_at hi
    exact ⟨hw _, lw_turn p hm hz (ht m mm H1 (e0.trans e1)) (fun hf => he m mm H1 (e0.trans e1) hf)⟩)
    (fun H' p => q Dl H' (fresh_back e1 p.1) (e1.trans p.2.1) (by
      have z := p.2.2
      rw [List.length_map, List.take_length] at z
      exact z))⟩
/-- line.sources() -/
theorem es_sources {D : Ad} {p : Addr} {way : Sm15.Way} {c : List Int} {E : XK} (h : Ev te σ H (.ref p)) (hl : LineAt K D.c_Line H p way c) : EvS K (tMeth D.c_Line "sources" (spSrc K D.c_Line) [] E te tNil) σ H ((Sm15.sources way).map fun (n : Nat) => V.int (n : Int)) := fun H1 e Q q =>
  h H1 e _ fun H2 e2 => by
    have hl2 := hl.ex (e.trans e2)
    obtain ⟨dx, tn, tc, h1, h2, h3⟩ := id hl2
    exact ⟨p, dx, _, rfl, h1, lF_sources, p, way, c, rfl, hl2, fun r H3 e3 hr => q r H3 (e2.trans e3) hr⟩
theorem has_nat (l : List Nat) (k : Nat) : (l.map fun (n : Nat) => (n : Int)).contains (k : Int) = l.contains k := by
  rw [Bool.eq_iff_iff]
  simp only [List.contains_iff_mem, List.mem_map]
  constructor
  · rintro ⟨a, ha, e⟩
    have : a = k := by omega
    exact this ▸ ha
  · intro h
    exact ⟨k, h, rfl⟩
end
/-! ### is_shown -/
/-- where a line's clause lies -/
def tcA (H : Hp) (kvs : List (Key × V)) (n : Nat) : Addr := match valV kvs (Sum.inl (n : Int)) with
  | some (.ref p) => (match H p with
    | some (.ins _ _ fs) => (match fs.lookup ("clause" : Str) with
      | some (.ref a) => a
      | _ => 0)
    | _ => 0)
  | _ => 0
theorem tcA_is {H : Hp} {kvs : List (Key × V)} {n : Nat} {p dx tn tc C : Addr} {k : Int} (h1 : valV kvs (Sum.inl (n : Int)) = some (.ref p)) (h2 : H p = some (.ins C dx (lF k tn tc))) : tcA H kvs n = tc := by
  unfold tcA
  rw [h1]
  dsimp only
  rw [h2]
  dsimp only
  rw [lF_clause]
/-- the clause that a number names, if there is one -/
def ocOf (H : Hp) (kvs : List (Key × V)) (ls : List Sm15.Line) (n : Nat) : OC := (Sm15.clauseAt ls n).map fun c => (tcA H kvs n, c)
def showsO (u : Nat) (as : List Sm15.Atom) (c : List Int) (os : List OC) : Sm15.Way → Bool
  | .claim => false
  | .bounds => Sm15.byBounds u as c
  | .joined _ _ a => joinO (os.getD 0 none) (os.getD 1 none) a c
  | .wider _ => wideO (os.getD 0 none) c
  | .chain _ => chainO c os
theorem chain_any {H : Hp} {kvs : List (Key × V)} {ls : List Sm15.Line} : ∀ {ks : List Nat} {a b : List Int}, (∀ x, x ∈ a ↔ x ∈ b) → chainO a (ks.map (ocOf H kvs ls)) = Sm15.chained ls b ks
  | [], a, b, _ => rfl
  | k :: ks, a, b, hm => by
    rw [List.map_cons]
    unfold Sm15.chained ocOf
    cases h : Sm15.clauseAt ls k with
    | none => rfl
    | some c =>
      rw [Option.map_some]
      unfold chainO
      dsimp only
      have ef : (c.filter fun x => !a.contains x) = c.filter fun x => !b.contains x := List.filter_congr fun x _ => by
        rw [show a.contains x = b.contains x by rw [Bool.eq_iff_iff]; simp only [List.contains_iff_mem]; exact hm x]
      rw [ef]
      match c.filter fun x => !b.contains x with
      | [] => rfl
      | [x] =>
        refine chain_any fun y => ?_
        rw [List.mem_append, List.mem_singleton, List.mem_cons, hm y, Int.zero_sub]
        exact or_comm
      | _ :: _ :: _ => rfl
theorem shows_O {H : Hp} {kvs : List (Key × V)} {u : Nat} {as : List Sm15.Atom} {ls : List Sm15.Line} {c : List Int} {way : Sm15.Way} : Sm15.shows u as ls c way = showsO u as c ((Sm15.sources way).map (ocOf H kvs ls)) way := by
  cases way with
  | claim => rfl
  | bounds => rfl
  | joined i j a =>
    show (match Sm15.clauseAt ls i, Sm15.clauseAt ls j with | some x, some y => decide (Sm15.join x y a = some c) | _, _ => false) = joinO (ocOf H kvs ls i) (ocOf H kvs ls j) a c
    unfold ocOf joinO
    cases Sm15.clauseAt ls i with
    | none => rfl
    | some x =>
      cases Sm15.clauseAt ls j with
      | none => rfl
      | some y => rfl
  | wider i =>
    show (match Sm15.clauseAt ls i with | some x => x.all c.contains | none => false) = wideO (ocOf H kvs ls i) c
    unfold ocOf wideO
    cases Sm15.clauseAt ls i with
    | none => rfl
    | some x => rfl
  | chain l => exact (chain_any fun _ => Iff.rfl).symm
theorem wayNo_is {way : Sm15.Way} : (wayNo way = 1 ↔ way = .bounds) ∧ (wayNo way = 2 ↔ ∃ i j a, way = .joined i j a) ∧ (wayNo way = 3 ↔ ∃ i, way = .wider i) ∧ (wayNo way = 0 ↔ way = .claim) := by
  cases way <;> simp [wayNo]
section
variable {P : Program} {w : World} {K : PySem.W.Frag} {mg : Str → Option Value} {base : Heap} {D : Ad}
/-- lines of a dict -/
def DictAt (K : PySem.W.Frag) (D : Ad) (H : Hp) (d : Addr) (ls : List Sm15.Line) : Prop := ∃ kvs, H d = some (.dK kvs) ∧ LinesAt K D.c_Line H kvs ls
theorem DictAt.ex {H H' : Hp} {d : Addr} {ls : List Sm15.Line} (e : Ex H H') (h : DictAt K D H d ls) : DictAt K D H' d ls := by
  obtain ⟨kvs, h1, h2⟩ := h
  exact ⟨kvs, e _ _ h1, h2.ex e⟩
def spIs (K : PySem.W.Frag) (D : Ad) : Sp := fun vs H Q _ => ∃ (p dl aA : Addr) (u : Nat) (way : Sm15.Way) (c : List Int) (ls : List Sm15.Line) (as : List Sm15.Atom), vs = [.ref p, .ref dl, .ref aA, .int (u : Int)] ∧ LineAt K D.c_Line H p way c ∧ DictAt K D H dl ls ∧ AtomsAt K H aA as ∧ AtomsOk u as ∧
  as.length ≤ 8 ∧ u ≤ 4 ∧ Lits as.length c ∧ c.length ≤ 400 ∧ (∀ x ∈ ls, x.clause.length ≤ 400) ∧ (Sm15.sources way).length ≤ 1000 ∧ way ≠ .claim ∧ RetV (.bl (Sm15.shows u as ls c way)) H Q
theorem ok_is_shown (T : Txt K mg D) : FnOk P w K mg base CX0 7 D.a_is_shown D.d_is_shown ["line", "lines", "atoms", "u"] (spIs K D) := by
  refine T.f_is_shown.ok sc_is_shown (fun vs H Q E h => ?_) (fun cdv A outer s H vs Q E hr h => ?_)
  · obtain ⟨_, _, _, _, _, _, _, _, rfl, _⟩ := h
    rfl
  · obtain ⟨p, dl, aA, u, way, c, ls, as, rfl, hL, ⟨kvs, l1, l2⟩, hA, hok, hal, hu, hl, hcl, hcs, hlen, hnc, q⟩ := h
    obtain ⟨dx, tn, tc, hp, hn, hc⟩ := id hL
    refine ⟨_, (pss_cons (ps_setLc (i := 4) (own := [("source", 5)]) (g := gName 5) (by rfl) sc_is_shown.nd rfl rfl (sw_true rfl rfl rfl (by decide +kernel)) (pi_tup (pe_meth0 (pv 0) T.k_Line T.t_Line_sources (ok_Line_sources T) (hr.mono (by decide)) T.n_Line_sources .nil pass0)) (blkOk_by (own := [("source", 5)]) (N := ["line", "lines", "atoms", "u", "sources", "source"]) (sc := defScope s_is_shown) (by decide +kernel)) (fun _ _ _ _ _ => (pg_name (i := 5) sc_is_shown.nd rfl (Or.inl rfl))) (fun _ _ _ _ _ => pts_nil) (fun _ _ _ _ _ => (pe_ifExp (pt_cmp (pc_din (hu_of hr) (pv 5) (pv 1))) (pe_fldK K (pe_dget (hu_of hr) (pv 1) (pv 5) (fun _ _ => rfl)) rfl) pe_non)))
      (pss_cons (ps_if (pt_cmpR op_eq (pe_fld (pv 0) rfl) (pe_gi (by rfl) T.c_BY_BOUNDS) (nomark _)) (pss_one (ps_ret (pe_call (ok_shown_by_differences T) (hr.mono (by decide)) (by rfl) T.g_shown_by_differences T.f_shown_by_differences.kp T.n_shown_by_differences .nil pass0 (pa_cons (pe_fld (pv 0) rfl) (pa_cons (pv 2) (pa_cons (pv 3) pa_nil)))))) pss_nil)
      (pss_cons (ps_if (pt_cmpR op_eq (pe_fld (pv 0) rfl) (pe_gi (by rfl) T.c_BY_JOINING) (nomark _)) (pss_one (ps_ret (pe_call (ok_shown_by_joining T) hr (by rfl) T.g_shown_by_joining T.f_shown_by_joining.kp T.n_shown_by_joining .nil pass0 (pa_cons (pe_fld (pv 0) rfl) (pa_cons (pe_ix ix_list (pv 4) pe_int (fun _ _ => rfl)) (pa_cons (pe_ix ix_list (pv 4) pe_int (fun _ _ => rfl)) (pa_cons (pe_ix ix_tup (pe_fld (pv 0) rfl) pe_int (fun _ _ => rfl)) pa_nil))))))) pss_nil)
      (pss_cons (ps_if (pt_cmpR op_eq (pe_fld (pv 0) rfl) (pe_gi (by rfl) T.c_BY_WIDENING) (nomark _)) (pss_one (ps_ret (pe_call (ok_shown_by_widening T) (hr.mono (by decide)) (by rfl) T.g_shown_by_widening T.f_shown_by_widening.kp T.n_shown_by_widening .nil pass0 (pa_cons (pe_fld (pv 0) rfl) (pa_cons (pe_ix ix_list (pv 4) pe_int (fun _ _ => rfl)) pa_nil))))) pss_nil)
      (pss_one (ps_ret (pe_call (ok_shown_by_chain T) (hr.mono (by decide)) (by rfl) T.g_shown_by_chain T.f_shown_by_chain.kp T.n_shown_by_chain .nil pass0 (pa_cons (pe_fld (pv 0) rfl) (pa_cons (pv 4) pa_nil))))))))), ?_⟩
    -- sources
    have there : ∀ m : Nat, ∀ {H1}, Ex H H1 → (∃ (o : Addr) (dy ty cy : Addr) (k : Int) (x : Sm15.Line), x ∈ ls ∧ Sm15.clauseAt ls m = some x.clause ∧ valV kvs (Sum.inl (m : Int)) = some (.ref o) ∧ H o = some (.ins D.c_Line dy (lF k ty cy)) ∧ tcA H kvs m = cy ∧ H cy = some (.tup (x.clause.map V.int))) ∨ (Sm15.clauseAt ls m = none ∧ valV kvs (Sum.inl (m : Int)) = none) := fun m H1 e => by
      rcases val_lines (k := m) l2 with ⟨x, o, h1, h2, h3, dy, ty, cy, h4, h5, h6⟩ | ⟨h1, h2⟩
      · exact .inl ⟨o, dy, ty, cy, _, x, h2, by unfold Sm15.clauseAt; rw [h1]; rfl, h3, h4, tcA_is h3 h4, h6⟩
      · exact .inr ⟨by unfold Sm15.clauseAt; rw [h1]; rfl, h2⟩
    have gg := lcS (K := K) (σ := [some (.ref p), some (.ref dl), some (.ref aA), some (.int (u : Int)), none, none]) (H := H) (t := tYes) (te := tIf (tTest (tDIn (tVar 5) (tVar 1))) (tFld K (tDGet (tVar 1) (tVar 5)) "clause") (tC .non)) (j := 5) (vs := [5]) (emb := fun (n : Nat) => V.int (n : Int)) (fun _ => true) (fun n => ocV (ocOf H kvs ls n)) (es_sources (D := D) (E := E0) (te := tVar 0) (ev_var rfl) hL) (by omega) (fun x => rfl) (fun m _ H1 e => et_yes)
      (fun m hm H1 e _ => by
        rcases there m e with ⟨o, dy, ty, cy, k, x, hx, h1, h2, h3, h4, h5⟩ | ⟨h1, h2⟩
        · refine ev_if (b := true) (et_is (et_test (ev_din (k := (m : Int)) (ev_var (i := 5) rfl) (ev_var (i := 1) rfl) (.inl (e _ _ l1)))) (by rw [h2]; rfl)) (fun _ => ?_) fun z => Bool.noConfusion z
          unfold ocOf
          rw [h1, h4]
          exact ev_fld (ev_dget (ev_var (i := 1) rfl) (ev_var (i := 5) rfl) (.inl (e _ _ l1)) h2) (e _ _ h3) T.k_Line T.x_Line_clause lF_clause
        · refine ev_if (b := false) (et_is (et_test (ev_din (k := (m : Int)) (ev_var (i := 5) rfl) (ev_var (i := 1) rfl) (.inl (e _ _ l1)))) (by rw [h2]; rfl)) (fun z => Bool.noConfusion z) fun _ => ?_
          unfold ocOf
          rw [h1]
          exact ev_c)
    rw [filter_yes, show (Sm15.sources way).map (fun n => ocV (ocOf H kvs ls n)) = ((Sm15.sources way).map (ocOf H kvs ls)).map ocV by rw [List.map_map]; rfl] at gg
    refine q_asgL gg fun aS H0 nS e0 hS0 => ?_
    have hOcs : OcsAt K H0 aS ((Sm15.sources way).map (ocOf H kvs ls)) := ⟨sq_of hS0, fun o ho => by
      obtain ⟨m, hm, rfl⟩ := List.mem_map.mp ho
      rcases there m (Ex.refl H) with ⟨o, dy, ty, cy, k, x, hx, h1, h2, h3, h4, h5⟩ | ⟨h1, h2⟩
      · intro p hp
        unfold ocOf at hp
        rw [h1, h4] at hp
        have hp : (cy, x.clause) = p := Option.some.inj hp
        rw [← hp]
        exact ⟨st_of (e0 _ _ h5), hcs x hx⟩
      · intro p hp
        unfold ocOf at hp
        rw [h1] at hp
        cases hp⟩
    rw [shows_O (H := H) (kvs := kvs)] at q
    have osl : ((Sm15.sources way).map (ocOf H kvs ls)).length = (Sm15.sources way).length := List.length_map _
    generalize hos : (Sm15.sources way).map (ocOf H kvs ls) = os at *
    have fw : ∀ {H1}, Ex H H1 → Ev (tFld K (tVar 0) "way") [some (.ref p), some (.ref dl), some (.ref aA), some (.int (u : Int)), some (.ref aS), none] H1 (.int (wayNo way)) := fun e => ev_fld (ev_var (i := 0) rfl) (e _ _ hp) T.k_Line T.x_Line_way lF_way
    have fc : ∀ {H1}, Ex H H1 → Ev (tFld K (tVar 0) "clause") [some (.ref p), some (.ref dl), some (.ref aA), some (.int (u : Int)), some (.ref aS), none] H1 (.ref tc) := fun e => ev_fld (ev_var (i := 0) rfl) (e _ _ hp) T.k_Line T.x_Line_clause lF_clause
    have fn : ∀ {H1}, Ex H H1 → Ev (tFld K (tVar 0) "named") [some (.ref p), some (.ref dl), some (.ref aA), some (.int (u : Int)), some (.ref aS), none] H1 (.ref tn) := fun e => ev_fld (ev_var (i := 0) rfl) (e _ _ hp) T.k_Line T.x_Line_named lF_named
    have nth : ∀ {H1} (j : Nat), Ex H0 H1 → j < os.length → Ev (tOp (rIxL K) (tVar 4) (tC (.int (j : Int)))) [some (.ref p), some (.ref dl), some (.ref aA), some (.int (u : Int)), some (.ref aS), none] H1 (ocV (os.getD j none)) := fun j e hj => ev_ixL (ev_var (i := 4) rfl) (ex_l e hOcs.1) ev_c (atI_nat (by rw [List.getElem?_map, List.getD_eq_getElem?_getD, List.getElem?_eq_getElem hj]; rfl))
    have oat : ∀ {H1} (j : Nat), Ex H0 H1 → OcAt K H1 (os.getD j none) := fun j e => by
      by_cases hj : j < os.length
      · rw [List.getD_eq_getElem?_getD, List.getElem?_eq_getElem hj]
        exact (hOcs.2 _ (List.getElem_mem hj)).ex e
      · rw [List.getD_eq_getElem?_getD, List.getElem?_eq_none (by omega)]
        intro p hp
        cases hp
    refine q_when (et_test (ev_eq (i := wayNo way) (j := 1) (fw e0) ev_c)) (fun hb H1 e1 => ?_) (fun hb H1 e1 => ?_)
    · have hw := (wayNo_is (way := way)).1.mp (of_decide_eq_true hb)
      subst hw
      have e01 := e0.trans e1
      exact s_ret (ev_call (ea_cons (fc e01) (ea_cons (ev_var (i := 2) rfl) (ea_cons (ev_var (i := 3) rfl) ea_nil))) fun H2 e2 Q2 q2 E2 => ⟨tc, aA, u, as, c, rfl, st_of ((e01.trans e2) _ _ hc), hA.ex (e01.trans e2), hok, hl, by omega, by omega, q2⟩) fun H2 e2 => q H2 (e01.trans e2)
    · refine q_when (et_test (ev_eq (i := wayNo way) (j := 2) (fw (e0.trans e1)) ev_c)) (fun hb2 H2 e2 => ?_) (fun hb2 H2 e2 => ?_)
      · obtain ⟨i, j, a, rfl⟩ := (wayNo_is (way := way)).2.1.mp (of_decide_eq_true hb2)
        have e12 := e1.trans e2
        have e02 := e0.trans e12
        have l2 : os.length = 2 := osl
        exact s_ret (ev_call (ea_cons (fc e02) (ea_cons (nth 0 e12 (by omega)) (ea_cons (nth 1 e12 (by omega)) (ea_cons (ev_ixT (v := .int (a : Int)) (i := 2) (fn e02) (ex_t e02 hn) ev_c rfl) ea_nil)))) fun H3 e3 Q3 q3 E3 => ⟨tc, os.getD 0 none, os.getD 1 none, a, c, rfl, st_of ((e02.trans e3) _ _ hc), oat 0 (e12.trans e3), oat 1 (e12.trans e3), q3⟩) fun H3 e3 => q H3 (e02.trans e3)
      · refine q_when (et_test (ev_eq (i := wayNo way) (j := 3) (fw (e0.trans (e1.trans e2))) ev_c)) (fun hb3 H3 e3 => ?_) (fun hb3 H3 e3 => ?_)
        · obtain ⟨i, rfl⟩ := (wayNo_is (way := way)).2.2.1.mp (of_decide_eq_true hb3)
          have e13 := (e1.trans e2).trans e3
          have e03 := e0.trans e13
          have l1 : os.length = 1 := osl
          exact s_ret (ev_call (ea_cons (fc e03) (ea_cons (nth 0 e13 (by omega)) ea_nil)) fun H4 e4 Q4 q4 E4 => ⟨tc, os.getD 0 none, c, rfl, st_of ((e03.trans e4) _ _ hc), oat 0 (e13.trans e4), q4⟩) fun H4 e4 => q H4 (e03.trans e4)
        · have e13 := (e1.trans e2).trans e3
          have e03 := e0.trans e13
          have hw : ∃ l, way = .chain l := by
            cases way with
            | chain l => exact ⟨l, rfl⟩
            | claim => exact absurd rfl hnc
            | bounds => exact absurd rfl (of_decide_eq_false hb)
            | joined i j a => exact absurd rfl (of_decide_eq_false hb2)
            | wider i => exact absurd rfl (of_decide_eq_false hb3)
          obtain ⟨l, rfl⟩ := hw
          exact s_ret (ev_call (ea_cons (fc e03) (ea_cons (ev_var (i := 4) rfl) ea_nil)) fun H4 e4 Q4 q4 E4 => ⟨tc, aS, c, os, rfl, st_of ((e03.trans e4) _ _ hc), hOcs.ex (e13.trans e4), by omega, by omega, q4⟩) fun H4 e4 => q H4 (e03.trans e4)
end
end Cp
/-! Cp8 -/
namespace Cp
open PySem PySem.Spec PyProof.Rows L2 Evl
/-! ### the book in the heap -/
def bF (u : Nat) (al dl : Addr) (nx : Nat) (ml : Addr) : List (Str × V) := [("u", .int (u : Int)), ("atoms", .ref al), ("lines", .ref dl), ("next_number", .int (nx : Int)), ("marks", .ref ml)]
section
variable {u nx : Nat} {al dl ml : Addr}
theorem bF_u : (bF u al dl nx ml).lookup ("u" : Str) = some (.int (u : Int)) := lk_one
theorem bF_atoms : (bF u al dl nx ml).lookup ("atoms" : Str) = some (.ref al) := (lk_next (by decide +kernel)).trans lk_one
theorem bF_lines : (bF u al dl nx ml).lookup ("lines" : Str) = some (.ref dl) := (lk_next (by decide +kernel)).trans ((lk_next (by decide +kernel)).trans lk_one)
theorem bF_next : (bF u al dl nx ml).lookup ("next_number" : Str) = some (.int (nx : Int)) := (lk_next (by decide +kernel)).trans ((lk_next (by decide +kernel)).trans ((lk_next (by decide +kernel)).trans lk_one))
theorem bF_marks : (bF u al dl nx ml).lookup ("marks" : Str) = some (.ref ml) := (lk_next (by decide +kernel)).trans ((lk_next (by decide +kernel)).trans ((lk_next (by decide +kernel)).trans ((lk_next (by decide +kernel)).trans lk_one)))
theorem bF_m {m : Str} (h : ((m == ("u" : Str)) || (m == ("atoms" : Str)) || (m == ("lines" : Str)) || (m == ("next_number" : Str)) || (m == ("marks" : Str))) = false) : (bF u al dl nx ml).lookup m = none := by
  rw [Bool.or_eq_false_iff, Bool.or_eq_false_iff, Bool.or_eq_false_iff, Bool.or_eq_false_iff] at h
  exact (lk_next h.1.1.1.1).trans ((lk_next h.1.1.1.2).trans ((lk_next h.1.1.2).trans ((lk_next h.1.2).trans ((lk_next h.2).trans rfl))))
theorem bF_new1 {x : V} : putF "u" x [] = ([("u", x)] : List (Str × V)) := rfl
theorem bF_new2 {x y : V} : putF "atoms" y [("u", x)] = ([("u", x), ("atoms", y)] : List (Str × V)) := put_next (by decide +kernel)
theorem bF_new3 {x y z : V} : putF "lines" z [("u", x), ("atoms", y)] = ([("u", x), ("atoms", y), ("lines", z)] : List (Str × V)) := by
  rw [put_next (by decide +kernel), put_next (by decide +kernel)]
  rfl
theorem bF_new4 {x y z t : V} : putF "next_number" t [("u", x), ("atoms", y), ("lines", z)] = ([("u", x), ("atoms", y), ("lines", z), ("next_number", t)] : List (Str × V)) := by
  rw [put_next (by decide +kernel), put_next (by decide +kernel), put_next (by decide +kernel)]
  rfl
theorem bF_new5 {x y z t r : V} : putF "marks" r [("u", x), ("atoms", y), ("lines", z), ("next_number", t)] = ([("u", x), ("atoms", y), ("lines", z), ("next_number", t), ("marks", r)] : List (Str × V)) := by
  rw [put_next (by decide +kernel), put_next (by decide +kernel), put_next (by decide +kernel), put_next (by decide +kernel)]
  rfl
theorem bF_putU {u2 : Nat} : putF "u" (.int (u2 : Int)) (bF u al dl nx ml) = bF u2 al dl nx ml := by
  unfold bF
  rw [put_one]
theorem bF_putAtoms {al2 : Addr} : putF "atoms" (.ref al2) (bF u al dl nx ml) = bF u al2 dl nx ml := by
  unfold bF
  rw [put_next (by decide +kernel), put_one]
theorem bF_putLines {dl2 : Addr} : putF "lines" (.ref dl2) (bF u al dl nx ml) = bF u al dl2 nx ml := by
  unfold bF
  rw [put_next (by decide +kernel), put_next (by decide +kernel), put_one]
theorem bF_putNext {n2 : Nat} : putF "next_number" (.int (n2 : Int)) (bF u al dl nx ml) = bF u al dl n2 ml := by
  unfold bF
  rw [put_next (by decide +kernel), put_next (by decide +kernel), put_next (by decide +kernel), put_one]
theorem bF_putMarks {ml2 : Addr} : putF "marks" (.ref ml2) (bF u al dl nx ml) = bF u al dl nx ml2 := by
  unfold bF
  rw [put_next (by decide +kernel), put_next (by decide +kernel), put_next (by decide +kernel), put_next (by decide +kernel), put_one]
end
/-! ### marks in the heap -/
def mF (al dl : Addr) (nx : Nat) : List (Str × V) := [("atoms", .ref al), ("lines", .ref dl), ("next_number", .int (nx : Int))]
theorem mF_atoms {al dl : Addr} {nx : Nat} : (mF al dl nx).lookup ("atoms" : Str) = some (.ref al) := lk_one
theorem mF_lines {al dl : Addr} {nx : Nat} : (mF al dl nx).lookup ("lines" : Str) = some (.ref dl) := (lk_next (by decide +kernel)).trans lk_one
theorem mF_next {al dl : Addr} {nx : Nat} : (mF al dl nx).lookup ("next_number" : Str) = some (.int (nx : Int)) := (lk_next (by decide +kernel)).trans ((lk_next (by decide +kernel)).trans lk_one)
theorem mF_new2 {x y : V} : putF "lines" y [("atoms", x)] = ([("atoms", x), ("lines", y)] : List (Str × V)) := put_next (by decide +kernel)
theorem mF_new3 {x y z : V} : putF "next_number" z [("atoms", x), ("lines", y)] = ([("atoms", x), ("lines", y), ("next_number", z)] : List (Str × V)) := by
  rw [put_next (by decide +kernel), put_next (by decide +kernel)]
  rfl
structure MPl where
  q : Addr
  dx : Addr
  al : Addr
  dl : Addr
/-- where the book's parts lie, and what its marks hold (the last one first) -/
structure Pl where
  dx : Addr
  al : Addr
  dl : Addr
  ml : Addr
  rs : List MPl
  ms : List (Sm15.Stand × Nat)
structure MarkAt (K : PySem.W.Frag) (D : Ad) (H : Hp) (r : MPl) (m : Sm15.Stand × Nat) : Prop where
  ob : H r.q = some (.ins D.c_Mark r.dx (mF r.al r.dl m.2))
  at_ : ∃ ps : List Addr, H r.al = some (.lst (ps.map V.ref)) ∧ Paired (AtomAt K H) ps m.1.atoms
  ln : DictAt K D H r.dl m.1.lines
theorem MarkAt.ex {K : PySem.W.Frag} {D : Ad} {H H' : Hp} {r : MPl} {m : Sm15.Stand × Nat} (e : Ex H H') (h : MarkAt K D H r m) : MarkAt K D H' r m := by
  obtain ⟨ps, a1, a2⟩ := h.at_
  exact ⟨e _ _ h.ob, ⟨ps, e _ _ a1, pr_imp (fun _ _ => AtomAt.ex e) a2⟩, h.ln.ex e⟩
structure MksAt (K : PySem.W.Frag) (D : Ad) (H : Hp) (g : Pl) : Prop where
  ml : H g.ml = some (.lst (g.rs.map fun r => V.ref r.q))
  mks : Paired (MarkAt K D H) g.rs g.ms.reverse
  da : ∀ r ∈ g.rs, r.al ≠ g.al ∧ r.dl ≠ g.dl ∧ r.al ≠ g.ml
  am : g.al ≠ g.ml
  na : (g.rs.map (·.al)).Nodup
  nd : (g.rs.map (·.dl)).Nodup
theorem MksAt.ex {K : PySem.W.Frag} {D : Ad} {H H' : Hp} {g : Pl} (e : Ex H H') (h : MksAt K D H g) : MksAt K D H' g := ⟨e _ _ h.ml, pr_imp (fun _ _ => MarkAt.ex e) h.mks, h.da, h.am, h.na, h.nd⟩
structure BookAt (K : PySem.W.Frag) (D : Ad) (H : Hp) (b : Addr) (g : Pl) (u : Nat) (as : List Sm15.Atom) (ls : List Sm15.Line) (nx : Nat) : Prop where
  ob : H b = some (.ins D.c_Book g.dx (bF u g.al g.dl nx g.ml))
  at_ : ∃ ps : List Addr, H g.al = some (.lst (ps.map V.ref)) ∧ Paired (AtomAt K H) ps as
  ln : ∃ kvs, H g.dl = some (.dK kvs) ∧ LinesAt K D.c_Line H kvs ls
  mks : MksAt K D H g
theorem BookAt.ex {K : PySem.W.Frag} {D : Ad} {H H' : Hp} {b : Addr} {g : Pl} {u : Nat} {as : List Sm15.Atom} {ls : List Sm15.Line} {nx : Nat} (e : Ex H H') (h : BookAt K D H b g u as ls nx) : BookAt K D H' b g u as ls nx := by
  obtain ⟨ps, a1, a2⟩ := h.at_
  obtain ⟨kvs, l1, l2⟩ := h.ln
  exact ⟨e _ _ h.ob, ⟨ps, e _ _ a1, pr_imp (fun _ _ => AtomAt.ex e) a2⟩, ⟨kvs, e _ _ l1, l2.ex e⟩, h.mks.ex e⟩
theorem BookAt.atoms {K : PySem.W.Frag} {D : Ad} {H : Hp} {b : Addr} {g : Pl} {u : Nat} {as : List Sm15.Atom} {ls : List Sm15.Line} {nx : Nat} (h : BookAt K D H b g u as ls nx) : AtomsAt K H g.al as := by
  obtain ⟨ps, a1, a2⟩ := h.at_
  exact ⟨ps, sq_of a1, a2⟩
section
variable {P : Program} {w : World} {K : PySem.W.Frag} {mg : Str → Option Value} {base : Heap} {D : Ad}
/-! ### begin: the book anew; of the old parts nothing is kept -/
def spBegin (D : Ad) : Sp := fun vs H Q _ => ∃ (b dx : Addr) (u : Nat), vs = [.ref b, .int (u : Int)] ∧ (H b = some (.ins D.c_Book dx []) ∨ ∃ u0 al0 dl0 nx0 ml0, H b = some (.ins D.c_Book dx (bF u0 al0 dl0 nx0 ml0))) ∧
  ∀ (H' : Hp) (al dl ml : Addr), ExB b H H' → H al = none → H dl = none → H ml = none → al ≠ ml → H' b = some (.ins D.c_Book dx (bF u al dl 1 ml)) → H' al = some (.lst []) → H' dl = some (.dK []) → H' ml = some (.lst []) → Q .non H'
theorem ok_Book_begin (T : Txt K mg D) : FnOk P w K mg base CX0 1 D.a_Book_begin D.d_Book_begin ["self", "u"] (spBegin D) := by
  refine T.f_Book_begin.ok sc_Book_begin (fun vs H Q E h => ?_) (fun cdv A outer s H vs Q E hr h => ?_)
  · obtain ⟨_, _, _, rfl, _⟩ := h
    rfl
  · obtain ⟨b, dx, u, rfl, hb, q⟩ := h
    refine ⟨_, (pss_cons (ps_fld (pv 0) (pv 1) rfl)
      (pss_cons (ps_fld (pv 0) (pe_lst pa_nil) rfl)
      (pss_cons (ps_fld (pv 0) pe_dnewK rfl)
      (pss_cons (ps_fld (pv 0) pe_int rfl)
      (pss_one (ps_fld (pv 0) (pe_lst pa_nil) rfl)))))), ?_⟩
    obtain ⟨fs, f2, f3, f4, hfs, hlen, hfin⟩ : ∃ (fs : List (Str × V)) (f2 : Addr → List (Str × V)) (f3 : Addr → Addr → List (Str × V)) (f4 : Addr → Addr → List (Str × V)), H b = some (.ins D.c_Book dx fs) ∧ fs.length ≤ 5 ∧ ∀ al dl ml : Addr, (putF "u" (.int (u : Int)) fs).length < 1000 ∧ putF "atoms" (.ref al) (putF "u" (.int (u : Int)) fs) = f2 al ∧ (f2 al).length < 1000 ∧
        putF "lines" (.ref dl) (f2 al) = f3 al dl ∧ (f3 al dl).length < 1000 ∧ putF "next_number" (.int ((1 : Nat) : Int)) (f3 al dl) = f4 al dl ∧ (f4 al dl).length < 1000 ∧ putF "marks" (.ref ml) (f4 al dl) = bF u al dl 1 ml := by
      rcases hb with hb | ⟨u0, al0, dl0, nx0, ml0, hb⟩
      · exact ⟨[], fun al => [("u", .int (u : Int)), ("atoms", .ref al)], fun al dl => [("u", .int (u : Int)), ("atoms", .ref al), ("lines", .ref dl)], fun al dl => [("u", .int (u : Int)), ("atoms", .ref al), ("lines", .ref dl), ("next_number", .int ((1 : Nat) : Int))], hb, by decide, fun al dl ml => ⟨by show 1 < 1000; decide, bF_new2, by show 2 < 1000; decide, bF_new3, by show 3 < 1000; decide, bF_new4, by show 4 < 1000; decide, bF_new5⟩⟩
      · exact ⟨_, fun al => bF u al dl0 nx0 ml0, fun al dl => bF u al dl nx0 ml0, fun al dl => bF u al dl 1 ml0, hb, by show 5 ≤ 5; decide, fun al dl ml => ⟨by rw [bF_putU]; show 5 < 1000; decide, by rw [bF_putU, bF_putAtoms], by show 5 < 1000; decide, bF_putLines, by show 5 < 1000; decide, bF_putNext, by show 5 < 1000; decide, bF_putMarks⟩⟩
    refine ⟨_, rfl, _, rfl, b, _, dx, fs, rfl, hfs, T.k_Book, T.x_Book_u, by omega, ?_⟩
    refine ⟨Nat.zero_le _, fun al nal => ⟨_, rfl, b, _, dx, _, rfl, ?_, T.k_Book, T.x_Book_atoms, (hfin 0 0 0).1, ?_⟩⟩
    · rw [upd_ne (fun z => by rw [← z, upd_same] at nal; cases nal)]
      exact upd_same
    have nalb : al ≠ b := fun z => by rw [z, upd_same] at nal; cases nal
    rw [(hfin al 0 0).2.1]
    intro dl ndl
    have ndlb : dl ≠ b := fun z => by rw [z, upd_same] at ndl; cases ndl
    have ndla : dl ≠ al := fun z => by rw [z, upd_ne nalb, upd_same] at ndl; cases ndl
    refine ⟨_, rfl, b, _, dx, _, rfl, ?_, T.k_Book, T.x_Book_lines, (hfin al 0 0).2.2.1, ?_⟩
    · rw [upd_ne ndlb.symm]
      exact upd_same
    rw [(hfin al dl 0).2.2.2.1]
    refine ⟨_, rfl, b, _, dx, _, rfl, upd_same, T.k_Book, T.x_Book_next_number, (hfin al dl 0).2.2.2.2.1, ?_⟩
    rw [show (1 : Int) = ((1 : Nat) : Int) from rfl, (hfin al dl 0).2.2.2.2.2.1]
    refine ⟨Nat.zero_le _, fun ml nml => ?_⟩
    have nmlb : ml ≠ b := fun z => by rw [z, upd_same] at nml; cases nml
    have nmld : ml ≠ dl := fun z => by rw [z, upd_ne ndlb, upd_ne ndlb, upd_same] at nml; cases nml
    have nmla : ml ≠ al := fun z => by rw [z, upd_ne nalb, upd_ne nalb, upd_ne ndla.symm, upd_ne nalb, upd_same] at nml; cases nml
    refine ⟨_, rfl, b, _, dx, _, rfl, ?_, T.k_Book, T.x_Book_marks, (hfin al dl 0).2.2.2.2.2.2.1, ?_⟩
    · rw [upd_ne nmlb.symm]
      exact upd_same
    rw [(hfin al dl ml).2.2.2.2.2.2.2]
    rw [upd_ne nalb] at nal
    rw [upd_ne ndlb, upd_ne ndla, upd_ne ndlb] at ndl
    rw [upd_ne nmlb, upd_ne nmlb, upd_ne nmld, upd_ne nmlb, upd_ne nmla, upd_ne nmlb] at nml
    refine q _ al dl ml ?_ nal ndl nml nmla.symm upd_same ?_ ?_ ?_
    · intro c o hc ho
      rw [upd_ne hc, upd_ne (ne_of_none ho nml), upd_ne hc, upd_ne hc, upd_ne (ne_of_none ho ndl), upd_ne hc, upd_ne (ne_of_none ho nal), upd_ne hc]
      exact ho
    · rw [upd_ne nalb, upd_ne nmla.symm, upd_ne nalb, upd_ne nalb, upd_ne ndla.symm, upd_ne nalb, upd_same]
    · rw [upd_ne ndlb, upd_ne nmld.symm, upd_ne ndlb, upd_ne ndlb, upd_same]
    · rw [upd_ne nmlb, upd_same]
/-! ### the book and the rest -/
/-- what stands at v is no tuple and nothing locked -/
def Soft (H : Hp) (v : Addr) : Prop := (∀ xs, H v ≠ some (.tup xs)) ∧ ∀ o u, H v ≠ some (.frz o u)
theorem soft_lst {H : Hp} {v : Addr} {xs : List V} (h : H v = some (.lst xs)) : Soft H v := ⟨(fun _ z => by rw [h] at z; cases z), (fun _ _ z => by rw [h] at z; cases z)⟩
theorem soft_dK {H : Hp} {v : Addr} {kvs : List (Key × V)} (h : H v = some (.dK kvs)) : Soft H v := ⟨(fun _ z => by rw [h] at z; cases z), (fun _ _ z => by rw [h] at z; cases z)⟩
theorem soft_ins {H : Hp} {v C dx : Addr} {fs : List (Str × V)} (h : H v = some (.ins C dx fs)) : Soft H v := ⟨(fun _ z => by rw [h] at z; cases z), (fun _ _ z => by rw [h] at z; cases z)⟩
theorem ExB.sq {v p : Addr} {H H' : Hp} {ys : List V} (e : ExB v H H') (hv : Soft H v) (h : SqT K H p ys) : SqT K H' p ys := by
  rcases h with (h | ⟨o, h⟩) | h
  · exact .inl (.inl (e _ _ (fun z => hv.1 _ (z ▸ h)) h))
  · exact .inl (.inr ⟨o, e _ _ (fun z => hv.2 _ _ (z ▸ h)) h⟩)
  · exact .inr h
theorem ExB.atom {v p : Addr} {H H' : Hp} (e : ExB v H H') (hv : Soft H v) : ∀ {x : Sm15.Atom}, AtomAt K H p x → AtomAt K H' p x
  | .yes, h => e.sq hv h
  | .bound _ _ _, h => e.sq hv h
/-- what stands at v is no line -/
def NoLine (H : Hp) (v : Addr) : Prop := ∀ C dx k tn tc, H v ≠ some (.ins C dx (lF k tn tc))
theorem ExB.line {C v p : Addr} {H H' : Hp} {way : Sm15.Way} {c : List Int} (e : ExB v H H') (hv : Soft H v) (hn : NoLine H v) (h : LineAt K C H p way c) : LineAt K C H' p way c := by
  obtain ⟨dx, tn, tc, h1, h2, h3⟩ := h
  exact ⟨dx, tn, tc, e _ _ (fun z => hn _ _ _ _ _ (z ▸ h1)) h1, e.sq hv h2, e _ _ (fun z => hv.1 _ (z ▸ h3)) h3⟩
theorem ExB.lines {C v : Addr} {H H' : Hp} {kvs : List (Key × V)} {ls : List Sm15.Line} (e : ExB v H H') (hv : Soft H v) (hn : NoLine H v) (h : LinesAt K C H kvs ls) : LinesAt K C H' kvs ls := pr_imp (fun _ _ q => by
  obtain ⟨h1, p, h2, h3⟩ := q
  exact ⟨h1, p, h2, e.line hv hn h3⟩) h
theorem noline_lst {H : Hp} {v : Addr} {xs : List V} (h : H v = some (.lst xs)) : NoLine H v := fun _ _ _ _ _ z => by rw [h] at z; cases z
theorem noline_dK {H : Hp} {v : Addr} {kvs : List (Key × V)} (h : H v = some (.dK kvs)) : NoLine H v := fun _ _ _ _ _ z => by rw [h] at z; cases z
theorem noline_book {H : Hp} {v C dx al dl ml : Addr} {u nx : Nat} (h : H v = some (.ins C dx (bF u al dl nx ml))) : NoLine H v := fun _ _ _ _ _ z => by rw [h] at z; cases z
/-- what stands at v is no mark -/
def NoMark (H : Hp) (v : Addr) : Prop := ∀ C dx al dl n, H v ≠ some (.ins C dx (mF al dl n))
theorem ExB.mark {v : Addr} {H H' : Hp} {r : MPl} {m : Sm15.Stand × Nat} (e : ExB v H H') (hv : Soft H v) (hn : NoLine H v) (hm : NoMark H v) (ha : r.al ≠ v) (hd : r.dl ≠ v) (h : MarkAt K D H r m) : MarkAt K D H' r m := by
  obtain ⟨ps, a1, a2⟩ := h.at_
  obtain ⟨kvs, l1, l2⟩ := h.ln
  exact ⟨e _ _ (fun z => hm _ _ _ _ _ (z ▸ h.ob)) h.ob, ⟨ps, e _ _ ha a1, pr_imp (fun _ _ => e.atom hv) a2⟩, kvs, e _ _ hd l1, e.lines hv hn l2⟩
theorem pr_imp_mem {α β : Type} {R S : α → β → Prop} : ∀ {as : List α} {bs : List β}, (∀ a b, a ∈ as → R a b → S a b) → Paired R as bs → Paired S as bs
  | _, _, _, .nil => .nil
  | _, _, f, .cons h t => .cons (f _ _ List.mem_cons_self h) (pr_imp_mem (fun a b m => f a b (List.mem_cons_of_mem _ m)) t)
theorem pr_left {α β : Type} {R : α → β → Prop} : ∀ {as : List α} {bs : List β}, Paired R as bs → ∀ a ∈ as, ∃ b, R a b
  | _, _, .cons h t, a, m => by
    rcases List.mem_cons.mp m with rfl | m
    · exact ⟨_, h⟩
    · exact pr_left t a m
theorem MksAt.exb {v : Addr} {H H' : Hp} {g : Pl} (h : MksAt K D H g) (e : ExB v H H') (hv : Soft H v) (hn : NoLine H v) (hm : NoMark H v) (h1 : g.ml ≠ v) (h2 : ∀ r ∈ g.rs, r.al ≠ v ∧ r.dl ≠ v) : MksAt K D H' g :=
  ⟨e _ _ h1 h.ml, pr_imp_mem (fun r m hr q => e.mark hv hn hm (h2 r hr).1 (h2 r hr).2 q) h.mks, h.da, h.am, h.na, h.nd⟩
theorem MksAt.atAl {H H' : Hp} {g : Pl} {xs : List V} (h : MksAt K D H g) (e : ExB g.al H H') (hl : H g.al = some (.lst xs)) : MksAt K D H' g := h.exb e (soft_lst hl) (noline_lst hl) (fun _ _ _ _ _ z => by rw [hl] at z; cases z) h.am.symm fun r hr => ⟨(h.da r hr).1, fun z => by
  obtain ⟨m, hm⟩ := pr_left h.mks r hr
  obtain ⟨kvs, l1, _⟩ := hm.ln
  rw [z, hl] at l1
  cases l1⟩
theorem MksAt.atDl {H H' : Hp} {g : Pl} {kvs : List (Key × V)} (h : MksAt K D H g) (e : ExB g.dl H H') (hl : H g.dl = some (.dK kvs)) : MksAt K D H' g := h.exb e (soft_dK hl) (noline_dK hl) (fun _ _ _ _ _ z => by rw [hl] at z; cases z) (fun z => by have := h.ml; rw [z, hl] at this; cases this) fun r hr => by
  obtain ⟨m, hm⟩ := pr_left h.mks r hr
  obtain ⟨ps, a1, _⟩ := hm.at_
  refine ⟨fun z => ?_, (h.da r hr).2.1⟩
  rw [z, hl] at a1
  cases a1
theorem MksAt.atBook {H H' : Hp} {g : Pl} {b C dx al dl ml : Addr} {u nx : Nat} (h : MksAt K D H g) (e : ExB b H H') (hb : H b = some (.ins C dx (bF u al dl nx ml))) : MksAt K D H' g := h.exb e (soft_ins hb) (noline_book hb) (fun _ _ _ _ _ z => by rw [hb] at z; cases z) (fun z => by have := h.ml; rw [z, hb] at this; cases this) fun r hr => by
  obtain ⟨m, hm⟩ := pr_left h.mks r hr
  obtain ⟨ps, a1, _⟩ := hm.at_
  obtain ⟨kvs, l1, _⟩ := hm.ln
  refine ⟨fun z => ?_, fun z => ?_⟩
  · rw [z, hb] at a1; cases a1
  · rw [z, hb] at l1; cases l1
/-- the book at b, and the rest O of the heap, in which none of its parts is -/
structure Bk (K : PySem.W.Frag) (D : Ad) (H O : Hp) (b : Addr) (g : Pl) (u : Nat) (as : List Sm15.Atom) (ls : List Sm15.Line) (nx : Nat) : Prop where
  at_ : BookAt K D H b g u as ls nx
  rest : Ex O H
  nb : O b = none
  na : O g.al = none
  nl : O g.dl = none
  nm : O g.ml = none
  nr : ∀ r ∈ g.rs, O r.al = none ∧ O r.dl = none
theorem Bk.ex {H H' O : Hp} {b : Addr} {g : Pl} {u : Nat} {as : List Sm15.Atom} {ls : List Sm15.Line} {nx : Nat} (e : Ex H H') (h : Bk K D H O b g u as ls nx) : Bk K D H' O b g u as ls nx := ⟨h.at_.ex e, h.rest.trans e, h.nb, h.na, h.nl, h.nm, h.nr⟩
/-- fields of the book, read -/
theorem rb_u (T : Txt K mg D) {σ : L2.St} {te : TE} {H : Hp} {b : Addr} {g : Pl} {u : Nat} {as : List Sm15.Atom} {ls : List Sm15.Line} {nx : Nat} (h : BookAt K D H b g u as ls nx) (hv : Ev te σ H (.ref b)) : Ev (tFld K te "u") σ H (.int (u : Int)) := ev_fld hv h.ob T.k_Book T.x_Book_u bF_u
theorem rb_atoms (T : Txt K mg D) {σ : L2.St} {te : TE} {H : Hp} {b : Addr} {g : Pl} {u : Nat} {as : List Sm15.Atom} {ls : List Sm15.Line} {nx : Nat} (h : BookAt K D H b g u as ls nx) (hv : Ev te σ H (.ref b)) : Ev (tFld K te "atoms") σ H (.ref g.al) := ev_fld hv h.ob T.k_Book T.x_Book_atoms bF_atoms
theorem rb_lines (T : Txt K mg D) {σ : L2.St} {te : TE} {H : Hp} {b : Addr} {g : Pl} {u : Nat} {as : List Sm15.Atom} {ls : List Sm15.Line} {nx : Nat} (h : BookAt K D H b g u as ls nx) (hv : Ev te σ H (.ref b)) : Ev (tFld K te "lines") σ H (.ref g.dl) := ev_fld hv h.ob T.k_Book T.x_Book_lines bF_lines
theorem rb_next (T : Txt K mg D) {σ : L2.St} {te : TE} {H : Hp} {b : Addr} {g : Pl} {u : Nat} {as : List Sm15.Atom} {ls : List Sm15.Line} {nx : Nat} (h : BookAt K D H b g u as ls nx) (hv : Ev te σ H (.ref b)) : Ev (tFld K te "next_number") σ H (.int (nx : Int)) := ev_fld hv h.ob T.k_Book T.x_Book_next_number bF_next
theorem rb_many (T : Txt K mg D) {σ : L2.St} {te : TE} {H : Hp} {b : Addr} {g : Pl} {u : Nat} {as : List Sm15.Atom} {ls : List Sm15.Line} {nx : Nat} (h : BookAt K D H b g u as ls nx) (hv : Ev te σ H (.ref b)) :
    Ev (tCB (fun xs H Q => ∃ p ys, xs = [V.ref p] ∧ (SqL K H p ys ∨ SqT K H p ys) ∧ Q (.int ys.length) H) (tCons (tFld K te "atoms") tNil)) σ H (.int (as.length : Int)) := by
  obtain ⟨ps, a1, a2⟩ := h.at_
  have z := ev_lenL (K := K) (rb_atoms T h hv) (sq_of a1)
  rw [List.length_map, pr_len a2] at z
  exact z
/-! ### has_strange -/
def spHs (K : PySem.W.Frag) (D : Ad) : Sp := fun vs H Q _ => ∃ (b : Addr) (g : Pl) (u : Nat) (as : List Sm15.Atom) (ls : List Sm15.Line) (nx : Nat) (aL : Addr) (ns : List Int), vs = [.ref b, .ref aL] ∧ BookAt K D H b g u as ls nx ∧ SqQ K H aL (ns.map V.int) ∧ ns.length ≤ 1000 ∧ RetV (.bl (!ns.all (Sm15.isLit as.length))) H Q
theorem strange_is (n : Nat) (ns : List Int) : (ns.any fun l => (decide (l = 0) || decide ((n : Int) < (l.natAbs : Int)))) = !ns.all (Sm15.isLit n) := by
  rw [List.not_all_eq_any_not]
  congr 1
  funext l
  unfold Sm15.isLit
  rw [Bool.eq_iff_iff]
  simp only [Bool.or_eq_true, decide_eq_true_eq, Bool.not_eq_true', Bool.and_eq_false_iff, decide_eq_false_iff_not]
  omega
theorem ok_Book_has_strange (T : Txt K mg D) : FnOk P w K mg base CX0 1 D.a_Book_has_strange D.d_Book_has_strange ["self", "literals"] (spHs K D) := by
  refine T.f_Book_has_strange.ok sc_Book_has_strange (fun vs H Q E h => ?_) (fun cdv A outer s H vs Q E hr h => ?_)
  · obtain ⟨_, _, _, _, _, _, _, _, rfl, _⟩ := h
    rfl
  · obtain ⟨b, g, u, as, ls, nx, aL, ns, rfl, hB, hL, hz, q⟩ := h
    refine ⟨_, (pss_one (ps_ret (pe_callB (cr_any (by rfl)) (by rfl) T.b_any (by decide +kernel) (pa_cons (pe_lc (own := [("literal", 2)]) (g := gName 2) (by rfl) sc_Book_has_strange.nd (pi_or (pi_list (pv 1)) (pi_tup (pv 1))) (blkOk_by (own := [("literal", 2)]) (N := ["self", "literals", "literal"]) (sc := defScope s_Book_has_strange) (by decide +kernel)) (fun _ _ _ _ _ => (pg_name (i := 2) sc_Book_has_strange.nd rfl (Or.inl rfl))) (fun _ _ _ _ _ => pts_nil) (fun _ _ _ _ _ => (pe_or (pe_cmpR op_eq (pv 2) pe_int (nomark _)) (pe_one (pe_cmpR op_gt (pe_callB call_abs (by rfl) T.b_abs (by decide +kernel) (pa_cons (pv 2) pa_nil)) (pe_callB (len_seqK K) (by rfl) T.b_len PySem.boot_len (pa_cons (pe_fldK K (pv 0) rfl) pa_nil)) (nomark _)))))) pa_nil)))), ?_⟩
    have gg := lcQ (K := K) (σ := [some (.ref b), some (.ref aL), none]) (H := H) (t := tYes) (tl := tVar 1) (j := 2) (vs := [2]) (emb := V.int) (fun _ => true) (fun l => V.bl (decide (l = 0) || decide ((as.length : Int) < (l.natAbs : Int)))) (ev_var rfl) hL (by omega) (fun x => rfl) (fun m _ H1 e => et_yes)
      (fun m _ H1 e _ => ev_orV (ev_eq (i := m) (j := 0) (ev_var (i := 2) rfl) ev_c) fun _ => ev_gt (ev_abs (i := m) (ev_var (i := 2) rfl)) (rb_many T (hB.ex e) (ev_var (i := 0) rfl)))
    rw [filter_yes, show ns.map (fun l => V.bl (decide (l = 0) || decide ((as.length : Int) < (l.natAbs : Int)))) = (ns.map fun l => (decide (l = 0) || decide ((as.length : Int) < (l.natAbs : Int)))).map V.bl by rw [List.map_map]; rfl] at gg
    have g2 := ev_any (K := K) gg
    rw [any_map_id, strange_is] at g2
    exact s_ret g2 q
/-! ### claims_among, has_all -/
theorem claim_beq (way : Sm15.Way) : (way == .claim) = decide (wayNo way = 0) := by
  cases way <;> rfl
/-- whether the line of a number is a claim -/
def claimB (ls : List Sm15.Line) (n : Nat) : Bool := match Sm15.lineAt ls n with
  | some x => decide (wayNo x.way = 0)
  | none => false
def spCa (K : PySem.W.Frag) (D : Ad) : Sp := fun vs H Q _ => ∃ (b : Addr) (g : Pl) (u : Nat) (as : List Sm15.Atom) (ls : List Sm15.Line) (nx : Nat) (aN : Addr) (ks : List Nat), vs = [.ref b, .ref aN] ∧ BookAt K D H b g u as ls nx ∧ ks.length ≤ 40000 ∧ (∀ k ∈ ks, k ∈ numsOf ls) ∧
  ((aN = g.dl ∧ ks = numsOf ls) ∨ H aN = some (.lst (natV ks))) ∧ RetL (natV (ks.filter (claimB ls))) H Q
theorem ok_Book_claims_among (T : Txt K mg D) : FnOk P w K mg base CX0 1 D.a_Book_claims_among D.d_Book_claims_among ["self", "numbers"] (spCa K D) := by
  refine T.f_Book_claims_among.ok sc_Book_claims_among (fun vs H Q E h => ?_) (fun cdv A outer s H vs Q E hr h => ?_)
  · obtain ⟨_, _, _, _, _, _, _, _, rfl, _⟩ := h
    rfl
  · obtain ⟨b, g, u, as, ls, nx, aN, ks, rfl, hB, hz, hks, hN, q⟩ := h
    refine ⟨_, (pss_one (ps_ret (pe_lock (pe_lc (own := [("number", 2)]) (g := gName 2) (by rfl) sc_Book_claims_among.nd (pi_or (pi_list (pv 1)) (pi_keys (pv 1))) (blkOk_by (own := [("number", 2)]) (N := ["self", "numbers", "number"]) (sc := defScope s_Book_claims_among) (by decide +kernel)) (fun _ _ _ _ _ => (pg_name (i := 2) sc_Book_claims_among.nd rfl (Or.inl rfl))) (fun _ _ _ _ _ => (pts_one (pt_cmpR op_eq (pe_fldK K (pe_dget (hu_of hr) (pe_fldK K (pv 0) rfl) (pv 2) (fun _ _ => rfl)) rfl) (pe_gi (by rfl) T.c_AS_CLAIM) (nomark _)))) (fun _ _ _ _ _ => (pv 2)))))), ?_⟩
    obtain ⟨kvs, l1, l2⟩ := hB.ln
    have look : ∀ {HL : Hp} {v : Addr}, ExB v H HL → Soft H v → NoLine H v → v ≠ b → Rd HL g.dl (.dK kvs) → ∀ n ∈ ks, ∀ {H1}, Ex HL H1 → EvT (tTest (tOp rEq (tFld K (tDGet (tFld K (tVar 0) "lines") (tVar 2)) "way") (tC (.int 0)))) ((wipe [some (.ref b), some (.ref aN), none] [2]).set 2 (some (.int (n : Int)))) H1 (claimB ls n) := fun {HL v} eL sv nv nb hd n hn H1 e1 => by
      obtain ⟨x, hx⟩ := has_line.mp (hks n hn)
      rcases val_lines (k := n) (eL.lines sv nv l2) with ⟨y, p, h1, h2, h3, dy, ty, cy, h4, h5, h6⟩ | ⟨h1, h2⟩
      · unfold claimB
        rw [h1]
        exact et_test (ev_eq (ev_fld (ev_dget (ev_fld (ev_var (i := 0) rfl) (e1 _ _ (eL _ _ nb.symm hB.ob)) T.k_Book T.x_Book_lines bF_lines) (ev_var (i := 2) rfl) (ex_rd e1 hd) h3) (e1 _ _ h4) T.k_Line T.x_Line_way lF_way) ev_c)
      · rw [hx] at h1
        cases h1
    have fin : ∀ {te : TE}, EvL te [some (.ref b), some (.ref aN), none] H ((ks.filter (claimB ls)).map fun (n : Nat) => V.int (n : Int)) → tRet te { nx := fun _ H' => Q .non H', rt := Q } [some (.ref b), some (.ref aN), none] H := fun g => s_retL g q
    rcases hN with ⟨rfl, rfl⟩ | hN
    · refine fin (el_lock l1 trivial fun od => lc_inr ?_)
      have bd : b ≠ g.dl := fun z => by have := hB.ob; rw [z, l1] at this; cases this
      have eL : ExB g.dl H (upd H g.dl (.frz od (.dK kvs))) := ExB.upd
      have gg := lcK (σ := [some (.ref b), some (.ref g.dl), none]) (H := upd H g.dl (.frz od (.dK kvs))) (d := g.dl) (t := tTest (tOp rEq (tFld K (tDGet (tFld K (tVar 0) "lines") (tVar 2)) "way") (tC (.int 0)))) (te := tVar 2) (td := tVar 1) (j := 2) (vs := [2]) (od := od) (kvs := kvs) (ms := numsOf ls) (fun kv n => kv.1 = Sum.inl (n : Int) ∧ n ∈ numsOf ls) (claimB ls) (fun (n : Nat) => V.int (n : Int)) ?_ (ev_var rfl) upd_same hz (fun x => rfl) ?_ ?_
      · exact gg
      · have go : ∀ {kvs : List (Key × V)} {l : List Sm15.Line}, LinesAt K D.c_Line H kvs l → (∀ x ∈ l, x ∈ ls) → Paired (fun (kv : Key × V) (n : Nat) => kv.1 = Sum.inl (n : Int) ∧ n ∈ numsOf ls) kvs (numsOf l) := by
          intro kvs l h
          induction h with
          | nil => exact fun _ => .nil
          | cons h t ih => exact fun hs => .cons ⟨h.1, List.mem_map.mpr ⟨_, hs _ List.mem_cons_self, rfl⟩⟩ (ih fun x hx => hs x (List.mem_cons_of_mem _ hx))
        exact go l2 fun _ h => h
      · rintro kv n ⟨hk, hn⟩ H1 e1
        rw [hk]
        exact look eL (soft_dK l1) (noline_dK l1) bd.symm (.inr ⟨od, upd_same⟩) n hn e1
      · rintro kv n ⟨hk, hn⟩ H1 e1 _
        rw [hk]
        exact ev_var (i := 2) rfl
    · refine fin (el_lock hN trivial fun od => lc_inl ?_)
      have bn : aN ≠ b := fun z => by have := hB.ob; rw [← z, hN] at this; cases this
      have dn : g.dl ≠ aN := fun z => by rw [z, hN] at l1; cases l1
      have eL : ExB aN H (upd H aN (.frz od (.lst (natV ks)))) := ExB.upd
      exact lcL (K := K) (t := tTest (tOp rEq (tFld K (tDGet (tFld K (tVar 0) "lines") (tVar 2)) "way") (tC (.int 0)))) (te := tVar 2) (tl := tVar 1) (j := 2) (vs := [2]) (emb := fun (n : Nat) => V.int (n : Int)) (claimB ls) (fun (n : Nat) => V.int (n : Int)) (ev_var rfl) (.inl (.inr ⟨od, upd_same⟩)) hz (fun x => rfl)
        (fun n hn H1 e1 => look eL (soft_lst hN) (noline_lst hN) bn (.inl (eL _ _ dn l1)) n hn e1) (fun n hn H1 e1 _ => ev_var (i := 2) rfl)
def spHa (K : PySem.W.Frag) (D : Ad) : Sp := fun vs H Q _ => ∃ (b : Addr) (g : Pl) (u : Nat) (as : List Sm15.Atom) (ls : List Sm15.Line) (nx : Nat) (tn : Addr) (ks : List Nat), vs = [.ref b, .ref tn] ∧ BookAt K D H b g u as ls nx ∧ SqT K H tn (natV ks) ∧ ks.length ≤ 1000 ∧ RetV (.bl (ks.all fun k => (Sm15.lineAt ls k).isSome)) H Q
theorem ok_Book_has_all (T : Txt K mg D) : FnOk P w K mg base CX0 1 D.a_Book_has_all D.d_Book_has_all ["self", "numbers"] (spHa K D) := by
  refine T.f_Book_has_all.ok sc_Book_has_all (fun vs H Q E h => ?_) (fun cdv A outer s H vs Q E hr h => ?_)
  · obtain ⟨_, _, _, _, _, _, _, _, rfl, _⟩ := h
    rfl
  · obtain ⟨b, g, u, as, ls, nx, tn, ks, rfl, hB, hT, hz, q⟩ := h
    refine ⟨_, (pss_one (ps_ret (pe_callB (cr_all (by rfl)) (by rfl) T.b_all (by decide +kernel) (pa_cons (pe_lc (own := [("number", 2)]) (g := gName 2) (by rfl) sc_Book_has_all.nd (pi_tup (pv 1)) (blkOk_by (own := [("number", 2)]) (N := ["self", "numbers", "number"]) (sc := defScope s_Book_has_all) (by decide +kernel)) (fun _ _ _ _ _ => (pg_name (i := 2) sc_Book_has_all.nd rfl (Or.inl rfl))) (fun _ _ _ _ _ => pts_nil) (fun _ _ _ _ _ => (pe_cmp (pc_din (hu_of hr) (pv 2) (pe_fldK K (pv 0) rfl)) rfl))) pa_nil)))), ?_⟩
    obtain ⟨kvs, l1, l2⟩ := hB.ln
    have gg := lcT (K := K) (σ := [some (.ref b), some (.ref tn), none]) (H := H) (t := tYes) (te := tDIn (tVar 2) (tFld K (tVar 0) "lines")) (tl := tVar 1) (j := 2) (vs := [2]) (emb := fun (n : Nat) => V.int (n : Int)) (fun _ => true) (fun n => V.bl (Sm15.lineAt ls n).isSome) (ev_var rfl) hT (by omega) (fun x => rfl) (fun m _ H1 e => et_yes)
      (fun m _ H1 e _ => ev_is (ev_din (k := (m : Int)) (ev_var (i := 2) rfl) (rb_lines T (hB.ex e) (ev_var (i := 0) rfl)) (.inl (e _ _ l1))) (by
        rcases val_lines (k := m) l2 with ⟨x, p, h1, _, h2, _⟩ | ⟨h1, h2⟩
        · rw [h1, h2]; rfl
        · rw [h1, h2]; rfl))
    rw [filter_yes, show ks.map (fun n => V.bl (Sm15.lineAt ls n).isSome) = (ks.map fun n => (Sm15.lineAt ls n).isSome).map V.bl by rw [List.map_map]; rfl] at gg
    have g2 := ev_all (K := K) gg
    rw [all_map_id] at g2
    exact s_ret g2 q
end
end Cp
/-! Cp9 -/
namespace Cp
open PySem PySem.Spec PyProof.Rows L2 Evl
section
variable {P : Program} {w : World} {K : PySem.W.Frag} {mg : Str → Option Value} {base : Heap} {D : Ad}
/-! ### start -/
theorem fresh_bk {H H' O : Hp} {b dx al dl ml : Addr} {u : Nat} {nx : Nat} (eB : ExB b H H') (r : Ex O H) (nb : O b = none) (nal : H al = none) (ndl : H dl = none) (nml : H ml = none) (ham : al ≠ ml) (hb : H' b = some (.ins D.c_Book dx (bF u al dl nx ml))) (h1 : H' al = some (.lst [])) (h2 : H' dl = some (.dK [])) (h3 : H' ml = some (.lst [])) :
    Bk K D H' O b ⟨dx, al, dl, ml, [], []⟩ u [] [] nx :=
  ⟨⟨hb, ⟨[], h1, .nil⟩, ⟨[], h2, .nil⟩, h3, .nil, fun _ h => by simp at h, ham, .nil, .nil⟩, fun c o h => eB c o (ne_of_none h nb) (r c o h), nb, fresh_back r nal, fresh_back r ndl, fresh_back r nml, fun _ h => by simp at h⟩
/-- the book is made -/
def spBook (K : PySem.W.Frag) (D : Ad) : Sp := fun vs H Q _ => ∃ (b dx : Addr) (O : Hp), vs = [.ref b] ∧ H b = some (.ins D.c_Book dx []) ∧ Ex O H ∧ O b = none ∧ ∀ (H' : Hp) (g : Pl), g.ms = [] → Bk K D H' O b g 3 [] [] 1 → Q .non H'
theorem ok_Book___init__ (T : Txt K mg D) : FnOk P w K mg base CX0 2 D.a_Book___init__ D.d_Book___init__ ["self"] (spBook K D) := by
  refine T.f_Book___init__.ok sc_Book___init__ (fun vs H Q E h => ?_) (fun cdv A outer s H vs Q E hr h => ?_)
  · obtain ⟨_, _, _, rfl, _⟩ := h
    rfl
  · obtain ⟨b, dx, O, rfl, hb, r, nb, q⟩ := h
    refine ⟨_, (pss_one (ps_expr (pe_meth (pv 0) T.k_Book T.t_Book_begin (ok_Book_begin T) hr T.n_Book_begin .nil pass0 (pa_cons (pe_gi (by rfl) T.c_FIRST_U) pa_nil)))), ?_⟩
    exact ⟨.ref b, rfl, b, dx, [], rfl, hb, rfl, b, dx, 3, rfl, .inl hb, fun H' al dl ml eB nal ndl nml ham h1 h2 h3 h4 => q H' _ rfl (fresh_bk eB r nb nal ndl nml ham h1 h2 h3 h4)⟩
/-- what a call on the book leaves -/
def spStart (K : PySem.W.Frag) (D : Ad) : Sp := fun vs H Q _ => ∃ (b : Addr) (g : Pl) (O : Hp) (u : Nat) (as : List Sm15.Atom) (ls : List Sm15.Line) (nx v : Nat), vs = [.ref b, .int (v : Int)] ∧ Bk K D H O b g u as ls nx ∧
  ((v = 0 ∨ 4 < v) → ∀ (H' : Hp), Bk K D H' O b g u as ls nx → Q (.int (-1)) H') ∧ (¬ (v = 0 ∨ 4 < v) → ∀ (H' : Hp) (g' : Pl), g'.ms = [] → Bk K D H' O b g' v [] [] 1 → Q (.int (v : Int)) H')
theorem ok_Book_start (T : Txt K mg D) : FnOk P w K mg base CX0 2 D.a_Book_start D.d_Book_start ["self", "u"] (spStart K D) := by
  refine T.f_Book_start.ok sc_Book_start (fun vs H Q E h => ?_) (fun cdv A outer s H vs Q E hr h => ?_)
  · obtain ⟨_, _, _, _, _, _, _, _, rfl, _⟩ := h
    rfl
  · obtain ⟨b, g, O, u, as, ls, nx, v, rfl, hB, q1, q2⟩ := h
    refine ⟨_, (pss_cons (ps_if (PW.pt (pw_or (pt_cmpR op_lt (pv 1) pe_int (nomark _)) (pw_or1 (pt_cmpR op_gt (pv 1) (pe_gi (by rfl) T.c_MOST_U) (nomark _))))) (pss_one (ps_ret (pe_gi (by rfl) T.c_WRONG))) pss_nil)
      (pss_cons (ps_expr (pe_meth (pv 0) T.k_Book T.t_Book_begin (ok_Book_begin T) hr T.n_Book_begin .nil pass0 (pa_cons (pv 1) pa_nil)))
      (pss_one (ps_ret (pv 1))))), ?_⟩
    refine q_when (et_or (et_test (ev_lt (i := (v : Int)) (j := 1) (ev_var (i := 1) rfl) ev_c)) fun _ => et_test (ev_gt (i := (v : Int)) (j := 4) (ev_var (i := 1) rfl) ev_c)) (fun hb H1 e1 => ?_) (fun hb H1 e1 => ?_)
    · rw [Bool.or_eq_true, decide_eq_true_eq, decide_eq_true_eq] at hb
      exact s_ret ev_c fun H2 e2 => q1 (by omega) H2 (hB.ex (e1.trans e2))
    · rw [Bool.or_eq_false_iff, decide_eq_false_iff_not, decide_eq_false_iff_not] at hb
      have hB1 := hB.ex e1
      refine ⟨.ref b, rfl, b, g.dx, _, rfl, hB1.at_.ob, bF_m (by decide +kernel), .int (v : Int), rfl, b, g.dx, v, rfl, .inr ⟨_, _, _, _, _, hB1.at_.ob⟩, fun H' al dl ml eB nal ndl nml ham h1 h2 h3 h4 => ?_⟩
      exact s_ret (ev_var (i := 1) rfl) fun H2 e2 => q2 (by omega) H2 _ rfl ((fresh_bk eB hB1.rest hB1.nb nal ndl nml ham h1 h2 h3 h4).ex e2)
/-! ### add_atom, yes, bound -/
theorem put_atom {H O : Hp} {b : Addr} {g : Pl} {u : Nat} {as : List Sm15.Atom} {ls : List Sm15.Line} {nx : Nat} {p : Addr} {x : Sm15.Atom} {ps : List Addr} (h : Bk K D H O b g u as ls nx) (h1 : H g.al = some (.lst (ps.map V.ref))) (h2 : Paired (AtomAt K H) ps as) (hp : AtomAt K H p x) :
    Bk K D (upd H g.al (.lst (ps.map V.ref ++ [.ref p]))) O b g u (as ++ [x]) ls nx := by
  obtain ⟨kvs, l1, l2⟩ := h.at_.ln
  have eB : ExB g.al H (upd H g.al (.lst (ps.map V.ref ++ [.ref p]))) := ExB.upd
  have sf := soft_lst h1
  have nb : b ≠ g.al := fun z => by have := h.at_.ob; rw [z, h1] at this; cases this
  have nd : g.dl ≠ g.al := fun z => by rw [z, h1] at l1; cases l1
  refine ⟨⟨eB _ _ nb h.at_.ob, ⟨ps ++ [p], by rw [upd_same, List.map_append]; rfl, pr_snoc (eB.atom sf hp) (pr_imp (fun _ _ => eB.atom sf) h2)⟩, ⟨kvs, eB _ _ nd l1, eB.lines sf (noline_lst h1) l2⟩, h.at_.mks.atAl eB h1⟩, fun c o hc => eB _ _ (ne_of_none hc h.na) (h.rest c o hc), h.nb, h.na, h.nl, h.nm, h.nr⟩
def spAa (K : PySem.W.Frag) (D : Ad) : Sp := fun vs H Q _ => ∃ (b : Addr) (g : Pl) (O : Hp) (u : Nat) (as : List Sm15.Atom) (ls : List Sm15.Line) (nx : Nat) (p : Addr) (x : Sm15.Atom), vs = [.ref b, .ref p] ∧ Bk K D H O b g u as ls nx ∧ AtomAt K H p x ∧
  (8 ≤ as.length → ∀ H' : Hp, Bk K D H' O b g u as ls nx → Q (.int (-5)) H') ∧ (¬ 8 ≤ as.length → ∀ H' : Hp, Bk K D H' O b g u (as ++ [x]) ls nx → Q (.int ((as.length + 1 : Nat) : Int)) H')
theorem ok_Book_add_atom (T : Txt K mg D) : FnOk P w K mg base CX0 1 D.a_Book_add_atom D.d_Book_add_atom ["self", "atom"] (spAa K D) := by
  refine T.f_Book_add_atom.ok sc_Book_add_atom (fun vs H Q E h => ?_) (fun cdv A outer s H vs Q E hr h => ?_)
  · obtain ⟨_, _, _, _, _, _, _, _, _, rfl, _⟩ := h
    rfl
  · obtain ⟨b, g, O, u, as, ls, nx, p, x, rfl, hB, hp, q1, q2⟩ := h
    refine ⟨_, (pss_cons (ps_if (pt_cmpR op_ge (pe_callB call_len_seq (by rfl) T.b_len PySem.boot_len (pa_cons (pe_fld (pv 0) rfl) pa_nil)) (pe_gi (by rfl) T.c_MOST_ATOMS) (nomark _)) (pss_one (ps_ret (pe_gi (by rfl) T.c_FULL))) pss_nil)
      (pss_cons (ps_expr (pe_bm PySem.F.plainAttrs_list PySem.F.slot_list_append PySem.F.type_list_append mt_append (pe_fld (pv 0) rfl) (pa_cons (pv 1) pa_nil)))
      (pss_one (ps_ret (pe_callB call_len_seq (by rfl) T.b_len PySem.boot_len (pa_cons (pe_fld (pv 0) rfl) pa_nil)))))), ?_⟩
    refine q_when (et_test (ev_ge (j := 8) (rb_many T hB.at_ (ev_var (i := 0) rfl)) ev_c)) (fun hb H1 e1 => ?_) (fun hb H1 e1 => ?_)
    · have hb := of_decide_eq_true hb
      exact s_ret ev_c fun H2 e2 => q1 (by omega) H2 (hB.ex (e1.trans e2))
    · have hb := of_decide_eq_false hb
      have hB1 := hB.ex e1
      obtain ⟨ps, a1, a2⟩ := hB1.at_.at_
      have pl := pr_len a2
      refine q_app (K := K) a1 (rb_atoms T hB1.at_ (ev_var (i := 0) rfl)) (ev_var (i := 1) rfl) (by rw [List.length_map]; omega) fun H2 e2 => ?_
      have hB2 := hB1.ex e2
      have hB3 := put_atom hB2 (e2 _ _ a1) (pr_imp (fun _ _ => AtomAt.ex e2) a2) (hp.ex (e1.trans e2))
      have hm := rb_many T hB3.at_ (te := tVar 0) (σ := [some (.ref b), some (.ref p)]) (ev_var (i := 0) rfl)
      rw [List.length_append] at hm
      exact s_ret hm fun H4 e4 => q2 (by omega) H4 (hB3.ex e4)
def spYes (K : PySem.W.Frag) (D : Ad) : Sp := fun vs H Q _ => ∃ (b : Addr) (g : Pl) (O : Hp) (u : Nat) (as : List Sm15.Atom) (ls : List Sm15.Line) (nx : Nat), vs = [.ref b] ∧ Bk K D H O b g u as ls nx ∧
  (8 ≤ as.length → ∀ H' : Hp, Bk K D H' O b g u as ls nx → Q (.int (-5)) H') ∧ (¬ 8 ≤ as.length → ∀ H' : Hp, Bk K D H' O b g u (as ++ [.yes]) ls nx → Q (.int ((as.length + 1 : Nat) : Int)) H')
theorem ok_Book_yes (T : Txt K mg D) : FnOk P w K mg base CX0 2 D.a_Book_yes D.d_Book_yes ["self"] (spYes K D) := by
  refine T.f_Book_yes.ok sc_Book_yes (fun vs H Q E h => ?_) (fun cdv A outer s H vs Q E hr h => ?_)
  · obtain ⟨_, _, _, _, _, _, _, rfl, _⟩ := h
    rfl
  · obtain ⟨b, g, O, u, as, ls, nx, rfl, hB, q1, q2⟩ := h
    refine ⟨_, (pss_one (ps_ret (pe_meth (pv 0) T.k_Book T.t_Book_add_atom (ok_Book_add_atom T) hr T.n_Book_add_atom .nil pass0 (pa_cons (pe_gr (by rfl) T.c_QUESTION) pa_nil)))), ?_⟩
    exact ⟨.ref b, rfl, b, g.dx, _, rfl, hB.at_.ob, bF_m (by decide +kernel), b, g, O, u, as, ls, nx, D.o_QUESTION, .yes, rfl, hB, T.w_QUESTION H, q1, q2⟩
def spBound (K : PySem.W.Frag) (D : Ad) : Sp := fun vs H Q _ => ∃ (b : Addr) (g : Pl) (O : Hp) (u : Nat) (as : List Sm15.Atom) (ls : List Sm15.Line) (nx x y : Nat) (z : Int), vs = [.ref b, .int (x : Int), .int (y : Int), .int z] ∧ Bk K D H O b g u as ls nx ∧
  (Sm15.goodBound u (.bound x y z) = false → ∀ H' : Hp, Bk K D H' O b g u as ls nx → Q (.int (-1)) H') ∧
  (Sm15.goodBound u (.bound x y z) = true → 8 ≤ as.length → ∀ H' : Hp, Bk K D H' O b g u as ls nx → Q (.int (-5)) H') ∧ (Sm15.goodBound u (.bound x y z) = true → ¬ 8 ≤ as.length → ∀ H' : Hp, Bk K D H' O b g u (as ++ [.bound x y z]) ls nx → Q (.int ((as.length + 1 : Nat) : Int)) H')
theorem good_is (u x y : Nat) (z : Int) : (decide ((u : Int) < (x : Int)) || (decide ((u : Int) < (y : Int)) || (decide ((x : Int) = (y : Int)) || decide (1000 < (z.natAbs : Int))))) = !Sm15.goodBound u (.bound x y z) := by
  unfold Sm15.goodBound
  rw [Bool.eq_iff_iff]
  simp only [Bool.or_eq_true, decide_eq_true_eq, Bool.not_eq_true', Bool.and_eq_false_iff, decide_eq_false_iff_not, bne_eq_false_iff_eq]
  omega
theorem ok_Book_bound (T : Txt K mg D) : FnOk P w K mg base CX0 2 D.a_Book_bound D.d_Book_bound ["self", "a", "b", "c"] (spBound K D) := by
  refine T.f_Book_bound.ok sc_Book_bound (fun vs H Q E h => ?_) (fun cdv A outer s H vs Q E hr h => ?_)
  · obtain ⟨_, _, _, _, _, _, _, _, _, _, rfl, _⟩ := h
    rfl
  · obtain ⟨b, g, O, u, as, ls, nx, x, y, z, rfl, hB, q0, q1, q2⟩ := h
    refine ⟨_, (pss_cons (ps_if (PW.pt (pw_or (pt_cmpR op_gt (pv 1) (pe_fld (pv 0) rfl) (nomark _)) (pw_or (pt_cmpR op_gt (pv 2) (pe_fld (pv 0) rfl) (nomark _)) (pw_or (pt_cmpR op_eq (pv 1) (pv 2) (nomark _)) (pw_or1 (pt_cmpR op_gt (pe_callB call_abs (by rfl) T.b_abs (by decide +kernel) (pa_cons (pv 3) pa_nil)) (pe_gi (by rfl) T.c_MOST_APART) (nomark _))))))) (pss_one (ps_ret (pe_gi (by rfl) T.c_WRONG))) pss_nil)
      (pss_one (ps_ret (pe_meth (pv 0) T.k_Book T.t_Book_add_atom (ok_Book_add_atom T) hr T.n_Book_add_atom .nil pass0 (pa_cons (pe_tup (pa_cons (pv 1) (pa_cons (pv 2) (pa_cons (pv 3) pa_nil)))) pa_nil))))), ?_⟩
    have fu := rb_u T hB.at_ (te := tVar 0) (σ := [some (.ref b), some (.int (x : Int)), some (.int (y : Int)), some (.int z)]) (ev_var (i := 0) rfl)
    refine q_when (et_is (et_or (et_test (ev_gt (i := (x : Int)) (ev_var (i := 1) rfl) fu)) fun _ => et_or (et_test (ev_gt (i := (y : Int)) (ev_var (i := 2) rfl) fu)) fun _ => et_or (et_test (ev_eq (i := (x : Int)) (j := (y : Int)) (ev_var (i := 1) rfl) (ev_var (i := 2) rfl))) fun _ => et_test (ev_gt (j := 1000) (ev_abs (i := z) (ev_var (i := 3) rfl)) ev_c)) (good_is u x y z)) (fun hb H1 e1 => ?_) (fun hb H1 e1 => ?_)
    · exact s_ret ev_c fun H2 e2 => q0 (by simpa using hb) H2 (hB.ex (e1.trans e2))
    · have hg : Sm15.goodBound u (.bound x y z) = true := by simpa using hb
      have hB1 := hB.ex e1
      refine ⟨.ref b, rfl, b, g.dx, _, rfl, hB1.at_.ob, bF_m (by decide +kernel), .int (x : Int), rfl, .int (y : Int), rfl, .int z, rfl, by show 3 ≤ sizeLine; decide, fun t nt => ?_⟩
      exact ⟨b, g, O, u, as, ls, nx, t, .bound x y z, rfl, hB1.ex (Ex.new nt), st_of upd_same, q1 hg, q2 hg⟩
/-! ### add_line -/
theorem lineAt_none {ls : List Sm15.Line} {k : Nat} (h : ∀ x ∈ ls, x.num ≠ k) : Sm15.lineAt ls k = none := by
  unfold Sm15.lineAt
  rw [List.find?_eq_none]
  intro x hx
  simpa using h x hx
theorem val_none {H : Hp} {C : Addr} {kvs : List (Key × V)} {ls : List Sm15.Line} {k : Nat} (h : LinesAt K C H kvs ls) (hn : Sm15.lineAt ls k = none) : valV kvs (Sum.inl (k : Int)) = none := by
  rcases val_lines (k := k) h with ⟨x, p, a, _⟩ | ⟨_, b⟩
  · rw [hn] at a; cases a
  · exact b
theorem put_line {H O : Hp} {b : Addr} {g : Pl} {u : Nat} {as : List Sm15.Atom} {ls : List Sm15.Line} {nx : Nat} {p : Addr} {way : Sm15.Way} {c : List Int} {kvs : List (Key × V)} (h : Bk K D H O b g u as ls nx) (l1 : H g.dl = some (.dK kvs)) (l2 : LinesAt K D.c_Line H kvs ls) (hp : LineAt K D.c_Line H p way c) :
    Bk K D (upd (upd H g.dl (.dK (kvs ++ [(Sum.inl (nx : Int), .ref p)]))) b (.ins D.c_Book g.dx (bF u g.al g.dl (nx + 1) g.ml))) O b g u as (ls ++ [⟨nx, c, way⟩]) (nx + 1) := by
  obtain ⟨ps, a1, a2⟩ := h.at_.at_
  have ob := h.at_.ob
  have eB : ExB g.dl H (upd H g.dl (.dK (kvs ++ [(Sum.inl (nx : Int), .ref p)]))) := ExB.upd
  have nbd : b ≠ g.dl := fun z => by rw [z, l1] at ob; cases ob
  have nda : g.al ≠ g.dl := fun z => by rw [z, l1] at a1; cases a1
  have nba : g.al ≠ b := fun z => by rw [z, ob] at a1; cases a1
  have ob2 := eB _ _ nbd ob
  have l1' : (upd H g.dl (.dK (kvs ++ [(Sum.inl (nx : Int), .ref p)]))) g.dl = some (.dK (kvs ++ [(Sum.inl (nx : Int), .ref p)])) := upd_same
  generalize upd H g.dl (.dK (kvs ++ [(Sum.inl (nx : Int), .ref p)])) = H1 at *
  have eC : ExB b H1 (upd H1 b (.ins D.c_Book g.dx (bF u g.al g.dl (nx + 1) g.ml))) := ExB.upd
  have sd := soft_dK l1
  have sb := soft_ins ob2
  have nlb := noline_book ob2
  refine ⟨⟨upd_same, ⟨ps, eC _ _ nba (eB _ _ nda a1), pr_imp (fun _ _ q => eC.atom sb (eB.atom sd q)) a2⟩, ⟨_, eC _ _ nbd.symm l1', pr_snoc ⟨rfl, p, rfl, eC.line sb nlb (eB.line sd (noline_dK l1) hp)⟩ (eC.lines sb nlb (eB.lines sd (noline_dK l1) l2))⟩, (h.at_.mks.atDl eB l1).atBook eC ob2⟩,
    fun q o hq => eC _ _ (ne_of_none hq h.nb) (eB _ _ (ne_of_none hq h.nl) (h.rest q o hq)), h.nb, h.na, h.nl, h.nm, h.nr⟩
def spAl (K : PySem.W.Frag) (D : Ad) : Sp := fun vs H Q _ => ∃ (b : Addr) (g : Pl) (O : Hp) (u : Nat) (as : List Sm15.Atom) (ls : List Sm15.Line) (nx : Nat) (p : Addr) (way : Sm15.Way) (c : List Int), vs = [.ref b, .ref p] ∧ Bk K D H O b g u as ls nx ∧ LineAt K D.c_Line H p way c ∧ (∀ x ∈ ls, x.num < nx) ∧
  (300 ≤ ls.length → ∀ H' : Hp, Bk K D H' O b g u as ls nx → Q (.int (-5)) H') ∧ (¬ 300 ≤ ls.length → ∀ H' : Hp, Bk K D H' O b g u as (ls ++ [⟨nx, c, way⟩]) (nx + 1) → Q (.int (nx : Int)) H')
theorem ok_Book_add_line (T : Txt K mg D) : FnOk P w K mg base CX0 1 D.a_Book_add_line D.d_Book_add_line ["self", "line"] (spAl K D) := by
  refine T.f_Book_add_line.ok sc_Book_add_line (fun vs H Q E h => ?_) (fun cdv A outer s H vs Q E hr h => ?_)
  · obtain ⟨_, _, _, _, _, _, _, _, _, _, rfl, _⟩ := h
    rfl
  · obtain ⟨b, g, O, u, as, ls, nx, p, way, c, rfl, hB, hp, hn, q1, q2⟩ := h
    refine ⟨_, (pss_cons (ps_if (pt_cmpR op_ge (pe_callB call_lenD (by rfl) T.b_len PySem.boot_len (pa_cons (pe_fld (pv 0) rfl) pa_nil)) (pe_gi (by rfl) T.c_MOST_LINES) (nomark _)) (pss_one (ps_ret (pe_gi (by rfl) T.c_FULL))) pss_nil)
      (pss_cons (ps_set (i := 2) sc_Book_add_line.nd rfl (Or.inl rfl) (pe_fld (pv 0) rfl))
      (pss_cons (ps_dput (hu_of hr) (pe_fld (pv 0) rfl) (pv 2) (pv 1) rfl)
      (pss_cons (ps_fld (pv 0) (pe_op op_add (pv 2) pe_int) rfl)
      (pss_one (ps_ret (pv 2))))))), ?_⟩
    obtain ⟨kvs, l1, l2⟩ := hB.at_.ln
    have kl := pr_len l2
    refine q_when (et_test (ev_ge (i := (kvs.length : Int)) (j := 300) (ev_lenD (rb_lines T hB.at_ (ev_var (i := 0) rfl)) l1) ev_c)) (fun hb H1 e1 => ?_) (fun hb H1 e1 => ?_)
    · have hb := of_decide_eq_true hb
      exact s_ret ev_c fun H2 e2 => q1 (by omega) H2 (hB.ex (e1.trans e2))
    · have hb := of_decide_eq_false hb
      have hB1 := hB.ex e1
      refine q_asg (rb_next T hB1.at_ (ev_var (i := 0) rfl)) fun H2 e2 => ?_
      have hB2 := hB1.ex e2
      have e12 := e1.trans e2
      have l12 : H2 g.dl = some (.dK kvs) := e12 _ _ l1
      have vn : valV kvs (Sum.inl (nx : Int)) = none := val_none l2 (lineAt_none fun x hx => by have := hn x hx; omega)
      refine ⟨.ref p, rfl, .ref b, rfl, b, D.c_Book, g.dx, _, _, rfl, hB2.at_.ob, T.k_Book, T.x_Book_lines, bF_lines, .int (nx : Int), rfl, g.dl, _, rfl, DPut.k (k := Sum.inl (nx : Int)) l12 (sz_lt (by omega)), ?_⟩
      rw [putK_new _ vn]
      have nbd : b ≠ g.dl := fun z => by have := hB2.at_.ob; rw [z, l12] at this; cases this
      refine ⟨.int (nx : Int), rfl, (nx : Int), 1, rfl, rfl, .ref b, rfl, b, D.c_Book, g.dx, bF u g.al g.dl nx g.ml, rfl, by rw [upd_ne nbd]; exact hB2.at_.ob, T.k_Book, T.x_Book_next_number, by show 5 < 1000; decide, ?_⟩
      show tRet (tVar 2) _ _ (upd (upd H2 g.dl (.dK (kvs ++ [(Sum.inl (nx : Int), .ref p)]))) b (.ins D.c_Book g.dx (putF "next_number" (.int ((nx + 1 : Nat) : Int)) (bF u g.al g.dl nx g.ml))))
      rw [bF_putNext]
      have hB3 := put_line hB2 l12 (l2.ex e12) (hp.ex e12)
      exact s_ret (ev_var (i := 2) rfl) fun H4 e4 => q2 (by omega) H4 (hB3.ex e4)
end
end Cp
/-! Cp10 -/
namespace Cp
open PySem PySem.Spec PyProof.Rows L2 Evl
/-! ### what claim and derive come to -/
def claimR (as : List Sm15.Atom) (ls : List Sm15.Line) (nx : Nat) (ns : List Int) : List Sm15.Line × Nat × Int :=
  if ns.all (Sm15.isLit as.length) = false then (ls, nx, -2) else if Sm15.loose (Sm15.clauseOf ns) = true then (ls, nx, -1) else if 300 ≤ ls.length ∨ 16 ≤ (Sm15.claimsOf ls).length then (ls, nx, -5) else (ls ++ [⟨nx, Sm15.clauseOf ns, .claim⟩], nx + 1, (nx : Int))
def deriveR (u : Nat) (as : List Sm15.Atom) (ls : List Sm15.Line) (nx : Nat) (w : Sm15.Way) (ns : List Int) : List Sm15.Line × Nat × Int :=
  if ns.all (Sm15.isLit as.length) = false then (ls, nx, -2) else if (Sm15.sources w).any (fun k => (Sm15.lineAt ls k).isNone) = true then (ls, nx, -3) else if Sm15.shows u as ls (Sm15.clauseOf ns) w = false then (ls, nx, -6) else if 300 ≤ ls.length then (ls, nx, -5) else (ls ++ [⟨nx, Sm15.clauseOf ns, w⟩], nx + 1, (nx : Int))
/-- what is asked of the book's lines -/
structure LOk (as : List Sm15.Atom) (ls : List Sm15.Line) (nx : Nat) : Prop where
  al : as.length ≤ 8
  len : ls.length ≤ 20000
  lt : ∀ x ∈ ls, x.num < nx
  nd : (numsOf ls).Nodup
  lits : ∀ x ∈ ls, Lits 8 x.clause ∧ x.clause.length ≤ 16
theorem nodup_one {ls : List Sm15.Line} (h : (numsOf ls).Nodup) {x y : Sm15.Line} (hx : x ∈ ls) (hy : y ∈ ls) (e : x.num = y.num) : x = y := by
  unfold numsOf at h
  obtain ⟨i, hi, ei⟩ := List.getElem_of_mem hx
  obtain ⟨j, hj, ej⟩ := List.getElem_of_mem hy
  have q : i = j := by
    have := (List.getElem_inj (i := i) (j := j) (h₀ := by simpa using hi) (h₁ := by simpa using hj) h).mp (by simp [ei, ej, e])
    exact this
  subst q
  rw [← ei, ← ej]
theorem lineAt_self {ls : List Sm15.Line} (h : (numsOf ls).Nodup) {x : Sm15.Line} (hx : x ∈ ls) : Sm15.lineAt ls x.num = some x := by
  obtain ⟨y, hy⟩ := has_line.mp (List.mem_map.mpr ⟨x, hx, rfl⟩ : x.num ∈ numsOf ls)
  obtain ⟨ym, yk⟩ := lineAt_some hy
  rw [hy, nodup_one h ym hx yk]
theorem claim_nums {ls : List Sm15.Line} (h : (numsOf ls).Nodup) : (numsOf ls).filter (claimB ls) = (ls.filter fun x => x.way == .claim).map fun x => x.num := by
  unfold numsOf
  rw [List.filter_map]
  congr 1
  refine List.filter_congr fun x hx => ?_
  show claimB ls x.num = _
  unfold claimB
  rw [lineAt_self h hx, claim_beq]
theorem claim_count {ls : List Sm15.Line} (h : (numsOf ls).Nodup) : ((numsOf ls).filter (claimB ls)).length = (Sm15.claimsOf ls).length := by
  rw [claim_nums h]
  unfold Sm15.claimsOf
  rw [List.length_map, List.length_map]
theorem nums_len (ls : List Sm15.Line) : (numsOf ls).length = ls.length := by unfold numsOf; rw [List.length_map]
theorem clause_len {ns : List Int} (h : Lits 8 ns) : (Sm15.clauseOf ns).length ≤ 16 := nodup_bound 8 _ (up_nodup (up_clauseOf ns)) (lits_clause h)
/-- a method that gives a new list -/
theorem el_meth {D : Ad} {σ : L2.St} {H : Hp} {te : TE} {a C dx : Addr} {fs : List (Str × V)} {m : Str} {sp : Sp} {vs xs : List V} {E : XK} {tr : TA} (h : Ev te σ H (.ref a)) (ho : H a = some (.ins C dx fs)) (hl : fs.lookup m = none) (hr : EvA tr σ H vs) (hs : SpL sp (.ref a :: (vs ++ [])) H xs) :
    EvL (tMeth C m sp [] E te tr) σ H xs := fun H1 e Q q =>
  h H1 e _ fun H2 e2 => ⟨a, dx, fs, rfl, (e.trans e2) a _ ho, hl, hr H2 (e.trans e2) _ fun H3 e3 => hs H3 ((e.trans e2).trans e3) Q (fun p H4 hp e4 h4 => q p H4 (fresh_back (e2.trans e3) hp) ((e2.trans e3).trans e4) h4) E⟩
section
variable {P : Program} {w : World} {K : PySem.W.Frag} {mg : Str → Option Value} {base : Heap} {D : Ad}
def spClaim (K : PySem.W.Frag) (D : Ad) : Sp := fun vs H Q _ => ∃ (b : Addr) (g : Pl) (O : Hp) (u : Nat) (as : List Sm15.Atom) (ls : List Sm15.Line) (nx : Nat) (aL : Addr) (ns : List Int), vs = [.ref b, .ref aL] ∧ Bk K D H O b g u as ls nx ∧ SqL K H aL (ns.map V.int) ∧ ns.length ≤ 1000 ∧ LOk as ls nx ∧
  ∀ H' : Hp, Bk K D H' O b g u as (claimR as ls nx ns).1 (claimR as ls nx ns).2.1 → Q (.int (claimR as ls nx ns).2.2) H'
theorem ok_Book_claim (T : Txt K mg D) : FnOk P w K mg base CX0 5 D.a_Book_claim D.d_Book_claim ["self", "literals"] (spClaim K D) := by
  refine T.f_Book_claim.ok sc_Book_claim (fun vs H Q E h => ?_) (fun cdv A outer s H vs Q E hr h => ?_)
  · obtain ⟨_, _, _, _, _, _, _, _, _, rfl, _⟩ := h
    rfl
  · obtain ⟨b, g, O, u, as, ls, nx, aL, ns, rfl, hB, hS, hz, ok, q⟩ := h
    refine ⟨_, (pss_cons (ps_if (pt_val (pe_meth (pv 0) T.k_Book T.t_Book_has_strange (ok_Book_has_strange T) (hr.mono (by decide)) T.n_Book_has_strange .nil pass0 (pa_cons (pv 1) pa_nil))) (pss_one (ps_ret (pe_gi (by rfl) T.c_NO_ATOM))) pss_nil)
      (pss_cons (ps_set (i := 2) sc_Book_claim.nd rfl (Or.inl rfl) (pe_call (ok_clause_of T) hr (by rfl) T.g_clause_of T.f_clause_of.kp T.n_clause_of .nil pass0 (pa_cons (pv 1) pa_nil)))
      (pss_cons (ps_if (pt_val (pe_call (ok_is_loose T) (hr.mono (by decide)) (by rfl) T.g_is_loose T.f_is_loose.kp T.n_is_loose .nil pass0 (pa_cons (pv 2) pa_nil))) (pss_one (ps_ret (pe_gi (by rfl) T.c_WRONG))) pss_nil)
      (pss_cons (ps_if (pt_cmpR op_ge (pe_callB call_len_seq (by rfl) T.b_len PySem.boot_len (pa_cons (pe_meth (pv 0) T.k_Book T.t_Book_claims_among (ok_Book_claims_among T) (hr.mono (by decide)) T.n_Book_claims_among .nil pass0 (pa_cons (pe_fld (pv 0) rfl) pa_nil)) pa_nil)) (pe_gi (by rfl) T.c_MOST_CLAIMS) (nomark _)) (pss_one (ps_ret (pe_gi (by rfl) T.c_FULL))) pss_nil)
      (pss_one (ps_ret (pe_meth (pv 0) T.k_Book T.t_Book_add_line (ok_Book_add_line T) (hr.mono (by decide)) T.n_Book_add_line .nil pass0 (pa_cons (pe_make T.m_Line (ok_Line___init__ T) (hr.mono (by decide)) (by rfl) T.g_Line T.n_Line___init__ .nil pass0 (pa_cons (pe_gi (by rfl) T.c_AS_CLAIM) (pa_cons (pe_tup pa_nil) (pa_cons (pv 2) pa_nil)))) pa_nil)))))))), ?_⟩
    refine q_when (et_B (ev_meth (dvs := []) (ev_var (i := 0) rfl) hB.at_.ob (bF_m (by decide +kernel)) (ea_cons (ev_var (i := 1) rfl) ea_nil) fun H1 e1 Q1 q1 E1 => ⟨b, g, u, as, ls, nx, aL, ns, rfl, hB.at_.ex e1, .inl (ex_l e1 hS), hz, q1⟩)) (fun hb H1 e1 => ?_) (fun hb H1 e1 => ?_)
    · have hb : ns.all (Sm15.isLit as.length) = false := by simpa using hb
      refine s_ret ev_c fun H2 e2 => ?_
      unfold claimR at q
      rw [if_pos hb] at q
      exact q H2 (hB.ex (e1.trans e2))
    · have hb : ns.all (Sm15.isLit as.length) = true := by simpa using hb
      have hL := lits_of hb
      have hL8 := hL.mono ok.al
      unfold claimR at q
      rw [if_neg (by rw [hb]; decide)] at q
      refine q_asgU (eu_call (dvs := []) (xs := (Sm15.clauseOf ns).map V.int) (ea_cons (ev_var (i := 1) rfl) ea_nil) fun H2 e2 Q2 q2 E2 => ⟨aL, ns, rfl, ex_l (e1.trans e2) hS, hz, fun H' p sm np hp => q2 p H' np sm hp⟩) fun tc H2 ntc e2 htc => ?_
      have hcl := clause_len hL8
      have e12 := e1.trans e2
      refine q_when (et_B (ev_call (dvs := []) (ea_cons (ev_var (i := 2) rfl) ea_nil) fun H3 e3 Q3 q3 E3 => ⟨tc, _, rfl, st_of (e3 _ _ htc), by omega, q3⟩)) (fun hb2 H3 e3 => ?_) (fun hb2 H3 e3 => ?_)
      · rw [if_pos hb2] at q
        exact s_ret ev_c fun H4 e4 => q H4 (hB.ex ((e12.trans e3).trans e4))
      · rw [if_neg (by rw [hb2]; decide)] at q
        have hB3 := hB.ex (e12.trans e3)
        have htc3 := e3 _ _ htc
        have cnt : Ev (tCB (fun xs H Q => ∃ p ys, xs = [V.ref p] ∧ (SqL K H p ys ∨ SqT K H p ys) ∧ Q (.int ys.length) H) (tCons (tMeth D.c_Book "claims_among" (spCa K D) [] E0 (tVar 0) (tCons (tFld K (tVar 0) "lines") tNil)) tNil)) [some (.ref b), some (.ref aL), some (.ref tc)] H3 (.int ((Sm15.claimsOf ls).length : Int)) := by
          have z := ev_lenNL (K := K) (el_meth (D := D) (E := E0) (m := "claims_among") (sp := spCa K D) (te := tVar 0) (σ := [some (.ref b), some (.ref aL), some (.ref tc)]) (xs := natV ((numsOf ls).filter (claimB ls))) (ev_var rfl) hB3.at_.ob (bF_m (by decide +kernel)) (ea_cons (rb_lines T hB3.at_ (ev_var (i := 0) rfl)) ea_nil) fun H4 e4 Q4 q4 E4 => ⟨b, g, u, as, ls, nx, g.dl, numsOf ls, rfl, hB3.at_.ex e4, by rw [nums_len]; have := ok.len; omega, fun k hk => hk, .inl ⟨rfl, rfl⟩, q4⟩)
          rw [natV_len, claim_count ok.nd] at z
          exact z
        refine q_when (et_test (ev_ge (j := 16) cnt ev_c)) (fun hb3 H4 e4 => ?_) (fun hb3 H4 e4 => ?_)
        · have hb3 := of_decide_eq_true hb3
          rw [if_pos (.inr (by omega))] at q
          exact s_ret ev_c fun H5 e5 => q H5 (hB3.ex (e4.trans e5))
        · have hb3 := of_decide_eq_false hb3
          have hB4 := hB3.ex e4
          refine ⟨.ref b, rfl, b, g.dx, _, rfl, hB4.at_.ob, bF_m (by decide +kernel), by show 0 ≤ sizeLine; decide, fun tn ntn => ?_⟩
          have e5 : Ex H4 (upd H4 tn (.tup [])) := Ex.new ntn
          have htn : (upd H4 tn (.tup [])) tn = some (.tup []) := upd_same
          generalize upd H4 tn (.tup []) = H5 at *
          refine ⟨.ref tc, rfl, fun x dx nx' ndx nex => ⟨x, dx, tn, tc, 0, rfl, upd_same, rfl, ?_⟩⟩
          rw [upd_over]
          have e6 : Ex H5 (upd (upd H5 dx (.own x)) x (.ins D.c_Line dx (lF 0 tn tc))) := made_ex nx' ndx
          refine ⟨b, g, O, u, as, ls, nx, x, .claim, Sm15.clauseOf ns, rfl, hB4.ex (e5.trans e6), ⟨dx, tn, tc, upd_same, st_of (e6 _ _ htn), (e4.trans (e5.trans e6)) _ _ htc3⟩, ok.lt, fun h300 H' hB' => ?_, fun h300 H' hB' => ?_⟩
          · rw [if_pos (.inl h300)] at q
            exact q H' hB'
          · rw [if_neg (by rintro (z | z); exact h300 z; omega)] at q
            exact q H' hB'
/-! ### derive -/
theorem all_some (ls : List Sm15.Line) (l : List Nat) : (!(l.all fun k => (Sm15.lineAt ls k).isSome)) = l.any fun k => (Sm15.lineAt ls k).isNone := by
  rw [List.not_all_eq_any_not]
  congr 1
  funext k
  cases Sm15.lineAt ls k <;> rfl
/-- line.sources() handed to a method of the book -/
theorem ev_methS {D : Ad} {σ : L2.St} {H : Hp} {te ts : TE} {a C dx : Addr} {fs : List (Str × V)} {m : Str} {sp : Sp} {xs : List V} {z : V} {E : XK} (h : Ev te σ H (.ref a)) (ho : H a = some (.ins C dx fs)) (hl : fs.lookup m = none) (hr : EvS K ts σ H xs) (hs : ∀ q H1, Ex H H1 → SqT K H1 q xs → ∀ Q : VK, RetV z H1 Q → ∀ E, sp [.ref a, .ref q] H1 Q E) :
    Ev (tMeth C m sp [] E te (tCons ts tNil)) σ H z := fun H1 e Q q =>
  h H1 e _ fun H2 e2 => ⟨a, dx, fs, rfl, (e.trans e2) a _ ho, hl, hr H2 (e.trans e2) _ fun p H3 e3 hp => hs p H3 ((e.trans e2).trans e3) hp Q (fun H4 e4 => q H4 ((e2.trans e3).trans e4)) E⟩
def spDerive (K : PySem.W.Frag) (D : Ad) : Sp := fun vs H Q _ => ∃ (b : Addr) (g : Pl) (O : Hp) (u : Nat) (as : List Sm15.Atom) (ls : List Sm15.Line) (nx : Nat) (aL tn : Addr) (way : Sm15.Way) (ns : List Int), vs = [.ref b, .int (wayNo way), .ref tn, .ref aL] ∧ Bk K D H O b g u as ls nx ∧ SqL K H aL (ns.map V.int) ∧ ns.length ≤ 1000 ∧
  SqT K H tn ((namedOf way).map V.int) ∧ way ≠ .claim ∧ (Sm15.sources way).length ≤ 60 ∧ LOk as ls nx ∧ AtomsOk u as ∧ u ≤ 4 ∧
  ∀ H' : Hp, Bk K D H' O b g u as (deriveR u as ls nx way ns).1 (deriveR u as ls nx way ns).2.1 → Q (.int (deriveR u as ls nx way ns).2.2) H'
theorem ok_Book_derive (T : Txt K mg D) : FnOk P w K mg base CX0 8 D.a_Book_derive D.d_Book_derive ["self", "way", "named", "literals"] (spDerive K D) := by
  refine T.f_Book_derive.ok sc_Book_derive (fun vs H Q E h => ?_) (fun cdv A outer s H vs Q E hr h => ?_)
  · obtain ⟨_, _, _, _, _, _, _, _, _, _, _, rfl, _⟩ := h
    rfl
  · obtain ⟨b, g, O, u, as, ls, nx, aL, tn, way, ns, rfl, hB, hS, hz, hN, hnc, hs60, ok, aok, hu, q⟩ := h
    refine ⟨_, (pss_cons (ps_if (pt_val (pe_meth (pv 0) T.k_Book T.t_Book_has_strange (ok_Book_has_strange T) (hr.mono (by decide)) T.n_Book_has_strange .nil pass0 (pa_cons (pv 3) pa_nil))) (pss_one (ps_ret (pe_gi (by rfl) T.c_NO_ATOM))) pss_nil)
      (pss_cons (ps_set (i := 4) sc_Book_derive.nd rfl (Or.inl rfl) (pe_make T.m_Line (ok_Line___init__ T) (hr.mono (by decide)) (by rfl) T.g_Line T.n_Line___init__ .nil pass0 (pa_cons (pv 1) (pa_cons (pv 2) (pa_cons (pe_call (ok_clause_of T) (hr.mono (by decide)) (by rfl) T.g_clause_of T.f_clause_of.kp T.n_clause_of .nil pass0 (pa_cons (pv 3) pa_nil)) pa_nil)))))
      (pss_cons (ps_if (pt_not (pt_val (pe_meth (pv 0) T.k_Book T.t_Book_has_all (ok_Book_has_all T) (hr.mono (by decide)) T.n_Book_has_all .nil pass0 (pa_cons (pe_meth0 (pv 4) T.k_Line T.t_Line_sources (ok_Line_sources T) (hr.mono (by decide)) T.n_Line_sources .nil pass0) pa_nil)))) (pss_one (ps_ret (pe_gi (by rfl) T.c_NO_LINE))) pss_nil)
      (pss_cons (ps_if (pt_not (pt_val (pe_call (ok_is_shown T) hr (by rfl) T.g_is_shown T.f_is_shown.kp T.n_is_shown .nil pass0 (pa_cons (pv 4) (pa_cons (pe_fld (pv 0) rfl) (pa_cons (pe_fld (pv 0) rfl) (pa_cons (pe_fld (pv 0) rfl) pa_nil))))))) (pss_one (ps_ret (pe_gi (by rfl) T.c_NOT_SHOWN))) pss_nil)
      (pss_one (ps_ret (pe_meth (pv 0) T.k_Book T.t_Book_add_line (ok_Book_add_line T) (hr.mono (by decide)) T.n_Book_add_line .nil pass0 (pa_cons (pv 4) pa_nil)))))))), ?_⟩
    refine q_when (et_B (ev_meth (dvs := []) (ev_var (i := 0) rfl) hB.at_.ob (bF_m (by decide +kernel)) (ea_cons (ev_var (i := 3) rfl) ea_nil) fun H1 e1 Q1 q1 E1 => ⟨b, g, u, as, ls, nx, aL, ns, rfl, hB.at_.ex e1, .inl (ex_l e1 hS), hz, q1⟩)) (fun hb H1 e1 => ?_) (fun hb H1 e1 => ?_)
    · have hb : ns.all (Sm15.isLit as.length) = false := by simpa using hb
      refine s_ret ev_c fun H2 e2 => ?_
      unfold deriveR at q
      rw [if_pos hb] at q
      exact q H2 (hB.ex (e1.trans e2))
    · have hb : ns.all (Sm15.isLit as.length) = true := by simpa using hb
      have hL := lits_of hb
      have hL8 := hL.mono ok.al
      have hcl := clause_len hL8
      unfold deriveR at q
      rw [if_neg (by rw [hb]; decide)] at q
      -- line = Line(way, named, clause_of(literals))
      refine ⟨.int (wayNo way), rfl, .ref tn, rfl, .ref aL, rfl, aL, ns, rfl, ex_l e1 hS, hz, fun H2 tc e2 ntc htc => fun x dx nx' ndx nex => ⟨x, dx, tn, tc, wayNo way, rfl, upd_same, rfl, ?_⟩⟩
      have e2 : Ex H1 H2 := e2
      rw [upd_over]
      have e3 : Ex H2 (upd (upd H2 dx (.own x)) x (.ins D.c_Line dx (lF (wayNo way) tn tc))) := made_ex nx' ndx
      have e123 := (e1.trans e2).trans e3
      have hLine : LineAt K D.c_Line (upd (upd H2 dx (.own x)) x (.ins D.c_Line dx (lF (wayNo way) tn tc))) x way (Sm15.clauseOf ns) := ⟨dx, tn, tc, upd_same, ex_t e123 hN, e3 _ _ htc⟩
      generalize upd (upd H2 dx (.own x)) x (.ins D.c_Line dx (lF (wayNo way) tn tc)) = H3 at *
      have hB3 := hB.ex e123
      -- if not self.has_all(line.sources())
      have g2 := ev_methS (K := K) (D := D) (E := E0) (m := "has_all") (sp := spHa K D) (te := tVar 0) (σ := [some (.ref b), some (.int (wayNo way)), some (.ref tn), some (.ref aL), some (.ref x)]) (z := .bl ((Sm15.sources way).all fun k => (Sm15.lineAt ls k).isSome)) (ev_var rfl) hB3.at_.ob (bF_m (by decide +kernel)) (es_sources (D := D) (E := E0) (te := tVar 4) (ev_var rfl) hLine) fun q H4 e4 hq Q4 q4 E4 => ⟨b, g, u, as, ls, nx, q, Sm15.sources way, rfl, hB3.at_.ex e4, hq, by omega, q4⟩
      refine q_when (et_is (et_not (et_B g2)) (all_some ls _)) (fun hb2 H4 e4 => ?_) (fun hb2 H4 e4 => ?_)
      · rw [if_pos hb2] at q
        exact s_ret ev_c fun H5 e5 => q H5 (hB3.ex (e4.trans e5))
      · rw [if_neg (by rw [hb2]; decide)] at q
        have hB4 := hB3.ex e4
        have hLine4 := hLine.ex e4
        refine q_when (et_not (et_B (ev_call (dvs := []) (ea_cons (ev_var (i := 4) rfl) (ea_cons (rb_lines T hB4.at_ (ev_var (i := 0) rfl)) (ea_cons (rb_atoms T hB4.at_ (ev_var (i := 0) rfl)) (ea_cons (rb_u T hB4.at_ (ev_var (i := 0) rfl)) ea_nil)))) fun H6 e6 Q6 q6 E6 => ⟨x, g.dl, g.al, u, way, Sm15.clauseOf ns, ls, as, rfl, hLine4.ex e6, (hB4.at_.ex e6).ln, (hB4.at_.ex e6).atoms, aok, ok.al, hu, lits_clause hL, by omega, fun y hy => by have := (ok.lits y hy).2; omega, by omega, hnc, q6⟩))) (fun hb3 H6 e6 => ?_) (fun hb3 H6 e6 => ?_)
        · have hb3 : Sm15.shows u as ls (Sm15.clauseOf ns) way = false := by simpa using hb3
          rw [if_pos hb3] at q
          exact s_ret ev_c fun H7 e7 => q H7 (hB4.ex (e6.trans e7))
        · have hb3 : Sm15.shows u as ls (Sm15.clauseOf ns) way = true := by simpa using hb3
          rw [if_neg (by rw [hb3]; decide)] at q
          have hB6 := hB4.ex e6
          refine ⟨.ref b, rfl, b, g.dx, _, rfl, hB6.at_.ob, bF_m (by decide +kernel), .ref x, rfl, b, g, O, u, as, ls, nx, x, way, Sm15.clauseOf ns, rfl, hB6, hLine4.ex e6, ok.lt, fun h300 H' hB' => ?_, fun h300 H' hB' => ?_⟩
          · rw [if_pos h300] at q
            exact q H' hB'
          · rw [if_neg h300] at q
            exact q H' hB'
end
end Cp
/-! Cp11 -/
namespace Cp
open PySem PySem.Spec PyProof.Rows L2 Evl
section
variable {P : Program} {w : World} {K : PySem.W.Frag} {mg : Str → Option Value} {base : Heap} {D : Ad}
/-! ### bounds, joined, wider, chain -/
/-- what a call that derives a line asks and leaves -/
def DerivOk (K : PySem.W.Frag) (D : Ad) (H : Hp) (b : Addr) (aL : Addr) (way : Sm15.Way) (ns : List Int) (Q : VK) : Prop := ∃ (g : Pl) (O : Hp) (u : Nat) (as : List Sm15.Atom) (ls : List Sm15.Line) (nx : Nat), Bk K D H O b g u as ls nx ∧ SqL K H aL (ns.map V.int) ∧ ns.length ≤ 1000 ∧ (Sm15.sources way).length ≤ 60 ∧ LOk as ls nx ∧ AtomsOk u as ∧ u ≤ 4 ∧
  ∀ H' : Hp, Bk K D H' O b g u as (deriveR u as ls nx way ns).1 (deriveR u as ls nx way ns).2.1 → Q (.int (deriveR u as ls nx way ns).2.2) H'
theorem DerivOk.go {H : Hp} {b aL tn : Addr} {way : Sm15.Way} {ns : List Int} {Q : VK} {E : XK} (h : DerivOk K D H b aL way ns Q) {H2 : Hp} (e : Ex H H2) (ht : SqT K H2 tn ((namedOf way).map V.int)) (hn : way ≠ .claim) : spDerive K D [.ref b, .int (wayNo way), .ref tn, .ref aL] H2 Q E := by
  obtain ⟨g, O, u, as, ls, nx, h1, h2, h3, h4, h5, h6, h7, h8⟩ := h
  exact ⟨b, g, O, u, as, ls, nx, aL, tn, way, ns, rfl, h1.ex e, ex_l e h2, h3, ht, hn, h4, h5, h6, h7, h8⟩
theorem DerivOk.ob {H : Hp} {b aL : Addr} {way : Sm15.Way} {ns : List Int} {Q : VK} (h : DerivOk K D H b aL way ns Q) : ∃ dx fs, H b = some (.ins D.c_Book dx fs) ∧ fs.lookup ("derive" : Str) = none := by
  obtain ⟨g, O, u, as, ls, nx, h1, _⟩ := h
  exact ⟨_, _, h1.at_.ob, bF_m (by decide +kernel)⟩
def spBounds (K : PySem.W.Frag) (D : Ad) : Sp := fun vs H Q _ => ∃ (b aL : Addr) (ns : List Int), vs = [.ref b, .ref aL] ∧ DerivOk K D H b aL .bounds ns Q
theorem ok_Book_bounds (T : Txt K mg D) : FnOk P w K mg base CX0 9 D.a_Book_bounds D.d_Book_bounds ["self", "literals"] (spBounds K D) := by
  refine T.f_Book_bounds.ok sc_Book_bounds (fun vs H Q E h => ?_) (fun cdv A outer s H vs Q E hr h => ?_)
  · obtain ⟨_, _, _, rfl, _⟩ := h
    rfl
  · obtain ⟨b, aL, ns, rfl, h⟩ := h
    obtain ⟨dx, fs, ob, lk⟩ := h.ob
    refine ⟨_, (pss_one (ps_ret (pe_meth (pv 0) T.k_Book T.t_Book_derive (ok_Book_derive T) hr T.n_Book_derive .nil pass0 (pa_cons (pe_gi (by rfl) T.c_BY_BOUNDS) (pa_cons (pe_tup pa_nil) (pa_cons (pv 1) pa_nil)))))), ?_⟩
    exact ⟨.ref b, rfl, b, dx, fs, rfl, ob, lk, by show 0 ≤ sizeLine; decide, fun tn ntn => ⟨.ref aL, rfl, h.go (E := E0) (Ex.new ntn) (st_of upd_same) (by decide)⟩⟩
def spJoined (K : PySem.W.Frag) (D : Ad) : Sp := fun vs H Q _ => ∃ (b aL : Addr) (i j a : Nat) (ns : List Int), vs = [.ref b, .int (i : Int), .int (j : Int), .int (a : Int), .ref aL] ∧ DerivOk K D H b aL (.joined i j a) ns Q
theorem ok_Book_joined (T : Txt K mg D) : FnOk P w K mg base CX0 9 D.a_Book_joined D.d_Book_joined ["self", "i", "j", "a", "literals"] (spJoined K D) := by
  refine T.f_Book_joined.ok sc_Book_joined (fun vs H Q E h => ?_) (fun cdv A outer s H vs Q E hr h => ?_)
  · obtain ⟨_, _, _, _, _, _, rfl, _⟩ := h
    rfl
  · obtain ⟨b, aL, i, j, a, ns, rfl, h⟩ := h
    obtain ⟨dx, fs, ob, lk⟩ := h.ob
    refine ⟨_, (pss_one (ps_ret (pe_meth (pv 0) T.k_Book T.t_Book_derive (ok_Book_derive T) hr T.n_Book_derive .nil pass0 (pa_cons (pe_gi (by rfl) T.c_BY_JOINING) (pa_cons (pe_tup (pa_cons (pv 1) (pa_cons (pv 2) (pa_cons (pv 3) pa_nil)))) (pa_cons (pv 4) pa_nil)))))), ?_⟩
    exact ⟨.ref b, rfl, b, dx, fs, rfl, ob, lk, .int (i : Int), rfl, .int (j : Int), rfl, .int (a : Int), rfl, by show 3 ≤ sizeLine; decide, fun tn ntn => ⟨.ref aL, rfl, h.go (E := E0) (Ex.new ntn) (st_of upd_same) (fun z => by cases z)⟩⟩
def spWider (K : PySem.W.Frag) (D : Ad) : Sp := fun vs H Q _ => ∃ (b aL : Addr) (i : Nat) (ns : List Int), vs = [.ref b, .int (i : Int), .ref aL] ∧ DerivOk K D H b aL (.wider i) ns Q
theorem ok_Book_wider (T : Txt K mg D) : FnOk P w K mg base CX0 9 D.a_Book_wider D.d_Book_wider ["self", "i", "literals"] (spWider K D) := by
  refine T.f_Book_wider.ok sc_Book_wider (fun vs H Q E h => ?_) (fun cdv A outer s H vs Q E hr h => ?_)
  · obtain ⟨_, _, _, _, rfl, _⟩ := h
    rfl
  · obtain ⟨b, aL, i, ns, rfl, h⟩ := h
    obtain ⟨dx, fs, ob, lk⟩ := h.ob
    refine ⟨_, (pss_one (ps_ret (pe_meth (pv 0) T.k_Book T.t_Book_derive (ok_Book_derive T) hr T.n_Book_derive .nil pass0 (pa_cons (pe_gi (by rfl) T.c_BY_WIDENING) (pa_cons (pe_tup (pa_cons (pv 1) pa_nil)) (pa_cons (pv 2) pa_nil)))))), ?_⟩
    exact ⟨.ref b, rfl, b, dx, fs, rfl, ob, lk, .int (i : Int), rfl, by show 1 ≤ sizeLine; decide, fun tn ntn => ⟨.ref aL, rfl, h.go (E := E0) (Ex.new ntn) (st_of upd_same) (fun z => by cases z)⟩⟩
def spChain (K : PySem.W.Frag) (D : Ad) : Sp := fun vs H Q _ => ∃ (b aL aK : Addr) (l : List Nat) (ns : List Int), vs = [.ref b, .ref aK, .ref aL] ∧ SqL K H aK (l.map fun (n : Nat) => V.int (n : Int)) ∧ DerivOk K D H b aL (.chain l) ns Q
theorem ok_Book_chain (T : Txt K mg D) : FnOk P w K mg base CX0 9 D.a_Book_chain D.d_Book_chain ["self", "lines", "literals"] (spChain K D) := by
  refine T.f_Book_chain.ok sc_Book_chain (fun vs H Q E h => ?_) (fun cdv A outer s H vs Q E hr h => ?_)
  · obtain ⟨_, _, _, _, _, rfl, _⟩ := h
    rfl
  · obtain ⟨b, aL, aK, l, ns, rfl, hK, h⟩ := h
    obtain ⟨dx, fs, ob, lk⟩ := h.ob
    refine ⟨_, (pss_one (ps_ret (pe_meth (pv 0) T.k_Book T.t_Book_derive (ok_Book_derive T) hr T.n_Book_derive .nil pass0 (pa_cons (pe_gi (by rfl) T.c_BY_CHAIN) (pa_cons (pe_callTy call_tuple_of (by rfl) T.b_tuple (by decide +kernel) (pa_cons (pv 1) pa_nil)) (pa_cons (pv 2) pa_nil)))))), ?_⟩
    refine ⟨.ref b, rfl, b, dx, fs, rfl, ob, lk, .ref aK, rfl, aK, _, rfl, .inl ⟨hK, fun tn ntn => ⟨.ref aL, rfl, h.go (E := E0) (Ex.new ntn) ?_ (fun z => by cases z)⟩⟩⟩
    refine st_of ?_
    rw [upd_same, show (namedOf (.chain l)).map V.int = l.map fun (n : Nat) => V.int (n : Int) from by rw [show namedOf (.chain l) = l.map fun (n : Nat) => (n : Int) from rfl, List.map_map]; rfl]
/-! ### resting_on -/
theorem resting_len (k : Nat) (ls : List Sm15.Line) : (resting k ls).length ≤ ls.length + 1 := by
  induction ls using snoc_ind with
  | nil => simp [resting]
  | append_singleton l x ih =>
    rw [resting_snoc, List.length_append]
    split
    · rw [List.length_append]
      show _ + 1 ≤ l.length + 1 + 1
      omega
    · show _ ≤ l.length + 1 + 1
      omega
def spRest (K : PySem.W.Frag) (D : Ad) : Sp := fun vs H Q _ => ∃ (b : Addr) (g : Pl) (u : Nat) (as : List Sm15.Atom) (ls : List Sm15.Line) (nx k : Nat), vs = [.ref b, .int (k : Int)] ∧ BookAt K D H b g u as ls nx ∧ ls.length ≤ 20000 ∧ (∀ x ∈ ls, (Sm15.sources x.way).length ≤ 1000) ∧ RetL (natV (resting k ls)) H Q
theorem ok_Book_resting_on (T : Txt K mg D) : FnOk P w K mg base CX0 2 D.a_Book_resting_on D.d_Book_resting_on ["self", "k"] (spRest K D) := by
  refine T.f_Book_resting_on.ok sc_Book_resting_on (fun vs H Q E h => ?_) (fun cdv A outer s H vs Q E hr h => ?_)
  · obtain ⟨_, _, _, _, _, _, _, rfl, _⟩ := h
    rfl
  · obtain ⟨b, g, u, as, ls, nx, k, rfl, hB, hz, hsz, q⟩ := h
    refine ⟨_, (pss_cons (ps_set (i := 2) sc_Book_resting_on.nd rfl (Or.inr rfl) (pe_lst (pa_cons (pv 1) pa_nil)))
      (pss_cons (ps_lock (ps_for PassesOwn.never rfl (pi_items (pe_fld (pv 0) rfl)) (pg_tup rfl (pgs_cons (pg_name (i := 3) sc_Book_resting_on.nd rfl (Or.inl rfl)) (pgs_cons (pg_name (i := 4) sc_Book_resting_on.nd rfl (Or.inl rfl)) pgs_nil))) (pss_one (ps_if (pt_val (pe_callB (cr_any (by rfl)) (by rfl) T.b_any (by decide +kernel) (pa_cons (pe_lc (own := [("source", 5)]) (g := gName 5) (by rfl) sc_Book_resting_on.nd (pi_tup (pe_meth0 (pv 4) T.k_Line T.t_Line_sources (ok_Line_sources T) hr T.n_Line_sources .nil pass0)) (blkOk_by (own := [("source", 5)]) (N := ["self", "k", "resting", "number", "line", "source"]) (sc := defScope s_Book_resting_on) (by decide +kernel)) (fun _ _ _ _ _ => (pg_name (i := 5) sc_Book_resting_on.nd rfl (Or.inl rfl))) (fun _ _ _ _ _ => pts_nil) (fun _ _ _ _ _ => (pe_cmpR (op_inK K) (pv 5) (pv 2) (by rfl)))) pa_nil))) (pss_one (ps_expr (pe_bm PySem.F.plainAttrs_list PySem.F.slot_list_append PySem.F.type_list_append mt_append (pv 2) (pa_cons (pv 3) pa_nil)))) pss_nil))))
      (pss_one (ps_ret (pv 2))))), ?_⟩
    refine q_asgL (el_lst (ea_cons (ev_var (i := 1) rfl) ea_nil) (by show 1 ≤ 100000; decide)) fun o H1 no e1 h1 => ?_
    have hB1 := hB.ex e1
    obtain ⟨kvs, l1, l2⟩ := hB1.ln
    have kl := pr_len l2
    refine ⟨g.dl, .dK kvs, l1, trivial, fun od => ?_⟩
    have eL : ExB g.dl H1 (upd H1 g.dl (.frz od (.dK kvs))) := ExB.upd
    have nod : o ≠ g.dl := fun z => by rw [z, l1] at h1; cases h1
    have l2' : LinesAt K D.c_Line (upd H1 g.dl (.frz od (.dK kvs))) kvs ls := eL.lines (soft_dK l1) (noline_dK l1) l2
    have bd : b ≠ g.dl := fun z => by have := hB1.ob; rw [z, l1] at this; cases this
    have hb' : (upd H1 g.dl (.frz od (.dK kvs))) b = some (.ins D.c_Book g.dx (bF u g.al g.dl nx g.ml)) := eL _ _ bd hB1.ob
    have ho' : (upd H1 g.dl (.frz od (.dK kvs))) o = some (.lst [.int (k : Int)]) := eL _ _ nod h1
    have hd' : (upd H1 g.dl (.frz od (.dK kvs))) g.dl = some (.frz od (.dK kvs)) := upd_same
    have back : ∀ H2, ExB o (upd H1 g.dl (.frz od (.dK kvs))) H2 → ExB o H1 (upd H2 g.dl (.dK kvs)) := fun H2 e c y hc hy => by
      by_cases z : c = g.dl
      · rw [z, upd_same, ← l1, ← z]
        exact hy
      · rw [upd_ne z]
        exact e c y hc (by rw [upd_ne z]; exact hy)
    generalize hHL : upd H1 g.dl (.frz od (.dK kvs)) = HL at *
    have bo : b ≠ o := fun z => by rw [z, ho'] at hb'; cases hb'
    refine ⟨.ref b, rfl, b, D.c_Book, g.dx, _, _, rfl, hb', T.k_Book, T.x_Book_lines, bF_lines, g.dl, od, kvs, rfl, hd', ?_⟩
    refine for_it walk_items (fun i σ H' => ∃ y3 y4 y5, σ = [some (.ref b), some (.int (k : Int)), some (.ref o), y3, y4, y5] ∧ ExB o HL H' ∧ H' o = some (.lst (natV (resting k (ls.take i))))) ⟨none, none, none, rfl, ExB.refl _ _, ho'⟩ (fun i σ H' _ ⟨_, _, _, _, e, _⟩ => e _ _ nod.symm hd') ?_ ?_
    · rintro i x σ H' H'' hi ⟨y3, y4, y5, rfl, eB, ho⟩ ⟨Tp, x1, x2, rfl, nT, rfl, hx1, hx2⟩
      have hlt : i < ls.length := by omega
      obtain ⟨kv, hkv, hat⟩ := pr_get l2' (List.getElem?_eq_getElem hlt)
      obtain ⟨hk1, p, hk2, hk3⟩ := hat
      dsimp only at hx1 hx2
      rw [hkv] at hx1 hx2
      have ex1 : x1 = .int ((ls[i].num : Nat) : Int) := by
        have := Option.some.inj hx1
        rw [← this]
        dsimp only
        rw [hk1]
        rfl
      have ex2 : x2 = .ref p := by
        have := Option.some.inj hx2
        rw [← this]
        exact hk2
      subst ex1 ex2
      have eT : Ex H' (upd H' Tp (.tup [.int ((ls[i].num : Nat) : Int), .ref p])) := Ex.new nT
      have hT : (upd H' Tp (.tup [.int ((ls[i].num : Nat) : Int), .ref p])) Tp = some (.tup [.int ((ls[i].num : Nat) : Int), .ref p]) := upd_same
      generalize upd H' Tp (.tup [.int ((ls[i].num : Nat) : Int), .ref p]) = H2 at *
      refine ⟨Tp, _, rfl, st_of hT, rfl, _, _, rfl, _, _, rfl, rfl, ?_⟩
      have hline : LineAt K D.c_Line H2 p ls[i].way ls[i].clause := (eB.line (soft_lst ho') (noline_lst ho') hk3).ex eT
      have ho2 : H2 o = some (.lst (natV (resting k (ls.take i)))) := eT _ _ ho
      have more : resting k (ls.take (i + 1)) = if (Sm15.sources ls[i].way).any (fun q => (resting k (ls.take i)).contains q) = true then resting k (ls.take i) ++ [ls[i].num] else resting k (ls.take i) := by
        rw [List.take_add_one, List.getElem?_eq_getElem hlt]
        exact resting_snoc k _ _
      have gg := lcS (K := K) (σ := [some (.ref b), some (.int (k : Int)), some (.ref o), some (.int ((ls[i].num : Nat) : Int)), some (.ref p), y5]) (H := H2) (t := tYes) (te := tOp (rIn K false) (tVar 5) (tVar 2)) (j := 5) (vs := [5]) (emb := fun (n : Nat) => V.int (n : Int)) (fun _ => true) (fun n => V.bl ((resting k (ls.take i)).contains n)) (es_sources (D := D) (E := E0) (te := tVar 4) (ev_var rfl) hline) (by have := hsz _ (List.getElem_mem hlt); omega) (fun x => rfl) (fun m _ H1 e => et_yes)
        (fun m _ H3 e _ => by
          have z := ev_inL (K := K) (σ := (wipe [some (.ref b), some (.int (k : Int)), some (.ref o), some (.int ((ls[i].num : Nat) : Int)), some (.ref p), y5] [5]).set 5 (some (.int (m : Int)))) (H := H3) (ta := tVar 5) (tb := tVar 2) (k := (m : Int)) (a := o) (ns := (resting k (ls.take i)).map fun (n : Nat) => (n : Int)) (ev_var (i := 5) rfl) (ev_var (i := 2) rfl) (sq_of (by rw [← natV_ints]; exact e _ _ ho2))
          rw [has_nat] at z
          exact z)
      rw [filter_yes, show (Sm15.sources ls[i].way).map (fun n => V.bl ((resting k (ls.take i)).contains n)) = ((Sm15.sources ls[i].way).map fun n => (resting k (ls.take i)).contains n).map V.bl by rw [List.map_map]; rfl] at gg
      have g2 := ev_any (K := K) gg
      rw [any_map_id] at g2
      refine s_when (et_B g2) (fun hb H3 e3 => ?_) (fun hb H3 e3 => ?_)
      · rw [if_pos hb] at more
        refine s_app (K := K) (e3 _ _ ho2) (ev_var (i := 2) rfl) (ev_var (i := 3) rfl) ?_ fun H4 e4 => ?_
        · unfold natV
          rw [List.length_map]
          have := resting_len k (ls.take i)
          rw [List.length_take] at this
          omega
        · refine ⟨_, _, _, rfl, (eB.trans (ExB.of ((eT.trans e3).trans e4))).trans ExB.upd, ?_⟩
          rw [upd_same, more]
          unfold natV
          rw [List.map_append]
          rfl
      · rw [if_neg (by rw [hb]; decide)] at more
        refine ⟨_, _, _, rfl, eB.trans (ExB.of (eT.trans e3)), ?_⟩
        rw [more]
        exact e3 _ _ ho2
    · rintro σ H' ⟨y3, y4, y5, rfl, eB, ho⟩
      refine ⟨eB _ _ nod.symm hd', ?_⟩
      rw [kl, List.take_length] at ho
      refine s_ret (ev_var (i := 2) rfl) fun H2 e2 => q o H2 no ((ExB.new e1 no (back H' eB)).trans e2) (e2 _ _ ?_)
      rw [upd_ne nod]
      exact ho
end
end Cp
/-! Cp12 -/
namespace Cp
open PySem PySem.Spec PyProof.Rows L2 Evl
/-! ### drop -/
def dropR (ls : List Sm15.Line) (k : Nat) : List Sm15.Line × Int := match Sm15.lineAt ls k with
  | none => (ls, -3)
  | some x => if x.way ≠ .claim then (ls, -1) else (Sm15.without [k] ls, ((ls.length - (Sm15.without [k] ls).length : Nat) : Int))
/-- the keys that are not among some numbers -/
def offK (l : List Nat) (kv : Key × V) : Bool := !l.any fun n => decide (kv.1 = Sum.inl (n : Int))
theorem off_line {K : PySem.W.Frag} {C : Addr} {H : Hp} {kv : Key × V} {x : Sm15.Line} (h : KvAt K C H kv x) (l : List Nat) : offK l kv = !l.contains x.num := by
  unfold offK
  rw [h.1]
  congr 1
  rw [Bool.eq_iff_iff, List.any_eq_true]
  constructor
  · rintro ⟨n, hn, e⟩
    have e := Sum.inl.inj (of_decide_eq_true e)
    have : n = x.num := by omega
    simpa [← this] using hn
  · intro m
    exact ⟨x.num, by simpa using m, decide_eq_true rfl⟩
theorem off_lines {K : PySem.W.Frag} {C : Addr} {H : Hp} (l : List Nat) : ∀ {kvs : List (Key × V)} {ls : List Sm15.Line}, LinesAt K C H kvs ls → LinesAt K C H (kvs.filter (offK l)) (ls.filter fun x => !l.contains x.num)
  | _, _, .nil => .nil
  | kv :: kvs, x :: ls, .cons h t => by
    have ih := off_lines l t
    rw [List.filter_cons, List.filter_cons, off_line h l]
    split
    · exact .cons h ih
    · exact ih
theorem off_drop (l : List Nat) (n : Nat) (kvs : List (Key × V)) : dropK (kvs.filter (offK l)) (Sum.inl (n : Int)) = kvs.filter (offK (l ++ [n])) := by
  unfold dropK
  rw [List.filter_filter]
  congr 1
  funext kv
  unfold offK
  rw [List.any_append]
  by_cases c : kv.1 = Sum.inl (n : Int)
  · simp [c]
  · simp [c]
section
variable {P : Program} {w : World} {K : PySem.W.Frag} {mg : Str → Option Value} {base : Heap} {D : Ad}
def spDrop (K : PySem.W.Frag) (D : Ad) : Sp := fun vs H Q _ => ∃ (b : Addr) (g : Pl) (O : Hp) (u : Nat) (as : List Sm15.Atom) (ls : List Sm15.Line) (nx k : Nat), vs = [.ref b, .int (k : Int)] ∧ Bk K D H O b g u as ls nx ∧ ls.length ≤ 20000 ∧ WfL ls ∧ (∀ x ∈ ls, (Sm15.sources x.way).length ≤ 1000) ∧
  ∀ H' : Hp, Bk K D H' O b g u as (dropR ls k).1 nx → Q (.int (dropR ls k).2) H'
theorem ok_Book_drop (T : Txt K mg D) : FnOk P w K mg base CX0 3 D.a_Book_drop D.d_Book_drop ["self", "k"] (spDrop K D) := by
  refine T.f_Book_drop.ok sc_Book_drop (fun vs H Q E h => ?_) (fun cdv A outer s H vs Q E hr h => ?_)
  · obtain ⟨_, _, _, _, _, _, _, _, rfl, _⟩ := h
    rfl
  · obtain ⟨b, g, O, u, as, ls, nx, k, rfl, hB, hz, wf, hsz, q⟩ := h
    refine ⟨_, (pss_cons (ps_if (pt_cmp (pc_dnotin (hu_of hr) (pv 1) (pe_fld (pv 0) rfl))) (pss_one (ps_ret (pe_gi (by rfl) T.c_NO_LINE))) pss_nil)
      (pss_cons (ps_if (pt_cmpR op_ne (pe_fld (pe_dget (hu_of hr) (pe_fld (pv 0) rfl) (pv 1) (fun _ _ => rfl)) rfl) (pe_gi (by rfl) T.c_AS_CLAIM) (nomark _)) (pss_one (ps_ret (pe_gi (by rfl) T.c_WRONG))) pss_nil)
      (pss_cons (ps_set (i := 2) sc_Book_drop.nd rfl (Or.inl rfl) (pe_meth (pv 0) T.k_Book T.t_Book_resting_on (ok_Book_resting_on T) hr T.n_Book_resting_on .nil pass0 (pa_cons (pv 1) pa_nil)))
      (pss_cons (ps_for PassesOwn.never rfl (pi_list (pv 2)) (pg_name (i := 3) sc_Book_drop.nd rfl (Or.inl rfl)) (pss_one (ps_expr (pe_dpop1 (pe_fld (pv 0) rfl) (pv 3) ⟨by rfl, by rfl, by rfl, by rfl⟩))))
      (pss_one (ps_ret (pe_callB call_len_seq (by rfl) T.b_len PySem.boot_len (pa_cons (pv 2) pa_nil)))))))), ?_⟩
    obtain ⟨kvs, l1, l2⟩ := hB.at_.ln
    refine q_when (et_B (ev_dni (k := (k : Int)) (ev_var (i := 1) rfl) (rb_lines T hB.at_ (ev_var (i := 0) rfl)) (.inl l1))) (fun hb H1 e1 => ?_) (fun hb H1 e1 => ?_)
    · rcases val_lines (k := k) l2 with ⟨x, p, _, _, h, _⟩ | ⟨h, _⟩
      · rw [h] at hb; cases hb
      · refine s_ret ev_c fun H2 e2 => ?_
        unfold dropR at q
        rw [h] at q
        exact q H2 (hB.ex (e1.trans e2))
    · rcases val_lines (k := k) l2 with ⟨x, p, hx, hxm, hv, hl⟩ | ⟨_, h⟩
      rotate_left
      · rw [h] at hb; cases hb
      have hB1 := hB.ex e1
      obtain ⟨dx, tn, tc, hp, hn, hc⟩ := hl.ex e1
      unfold dropR at q
      rw [hx] at q
      dsimp only at q
      refine q_when (et_test (ev_ne (j := 0) (ev_fld (ev_dget (rb_lines T hB1.at_ (ev_var (i := 0) rfl)) (ev_var (i := 1) rfl) (.inl (e1 _ _ l1)) hv) hp T.k_Line T.x_Line_way lF_way) ev_c)) (fun hb2 H2 e2 => ?_) (fun hb2 H2 e2 => ?_)
      · have hb2 : ¬ wayNo x.way = 0 := by simpa using hb2
        rw [if_pos (fun z => hb2 (by rw [z]; rfl))] at q
        exact s_ret ev_c fun H3 e3 => q H3 (hB1.ex (e2.trans e3))
      · have hb2 : wayNo x.way = 0 := by simpa using hb2
        have hcl : x.way = .claim := (wayNo_is (way := x.way)).2.2.2.mp hb2
        rw [if_neg (fun z => z hcl)] at q
        obtain ⟨_, hxk⟩ := lineAt_some hx
        have co : ClaimOnly k ls := fun y hy e => by rw [nodup_one wf.nodup hy hxm (e.trans hxk.symm)]; exact hcl
        have hk : k ∈ numsOf ls := List.mem_map.mpr ⟨x, hxm, hxk⟩
        rw [without_resting wf co, gone_len wf co hk] at q
        have hB2 := hB1.ex e2
        have rl := resting_len k ls
        -- gone = self.resting_on(k)
        refine ⟨.ref b, rfl, b, g.dx, _, rfl, hB2.at_.ob, bF_m (by decide +kernel), .int (k : Int), rfl, b, g, u, as, ls, nx, k, rfl, hB2.at_, by omega, hsz, fun aG H3 naG e3 haG => ?_⟩
        have hB3 := hB2.ex e3
        have l13 : H3 g.dl = some (.dK kvs) := (e1.trans (e2.trans e3)) _ _ l1
        have l23 := l2.ex (e1.trans (e2.trans e3))
        have nGd : aG ≠ g.dl := fun z => by rw [z, l13] at haG; cases haG
        have nbd : b ≠ g.dl := fun z => by have := hB3.at_.ob; rw [z, l13] at this; cases this
        obtain ⟨ps, a1, a2⟩ := hB3.at_.at_
        have nad : g.al ≠ g.dl := fun z => by rw [z, l13] at a1; cases a1
        generalize hgo : resting k ls = gone at *
        have gnd : gone.Nodup := by rw [← hgo]; exact resting_nodup wf co
        have gsub : ∀ n ∈ gone, n ∈ numsOf ls := fun n hn => by
          rw [← hgo] at hn
          rcases resting_sub k ls n hn with e | e
          · rw [e]; exact hk
          · exact e
        refine q_forLn (K := K) (xs := natV gone) (ev_var (i := 2) rfl) (sq_of haG) (fun i σ H' => ∃ y, σ = [some (.ref b), some (.int (k : Int)), some (.ref aG), y] ∧ ExB g.dl H3 H' ∧ H' g.dl = some (.dK (kvs.filter (offK (gone.take i)))))
          (fun H4 e4 => ⟨none, rfl, ExB.of e4, by
            rw [e4 _ _ l13]
            congr 2
            exact (List.filter_eq_self.mpr fun kv _ => rfl).symm⟩) (fun i σ H' _ ⟨_, _, e, _⟩ => sq_of (e _ _ nGd haG)) ?_ ?_
        · rintro i v σ H' hi ⟨y, rfl, eB, hd⟩
          unfold natV at hi
          obtain ⟨n, hn, rfl, hnm⟩ := map_at hi
          have hob : H' b = some (.ins D.c_Book g.dx (bF u g.al g.dl nx g.ml)) := eB _ _ nbd hB3.at_.ob
          have hlt : i < gone.length := (List.getElem?_eq_some_iff.mp hn).1
          have nin : n ∉ gone.take i := fun m => by
            obtain ⟨j, hj, ej⟩ := List.getElem_of_mem m
            rw [List.length_take] at hj
            rw [List.getElem_take] at ej
            have hn' : gone[i] = n := by
              rw [List.getElem?_eq_getElem hlt] at hn
              exact Option.some.inj hn
            have := (List.getElem_inj gnd).mp (ej.trans hn'.symm)
            omega
          obtain ⟨z, hz1, hz2⟩ := List.mem_map.mp (gsub n hnm)
          have hz2 : z.num = n := hz2
          have lf := off_lines (gone.take i) l23
          obtain ⟨pv, hpv⟩ : ∃ pv, valV (kvs.filter (offK (gone.take i))) (Sum.inl (n : Int)) = some pv := by
            rcases val_lines (k := n) lf with ⟨_, pv, _, _, h, _⟩ | ⟨h, _⟩
            · exact ⟨_, h⟩
            · unfold Sm15.lineAt at h
              rw [List.find?_eq_none] at h
              exact absurd (by simpa using hz2) (h z (List.mem_filter.mpr ⟨hz1, by rw [hz2]; simpa using nin⟩))
          refine ⟨.ref b, rfl, b, D.c_Book, g.dx, _, _, rfl, hob, T.k_Book, T.x_Book_lines, bF_lines, g.dl, rfl, .inl ⟨_, .inl hd⟩, .int (n : Int), rfl, _, Sum.inl (n : Int), pv, hd, rfl, hpv, ?_⟩
          refine ⟨_, rfl, eB.trans ExB.upd, ?_⟩
          rw [upd_same, off_drop, List.take_add_one, hn]
          rfl
        · rintro σ H' ⟨y, rfl, eB, hd⟩
          have gl : (natV gone).length = gone.length := by unfold natV; rw [List.length_map]
          rw [gl, List.take_length] at hd
          have hBf : Bk K D H' O b g u as (ls.filter fun x => !gone.contains x.num) nx :=
            ⟨⟨eB _ _ nbd hB3.at_.ob, ⟨ps, eB _ _ nad a1, pr_imp (fun _ _ => eB.atom (soft_dK l13)) a2⟩, ⟨_, hd, off_lines gone (eB.lines (soft_dK l13) (noline_dK l13) l23)⟩, hB3.at_.mks.atDl eB l13⟩, fun c o hc => eB _ _ (ne_of_none hc hB3.nl) (hB3.rest c o hc), hB3.nb, hB3.na, hB3.nl, hB3.nm, hB3.nr⟩
          have hm := ev_lenL (K := K) (σ := [some (.ref b), some (.int (k : Int)), some (.ref aG), y]) (H := H') (ta := tVar 2) (ev_var rfl) (sq_of (eB _ _ nGd haG))
          rw [gl] at hm
          exact s_ret hm fun H5 e5 => q H5 (hBf.ex e5)
end
end Cp
/-! Cp13 -/
namespace Cp
open PySem PySem.Spec PyProof.Rows L2 Evl
/-! ### lists put together -/
section
variable {K : PySem.W.Frag} {σ : L2.St} {H H' : Hp} {ta tb te tl : TE}
theorem el_cat {xs ys : List V} (ha : EvL ta σ H xs) (hb : EvL tb σ H ys) (hz : xs.length + ys.length ≤ 100000) : EvL (tOp rCat ta tb) σ H (xs ++ ys) := fun H1 e Q q =>
  ha H1 e _ fun p H2 np e2 hp => hb H2 (e.trans e2) _ fun r H3 nr e3 hr => ⟨p, r, xs, ys, rfl, rfl, e3 _ _ hp, hr, sz_of hz, fun t nt => q t _ (fresh_back (e2.trans e3) nt) ((e2.trans e3).trans (Ex.new nt)) upd_same⟩
theorem el_listQ {p : Addr} {xs : List V} (ha : Ev ta σ H (.ref p)) (h : SqQ K H p xs) : EvL (tCB (fun xs H Q => ∃ p ys, xs = [V.ref p] ∧ (SqL K H p ys ∨ SqT K H p ys) ∧ ∀ l, H l = none → Q (.ref l) (upd H l (.lst ys))) (tCons ta tNil)) σ H xs := fun H1 e Q q =>
  ha H1 e _ fun H2 e2 => ⟨p, xs, rfl, ex_q (e.trans e2) h, fun l hl => q l _ (fresh_back e2 hl) (e2.trans (Ex.new hl)) upd_same⟩
theorem ev_lenQ {a : Addr} {xs : List V} (h : Ev ta σ H (.ref a)) (hx : SqQ K H a xs) : Ev (tCB (fun xs H Q => ∃ p ys, xs = [V.ref p] ∧ (SqL K H p ys ∨ SqT K H p ys) ∧ Q (.int ys.length) H) (tCons ta tNil)) σ H (.int (xs.length : Int)) := fun H1 e Q q =>
  h H1 e _ fun H2 e2 => ⟨a, xs, rfl, ex_q (e.trans e2) hx, q H2 e2⟩
/-- a call with a new list -/
theorem el_callL1 {sp : Sp} {E : XK} {xs ys : List V} (h : EvL te σ H xs) (hs : ∀ p H1, Ex H H1 → H1 p = some (.lst xs) → ∀ Q : VK, RetL ys H1 Q → ∀ E, sp [.ref p] H1 Q E) : EvL (tCall sp [] E (tCons te tNil)) σ H ys := fun H1 e Q q =>
  h H1 e _ fun p H2 _ e2 hp => hs p H2 (e.trans e2) hp Q (fun r H3 nr e3 hr => q r H3 (fresh_back e2 nr) (e2.trans e3) hr) E
theorem el_methL1 {D : Ad} {a C dx : Addr} {fs : List (Str × V)} {m : Str} {sp : Sp} {xs ys : List V} {E : XK} (h : Ev te σ H (.ref a)) (ho : H a = some (.ins C dx fs)) (hl : fs.lookup m = none) (hr : EvL ta σ H xs) (hs : ∀ p H1, Ex H H1 → H1 p = some (.lst xs) → ∀ Q : VK, RetL ys H1 Q → ∀ E, sp [.ref a, .ref p] H1 Q E) :
    EvL (tMeth C m sp [] E te (tCons ta tNil)) σ H ys := fun H1 e Q q =>
  h H1 e _ fun H2 e2 => ⟨a, dx, fs, rfl, (e.trans e2) a _ ho, hl, hr H2 (e.trans e2) _ fun p H3 np e3 hp => hs p H3 ((e.trans e2).trans e3) hp Q (fun r H4 nr e4 hr4 => q r H4 (fresh_back (e2.trans e3) nr) ((e2.trans e3).trans e4) hr4) E⟩
end
def counts (l : List Int) : List Int := (l.length : Int) :: l
theorem ints_cons (a : Int) (l : List Int) : V.int a :: l.map V.int = (a :: l).map V.int := rfl
section
variable {P : Program} {w : World} {K : PySem.W.Frag} {mg : Str → Option Value} {base : Heap} {D : Ad}
/-! ### counted -/
def spCt (K : PySem.W.Frag) : Sp := fun vs H Q _ => ∃ (a : Addr) (l : List Int), vs = [.ref a] ∧ SqQ K H a (l.map V.int) ∧ l.length ≤ 50000 ∧ RetL ((counts l).map V.int) H Q
theorem ok_counted (T : Txt K mg D) : FnOk P w K mg base CX0 1 D.a_counted D.d_counted ["numbers"] (spCt K) := by
  refine T.f_counted.ok sc_counted (fun vs H Q E h => ?_) (fun cdv A outer s H vs Q E hr h => ?_)
  · obtain ⟨_, _, rfl, _⟩ := h
    rfl
  · obtain ⟨a, l, rfl, hS, hz, q⟩ := h
    refine ⟨_, (pss_one (ps_ret (pe_op op_cat (pe_lst (pa_cons (pe_callB call_len_seq (by rfl) T.b_len PySem.boot_len (pa_cons (pv 0) pa_nil)) pa_nil)) (pe_callTy call_list_of (by rfl) T.b_list (by decide +kernel) (pa_cons (pv 0) pa_nil))))), ?_⟩
    have hl := ev_lenQ (K := K) (σ := [some (.ref a)]) (H := H) (ta := tVar 0) (ev_var rfl) hS
    rw [List.length_map] at hl
    exact s_retL (el_cat (el_lst (ea_cons hl ea_nil) (by show 1 ≤ 100000; decide)) (el_listQ (K := K) (ev_var (i := 0) rfl) hS) (by rw [List.length_map]; show 1 + l.length ≤ _; omega)) q
/-- counted(..) -/
theorem el_counted {σ : L2.St} {H : Hp} {te : TE} {a : Addr} {l : List Int} {E : XK} (h : Ev te σ H (.ref a)) (hS : SqQ K H a (l.map V.int)) (hz : l.length ≤ 50000) : EvL (tCall (spCt K) [] E (tCons te tNil)) σ H ((counts l).map V.int) := el_call (dvs := []) (ea_cons h ea_nil) fun H1 e1 Q q E => ⟨a, l, rfl, ex_q e1 hS, hz, q⟩
theorem el_countedL {σ : L2.St} {H : Hp} {te : TE} {l : List Int} {E : XK} (h : EvL te σ H (l.map V.int)) (hz : l.length ≤ 50000) : EvL (tCall (spCt K) [] E (tCons te tNil)) σ H ((counts l).map V.int) := el_callL1 h fun p H1 e1 hp Q q E => ⟨p, l, rfl, .inl (sq_of hp), hz, q⟩
/-! ### show -/
def showR (ls : List Sm15.Line) (k : Nat) : List Int := match Sm15.lineAt ls k with
  | none => [-3]
  | some x => Sm15.ints (Sm15.codeOf x.way) ++ (x.clause.length : Int) :: x.clause
theorem code_is (way : Sm15.Way) : Sm15.ints (Sm15.codeOf way) = wayNo way :: counts (namedOf way) := by
  cases way with
  | chain l =>
    unfold Sm15.ints Sm15.codeOf counts namedOf wayNo
    rw [List.map_cons, List.map_cons, List.length_map]
    rfl
  | _ => rfl
theorem named_len (way : Sm15.Way) : (namedOf way).length ≤ (Sm15.sources way).length + 1 := by
  cases way with
  | chain l =>
    show (l.map fun (n : Nat) => (n : Int)).length ≤ l.length + 1
    rw [List.length_map]
    omega
  | claim => exact Nat.zero_le _
  | bounds => exact Nat.zero_le _
  | joined i j a => show 3 ≤ 3; decide
  | wider i => show 1 ≤ 2; decide
def spShow (K : PySem.W.Frag) (D : Ad) : Sp := fun vs H Q _ => ∃ (b : Addr) (g : Pl) (u : Nat) (as : List Sm15.Atom) (ls : List Sm15.Line) (nx k : Nat), vs = [.ref b, .int (k : Int)] ∧ BookAt K D H b g u as ls nx ∧ (∀ x ∈ ls, (Sm15.sources x.way).length ≤ 1000 ∧ x.clause.length ≤ 1000) ∧ RetL ((showR ls k).map V.int) H Q
theorem ok_Book_show (T : Txt K mg D) : FnOk P w K mg base CX0 2 D.a_Book_show D.d_Book_show ["self", "k"] (spShow K D) := by
  refine T.f_Book_show.ok sc_Book_show (fun vs H Q E h => ?_) (fun cdv A outer s H vs Q E hr h => ?_)
  · obtain ⟨_, _, _, _, _, _, _, rfl, _⟩ := h
    rfl
  · obtain ⟨b, g, u, as, ls, nx, k, rfl, hB, hsz, q⟩ := h
    refine ⟨_, (pss_cons (ps_if (pt_cmp (pc_dnotin (hu_of hr) (pv 1) (pe_fld (pv 0) rfl))) (pss_one (ps_ret (pe_lst (pa_cons (pe_gi (by rfl) T.c_NO_LINE) pa_nil)))) pss_nil)
      (pss_cons (ps_set (i := 2) sc_Book_show.nd rfl (Or.inl rfl) (pe_dget (hu_of hr) (pe_fld (pv 0) rfl) (pv 1) (fun _ _ => rfl)))
      (pss_one (ps_ret (pe_op op_cat (pe_op op_cat (pe_lst (pa_cons (pe_fld (pv 2) rfl) pa_nil)) (pe_call (ok_counted T) hr (by rfl) T.g_counted T.f_counted.kp T.n_counted .nil pass0 (pa_cons (pe_fld (pv 2) rfl) pa_nil))) (pe_call (ok_counted T) hr (by rfl) T.g_counted T.f_counted.kp T.n_counted .nil pass0 (pa_cons (pe_fld (pv 2) rfl) pa_nil))))))), ?_⟩
    obtain ⟨kvs, l1, l2⟩ := hB.ln
    refine q_when (et_B (ev_dni (k := (k : Int)) (ev_var (i := 1) rfl) (rb_lines T hB (ev_var (i := 0) rfl)) (.inl l1))) (fun hb H1 e1 => ?_) (fun hb H1 e1 => ?_)
    · rcases val_lines (k := k) l2 with ⟨x, p, _, _, h, _⟩ | ⟨h, _⟩
      · rw [h] at hb; cases hb
      · unfold showR at q
        rw [h] at q
        exact s_retL (el_lst (ea_cons ev_c ea_nil) (by show 1 ≤ 100000; decide)) fun p H2 np e2 hp => q p H2 (fresh_back e1 np) (e1.trans e2) hp
    · rcases val_lines (k := k) l2 with ⟨x, p, hx, hxm, hv, hl⟩ | ⟨_, h⟩
      rotate_left
      · rw [h] at hb; cases hb
      unfold showR at q
      rw [hx] at q
      dsimp only at q
      refine q_asg (ev_dget (rb_lines T (hB.ex e1) (ev_var (i := 0) rfl)) (ev_var (i := 1) rfl) (.inl (e1 _ _ l1)) hv) fun H2 e2 => ?_
      obtain ⟨dx, tn, tc, hp, hn, hc⟩ := hl.ex (e1.trans e2)
      have s1 := (hsz x hxm).1
      have s2 := (hsz x hxm).2
      have nl := named_len x.way
      have fw : Ev (tFld K (tVar 2) "way") [some (.ref b), some (.int (k : Int)), some (.ref p)] H2 (.int (wayNo x.way)) := ev_fld (ev_var (i := 2) rfl) hp T.k_Line T.x_Line_way lF_way
      have fn : Ev (tFld K (tVar 2) "named") [some (.ref b), some (.int (k : Int)), some (.ref p)] H2 (.ref tn) := ev_fld (ev_var (i := 2) rfl) hp T.k_Line T.x_Line_named lF_named
      have fc : Ev (tFld K (tVar 2) "clause") [some (.ref b), some (.int (k : Int)), some (.ref p)] H2 (.ref tc) := ev_fld (ev_var (i := 2) rfl) hp T.k_Line T.x_Line_clause lF_clause
      have gg := el_cat (el_cat (el_lst (ea_cons fw ea_nil) (by show 1 ≤ 100000; decide)) (el_counted (K := K) (E := E0) fn (.inr hn) (by omega)) (by rw [List.length_map]; show 1 + ((namedOf x.way).length + 1) ≤ _; omega)) (el_counted (K := K) (E := E0) fc (.inr (st_of hc)) (by omega)) (by
        rw [List.length_append, List.length_map, List.length_map]
        show 1 + ((namedOf x.way).length + 1) + (x.clause.length + 1) ≤ _
        omega)
      refine s_retL gg fun r H3 nr e3 hr => q r H3 (fresh_back (e1.trans e2) nr) ((e1.trans e2).trans e3) ?_
      rw [hr, code_is]
      simp [counts]
/-! ### ancestry -/
def fd (ks : List Nat) : List (Key × V) := ks.map fun (n : Nat) => (Sum.inl (n : Int), V.bl true)
theorem fd_val (ks : List Nat) (n : Nat) : (valV (fd ks) (Sum.inl (n : Int))).isSome = ks.contains n := by
  rw [← valV_any]
  unfold fd
  rw [List.any_map, Bool.eq_iff_iff, List.any_eq_true, List.contains_iff_mem]
  constructor
  · rintro ⟨m, hm, e⟩
    have e := Sum.inl.inj (of_decide_eq_true e)
    have : m = n := by omega
    exact this ▸ hm
  · intro h
    exact ⟨n, h, decide_eq_true rfl⟩
theorem fd_put (ks : List Nat) (n : Nat) : putK (fd ks) (Sum.inl (n : Int)) (.bl true) = fd (if ks.contains n = true then ks else ks ++ [n]) := by
  unfold putK
  rw [valV_any, fd_val]
  by_cases h : ks.contains n = true
  · rw [if_pos h, if_pos h]
    unfold fd
    rw [List.map_map]
    refine List.map_congr_left fun m _ => ?_
    show (if (Sum.inl (m : Int) : Key) = Sum.inl (n : Int) then (Sum.inl (m : Int), V.bl true) else (Sum.inl (m : Int), V.bl true)) = _
    split <;> rfl
  · rw [if_neg h, if_neg h]
    unfold fd
    rw [List.map_append]
    rfl
def addN (m : List Nat) (n : Nat) : List Nat := if m.contains n = true then m else m ++ [n]
theorem addN_nodup {m : List Nat} {n : Nat} (h : m.Nodup) : (addN m n).Nodup := by
  unfold addN
  split
  · exact h
  · rename_i c
    rw [List.nodup_append]
    refine ⟨h, List.nodup_cons.mpr ⟨by simp, List.nodup_nil⟩, fun a ha b hb e => ?_⟩
    have : b = n := by simpa using hb
    subst this
    subst e
    exact c (by simpa using ha)
theorem addN_mem {m : List Nat} {n : Nat} {q : List Nat} (h : ∀ x ∈ m, x ∈ q) (hn : n ∈ q) : ∀ x ∈ addN m n, x ∈ q := fun x hx => by
  unfold addN at hx
  split at hx
  · exact h x hx
  · rcases List.mem_append.mp hx with z | z
    · exact h x z
    · rw [List.mem_singleton.mp z]; exact hn
def spAn (K : PySem.W.Frag) (D : Ad) : Sp := fun vs H Q _ => ∃ (b : Addr) (g : Pl) (u : Nat) (as : List Sm15.Atom) (ls : List Sm15.Line) (nx k : Nat), vs = [.ref b, .int (k : Int)] ∧ BookAt K D H b g u as ls nx ∧ ls.length ≤ 20000 ∧ WfL ls ∧ k ∈ numsOf ls ∧ RetL (natV (Sm15.cameOf ls k)) H Q
theorem ok_Book_ancestry (T : Txt K mg D) : FnOk P w K mg base CX0 2 D.a_Book_ancestry D.d_Book_ancestry ["self", "k"] (spAn K D) := by
  refine T.f_Book_ancestry.ok sc_Book_ancestry (fun vs H Q E h => ?_) (fun cdv A outer s H vs Q E hr h => ?_)
  · obtain ⟨_, _, _, _, _, _, _, rfl, _⟩ := h
    rfl
  · obtain ⟨b, g, u, as, ls, nx, k, rfl, hB, hz, wf, hk, q⟩ := h
    refine ⟨_, (pss_cons (ps_set (i := 2) sc_Book_ancestry.nd rfl (Or.inl rfl) (pe_disp (pps_cons (pv 1) pe_bl pps_nil) rfl rfl (fun z => nomatch z) (by show 1 ≤ 15; decide)))
      (pss_cons (ps_for PassesOwn.never rfl (pi_reversed (by rfl) T.b_reversed (pa_cons (pe_callTy (call_listD (by rfl)) (by rfl) T.b_list (by decide +kernel) (pa_cons (pe_fld (pv 0) rfl) pa_nil)) pa_nil)) (pg_name (i := 3) sc_Book_ancestry.nd rfl (Or.inl rfl)) (pss_one (ps_if (pt_cmp (pc_din (hu_of hr) (pv 3) (pv 2))) (pss_one (ps_for PassesOwn.never rfl (pi_tup (pe_meth0 (pe_dget (hu_of hr) (pe_fld (pv 0) rfl) (pv 3) (fun _ _ => rfl)) T.k_Line T.t_Line_sources (ok_Line_sources T) hr T.n_Line_sources .nil pass0)) (pg_name (i := 4) sc_Book_ancestry.nd rfl (Or.inl rfl)) (pss_one (ps_dput (hu_of hr) (pv 2) (pv 4) pe_bl rfl)))) pss_nil)))
      (pss_one (ps_ret (pe_callB (cr_sortDB (by rfl)) (by rfl) T.b_sorted (by decide +kernel) (pa_cons (pv 2) pa_nil)))))), ?_⟩
    -- found = {k: True}
    intro f nf
    refine ⟨.int (k : Int), rfl, upd_same, [(Sum.inl (k : Int), .bl true)], rfl, by show 1 ≤ 15; decide, ?_⟩
    rw [upd_over, show mergeK [] [((Sum.inl (k : Int) : Key), V.bl true)] = fd [k] from rfl]
    have e1 : Ex H (upd H f (.dK (fd [k]))) := Ex.new nf
    have hf1 : (upd H f (.dK (fd [k]))) f = some (.dK (fd [k])) := upd_same
    generalize upd H f (.dK (fd [k])) = H1 at *
    have hB1 := hB.ex e1
    obtain ⟨kvs0, l10, l20⟩ := hB.ln
    have nfd : g.dl ≠ f := ne_of_none l10 nf
    have nfb : b ≠ f := ne_of_none hB.ob nf
    have kl := pr_len l20
    -- reversed(list(self.lines))
    have keys : kvs0.map (fun kv => kV kv.1) = natV (numsOf ls) := by
      have go : ∀ {kvs : List (Key × V)} {l : List Sm15.Line}, LinesAt K D.c_Line H kvs l → kvs.map (fun kv => kV kv.1) = natV (numsOf l) := by
        intro kvs l h
        induction h with
        | nil => rfl
        | cons h t ih =>
          rw [List.map_cons, ih, h.1]
          rfl
      exact go l20
    refine ⟨.ref b, rfl, b, D.c_Book, g.dx, _, _, rfl, hB1.ob, T.k_Book, T.x_Book_lines, bF_lines, g.dl, kvs0, rfl, .inl (e1 _ _ l10), fun aN naN => ?_⟩
    rw [keys]
    have e2 : Ex H1 (upd H1 aN (.lst (natV (numsOf ls)))) := Ex.new naN
    have hN2 : (upd H1 aN (.lst (natV (numsOf ls)))) aN = some (.lst (natV (numsOf ls))) := upd_same
    have nNf : aN ≠ f := fun z => by rw [z, hf1] at naN; cases naN
    have hf2 := e2 _ _ hf1
    generalize upd H1 aN (.lst (natV (numsOf ls))) = H2 at *
    have nl : (natV (numsOf ls)).length = ls.length := by rw [natV_len, nums_len]
    refine ⟨aN, _, rfl, sq_of hN2, ?_⟩
    have rd : ∀ {H'}, ExB f H2 H' → BookAt K D (hidT f H') b g u as ls nx := fun {H'} eB => by
      have ee : Ex H (hidT f H') := fun c o h => hidT_at (ne_of_none h nf) (eB _ _ (ne_of_none h nf) (e2 _ _ (e1 _ _ h)))
      exact hB.ex ee
    refine for_it walk_rev (fun i σ H' => ∃ (y3 y4 : Option V) (cur : List Nat), σ = [some (.ref b), some (.int (k : Int)), some (.ref f), y3, y4] ∧ ExB f H2 H' ∧ H' f = some (.dK (fd cur)) ∧ cur.Nodup ∧ (∀ n ∈ cur, n ∈ numsOf ls) ∧ wantN ls.reverse [k] = wantN (ls.reverse.drop i) cur)
      ⟨none, none, [k], rfl, ExB.refl _ _, hf2, List.nodup_cons.mpr ⟨by simp, List.nodup_nil⟩, fun n hn => by rw [List.mem_singleton.mp hn]; exact hk, rfl⟩ (fun i σ H' _ ⟨_, _, _, _, e, _⟩ => sq_of (e _ _ nNf hN2)) ?_ ?_
    · rintro i x σ H' H'' hi ⟨y3, y4, cur, rfl, eB, hf, hnd, hin, hw⟩ ⟨rfl, hx⟩
      rw [nl] at hi hx
      have hir : i < ls.reverse.length := by rw [List.length_reverse]; exact hi
      -- the line
      have hline : ls.reverse[i] = ls[ls.length - 1 - i] := by rw [List.getElem_reverse]
      have lt : ls.length - 1 - i < ls.length := by omega
      have hx' : x = .int ((ls.reverse[i].num : Nat) : Int) := by
        unfold natV numsOf at hx
        rw [List.getElem?_map, List.getElem?_map, List.getElem?_eq_getElem lt] at hx
        rw [hline]
        exact (Option.some.inj hx).symm
      subst hx'
      have drop : ls.reverse.drop i = ls.reverse[i] :: ls.reverse.drop (i + 1) := List.drop_eq_getElem_cons hir
      generalize hln : ls.reverse[i] = ln at *
      have lm : ln ∈ ls := by rw [← hln]; exact List.mem_reverse.mp (List.getElem_mem hir)
      rw [drop] at hw
      show tIfS _ _ _ _ [some (.ref b), some (.int (k : Int)), some (.ref f), some (.int ((ln.num : Nat) : Int)), y4] H''
      refine s_when (et_is (et_test (ev_din (k := (ln.num : Int)) (ev_var (i := 3) rfl) (ev_var (i := 2) rfl) (.inl hf))) (fd_val cur ln.num)) (fun hb H3 e3 => ?_) (fun hb H3 e3 => ?_)
      · have hw2 : wantN ls.reverse [k] = wantN (ls.reverse.drop (i + 1)) ((Sm15.sources ln.way).foldl addN cur) := by
          rw [hw]
          show (if cur.contains ln.num = true then _ else _) = _
          rw [if_pos hb]
          rfl
        have eB3 : ExB f H2 H3 := eB.trans (ExB.of e3)
        have hB3 := (rd eB3).ex hidT_sub
        obtain ⟨kvs, l1, l2⟩ := (rd eB3).ln
        rcases val_lines (k := ln.num) l2 with ⟨y, p, h1, h2, h3, h4⟩ | ⟨h1, _⟩
        rotate_left
        · rw [lineAt_self wf.nodup lm] at h1
          cases h1
        rw [lineAt_self wf.nodup lm] at h1
        have h1 : ln = y := Option.some.inj h1
        subst h1
        have l13 := hidT_sub _ _ l1
        have hp3 := h4.ex hidT_sub
        -- for source in self.lines[number].sources()
        refine (es_sources (K := K) (D := D) (E := E0) (te := tDGet (tFld K (tVar 0) "lines") (tVar 3)) (ev_dget (rb_lines T hB3 (ev_var (i := 0) rfl)) (ev_var (i := 3) rfl) (.inl l13) h3) hp3) H3 (Ex.refl _) _ fun t H4 e4 ht => ⟨t, rfl, ⟨_, ht⟩, ?_⟩
        have eB4 : ExB f H2 H4 := eB3.trans (ExB.of e4)
        have hf4 : H4 f = some (.dK (fd cur)) := e4 _ _ (e3 _ _ hf)
        have tf : ∀ {H'}, ExB f H4 H' → SqT K H' t ((Sm15.sources ln.way).map fun (n : Nat) => V.int (n : Int)) := fun e => e.sq (soft_dK hf4) ht
        have srcs : ∀ n ∈ Sm15.sources ln.way, n ∈ numsOf ls := fun n hn => by
          obtain ⟨pre, post, e⟩ := List.append_of_mem lm
          have := (wf_iff.mp wf pre ln post e).2 n hn
          rw [e]
          exact nums_more this
        refine for_tup (fun j σ H' => ∃ y4 cur', σ = [some (.ref b), some (.int (k : Int)), some (.ref f), some (.int ((ln.num : Nat) : Int)), y4] ∧ ExB f H4 H' ∧ H' f = some (.dK (fd cur')) ∧ cur' = ((Sm15.sources ln.way).take j).foldl addN cur ∧ cur'.Nodup ∧ ∀ n ∈ cur', n ∈ numsOf ls)
          ⟨y4, cur, rfl, ExB.refl _ _, hf4, rfl, hnd, hin⟩ (fun j σ H' _ ⟨_, _, _, e, _⟩ => tf e) ?_ ?_
        · rintro j x σ H5 hj ⟨y4, cur', rfl, eB5, hf5, hcur, hnd5, hin5⟩
          obtain ⟨n, hn, rfl, hnm⟩ := map_at hj
          have cl : cur'.length ≤ ls.length := by
            have := nodup_len hnd5 hin5
            rw [nums_len] at this
            exact this
          refine ⟨.ref f, rfl, .int (n : Int), rfl, f, _, rfl, DPut.k (k := Sum.inl (n : Int)) hf5 (sz_lt (by unfold fd; rw [List.length_map]; omega)), ?_⟩
          refine ⟨_, addN cur' n, rfl, eB5.trans ExB.upd, by rw [upd_same, fd_put]; rfl, ?_, addN_nodup hnd5, addN_mem hin5 (srcs n hnm)⟩
          rw [List.take_add_one, hn, List.foldl_append, ← hcur]
          rfl
        · rintro σ H5 ⟨y4, cur', rfl, eB5, hf5, hcur, hnd5, hin5⟩
          rw [List.length_map, List.take_length] at hcur
          exact ⟨_, _, cur', rfl, eB4.trans eB5, hf5, hnd5, hin5, by rw [hw2, ← hcur]⟩
      · refine ⟨_, _, cur, rfl, eB.trans (ExB.of e3), e3 _ _ hf, hnd, hin, ?_⟩
        rw [hw]
        show (if cur.contains ln.num = true then _ else _) = _
        rw [if_neg (by rw [hb]; decide)]
    · rintro σ H' ⟨y3, y4, cur, rfl, eB, hf, hnd, hin, hw⟩
      rw [nl, List.drop_eq_nil_of_le (by rw [List.length_reverse]; omega)] at hw
      have hw : wantN ls.reverse [k] = cur := hw
      refine ⟨.ref f, rfl, f, fd cur, cur.map fun (n : Nat) => (n : Int), rfl, .inl hf, by unfold fd; rw [List.map_map, List.map_map]; rfl, fun ys p pm pw np => ?_⟩
      have same : ∀ n, n ∈ cur ↔ n ∈ Sm15.cameOf ls k := fun n => by rw [← hw]; exact wants_came wf hk n
      have rs : Ris (Sm15.cameOf ls k) := ris_rising _
      have pc : cur.Perm (Sm15.cameOf ls k) := (List.perm_ext_iff_of_nodup hnd (rs.imp fun {a b} h e => by omega)).mpr same
      have ey : ys = (Sm15.cameOf ls k).map fun (n : Nat) => (n : Int) := sorted_one (pm.trans (pc.map _)) pw (List.pairwise_map.mpr (rs.imp fun {a b} h => by omega))
      refine q p _ (fresh_back (ExB.new (Ex.refl H) nf ((ExB.of (e1.trans e2)).trans eB)) np) ((ExB.new (Ex.refl H) nf ((ExB.of (e1.trans e2)).trans eB)).trans (Ex.new np)) ?_
      rw [upd_same, ey, natV_ints]
end
end Cp
/-! Cp14 -/
namespace Cp
open PySem PySem.Spec PyProof.Rows L2 Evl
section
variable {P : Program} {w : World} {K : PySem.W.Frag} {mg : Str → Option Value} {base : Heap} {D : Ad}
/-! ### rests, came -/
theorem nat_map (l : List Nat) : natV l = (Sm15.ints l).map V.int := natV_ints l
def restsR (ls : List Sm15.Line) (k : Nat) : List Int := if (Sm15.lineAt ls k).isNone = true then [-3] else counts (Sm15.ints (Sm15.rests ls k))
def cameR (ls : List Sm15.Line) (k : Nat) : List Int := if (Sm15.lineAt ls k).isNone = true then [-3] else counts (Sm15.ints (Sm15.cameOf ls k))
theorem ints_len (l : List Nat) : (Sm15.ints l).length = l.length := by unfold Sm15.ints; rw [List.length_map]
theorem came_len {ls : List Sm15.Line} (wf : WfL ls) {k : Nat} (hk : k ∈ numsOf ls) : (Sm15.cameOf ls k).length ≤ ls.length := by
  have := nodup_len (a := Sm15.cameOf ls k) ((ris_rising _).imp fun {a b} h e => by omega) fun n hn => ((came_iff wf hk).mp hn).num
  rw [nums_len] at this
  exact this
def spRc (K : PySem.W.Frag) (D : Ad) (f : List Sm15.Line → Nat → List Int) : Sp := fun vs H Q _ => ∃ (b : Addr) (g : Pl) (u : Nat) (as : List Sm15.Atom) (ls : List Sm15.Line) (nx k : Nat), vs = [.ref b, .int (k : Int)] ∧ BookAt K D H b g u as ls nx ∧ ls.length ≤ 20000 ∧ WfL ls ∧ RetL ((f ls k).map V.int) H Q
theorem claimB_is {ls : List Sm15.Line} : ∀ n ∈ numsOf ls, (claimB ls n = true ↔ isClaim ls n) := fun n hn => by
  obtain ⟨x, hx⟩ := has_line.mp hn
  unfold claimB isClaim
  rw [hx]
  dsimp only
  rw [decide_eq_true_eq, wayNo_is.2.2.2]
  constructor
  · intro h
    exact ⟨x, rfl, h⟩
  · rintro ⟨y, e, h⟩
    cases e
    exact h
theorem el_anc {σ : L2.St} {H : Hp} {b : Addr} {g : Pl} {u : Nat} {as : List Sm15.Atom} {ls : List Sm15.Line} {nx k : Nat} {te tk : TE} (hB : BookAt K D H b g u as ls nx) (hz : ls.length ≤ 20000) (wf : WfL ls) (hk : k ∈ numsOf ls) (h1 : Ev te σ H (.ref b)) (h2 : Ev tk σ H (.int (k : Int))) :
    EvL (tMeth D.c_Book "ancestry" (spAn K D) [] E0 te (tCons tk tNil)) σ H (natV (Sm15.cameOf ls k)) := el_meth (D := D) h1 hB.ob (bF_m (by decide +kernel)) (ea_cons h2 ea_nil) fun H1 e1 Q q E => ⟨b, g, u, as, ls, nx, k, rfl, hB.ex e1, hz, wf, hk, q⟩
theorem ok_Book_rests (T : Txt K mg D) : FnOk P w K mg base CX0 3 D.a_Book_rests D.d_Book_rests ["self", "k"] (spRc K D restsR) := by
  refine T.f_Book_rests.ok sc_Book_rests (fun vs H Q E h => ?_) (fun cdv A outer s H vs Q E hr h => ?_)
  · obtain ⟨_, _, _, _, _, _, _, rfl, _⟩ := h
    rfl
  · obtain ⟨b, g, u, as, ls, nx, k, rfl, hB, hz, wf, q⟩ := h
    refine ⟨_, (pss_cons (ps_if (pt_cmp (pc_dnotin (hu_of hr) (pv 1) (pe_fld (pv 0) rfl))) (pss_one (ps_ret (pe_lst (pa_cons (pe_gi (by rfl) T.c_NO_LINE) pa_nil)))) pss_nil)
      (pss_one (ps_ret (pe_call (ok_counted T) (hr.mono (by decide)) (by rfl) T.g_counted T.f_counted.kp T.n_counted .nil pass0 (pa_cons (pe_meth (pv 0) T.k_Book T.t_Book_claims_among (ok_Book_claims_among T) (hr.mono (by decide)) T.n_Book_claims_among .nil pass0 (pa_cons (pe_meth (pv 0) T.k_Book T.t_Book_ancestry (ok_Book_ancestry T) hr T.n_Book_ancestry .nil pass0 (pa_cons (pv 1) pa_nil)) pa_nil)) pa_nil))))), ?_⟩
    obtain ⟨kvs, l1, l2⟩ := hB.ln
    unfold restsR at q
    refine q_when (et_B (ev_dni (k := (k : Int)) (ev_var (i := 1) rfl) (rb_lines T hB (ev_var (i := 0) rfl)) (.inl l1))) (fun hb H1 e1 => ?_) (fun hb H1 e1 => ?_)
    · rcases val_lines (k := k) l2 with ⟨x, p, _, _, h, _⟩ | ⟨h, _⟩
      · rw [h] at hb; cases hb
      · rw [h, if_pos Option.isNone_none] at q
        exact s_retL (el_lst (ea_cons ev_c ea_nil) (by show 1 ≤ 100000; decide)) fun p H2 np e2 hp => q p H2 (fresh_back e1 np) (e1.trans e2) hp
    · rcases val_lines (k := k) l2 with ⟨x, p, hx, hxm, hv, hl⟩ | ⟨_, h⟩
      rotate_left
      · rw [h] at hb; cases hb
      rw [hx, if_neg (by exact Bool.false_ne_true)] at q
      have hk : k ∈ numsOf ls := has_line.mpr ⟨x, hx⟩
      have hB1 := hB.ex e1
      have cl := came_len wf hk
      have fl : ((Sm15.cameOf ls k).filter (claimB ls)).length ≤ ls.length := Nat.le_trans (List.length_filter_le _ _) cl
      have gg := el_methL1 (D := D) (E := E0) (m := "claims_among") (sp := spCa K D) (te := tVar 0) (ys := natV ((Sm15.cameOf ls k).filter (claimB ls))) (ev_var rfl) hB1.ob (bF_m (by decide +kernel)) (el_anc (te := tVar 0) (tk := tVar 1) (σ := [some (.ref b), some (.int (k : Int))]) hB1 hz wf hk (ev_var rfl) (ev_var rfl))
        fun p H2 e2 hp Q2 q2 E2 => ⟨b, g, u, as, ls, nx, p, Sm15.cameOf ls k, rfl, hB1.ex e2, by omega, fun n hn => ((came_iff wf hk).mp hn).num, .inr hp, q2⟩
      rw [rests_prog wf hk _ claimB_is, nat_map] at gg
      rw [rests_prog wf hk _ claimB_is] at fl
      exact s_retL (el_countedL (K := K) (E := E0) gg (by rw [ints_len]; omega)) fun r H3 nr e3 hr => q r H3 (fresh_back e1 nr) (e1.trans e3) hr
theorem ok_Book_came (T : Txt K mg D) : FnOk P w K mg base CX0 3 D.a_Book_came D.d_Book_came ["self", "k"] (spRc K D cameR) := by
  refine T.f_Book_came.ok sc_Book_came (fun vs H Q E h => ?_) (fun cdv A outer s H vs Q E hr h => ?_)
  · obtain ⟨_, _, _, _, _, _, _, rfl, _⟩ := h
    rfl
  · obtain ⟨b, g, u, as, ls, nx, k, rfl, hB, hz, wf, q⟩ := h
    refine ⟨_, (pss_cons (ps_if (pt_cmp (pc_dnotin (hu_of hr) (pv 1) (pe_fld (pv 0) rfl))) (pss_one (ps_ret (pe_lst (pa_cons (pe_gi (by rfl) T.c_NO_LINE) pa_nil)))) pss_nil)
      (pss_one (ps_ret (pe_call (ok_counted T) (hr.mono (by decide)) (by rfl) T.g_counted T.f_counted.kp T.n_counted .nil pass0 (pa_cons (pe_meth (pv 0) T.k_Book T.t_Book_ancestry (ok_Book_ancestry T) hr T.n_Book_ancestry .nil pass0 (pa_cons (pv 1) pa_nil)) pa_nil))))), ?_⟩
    obtain ⟨kvs, l1, l2⟩ := hB.ln
    unfold cameR at q
    refine q_when (et_B (ev_dni (k := (k : Int)) (ev_var (i := 1) rfl) (rb_lines T hB (ev_var (i := 0) rfl)) (.inl l1))) (fun hb H1 e1 => ?_) (fun hb H1 e1 => ?_)
    · rcases val_lines (k := k) l2 with ⟨x, p, _, _, h, _⟩ | ⟨h, _⟩
      · rw [h] at hb; cases hb
      · rw [h, if_pos Option.isNone_none] at q
        exact s_retL (el_lst (ea_cons ev_c ea_nil) (by show 1 ≤ 100000; decide)) fun p H2 np e2 hp => q p H2 (fresh_back e1 np) (e1.trans e2) hp
    · rcases val_lines (k := k) l2 with ⟨x, p, hx, hxm, hv, hl⟩ | ⟨_, h⟩
      rotate_left
      · rw [h] at hb; cases hb
      rw [hx, if_neg (by exact Bool.false_ne_true)] at q
      have hk : k ∈ numsOf ls := has_line.mpr ⟨x, hx⟩
      have cl := came_len wf hk
      have gg := el_anc (te := tVar 0) (tk := tVar 1) (σ := [some (.ref b), some (.int (k : Int))]) (hB.ex e1) hz wf hk (ev_var rfl) (ev_var rfl)
      rw [nat_map] at gg
      exact s_retL (el_countedL (K := K) (E := E0) gg (by rw [ints_len]; omega)) fun r H3 nr e3 hr => q r H3 (fresh_back e1 nr) (e1.trans e3) hr
/-! ### reason -/
def reasonR (u : Nat) (as : List Sm15.Atom) (l : List Int) : List Int := if l.all (Sm15.isLit as.length) = false then [-2] else if 8 < l.length then [-1] else match Sm15.reason u as l with
  | none => [0]
  | some r => 1 :: counts r
def spRsn (K : PySem.W.Frag) (D : Ad) : Sp := fun vs H Q _ => ∃ (b : Addr) (g : Pl) (u : Nat) (as : List Sm15.Atom) (ls : List Sm15.Line) (nx : Nat) (aL : Addr) (l : List Int), vs = [.ref b, .ref aL] ∧ BookAt K D H b g u as ls nx ∧ SqL K H aL (l.map V.int) ∧ l.length ≤ 1000 ∧ u ≤ 4 ∧ AtomsOk u as ∧ RetL ((reasonR u as l).map V.int) H Q
theorem ok_Book_reason (T : Txt K mg D) : FnOk P w K mg base CX0 5 D.a_Book_reason D.d_Book_reason ["self", "literals"] (spRsn K D) := by
  refine T.f_Book_reason.ok sc_Book_reason (fun vs H Q E h => ?_) (fun cdv A outer s H vs Q E hr h => ?_)
  · obtain ⟨_, _, _, _, _, _, _, _, rfl, _⟩ := h
    rfl
  · obtain ⟨b, g, u, as, ls, nx, aL, l, rfl, hB, hL, hz, hu, hok, q⟩ := h
    refine ⟨_, (pss_cons (ps_if (pt_val (pe_meth (pv 0) T.k_Book T.t_Book_has_strange (ok_Book_has_strange T) (hr.mono (by decide)) T.n_Book_has_strange .nil pass0 (pa_cons (pv 1) pa_nil))) (pss_one (ps_ret (pe_lst (pa_cons (pe_gi (by rfl) T.c_NO_ATOM) pa_nil)))) pss_nil)
      (pss_cons (ps_if (pt_cmpR op_gt (pe_callB call_len_seq (by rfl) T.b_len PySem.boot_len (pa_cons (pv 1) pa_nil)) (pe_gi (by rfl) T.c_MOST_TO_REASON) (nomark _)) (pss_one (ps_ret (pe_lst (pa_cons (pe_gi (by rfl) T.c_WRONG) pa_nil)))) pss_nil)
      (pss_cons (ps_set (i := 2) sc_Book_reason.nd rfl (Or.inl rfl) (pe_call (ok_reason_of T) hr (by rfl) T.g_reason_of T.f_reason_of.kp T.n_reason_of .nil pass0 (pa_cons (pe_fld (pv 0) rfl) (pa_cons (pe_fld (pv 0) rfl) (pa_cons (pv 1) pa_nil)))))
      (pss_cons (ps_if (pt_cmpR op_isN (pv 2) pe_non (nomark _)) (pss_one (ps_ret (pe_lst (pa_cons pe_int pa_nil)))) pss_nil)
      (pss_one (ps_ret (pe_op op_cat (pe_lst (pa_cons pe_int pa_nil)) (pe_call (ok_counted T) (hr.mono (by decide)) (by rfl) T.g_counted T.f_counted.kp T.n_counted .nil pass0 (pa_cons (pv 2) pa_nil))))))))), ?_⟩
    unfold reasonR at q
    have one : ∀ {H1} {z : Int} {y}, Ex H H1 → RetL ([z].map V.int) H Q → tRet (tLst (tCons (tC (.int z)) tNil)) { nx := fun _ H' => Q .non H', rt := Q } [some (.ref b), some (.ref aL), y] H1 := fun e1 q => s_retL (el_lst (ea_cons ev_c ea_nil) (by show 1 ≤ 100000; decide)) fun p H2 np e2 hp => q p H2 (fresh_back e1 np) (e1.trans e2) hp
    refine q_when (et_B (ev_meth (dvs := []) (ev_var (i := 0) rfl) hB.ob (bF_m (by decide +kernel)) (ea_cons (ev_var (i := 1) rfl) ea_nil) fun H1 e1 Q1 q1 E1 => ⟨b, g, u, as, ls, nx, aL, l, rfl, hB.ex e1, .inl (ex_l e1 hL), hz, q1⟩)) (fun hb H1 e1 => ?_) (fun hb H1 e1 => ?_)
    · have hb : l.all (Sm15.isLit as.length) = false := by simpa using hb
      rw [if_pos hb] at q
      exact one e1 q
    · have hb : l.all (Sm15.isLit as.length) = true := by simpa using hb
      rw [if_neg (by rw [hb]; decide)] at q
      have hlen := ev_lenL (K := K) (σ := [some (.ref b), some (.ref aL), none]) (H := H1) (ta := tVar 1) (ev_var rfl) (ex_l e1 hL)
      rw [List.length_map] at hlen
      refine q_when (et_test (ev_gt (j := 8) hlen ev_c)) (fun hb2 H2 e2 => ?_) (fun hb2 H2 e2 => ?_)
      · have hb2 := of_decide_eq_true hb2
        rw [if_pos (by omega)] at q
        exact one (e1.trans e2) q
      · have hb2 := of_decide_eq_false hb2
        rw [if_neg (by omega)] at q
        have e12 := e1.trans e2
        have hB2 := hB.ex e12
        -- found = reason_of(..)
        refine ⟨.ref b, rfl, b, D.c_Book, g.dx, _, _, rfl, hB2.ob, T.k_Book, T.x_Book_atoms, bF_atoms, .ref b, rfl, b, D.c_Book, g.dx, _, _, rfl, hB2.ob, T.k_Book, T.x_Book_u, bF_u, .ref aL, rfl, g.al, aL, u, as, l, rfl, hB2.atoms, ex_l e12 hL, lits_of hb, by omega, hu, hok, fun hn => ?_, fun r hs => ?_⟩
        · intro H3 e3
          rw [hn] at q
          refine q_when (b := true) (et_test (ev_isN (v := .non) (ev_var (i := 2) rfl) ev_c)) (fun _ H4 e4 => ?_) (fun z => Bool.noConfusion z)
          exact one ((e12.trans e3).trans e4) q
        · intro p H3 np e3 hp
          rw [hs] at q
          have rl : r.length ≤ 8 := by
            unfold Sm15.reason at hs
            have hm := List.mem_of_find?_eq_some hs
            obtain ⟨k, _, hm⟩ := List.mem_flatMap.mp hm
            have := (mem_choose.mp hm).1.length_le
            omega
          refine q_when (b := false) (et_is (et_test (ev_isN (v := .ref p) (ev_var (i := 2) rfl) ev_c)) (decide_eq_false fun z => nomatch z)) (fun z => Bool.noConfusion z) (fun _ H4 e4 => ?_)
          have e04 := (e12.trans e3).trans e4
          refine s_retL (el_cat (el_lst (ea_cons (ev_c (v := .int 1)) ea_nil) (by show 1 ≤ 100000; decide)) (el_counted (K := K) (E := E0) (l := r) (ev_var (i := 2) rfl) (.inl (sq_of (e4 _ _ hp))) (by omega)) (by rw [List.length_map]; show 1 + (r.length + 1) ≤ _; omega)) fun t H5 nt e5 ht => q t H5 (fresh_back e04 nt) (e04.trans e5) ht
/-! ### mark -/
def spMk (C : Addr) (D : Ad) (K : PySem.W.Frag) : Sp := fun vs H Q _ => ∃ (p dx a0 d0 : Addr) (xs : List V) (kvs : List (Key × V)) (n : Nat), vs = [.ref p, .ref a0, .ref d0, .int (n : Int)] ∧ H p = some (.ins C dx []) ∧ H a0 = some (.lst xs) ∧ H d0 = some (.dK kvs) ∧
  ∀ (H' : Hp) (al dl : Addr), ExB p H H' → H al = none → H dl = none → H' p = some (.ins C dx (mF al dl n)) → H' al = some (.lst xs) → H' dl = some (.dK kvs) → Q .non H'
theorem ok_Mark___init__ (T : Txt K mg D) : FnOk P w K mg base CX0 1 D.a_Mark___init__ D.d_Mark___init__ ["self", "atoms", "lines", "next_number"] (spMk D.c_Mark D K) := by
  refine T.f_Mark___init__.ok sc_Mark___init__ (fun vs H Q E h => ?_) (fun cdv A outer s H vs Q E hr h => ?_)
  · obtain ⟨_, _, _, _, _, _, _, rfl, _⟩ := h
    rfl
  · obtain ⟨p, dx, a0, d0, xs, kvs, n, rfl, hp, ha, hd, q⟩ := h
    refine ⟨_, (pss_cons (ps_fld (pv 0) (pe_callTy call_list_of (by rfl) T.b_list (by decide +kernel) (pa_cons (pv 1) pa_nil)) rfl)
      (pss_cons (ps_fld (pv 0) (pe_callTy call_dictD (by rfl) T.b_dict (by decide +kernel) (pa_cons (pv 2) pa_nil)) rfl)
      (pss_one (ps_fld (pv 0) (pv 3) rfl)))), ?_⟩
    refine ⟨_, rfl, a0, xs, rfl, .inl (sq_of ha), fun al nal => ⟨_, rfl, p, _, dx, [], rfl, ?_, T.k_Mark, T.x_Mark_atoms, by show 0 < 1000; decide, ?_⟩⟩
    · rw [upd_ne (fun z => by rw [← z, hp] at nal; cases nal)]
      exact hp
    have nap : al ≠ p := fun z => by rw [z, hp] at nal; cases nal
    have nda : d0 ≠ al := fun z => by rw [z, nal] at hd; cases hd
    have ndp : d0 ≠ p := fun z => by rw [z, hp] at hd; cases hd
    rw [show putF "atoms" (.ref al) [] = ([("atoms", .ref al)] : List (Str × V)) from rfl]
    refine ⟨_, rfl, d0, kvs, rfl, .inl (by rw [upd_ne ndp, upd_ne nda]; exact hd), fun dl ndl => ⟨_, rfl, p, _, dx, [("atoms", .ref al)], rfl, ?_, T.k_Mark, T.x_Mark_lines, by show 1 < 1000; decide, ?_⟩⟩
    · rw [upd_ne (fun z => by rw [← z, upd_same] at ndl; cases ndl)]
      exact upd_same
    have ndlp : dl ≠ p := fun z => by rw [z, upd_same] at ndl; cases ndl
    have ndla : dl ≠ al := fun z => by rw [z, upd_ne nap, upd_same] at ndl; cases ndl
    rw [mF_new2]
    refine ⟨_, rfl, _, rfl, p, _, dx, _, rfl, upd_same, T.k_Mark, T.x_Mark_next_number, by show 2 < 1000; decide, ?_⟩
    rw [mF_new3, upd_over]
    rw [upd_ne ndlp, upd_ne ndla] at ndl
    refine q _ al dl ?_ nal ndl upd_same ?_ ?_
    · intro c o hc ho
      rw [upd_ne hc, upd_ne (ne_of_none ho ndl), upd_ne hc, upd_ne (ne_of_none ho nal)]
      exact ho
    · rw [upd_ne nap, upd_ne ndla.symm, upd_ne nap, upd_same]
    · rw [upd_ne ndlp, upd_same]
def spMark (K : PySem.W.Frag) (D : Ad) : Sp := fun vs H Q _ => ∃ (b : Addr) (g : Pl) (O : Hp) (u : Nat) (as : List Sm15.Atom) (ls : List Sm15.Line) (nx : Nat), vs = [.ref b] ∧ Bk K D H O b g u as ls nx ∧
  (8 ≤ g.ms.length → ∀ H' : Hp, Bk K D H' O b g u as ls nx → Q (.int (-5)) H') ∧ (¬ 8 ≤ g.ms.length → ∀ (H' : Hp) (g' : Pl), g'.ms = (⟨as, ls⟩, nx) :: g.ms → Bk K D H' O b g' u as ls nx → Q (.int ((g.ms.length + 1 : Nat) : Int)) H')
theorem rb_marks (T : Txt K mg D) {σ : L2.St} {te : TE} {H : Hp} {b : Addr} {g : Pl} {u : Nat} {as : List Sm15.Atom} {ls : List Sm15.Line} {nx : Nat} (h : BookAt K D H b g u as ls nx) (hv : Ev te σ H (.ref b)) : Ev (tFld K te "marks") σ H (.ref g.ml) := ev_fld hv h.ob T.k_Book T.x_Book_marks bF_marks
theorem MksAt.len {H : Hp} {g : Pl} (h : MksAt K D H g) : g.rs.length = g.ms.length := by
  have := pr_len h.mks
  rw [List.length_reverse] at this
  exact this
theorem rb_nmarks (T : Txt K mg D) {σ : L2.St} {te : TE} {H : Hp} {b : Addr} {g : Pl} {u : Nat} {as : List Sm15.Atom} {ls : List Sm15.Line} {nx : Nat} (h : BookAt K D H b g u as ls nx) (hv : Ev te σ H (.ref b)) :
    Ev (tCB (fun xs H Q => ∃ p ys, xs = [V.ref p] ∧ (SqL K H p ys ∨ SqT K H p ys) ∧ Q (.int ys.length) H) (tCons (tFld K te "marks") tNil)) σ H (.int (g.ms.length : Int)) := by
  have z := ev_lenL (K := K) (rb_marks T h hv) (sq_of h.mks.ml)
  rw [List.length_map, h.mks.len] at z
  exact z
/-- a mark put on the book -/
theorem put_mark {H O : Hp} {b : Addr} {g : Pl} {u : Nat} {as : List Sm15.Atom} {ls : List Sm15.Line} {nx : Nat} {r : MPl} (h : Bk K D H O b g u as ls nx) (hr : MarkAt K D H r (⟨as, ls⟩, nx)) (na : r.al ≠ g.al ∧ r.al ≠ g.ml) (nd : r.dl ≠ g.dl) (ha : ∀ x ∈ g.rs, x.al ≠ r.al ∧ x.dl ≠ r.dl) (ho : O r.al = none ∧ O r.dl = none) :
    Bk K D (upd H g.ml (.lst (g.rs.map (fun r => V.ref r.q) ++ [.ref r.q]))) O b ⟨g.dx, g.al, g.dl, g.ml, g.rs ++ [r], (⟨as, ls⟩, nx) :: g.ms⟩ u as ls nx := by
  obtain ⟨ps, a1, a2⟩ := h.at_.at_
  obtain ⟨kvs, l1, l2⟩ := h.at_.ln
  have ml := h.at_.mks.ml
  have ob := h.at_.ob
  have eB : ExB g.ml H (upd H g.ml (.lst (g.rs.map (fun r => V.ref r.q) ++ [.ref r.q]))) := ExB.upd
  have sf := soft_lst ml
  have nb : b ≠ g.ml := fun z => by rw [z, ml] at ob; cases ob
  have nl : g.dl ≠ g.ml := fun z => by rw [z, ml] at l1; cases l1
  have nm : NoMark H g.ml := fun _ _ _ _ _ z => by rw [ml] at z; cases z
  have dlm : ∀ {x : MPl} {m}, MarkAt K D H x m → x.dl ≠ g.ml := fun hx z => by
    obtain ⟨kv, k1, _⟩ := hx.ln
    rw [z, ml] at k1
    cases k1
  refine ⟨⟨eB _ _ nb ob, ⟨ps, eB _ _ h.at_.mks.am a1, pr_imp (fun _ _ => eB.atom sf) a2⟩, ⟨kvs, eB _ _ nl l1, eB.lines sf (noline_lst ml) l2⟩, ?_, ?_, ?_, h.at_.mks.am, ?_, ?_⟩, fun c o hc => eB _ _ (ne_of_none hc h.nm) (h.rest c o hc), h.nb, h.na, h.nl, h.nm, fun x hx => ?_⟩
  · rw [upd_same, List.map_append]
    rfl
  · show Paired _ (g.rs ++ [r]) (((⟨as, ls⟩, nx) :: g.ms).reverse)
    rw [List.reverse_cons]
    exact pr_snoc (eB.mark sf (noline_lst ml) nm na.2 (dlm hr) hr) (pr_imp_mem (fun x m hx q => eB.mark sf (noline_lst ml) nm (h.at_.mks.da x hx).2.2 (dlm q) q) h.at_.mks.mks)
  · intro x hx
    rcases List.mem_append.mp hx with z | z
    · exact h.at_.mks.da x z
    · rw [List.mem_singleton.mp z]
      exact ⟨na.1, nd, na.2⟩
  · show ((g.rs ++ [r]).map (·.al)).Nodup
    rw [List.map_append, List.nodup_append]
    refine ⟨h.at_.mks.na, List.nodup_cons.mpr ⟨by simp, List.nodup_nil⟩, fun x hx y hy e => ?_⟩
    obtain ⟨z, hz, rfl⟩ := List.mem_map.mp hx
    have : y = r.al := by simpa using hy
    exact (ha z hz).1 (e.trans this)
  · show ((g.rs ++ [r]).map (·.dl)).Nodup
    rw [List.map_append, List.nodup_append]
    refine ⟨h.at_.mks.nd, List.nodup_cons.mpr ⟨by simp, List.nodup_nil⟩, fun x hx y hy e => ?_⟩
    obtain ⟨z, hz, rfl⟩ := List.mem_map.mp hx
    have : y = r.dl := by simpa using hy
    exact (ha z hz).2 (e.trans this)
  · rcases List.mem_append.mp hx with z | z
    · exact h.nr x z
    · rw [List.mem_singleton.mp z]; exact ho
theorem ok_Book_mark (T : Txt K mg D) : FnOk P w K mg base CX0 3 D.a_Book_mark D.d_Book_mark ["self"] (spMark K D) := by
  refine T.f_Book_mark.ok sc_Book_mark (fun vs H Q E h => ?_) (fun cdv A outer s H vs Q E hr h => ?_)
  · obtain ⟨_, _, _, _, _, _, _, rfl, _⟩ := h
    rfl
  · obtain ⟨b, g, O, u, as, ls, nx, rfl, hB, q1, q2⟩ := h
    refine ⟨_, (pss_cons (ps_if (pt_cmpR op_ge (pe_callB call_len_seq (by rfl) T.b_len PySem.boot_len (pa_cons (pe_fld (pv 0) rfl) pa_nil)) (pe_gi (by rfl) T.c_MOST_MARKS) (nomark _)) (pss_one (ps_ret (pe_gi (by rfl) T.c_FULL))) pss_nil)
      (pss_cons (ps_expr (pe_bm PySem.F.plainAttrs_list PySem.F.slot_list_append PySem.F.type_list_append mt_append (pe_fld (pv 0) rfl) (pa_cons (pe_make T.m_Mark (ok_Mark___init__ T) hr (by rfl) T.g_Mark T.n_Mark___init__ .nil pass0 (pa_cons (pe_fld (pv 0) rfl) (pa_cons (pe_fld (pv 0) rfl) (pa_cons (pe_fld (pv 0) rfl) pa_nil)))) pa_nil)))
      (pss_one (ps_ret (pe_callB call_len_seq (by rfl) T.b_len PySem.boot_len (pa_cons (pe_fld (pv 0) rfl) pa_nil)))))), ?_⟩
    refine q_when (et_test (ev_ge (j := 8) (rb_nmarks T hB.at_ (ev_var (i := 0) rfl)) ev_c)) (fun hb H1 e1 => ?_) (fun hb H1 e1 => ?_)
    · have hb := of_decide_eq_true hb
      exact s_ret ev_c fun H2 e2 => q1 (by omega) H2 (hB.ex (e1.trans e2))
    · have hb := of_decide_eq_false hb
      have hB1 := hB.ex e1
      obtain ⟨ps, a1, a2⟩ := hB1.at_.at_
      obtain ⟨kvs, l1, l2⟩ := hB1.at_.ln
      have ml := hB1.at_.mks.ml
      -- self.marks.append(Mark(..))
      refine ⟨.ref b, rfl, b, D.c_Book, g.dx, _, _, rfl, hB1.at_.ob, T.k_Book, T.x_Book_marks, bF_marks, .inl ⟨rfl, _, sq_of ml⟩, .ref b, rfl, b, D.c_Book, g.dx, _, _, rfl, hB1.at_.ob, T.k_Book, T.x_Book_atoms, bF_atoms, .ref b, rfl, b, D.c_Book, g.dx, _, _, rfl, hB1.at_.ob, T.k_Book, T.x_Book_lines, bF_lines, .ref b, rfl, b, D.c_Book, g.dx, _, _, rfl, hB1.at_.ob, T.k_Book, T.x_Book_next_number, bF_next, fun x dx nx' ndx nex => ?_⟩
      have eM : Ex H1 (upd (upd H1 dx (.own x)) x (.ins D.c_Mark dx [])) := made_ex nx' ndx
      refine ⟨x, dx, g.al, g.dl, _, kvs, nx, rfl, upd_same, eM _ _ a1, eM _ _ l1, fun H2 al dl eB nal ndl hx hal hdl => ?_⟩
      have e2 : Ex H1 H2 := fun c o h => eB _ _ (ne_of_none h nx') (eM _ _ h)
      have nalH := fresh_back eM nal
      have ndlH := fresh_back eM ndl
      have hB2 := hB1.ex e2
      refine ⟨rfl, g.ml, _, _, rfl, rfl, e2 _ _ ml, sz_lt (by rw [List.length_map, hB1.at_.mks.len]; omega), ?_⟩
      have hmk : MarkAt K D H2 ⟨x, dx, al, dl⟩ (⟨as, ls⟩, nx) := ⟨hx, ⟨ps, hal, pr_imp (fun _ _ => AtomAt.ex e2) a2⟩, kvs, hdl, l2.ex e2⟩
      have f1 : al ≠ g.al := (ne_of_none a1 nalH).symm
      have f2 : al ≠ g.ml := (ne_of_none ml nalH).symm
      have f3 : dl ≠ g.dl := (ne_of_none l1 ndlH).symm
      have hfin := put_mark hB2 hmk ⟨f1, f2⟩ f3 (fun y hy => by
        obtain ⟨m, hm⟩ := pr_left hB1.at_.mks.mks y hy
        obtain ⟨ps', b1, _⟩ := hm.at_
        obtain ⟨kv', c1, _⟩ := hm.ln
        exact ⟨ne_of_none b1 nalH, ne_of_none c1 ndlH⟩) ⟨fresh_back hB1.rest nalH, fresh_back hB1.rest ndlH⟩
      have hm := rb_nmarks T hfin.at_ (te := tVar 0) (σ := [some (.ref b)]) (ev_var (i := 0) rfl)
      exact s_ret hm fun H4 e4 => q2 (by omega) H4 _ rfl (hfin.ex e4)
end
end Cp
/-! Cp15 -/
namespace Cp
open PySem PySem.Spec PyProof.Rows L2 Evl
theorem lineAt_any (ls : List Sm15.Line) (k : Nat) : (Sm15.lineAt ls k).isSome = ls.any fun y => y.num == k := by
  unfold Sm15.lineAt
  rw [Bool.eq_iff_iff, List.find?_isSome, List.any_eq_true]
section
variable {P : Program} {w : World} {K : PySem.W.Frag} {mg : Str → Option Value} {base : Heap} {D : Ad}
/-! ### can_stay -/
/-- a method with a new tuple -/
theorem ev_methU {σ : L2.St} {H : Hp} {te ts : TE} {a C dx : Addr} {fs : List (Str × V)} {m : Str} {sp : Sp} {xs : List V} {z : V} {E : XK} (h : Ev te σ H (.ref a)) (ho : H a = some (.ins C dx fs)) (hl : fs.lookup m = none) (hr : EvU ts σ H xs) (hs : ∀ q H1, Ex H H1 → H1 q = some (.tup xs) → ∀ Q : VK, RetV z H1 Q → ∀ E, sp [.ref a, .ref q] H1 Q E) :
    Ev (tMeth C m sp [] E te (tCons ts tNil)) σ H z := fun H1 e Q q =>
  h H1 e _ fun H2 e2 => ⟨a, dx, fs, rfl, (e.trans e2) a _ ho, hl, hr H2 (e.trans e2) _ fun p H3 _ e3 hp => hs p H3 ((e.trans e2).trans e3) hp Q (fun H4 e4 => q H4 ((e2.trans e3).trans e4)) E⟩
theorem eu_slA {σ : L2.St} {H : Hp} {te : TE} {tl th : TO} {a : Addr} {xs : List V} {lo hi : Option Int} (h : Ev te σ H (.ref a)) (h1 : EvO tl σ H lo) (h2 : EvO th σ H hi) (hs : SqT K H a xs) (hn : ¬ (HT.sIx xs.length 0 lo = 0 ∧ HT.sIx xs.length xs.length hi = xs.length)) : EvU (tSl (rSlA K) te tl th) σ H (cutV xs lo hi) := fun H1 e _ q =>
  h H1 e _ fun H2 e2 => h1 H2 (e.trans e2) _ fun H3 e3 => h2 H3 ((e.trans e2).trans e3) _ fun H4 e4 =>
    ⟨a, xs, rfl, ex_t (((e.trans e2).trans e3).trans e4) hs, fun z => absurd z hn, fun _ p hp => q p _ (fresh_back ((e2.trans e3).trans e4) hp) (((e2.trans e3).trans e4).trans (Ex.new hp)) upd_same⟩
def spCs (K : PySem.W.Frag) (D : Ad) : Sp := fun vs H Q _ => ∃ (b : Addr) (g : Pl) (u : Nat) (as : List Sm15.Atom) (ls : List Sm15.Line) (nx : Nat) (p : Addr) (x : Sm15.Line), vs = [.ref b, .ref p] ∧ BookAt K D H b g u as ls nx ∧ LineAt K D.c_Line H p x.way x.clause ∧ x.clause.length ≤ 1000 ∧ (Sm15.sources x.way).length ≤ 1000 ∧ (∀ i j a, x.way = .joined i j a → 1 ≤ a) ∧ RetV (.bl (stays as.length ls x)) H Q
theorem ok_Book_can_stay (T : Txt K mg D) : FnOk P w K mg base CX0 2 D.a_Book_can_stay D.d_Book_can_stay ["self", "line"] (spCs K D) := by
  refine T.f_Book_can_stay.ok sc_Book_can_stay (fun vs H Q E h => ?_) (fun cdv A outer s H vs Q E hr h => ?_)
  · obtain ⟨_, _, _, _, _, _, _, _, rfl, _⟩ := h
    rfl
  · obtain ⟨b, g, u, as, ls, nx, p, x, rfl, hB, hL, hz, hsz, hj, q⟩ := h
    refine ⟨_, (pss_cons (ps_if (PW.pt (pw_or (pt_cmpR op_eq (pe_fld (pv 1) rfl) (pe_gi (by rfl) T.c_AS_CLAIM) (nomark _)) (pw_or1 (pt_val (pe_meth (pv 0) T.k_Book T.t_Book_has_strange (ok_Book_has_strange T) hr T.n_Book_has_strange .nil pass0 (pa_cons (pe_fld (pv 1) rfl) pa_nil)))))) (pss_one (ps_ret pe_bl)) pss_nil)
      (pss_cons (ps_if (PW.pt (pw_and (pt_cmpR op_eq (pe_fld (pv 1) rfl) (pe_gi (by rfl) T.c_BY_JOINING) (nomark _)) (pw_and1 (pt_val (pe_meth (pv 0) T.k_Book T.t_Book_has_strange (ok_Book_has_strange T) hr T.n_Book_has_strange .nil pass0 (pa_cons (pe_slice sl_tupA (pe_fld (pv 1) rfl) (po_some pe_int) po_none) pa_nil)))))) (pss_one (ps_ret pe_bl)) pss_nil)
      (pss_one (ps_ret (pe_meth (pv 0) T.k_Book T.t_Book_has_all (ok_Book_has_all T) hr T.n_Book_has_all .nil pass0 (pa_cons (pe_meth0 (pv 1) T.k_Line T.t_Line_sources (ok_Line_sources T) hr T.n_Line_sources .nil pass0) pa_nil)))))), ?_⟩
    obtain ⟨dx, tn, tc, hp, hn, hc⟩ := id hL
    unfold stays at q
    have fw : ∀ {H1}, Ex H H1 → Ev (tFld K (tVar 1) "way") [some (.ref b), some (.ref p)] H1 (.int (wayNo x.way)) := fun e => ev_fld (ev_var (i := 1) rfl) (e _ _ hp) T.k_Line T.x_Line_way lF_way
    have fc : ∀ {H1}, Ex H H1 → Ev (tFld K (tVar 1) "clause") [some (.ref b), some (.ref p)] H1 (.ref tc) := fun e => ev_fld (ev_var (i := 1) rfl) (e _ _ hp) T.k_Line T.x_Line_clause lF_clause
    have fn : ∀ {H1}, Ex H H1 → Ev (tFld K (tVar 1) "named") [some (.ref b), some (.ref p)] H1 (.ref tn) := fun e => ev_fld (ev_var (i := 1) rfl) (e _ _ hp) T.k_Line T.x_Line_named lF_named
    have no : ∀ {H1}, Ex H H1 → (RetV (.bl false) H Q) → tRet (tC (.bl false)) { nx := fun _ H' => Q .non H', rt := Q } [some (.ref b), some (.ref p)] H1 := fun e1 q => s_ret ev_c fun H2 e2 => q H2 (e1.trans e2)
    refine q_when (et_or (et_test (ev_eq (i := wayNo x.way) (j := 0) (fw (Ex.refl H)) ev_c)) fun _ => et_B (ev_meth (dvs := []) (ev_var (i := 0) rfl) hB.ob (bF_m (by decide +kernel)) (ea_cons (fc (Ex.refl H)) ea_nil) fun H1 e1 Q1 q1 E1 => ⟨b, g, u, as, ls, nx, tc, x.clause, rfl, hB.ex e1, .inr (st_of (e1 _ _ hc)), hz, q1⟩)) (fun hb H1 e1 => ?_) (fun hb H1 e1 => ?_)
    · rw [Bool.or_eq_true, decide_eq_true_eq] at hb
      refine no e1 ?_
      rcases hb with hb | hb
      · rw [decide_eq_false (fun z => z (wayNo_is.2.2.2.mp hb)), Bool.false_and] at q
        exact q
      · have hb : x.clause.all (Sm15.isLit as.length) = false := by simpa using hb
        rw [hb, Bool.false_and, Bool.and_false] at q
        exact q
    · rw [Bool.or_eq_false_iff, decide_eq_false_iff_not] at hb
      have hb2 : x.clause.all (Sm15.isLit as.length) = true := by simpa using hb.2
      have hwc : x.way ≠ .claim := fun z => hb.1 (wayNo_is.2.2.2.mpr z)
      rw [decide_eq_true hwc, hb2, Bool.true_and, Bool.true_and] at q
      have ea : ((Sm15.sources x.way).all fun k => ls.any fun y => y.num == k) = (Sm15.sources x.way).all fun k => (Sm15.lineAt ls k).isSome := by
        congr 1
        funext k
        rw [lineAt_any]
      rw [ea] at q
      have last : ∀ {H1}, Ex H H1 → RetV (.bl ((Sm15.sources x.way).all fun k => (Sm15.lineAt ls k).isSome)) H Q → tRet (tMeth D.c_Book "has_all" (spHa K D) [] E0 (tVar 0) (tCons (tMeth D.c_Line "sources" (spSrc K D.c_Line) [] E0 (tVar 1) tNil) tNil)) { nx := fun _ H' => Q .non H', rt := Q } [some (.ref b), some (.ref p)] H1 := fun e1 q =>
        s_ret (ev_methS (K := K) (D := D) (ev_var (i := 0) rfl) (e1 _ _ hB.ob) (bF_m (by decide +kernel)) (es_sources (D := D) (E := E0) (te := tVar 1) (ev_var rfl) (hL.ex e1)) fun t H2 e2 ht Q2 q2 E2 => ⟨b, g, u, as, ls, nx, t, Sm15.sources x.way, rfl, hB.ex (e1.trans e2), ht, hsz, q2⟩) fun H2 e2 => q H2 (e1.trans e2)
      by_cases hw : ∃ i j a, x.way = .joined i j a
      · obtain ⟨i, j, a, ew⟩ := hw
        have a1 := hj i j a ew
        rw [ew] at q hn
        dsimp only at q
        have fwj : Ev (tFld K (tVar 1) "way") [some (.ref b), some (.ref p)] H1 (.int 2) := by
          have := fw e1
          rw [ew] at this
          exact this
        have sl := eu_slA (K := K) (tl := tPart (tC (.int 2))) (th := tNoPart) (lo := some 2) (hi := none) (fn e1) (eo_some ev_c) (fun H2 _ _ k => k H2 (Ex.refl H2)) (ex_t e1 hn) (by show ¬ (HT.sIx 3 0 (some 2) = 0 ∧ HT.sIx 3 3 none = 3); decide)
        refine q_when (b := !([(a : Int)].all (Sm15.isLit as.length))) (et_is (et_and (a := true) (et_test (ev_eq (i := 2) (j := 2) fwj ev_c)) fun _ => et_B (ev_methU (ev_var (i := 0) rfl) (e1 _ _ hB.ob) (bF_m (by decide +kernel)) sl fun t H2 e2 ht Q2 q2 E2 => ⟨b, g, u, as, ls, nx, t, [(a : Int)], rfl, hB.ex (e1.trans e2), .inr (st_of ht), by show 1 ≤ 1000; decide, q2⟩)) rfl) (fun hb3 H2 e2 => ?_) (fun hb3 H2 e2 => ?_)
        · refine no (e1.trans e2) ?_
          have : ¬ a ≤ as.length := fun z => by
            have : ([(a : Int)].all (Sm15.isLit as.length)) = true := by
              unfold Sm15.isLit
              simp only [List.all_cons, List.all_nil, Bool.and_true, Bool.and_eq_true, decide_eq_true_eq]
              omega
            rw [this] at hb3
            cases hb3
          rw [decide_eq_false this, Bool.and_false] at q
          exact q
        · refine last (e1.trans e2) ?_
          have : a ≤ as.length := by
            have hb3 : ([(a : Int)].all (Sm15.isLit as.length)) = true := by simpa using hb3
            unfold Sm15.isLit at hb3
            simp only [List.all_cons, List.all_nil, Bool.and_true, Bool.and_eq_true, decide_eq_true_eq] at hb3
            omega
          rw [decide_eq_true this, Bool.and_true] at q
          rw [ew]
          exact q
      · have hw2 : ¬ wayNo x.way = 2 := fun z => hw (wayNo_is.2.1.mp z)
        refine q_when (b := false) (et_is (et_and (b := false) (et_test (ev_eq (i := wayNo x.way) (j := 2) (fw e1) ev_c)) fun z => absurd (of_decide_eq_true z) hw2) (by rw [Bool.and_false])) (fun z => Bool.noConfusion z) (fun _ H2 e2 => ?_)
        refine last (e1.trans e2) ?_
        cases ew : x.way with
        | joined i j a => exact absurd ⟨i, j, a, ew⟩ hw
        | _ =>
          rw [ew] at q
          dsimp only at q
          rw [Bool.and_true] at q
          exact q
/-! ### back -/
theorem pr_unsnoc {α β : Type} {R : α → β → Prop} {a : α} {b : β} : ∀ {as : List α} {bs : List β}, Paired R (as ++ [a]) (bs ++ [b]) → Paired R as bs ∧ R a b
  | [], [], .cons h .nil => ⟨.nil, h⟩
  | x :: as, y :: bs, .cons h t => by
    obtain ⟨h1, h2⟩ := pr_unsnoc t
    exact ⟨.cons h h1, h2⟩
  | [], y :: bs, .cons _ t => by
    have := pr_len t
    simp at this
  | x :: as, [], .cons _ t => by
    have := pr_len t
    simp at this
/-- the last mark taken off, its parts the book's -/
theorem take_mark {H O : Hp} {b : Addr} {g : Pl} {u : Nat} {as : List Sm15.Atom} {ls : List Sm15.Line} {nx : Nat} {r : MPl} {rs : List MPl} {m : Sm15.Stand × Nat} {ms : List (Sm15.Stand × Nat)} (h : Bk K D H O b g u as ls nx) (er : g.rs = rs ++ [r]) (em : g.ms = m :: ms) {H' : Hp} (e1 : ∀ c o, c ≠ b → c ≠ g.ml → H c = some o → H' c = some o) (hb : H' b = some (.ins D.c_Book g.dx (bF u r.al r.dl nx g.ml))) (hm : H' g.ml = some (.lst (rs.map fun r => V.ref r.q))) :
    Bk K D H' O b ⟨g.dx, r.al, r.dl, g.ml, rs, ms⟩ u m.1.atoms m.1.lines nx := by
  have ob := h.at_.ob
  have ml := h.at_.mks.ml
  have pr := h.at_.mks.mks
  rw [er, em, List.reverse_cons] at pr
  obtain ⟨p1, p2⟩ := pr_unsnoc pr
  have rin : r ∈ g.rs := by rw [er]; simp
  have sub : ∀ x ∈ rs, x ∈ g.rs := fun x hx => by rw [er]; simp [hx]
  -- b and the row of marks are neither tuples nor lines nor marks
  have two : ∀ {v : Addr}, (H v = some (.ins D.c_Book g.dx (bF u g.al g.dl nx g.ml)) ∨ H v = some (.lst (g.rs.map fun r => V.ref r.q))) → Soft H v ∧ NoLine H v ∧ NoMark H v := fun {v} hv => by
    rcases hv with hv | hv
    · exact ⟨soft_ins hv, noline_book hv, fun _ _ _ _ _ z => by rw [hv] at z; cases z⟩
    · exact ⟨soft_lst hv, noline_lst hv, fun _ _ _ _ _ z => by rw [hv] at z; cases z⟩
  -- by way of the heap with the book changed alone
  let Hm : Hp := fun c => if c = b then some (.ins D.c_Book g.dx (bF u r.al r.dl nx g.ml)) else H c
  have em1 : ExB b H Hm := fun c o hc ho => by show (if c = b then _ else _) = _; rw [if_neg hc]; exact ho
  have hmb : Hm b = some (.ins D.c_Book g.dx (bF u r.al r.dl nx g.ml)) := if_pos rfl
  have em2 : ExB g.ml Hm H' := fun c o hc ho => by
    by_cases c1 : c = b
    · rw [c1] at ho ⊢
      rw [hb]
      rw [hmb] at ho
      exact ho
    · have ho : (if c = b then _ else _) = _ := ho
      rw [if_neg c1] at ho
      exact e1 c o c1 hc ho
  have nbm : g.ml ≠ b := fun z => by rw [z, ob] at ml; cases ml
  have mlm : Hm g.ml = some (.lst (g.rs.map fun r => V.ref r.q)) := em1 _ _ nbm ml
  obtain ⟨s1, n1, k1⟩ := two (v := b) (.inl ob)
  have s2 : Soft Hm g.ml := soft_lst mlm
  have n2 : NoLine Hm g.ml := noline_lst mlm
  have k2 : NoMark Hm g.ml := fun _ _ _ _ _ z => by rw [mlm] at z; cases z
  have mark : ∀ {x : MPl} {y}, x ∈ g.rs → MarkAt K D H x y → MarkAt K D H' x y := fun {x y} hx q => by
    obtain ⟨ps, a1, _⟩ := q.at_
    obtain ⟨kv, l1, _⟩ := q.ln
    have qa : x.al ≠ b := fun z => by rw [z, ob] at a1; cases a1
    have qd : x.dl ≠ b := fun z => by rw [z, ob] at l1; cases l1
    have qd2 : x.dl ≠ g.ml := fun z => by rw [z, ml] at l1; cases l1
    exact em2.mark s2 n2 k2 (h.at_.mks.da x hx).2.2 qd2 (em1.mark s1 n1 k1 qa qd q)
  have hr := mark rin p2
  have na := h.at_.mks.na
  have nd := h.at_.mks.nd
  rw [er, List.map_append, List.nodup_append] at na nd
  refine ⟨⟨hb, hr.at_, hr.ln, hm, pr_imp_mem (fun x y hx q => mark (sub x hx) q) p1, fun x hx => ⟨fun z => na.2.2 _ (List.mem_map.mpr ⟨x, hx, rfl⟩) r.al (by simp) z, fun z => nd.2.2 _ (List.mem_map.mpr ⟨x, hx, rfl⟩) r.dl (by simp) z, (h.at_.mks.da x (sub x hx)).2.2⟩, (h.at_.mks.da r rin).2.2, na.1, nd.1⟩, fun c o hc => ?_, h.nb, (h.nr r rin).1, (h.nr r rin).2, h.nm, fun x hx => h.nr x (sub x hx)⟩
  exact e1 c o (ne_of_none hc h.nb) (ne_of_none hc h.nm) (h.rest c o hc)
/-- an old line put behind the book's -/
theorem put_old {H O : Hp} {b : Addr} {g : Pl} {u : Nat} {as : List Sm15.Atom} {ls : List Sm15.Line} {nx : Nat} {p : Addr} {x : Sm15.Line} {kvs : List (Key × V)} (h : Bk K D H O b g u as ls nx) (l1 : H g.dl = some (.dK kvs)) (l2 : LinesAt K D.c_Line H kvs ls) (hp : LineAt K D.c_Line H p x.way x.clause) :
    Bk K D (upd H g.dl (.dK (kvs ++ [(Sum.inl (x.num : Int), .ref p)]))) O b g u as (ls ++ [x]) nx := by
  obtain ⟨ps, a1, a2⟩ := h.at_.at_
  have ob := h.at_.ob
  have eB : ExB g.dl H (upd H g.dl (.dK (kvs ++ [(Sum.inl (x.num : Int), .ref p)]))) := ExB.upd
  have nbd : b ≠ g.dl := fun z => by rw [z, l1] at ob; cases ob
  have nda : g.al ≠ g.dl := fun z => by rw [z, l1] at a1; cases a1
  have sd := soft_dK l1
  exact ⟨⟨eB _ _ nbd ob, ⟨ps, eB _ _ nda a1, pr_imp (fun _ _ q => eB.atom sd q) a2⟩, ⟨_, upd_same, pr_snoc ⟨rfl, p, rfl, eB.line sd (noline_dK l1) hp⟩ (eB.lines sd (noline_dK l1) l2)⟩, h.at_.mks.atDl eB l1⟩,
    fun q o hq => eB _ _ (ne_of_none hq h.nl) (h.rest q o hq), h.nb, h.na, h.nl, h.nm, h.nr⟩
/-- a pair of the lines since the mark -/
def PairAt (K : PySem.W.Frag) (D : Ad) (H : Hp) (t : Addr) (x : Sm15.Line) : Prop := ∃ p, H t = some (.tup [.int (x.num : Int), .ref p]) ∧ LineAt K D.c_Line H p x.way x.clause
theorem PairAt.ex {H H' : Hp} {t : Addr} {x : Sm15.Line} (e : Ex H H') (h : PairAt K D H t x) : PairAt K D H' t x := by
  obtain ⟨p, h1, h2⟩ := h
  exact ⟨p, e _ _ h1, h2.ex e⟩
theorem PairAt.exb {v : Addr} {H H' : Hp} {t : Addr} {x : Sm15.Line} (e : ExB v H H') (hv : Soft H v) (hn : NoLine H v) (h : PairAt K D H t x) : PairAt K D H' t x := by
  obtain ⟨p, h1, h2⟩ := h
  exact ⟨p, e _ _ (fun z => hv.1 _ (z ▸ h1)) h1, e.line hv hn h2⟩
def spBack (K : PySem.W.Frag) (D : Ad) : Sp := fun vs H Q _ => ∃ (b : Addr) (g : Pl) (O : Hp) (u : Nat) (as : List Sm15.Atom) (ls : List Sm15.Line) (nx : Nat), vs = [.ref b] ∧ Bk K D H O b g u as ls nx ∧ ls.length ≤ 20000 ∧ (numsOf ls).Nodup ∧ (∀ x ∈ ls, x.clause.length ≤ 1000 ∧ (Sm15.sources x.way).length ≤ 1000 ∧ ∀ i j a, x.way = .joined i j a → 1 ≤ a) ∧
  (g.ms = [] → ∀ (H' : Hp) (p : Addr), Bk K D H' O b g u as ls nx → H' p = some (.lst ([-7].map V.int)) → Q (.ref p) H') ∧
  ∀ m ms, g.ms = m :: ms → m.1.lines.length ≤ 20000 ∧ (∀ y ∈ m.1.lines, y.num < m.2) ∧ ∀ (H' : Hp) (p : Addr) (g' : Pl) (ls' : List Sm15.Line), g'.ms = ms → ls' = keptP m.1.atoms.length (ls.filter fun x => decide (m.2 ≤ x.num)) m.1.lines → Bk K D H' O b g' u m.1.atoms ls' nx → H' p = some (.lst ([(ls'.length : Int), (ls'.length : Int) - (m.1.lines.length : Int)].map V.int)) → Q (.ref p) H'
theorem ok_Book_back (T : Txt K mg D) : FnOk P w K mg base CX0 3 D.a_Book_back D.d_Book_back ["self"] (spBack K D) := by
  refine T.f_Book_back.ok sc_Book_back (fun vs H Q E h => ?_) (fun cdv A outer s H vs Q E hr h => ?_)
  · obtain ⟨_, _, _, _, _, _, _, rfl, _⟩ := h
    rfl
  · obtain ⟨b, g, O, u, as, ls, nx, rfl, hB, hz, hnd, hls, q1, q2⟩ := h
    refine ⟨_, (pss_cons (ps_if (pt_cmpR op_eq (pe_callB call_len_seq (by rfl) T.b_len PySem.boot_len (pa_cons (pe_fld (pv 0) rfl) pa_nil)) pe_int (nomark _)) (pss_one (ps_ret (pe_lst (pa_cons (pe_gi (by rfl) T.c_NO_MARK) pa_nil)))) pss_nil)
      (pss_cons (ps_set (i := 1) sc_Book_back.nd rfl (Or.inr rfl) (pe_bm0 PySem.F.plainAttrs_list PySem.F.slot_list_pop PySem.F.type_list_pop mt_pop (pe_fld (pv 0) rfl)))
      (pss_cons (ps_lock (ps_setLc (i := 2) (own := [("number", 4), ("line", 5)]) (g := gTup K 2 (gCons (gName 4) (gCons (gName 5) gNil))) (by rfl) sc_Book_back.nd rfl rfl (sw_true rfl rfl rfl (by decide +kernel)) (pi_items (pe_fld (pv 0) rfl)) (blkOk_by (own := [("number", 4), ("line", 5)]) (N := ["self", "mark", "since", "at_mark", "number", "line"]) (sc := defScope s_Book_back) (by decide +kernel)) (fun _ _ _ _ _ => (pg_tup rfl (pgs_cons (pg_name (i := 4) sc_Book_back.nd rfl (Or.inl rfl)) (pgs_cons (pg_name (i := 5) sc_Book_back.nd rfl (Or.inl rfl)) pgs_nil)))) (fun _ _ _ _ _ => (pts_one (pt_cmpR op_ge (pv 4) (pe_fldK K (pv 1) rfl) (nomark _)))) (fun _ _ _ _ _ => (pe_tup (pa_cons (pv 4) (pa_cons (pv 5) pa_nil))))))
      (pss_cons (ps_fld (pv 0) (pe_fld (pv 1) rfl) rfl)
      (pss_cons (ps_fld (pv 0) (pe_fld (pv 1) rfl) rfl)
      (pss_cons (ps_set (i := 3) sc_Book_back.nd rfl (Or.inl rfl) (pe_callB call_lenD (by rfl) T.b_len PySem.boot_len (pa_cons (pe_fld (pv 0) rfl) pa_nil)))
      (pss_cons (ps_for PassesOwn.never rfl (pi_list (pv 2)) (pg_tup rfl (pgs_cons (pg_name (i := 4) sc_Book_back.nd rfl (Or.inl rfl)) (pgs_cons (pg_name (i := 5) sc_Book_back.nd rfl (Or.inl rfl)) pgs_nil))) (pss_one (ps_if (pt_val (pe_meth (pv 0) T.k_Book T.t_Book_can_stay (ok_Book_can_stay T) hr T.n_Book_can_stay .nil pass0 (pa_cons (pv 5) pa_nil))) (pss_one (ps_dput (hu_of hr) (pe_fld (pv 0) rfl) (pv 4) (pv 5) rfl)) pss_nil)))
      (pss_one (ps_ret (pe_lst (pa_cons (pe_callB call_lenD (by rfl) T.b_len PySem.boot_len (pa_cons (pe_fld (pv 0) rfl) pa_nil)) (pa_cons (pe_op op_sub (pe_callB call_lenD (by rfl) T.b_len PySem.boot_len (pa_cons (pe_fld (pv 0) rfl) pa_nil)) (pv 3)) pa_nil)))))))))))), ?_⟩
    refine q_when (et_test (ev_eq (j := 0) (rb_nmarks T hB.at_ (ev_var (i := 0) rfl)) ev_c)) (fun hb H1 e1 => ?_) (fun hb H1 e1 => ?_)
    · have hb := of_decide_eq_true hb
      exact s_retL (el_lst (ea_cons ev_c ea_nil) (by show 1 ≤ 100000; decide)) fun p H2 np e2 hp => q1 (List.eq_nil_of_length_eq_zero (by omega)) H2 p (hB.ex (e1.trans e2)) hp
    · have hb := of_decide_eq_false hb
      have hB1 := hB.ex e1
      obtain ⟨m, ms, em⟩ : ∃ m ms, g.ms = m :: ms := by
        cases e : g.ms with
        | nil => rw [e] at hb; exact absurd rfl hb
        | cons m ms => exact ⟨m, ms, rfl⟩
      obtain ⟨mz, mlt, q3⟩ := q2 m ms em
      have rl : g.rs.length = ms.length + 1 := by rw [hB1.at_.mks.len, em]; rfl
      have rne : g.rs ≠ [] := fun z => by rw [z] at rl; simp at rl
      obtain ⟨rs, r, er⟩ : ∃ rs r, g.rs = rs ++ [r] := ⟨g.rs.dropLast, g.rs.getLast rne, (List.dropLast_concat_getLast rne).symm⟩
      have ml := hB1.at_.mks.ml
      have ob := hB1.at_.ob
      have nbm : b ≠ g.ml := fun z => by rw [z, ml] at ob; cases ob
      -- mark = self.marks.pop()
      refine ⟨.ref b, rfl, b, D.c_Book, g.dx, _, _, rfl, ob, T.k_Book, T.x_Book_marks, bF_marks, .inl ⟨rfl, _, sq_of ml⟩, g.ml, _, .ref r.q, rfl, rfl, ml, by rw [er]; simp, ?_⟩
      rw [show (g.rs.map fun r => V.ref r.q).dropLast = rs.map fun r => V.ref r.q by rw [er]; simp]
      have eP : ExB g.ml H1 (upd H1 g.ml (.lst (rs.map fun r => V.ref r.q))) := ExB.upd
      have ml2 : (upd H1 g.ml (.lst (rs.map fun r => V.ref r.q))) g.ml = some (.lst (rs.map fun r => V.ref r.q)) := upd_same
      generalize upd H1 g.ml (.lst (rs.map fun r => V.ref r.q)) = H2 at *
      obtain ⟨kvs, l1, l2⟩ := hB1.at_.ln
      have kl := pr_len l2
      have nlm : g.dl ≠ g.ml := fun z => by rw [z, ml] at l1; cases l1
      have l12 := eP _ _ nlm l1
      have l22 := eP.lines (soft_lst ml) (noline_lst ml) l2
      have ob2 := eP _ _ nbm ob
      have hmk : MarkAt K D H1 r m := by
        have pr := hB1.at_.mks.mks
        rw [er, em, List.reverse_cons] at pr
        exact (pr_unsnoc pr).2
      have nqm : r.q ≠ g.ml := fun z => by have := hmk.ob; rw [z, ml] at this; cases this
      have mob2 := eP _ _ nqm hmk.ob
      -- since = [..]
      refine ⟨g.dl, .dK kvs, l12, trivial, fun od => ?_⟩
      have eL : ExB g.dl H2 (upd H2 g.dl (.frz od (.dK kvs))) := ExB.upd
      have bd : b ≠ g.dl := fun z => by rw [z, l12] at ob2; cases ob2
      have qd : r.q ≠ g.dl := fun z => by rw [z, l12] at mob2; cases mob2
      have l2L := eL.lines (soft_dK l12) (noline_dK l12) l22
      have obL := eL _ _ bd ob2
      have mobL := eL _ _ qd mob2
      have dL : (upd H2 g.dl (.frz od (.dK kvs))) g.dl = some (.frz od (.dK kvs)) := upd_same
      have unl : ∀ H', Ex (upd H2 g.dl (.frz od (.dK kvs))) H' → Ex H2 (upd H' g.dl (.dK kvs)) := fun H' e => unlock l12 e
      have frL : ∀ {c}, (upd H2 g.dl (.frz od (.dK kvs))) c = none → H2 c = none := fun {c} hc => by
        have : c ≠ g.dl := fun z => by rw [z, upd_same] at hc; cases hc
        rw [upd_ne this] at hc
        exact hc
      generalize hHL : upd H2 g.dl (.frz od (.dK kvs)) = HL at *
      refine ⟨.ref b, rfl, b, D.c_Book, g.dx, _, _, rfl, obL, T.k_Book, T.x_Book_lines, bF_lines, g.dl, od, kvs, rfl, dL, fun Dl hD => ?_⟩
      refine lc_it walk_items (fun i H' => Ex HL H' ∧ ∃ ts : List Addr, H' Dl = some (.lst (ts.map V.ref)) ∧ Paired (PairAt K D (hidT Dl H')) ts ((ls.take i).filter fun x => decide (m.2 ≤ x.num)) ∧ ts.length ≤ i) ⟨Ex.new hD, [], upd_same, .nil, Nat.zero_le _⟩ (fun i H' _ ⟨e, _⟩ => e _ _ dL) ?_ ?_
      · rintro i x H' H'' hi ⟨eH, ts, hts, hP, htl⟩ ⟨Tp, x1, x2, rfl, nT, rfl, hx1, hx2⟩
        have hlt : i < ls.length := by omega
        obtain ⟨kv, hkv, hat⟩ := pr_get l2L (List.getElem?_eq_getElem hlt)
        obtain ⟨hk1, p, hk2, hk3⟩ := hat
        dsimp only at hx1 hx2
        rw [hkv] at hx1 hx2
        have ex1 : x1 = .int ((ls[i].num : Nat) : Int) := by
          have := Option.some.inj hx1
          rw [← this]
          dsimp only
          rw [hk1]
          rfl
        have ex2 : x2 = .ref p := by
          have := Option.some.inj hx2
          rw [← this]
          exact hk2
        subst ex1 ex2
        have eT : Ex H' (upd H' Tp (.tup [.int ((ls[i].num : Nat) : Int), .ref p])) := Ex.new nT
        have hT : (upd H' Tp (.tup [.int ((ls[i].num : Nat) : Int), .ref p])) Tp = some (.tup [.int ((ls[i].num : Nat) : Int), .ref p]) := upd_same
        generalize upd H' Tp (.tup [.int ((ls[i].num : Nat) : Int), .ref p]) = H3 at *
        refine ⟨Tp, _, rfl, st_of hT, rfl, _, _, rfl, _, _, rfl, rfl, rfl, ?_⟩
        have more : (ls.take (i + 1)).filter (fun x => decide (m.2 ≤ x.num)) = (ls.take i).filter (fun x => decide (m.2 ≤ x.num)) ++ (if decide (m.2 ≤ ls[i].num) = true then [ls[i]] else []) := by
          rw [List.take_add_one, List.getElem?_eq_getElem hlt, List.filter_append]
          by_cases c : m.2 ≤ ls[i].num
          · simp [c]
          · simp [c]
        have test : EvT (tTest (tOp (rI0 fun i j => .bl (decide (j ≤ i))) (tVar 4) (tFld K (tVar 1) "next_number"))) [some (.ref b), some (.ref r.q), none, none, some (.int ((ls[i].num : Nat) : Int)), some (.ref p)] H3 (decide (m.2 ≤ ls[i].num)) := et_is (et_test (ev_ge (i := ((ls[i].num : Nat) : Int)) (j := (m.2 : Int)) (ev_var (i := 4) rfl) (ev_fld (ev_var (i := 1) rfl) (eT _ _ (eH _ _ mobL)) T.k_Mark T.x_Mark_next_number mF_next))) (by rw [Bool.eq_iff_iff, decide_eq_true_eq, decide_eq_true_eq]; omega)
        refine test H3 (Ex.refl _) _ fun H4 e4 => ?_
        have e04 := eT.trans e4
        by_cases c : decide (m.2 ≤ ls[i].num) = true
        · rw [if_pos c]
          rw [if_pos c] at more
          refine ⟨_, rfl, _, rfl, by show 2 ≤ sizeLine; decide, fun t nt => ?_⟩
          have e5 : Ex H4 (upd H4 t (.tup [.int ((ls[i].num : Nat) : Int), .ref p])) := Ex.new nt
          have hD5 : (upd H4 t (.tup [.int ((ls[i].num : Nat) : Int), .ref p])) Dl = some (.lst (ts.map V.ref)) := e5 _ _ (e04 _ _ hts)
          have ht5 : (upd H4 t (.tup [.int ((ls[i].num : Nat) : Int), .ref p])) t = some (.tup [.int ((ls[i].num : Nat) : Int), .ref p]) := upd_same
          have e05 := e04.trans e5
          generalize upd H4 t (.tup [.int ((ls[i].num : Nat) : Int), .ref p]) = H5 at *
          have ntD : t ≠ Dl := fun z => by rw [z, hD5] at ht5; cases ht5
          refine ⟨_, hD5, sz_lt (by rw [List.length_map]; omega), Ex.mut (eH.trans e05) hD, ts ++ [t], by rw [upd_same, List.map_append]; rfl, ?_, by rw [List.length_append]; show ts.length + 1 ≤ i + 1; omega⟩
          rw [more]
          have keep : Ex (hidT Dl H') (hidT Dl (upd H5 Dl (.lst (ts.map V.ref ++ [.ref t])))) := (hidT_ex e05).trans hidT_upd
          refine pr_snoc ⟨p, hidT_at ntD (by rw [upd_ne ntD]; exact ht5), ?_⟩ (pr_imp (fun _ _ => PairAt.ex keep) hP)
          have eLk : Ex HL (hidT Dl (upd H5 Dl (.lst (ts.map V.ref ++ [.ref t])))) := fun c o hc => by
            have nc : c ≠ Dl := ne_of_none hc hD
            exact hidT_at nc (by rw [upd_ne nc]; exact e05 _ _ (eH _ _ hc))
          exact hk3.ex eLk
        · rw [if_neg c]
          rw [if_neg c, List.append_nil] at more
          refine ⟨eH.trans e04, ts, e04 _ _ hts, ?_, by omega⟩
          rw [more]
          exact pr_imp (fun _ _ => PairAt.ex (hidT_ex e04)) hP
      · rintro H3 ⟨eH, ts, hts, hP, htl⟩
        rw [kl, List.take_length] at hP
        refine ⟨eH _ _ dL, ?_⟩
        have eU := unl H3 eH
        have ndD : Dl ≠ g.dl := fun z => by rw [z, dL] at hD; cases hD
        have hts4 : (upd H3 g.dl (.dK kvs)) Dl = some (.lst (ts.map V.ref)) := by rw [upd_ne ndD]; exact hts
        have hP4 : Paired (PairAt K D (upd H3 g.dl (.dK kvs))) ts (ls.filter fun x => decide (m.2 ≤ x.num)) := by
          have eV : ExB g.dl H3 (upd H3 g.dl (.dK kvs)) := ExB.upd
          have hd3 := eH _ _ dL
          have sd : Soft H3 g.dl ∨ True := .inr trivial
          refine pr_imp (fun t x h => ?_) hP
          obtain ⟨p, h1, dx, tn, tc, h2, h3, h4⟩ := h
          have nn : ∀ {c o}, hidT Dl H3 c = some o → (∀ z, o ≠ HO.frz od z) → (upd H3 g.dl (.dK kvs)) c = some o := fun {c o} hc ho => by
            have h3 := hidT_sub _ _ hc
            have : c ≠ g.dl := fun z => by
              rw [z, hd3] at h3
              exact ho _ (Option.some.inj h3).symm
            rw [upd_ne this]
            exact h3
          refine ⟨p, nn h1 (fun z e => nomatch e), dx, tn, tc, nn h2 (fun z e => nomatch e), ?_, nn h4 (fun z e => nomatch e)⟩
          rcases h3 with (h3 | ⟨o, h3⟩) | h3
          · exact .inl (.inl (nn h3 (fun z e => nomatch e)))
          · have h3' := hidT_sub _ _ h3
            by_cases z : tn = g.dl
            · rw [z, hd3] at h3'
              cases h3'
            · exact .inl (.inr ⟨o, by rw [upd_ne z]; exact h3'⟩)
          · exact .inr h3
        generalize upd H3 g.dl (.dK kvs) = H4 at *
        -- self.atoms = mark.atoms; self.lines = mark.lines
        have ob4 := eU _ _ ob2
        have mob4 := eU _ _ mob2
        have nqb : r.q ≠ b := fun z => by
          rw [z, ob4] at mob4
          have e := (HO.ins.inj (Option.some.inj mob4)).2.2
          exact absurd (congrArg List.length e) (by show ¬ 5 = 3; decide)
        refine ⟨.ref r.q, rfl, r.q, D.c_Mark, r.dx, _, _, rfl, mob4, T.k_Mark, T.x_Mark_atoms, mF_atoms, .ref b, rfl, b, D.c_Book, g.dx, _, rfl, ob4, T.k_Book, T.x_Book_atoms, by show 5 < 1000; decide, ?_⟩
        rw [bF_putAtoms]
        refine ⟨.ref r.q, rfl, r.q, D.c_Mark, r.dx, _, _, rfl, by rw [upd_ne nqb]; exact mob4, T.k_Mark, T.x_Mark_lines, mF_lines, .ref b, rfl, b, D.c_Book, g.dx, _, rfl, upd_same, T.k_Book, T.x_Book_lines, by show 5 < 1000; decide, ?_⟩
        rw [bF_putLines, upd_over]
        have eBk : ExB b H4 (upd H4 b (.ins D.c_Book g.dx (bF u r.al r.dl nx g.ml))) := ExB.upd
        have hB5 : Bk K D (upd H4 b (.ins D.c_Book g.dx (bF u r.al r.dl nx g.ml))) O b ⟨g.dx, r.al, r.dl, g.ml, rs, ms⟩ u m.1.atoms m.1.lines nx := take_mark hB1 er em (fun c o h1 h2 ho => eBk _ _ h1 (eU _ _ (eP _ _ h2 ho))) upd_same (eBk _ _ nbm.symm (eU _ _ ml2))
        have nDb : Dl ≠ b := fun z => by rw [z, ob4] at hts4; cases hts4
        have hts5 := eBk _ _ nDb hts4
        have hP5 : Paired (PairAt K D (upd H4 b (.ins D.c_Book g.dx (bF u r.al r.dl nx g.ml)))) ts (ls.filter fun x => decide (m.2 ≤ x.num)) := pr_imp (fun _ _ => PairAt.exb eBk (soft_ins ob4) (noline_book ob4)) hP4
        generalize upd H4 b (.ins D.c_Book g.dx (bF u r.al r.dl nx g.ml)) = H5 at *
        generalize hxs : ls.filter (fun x => decide (m.2 ≤ x.num)) = xs at *
        have xin : ∀ x ∈ xs, x ∈ ls ∧ m.2 ≤ x.num := fun x hx => by
          rw [← hxs] at hx
          exact ⟨(List.mem_filter.mp hx).1, of_decide_eq_true (List.mem_filter.mp hx).2⟩
        have xnd : (numsOf xs).Nodup := by
          rw [← hxs]
          unfold numsOf
          exact List.Pairwise.sublist (List.Sublist.map _ List.filter_sublist) hnd
        have xl : xs.length ≤ ls.length := by rw [← hxs]; exact List.length_filter_le _ _
        -- at_mark = len(self.lines)
        obtain ⟨kvs5, l15, l25⟩ := hB5.at_.ln
        refine q_asg (v := .int (m.1.lines.length : Int)) (ev_is (ev_lenD (rb_lines T hB5.at_ (ev_var (i := 0) rfl)) l15) (by rw [pr_len l25])) fun H6 e6 => ?_
        have hB6 := hB5.ex e6
        have nDd : Dl ≠ r.dl := fun z => by rw [← z, hts5] at l15; cases l15
        have hts6 := e6 _ _ hts5
        have hP6 : Paired (PairAt K D H6) ts xs := pr_imp (fun _ _ => PairAt.ex e6) hP5
        obtain ⟨kvs6, l16, l26⟩ := hB6.at_.ln
        have l16 : H6 r.dl = some (.dK kvs6) := l16
        refine q_forL (K := K) (xs := ts.map V.ref) (ev_var (i := 2) rfl) (sq_of hts6) (fun i σ H' => ∃ (y4 y5 : Option V) (got : List Sm15.Line), σ = [some (.ref b), some (.ref r.q), some (.ref Dl), some (.int (m.1.lines.length : Int)), y4, y5] ∧ ExB r.dl H6 H' ∧ Bk K D H' O b ⟨g.dx, r.al, r.dl, g.ml, rs, ms⟩ u m.1.atoms got nx ∧ keptP m.1.atoms.length xs m.1.lines = keptP m.1.atoms.length (xs.drop i) got ∧ got.length ≤ m.1.lines.length + i ∧ ∀ x ∈ xs.drop i, x.num ∉ numsOf got)
          (fun H7 e7 => ⟨none, none, m.1.lines, rfl, ExB.of e7, hB6.ex e7, rfl, Nat.le_refl _, fun x hx hm => by
            obtain ⟨y, hy, e⟩ := List.mem_map.mp hm
            have h1 := mlt y hy
            have h2 := (xin x hx).2
            have e : y.num = x.num := e
            omega⟩) (fun i σ H' _ ⟨_, _, _, _, e, _⟩ => sq_of (e _ _ nDd hts6)) ?_ ?_
        · rintro i v σ H7 hi ⟨y4, y5, got, rfl, eB7, hB7, hk, hgl, hnew⟩
          obtain ⟨t, ht, rfl, _⟩ := map_at hi
          obtain ⟨x, hx, hpx⟩ := pr_get2 hP6 ht
          have hxl : i < xs.length := (List.getElem?_eq_some_iff.mp hx).1
          have xm := List.mem_of_getElem? hx
          obtain ⟨p, hp1, hp2⟩ := hpx.exb eB7 (soft_dK l16) (noline_dK l16)
          have drop : xs.drop i = x :: xs.drop (i + 1) := by
            rw [List.drop_eq_getElem_cons hxl]
            congr 1
            rw [List.getElem?_eq_getElem hxl] at hx
            exact Option.some.inj hx
          rw [drop] at hk hnew
          have hk : keptP m.1.atoms.length xs m.1.lines = if stays m.1.atoms.length got x = true then keptP m.1.atoms.length (xs.drop (i + 1)) (got ++ [x]) else keptP m.1.atoms.length (xs.drop (i + 1)) got := hk
          refine ⟨t, _, rfl, st_of hp1, rfl, _, _, rfl, _, _, rfl, rfl, ?_⟩
          obtain ⟨xls, _⟩ := xin x xm
          obtain ⟨c1, c2, c3⟩ := hls x xls
          refine s_when (et_B (ev_meth (dvs := []) (ev_var (i := 0) rfl) hB7.at_.ob (bF_m (by decide +kernel)) (ea_cons (ev_var (i := 5) rfl) ea_nil) fun H8 e8 Q8 q8 E8 => ⟨b, _, u, m.1.atoms, got, nx, p, x, rfl, hB7.at_.ex e8, hp2.ex e8, c1, c2, c3, q8⟩)) (fun hb2 H8 e8 => ?_) (fun hb2 H8 e8 => ?_)
          · rw [if_pos hb2] at hk
            have hB8 := hB7.ex e8
            obtain ⟨kvs8, l18, l28⟩ := hB8.at_.ln
            have kl8 := pr_len l28
            have vn : valV kvs8 (Sum.inl (x.num : Int)) = none := val_none l28 (lineAt_none fun y hy e => hnew x List.mem_cons_self (List.mem_map.mpr ⟨y, hy, e⟩))
            refine ⟨.ref p, rfl, .ref b, rfl, b, D.c_Book, g.dx, _, _, rfl, hB8.at_.ob, T.k_Book, T.x_Book_lines, bF_lines, .int (x.num : Int), rfl, r.dl, _, rfl, DPut.k (k := Sum.inl (x.num : Int)) l18 (sz_lt (by omega)), ?_⟩
            rw [putK_new _ vn]
            have hB9 := put_old hB8 l18 l28 (hp2.ex e8)
            refine ⟨_, _, got ++ [x], rfl, (eB7.trans (ExB.of e8)).trans ExB.upd, hB9, hk, by rw [List.length_append]; show got.length + 1 ≤ _; omega, fun y hy hm => ?_⟩
            unfold numsOf at hm
            rw [List.map_append, List.mem_append] at hm
            rcases hm with hm | hm
            · exact hnew y (List.mem_cons_of_mem _ hy) hm
            · have : y.num = x.num := by simpa using hm
              -- numbers are once
              have nd2 : (numsOf (xs.drop i)).Nodup := by
                unfold numsOf at xnd ⊢
                exact List.Pairwise.sublist (List.Sublist.map _ (List.drop_sublist i xs)) xnd
              rw [drop] at nd2
              have nd3 := List.nodup_cons.mp (show (x.num :: numsOf (xs.drop (i + 1))).Nodup from nd2)
              exact nd3.1 (this ▸ List.mem_map.mpr ⟨y, hy, rfl⟩)
          · rw [if_neg (by rw [hb2]; decide)] at hk
            exact ⟨_, _, got, rfl, eB7.trans (ExB.of e8), hB7.ex e8, hk, by omega, fun y hy => hnew y (List.mem_cons_of_mem _ hy)⟩
        · rintro σ H7 ⟨y4, y5, got, rfl, eB7, hB7, hk, hgl, hnew⟩
          rw [List.length_map, pr_len hP6, List.drop_length] at hk
          have hk : keptP m.1.atoms.length xs m.1.lines = got := hk
          obtain ⟨kvs7, l17, l27⟩ := hB7.at_.ln
          have len : ∀ {H8}, Ex H7 H8 → Ev (tCB (fun xs H Q => ∃ a kvs, xs = [V.ref a] ∧ H a = some (.dK kvs) ∧ Q (.int kvs.length) H) (tCons (tFld K (tVar 0) "lines") tNil)) [some (.ref b), some (.ref r.q), some (.ref Dl), some (.int (m.1.lines.length : Int)), y4, y5] H8 (.int (got.length : Int)) := fun e8 => ev_is (ev_lenD (rb_lines T (hB7.at_.ex e8) (ev_var (i := 0) rfl)) (e8 _ _ l17)) (by rw [pr_len l27])
          exact s_retL (el_lst (ea_cons (len (Ex.refl _)) (ea_cons (ev_sub (len (Ex.refl _)) (ev_var (i := 3) rfl)) ea_nil)) (by show 2 ≤ 100000; decide)) fun p H8 np e8 hp => q3 H8 p _ got rfl hk.symm (hB7.ex e8) hp
end
end Cp
/-! Cp16 -/
namespace Cp
open PySem PySem.Spec PyProof.Rows L2 Evl
/-- clauses in a list -/
def ClsAt (K : PySem.W.Frag) (H : Hp) (a : Addr) (cs : List (List Int)) : Prop := ∃ ps : List Addr, SqL K H a (ps.map V.ref) ∧ Paired (fun (p : Addr) (c : List Int) => SqT K H p (c.map V.int)) ps cs
theorem ClsAt.ex {K : PySem.W.Frag} {H H' : Hp} {a : Addr} {cs : List (List Int)} (e : Ex H H') (h : ClsAt K H a cs) : ClsAt K H' a cs := by
  obtain ⟨ps, h1, h2⟩ := h
  exact ⟨ps, ex_l e h1, pr_imp (fun _ _ => ex_t e) h2⟩
/-- over a new list -/
theorem lcN {K : PySem.W.Frag} {σ : L2.St} {H : Hp} {te tl : TE} {t : TT} {α : Type} {ms : List α} {emb : α → V} {j : Nat} {vs : List Nat} (f : α → Bool) (e : α → V) (h : EvL tl σ H (ms.map emb)) (hz : ms.length ≤ 40000) (hw : ∀ x, wipe ((wipe σ vs).set j (some x)) vs = wipe σ vs)
    (ht : ∀ m ∈ ms, ∀ H1, Ex H H1 → EvT t ((wipe σ vs).set j (some (emb m))) H1 (f m)) (he : ∀ m ∈ ms, ∀ H1, Ex H H1 → f m = true → Ev te ((wipe σ vs).set j (some (emb m))) H1 (e m)) :
    EvL (tLc (iList K tl) (gName j) t te vs) σ H ((ms.filter f).map e) := fun H0 e0 Q q => h H0 e0 _ fun a H1 na e1 hx => ⟨a, rfl, ⟨_, sq_of hx⟩, fun Dl hD =>
  lc_list (xs := ms.map emb) (Lw H1 ms f e Dl) ⟨hD, Ex.new hD, upd_same⟩ (fun i H' _ p => sq_of (p.2.1 _ _ hx)) (fun i x H' hi p => by
    obtain ⟨m, hm, rfl, mm⟩ := map_at hi
    exact ⟨hw _, lw_turn p hm hz (ht m mm H1 (e0.trans e1)) (fun hf => he m mm H1 (e0.trans e1) hf)⟩)
    (fun H' p => q Dl H' (fresh_back e1 p.1) (e1.trans p.2.1) (by
      have z := p.2.2
      rw [List.length_map, List.take_length] at z
      exact z))⟩
section
variable {P : Program} {w : World} {K : PySem.W.Frag} {mg : Str → Option Value} {base : Heap} {D : Ad}
/-- a def for each depth -/
theorem fn_depth {f : Addr} {fd : FuncData} {ps : List Str} {sp : Nat → Sp} {n L : Nat} {l : Nat → Nat} (h : ∀ k, k ≤ n → FnOk P w K mg base CX0 (l k) f fd ps (sp k)) (hl : ∀ k, k ≤ n → l k ≤ L) : FnOk P w K mg base CX0 L f fd ps (fun vs H Q E => ∃ k, k ≤ n ∧ sp k vs H Q E) :=
  ⟨fun vs H Q E ⟨k, hk, hs⟩ => (h k hk).len vs H Q E hs, fun A outer s H args us vs Q E hr he hb hv ⟨k, hk, hs⟩ => (h k hk).run A outer s H args us vs Q E (hr.mono (hl k hk)) he hb hv hs⟩
theorem fn_never {f : Addr} {fd : FuncData} {ps : List Str} {L : Nat} : FnOk P w K mg base CX0 L f fd ps (fun _ _ _ _ => False) := ⟨fun _ _ _ _ h => h.elim, fun _ _ _ _ _ _ _ _ _ _ _ _ _ h => h.elim⟩
/-! ### first_row -/
def spRow (K : PySem.W.Frag) (f : Nat) : Sp := fun vs H Q _ => ∃ (aA aC aS : Addr) (u : Nat) (as : List Sm15.Atom) (cs : List (List Int)) (so : List Int), vs = [.ref aA, .int (u : Int), .ref aC, .ref aS] ∧ AtomsAt K H aA as ∧ ClsAt K H aC cs ∧ H aS = some (.lst (so.map V.int)) ∧ so.length + f = as.length ∧ Lits as.length so ∧ as.length ≤ 8 ∧ cs.length ≤ 40000 ∧ (∀ c ∈ cs, c.length ≤ 1000) ∧ u ≤ 4 ∧ AtomsOk u as ∧
  (rowF u as cs f so = none → RetV .non H Q) ∧ ∀ r, rowF u as cs f so = some r → ∀ p H2, Ex H H2 → H2 p = some (.lst (r.map V.int)) → Q (.ref p) H2
def spRow' (K : PySem.W.Frag) : Nat → Sp
  | 0 => fun _ _ _ _ => False
  | f + 1 => spRow K f
theorem step_first_row (T : Txt K mg D) (f : Nat) (rk_first_row : FnOk P w K mg base CX0 (4 - 1 + f) D.a_first_row D.d_first_row ["atoms", "u", "clauses", "so"] (spRow' K f)) : FnOk P w K mg base CX0 (4 - 1 + f + 1) D.a_first_row D.d_first_row ["atoms", "u", "clauses", "so"] (spRow K f) := by
  refine T.f_first_row.ok sc_first_row (fun vs H Q E h => ?_) (fun cdv A outer s H vs Q E hr h => ?_)
  · obtain ⟨_, _, _, _, _, _, _, rfl, _⟩ := h
    rfl
  · obtain ⟨aA, aC, aS, u, as, cs, so, rfl, hA, ⟨ps, hC1, hC2⟩, hS, hf, hl, hal, hcl, hcz, hu, hok, q1, q2⟩ := h
    have hg := good_edges hok
    refine ⟨_, (pss_cons (ps_if (PW.pt (pw_or (pt_val (pe_callB (cr_any (by rfl)) (by rfl) T.b_any (by decide +kernel) (pa_cons (pe_lc (own := [("clause", 6)]) (g := gName 6) (by rfl) sc_first_row.nd (pi_list (pv 2)) (blkOk_by (own := [("clause", 6)]) (N := ["atoms", "u", "clauses", "so", "atom", "found", "clause"]) (sc := defScope s_first_row) (by decide +kernel)) (fun _ _ _ _ _ => (pg_name (i := 6) sc_first_row.nd rfl (Or.inl rfl))) (fun _ _ _ _ _ => pts_nil) (fun _ _ _ _ _ => (pe_call (ok_is_broken T) (hr.mono (by omega)) (by rfl) T.g_is_broken T.f_is_broken.kp T.n_is_broken .nil pass0 (pa_cons (pv 6) (pa_cons (pv 3) pa_nil))))) pa_nil))) (pw_or1 (pt_not (pt_val (pe_call (ok_can_be_together T) (hr.mono (by omega)) (by rfl) T.g_can_be_together T.f_can_be_together.kp T.n_can_be_together .nil pass0 (pa_cons (pv 0) (pa_cons (pv 1) (pa_cons (pv 3) pa_nil))))))))) (pss_one (ps_ret pe_non)) pss_nil)
      (pss_cons (ps_if (pt_cmpR op_eq (pe_callB call_len_seq (by rfl) T.b_len PySem.boot_len (pa_cons (pv 3) pa_nil)) (pe_callB call_len_seq (by rfl) T.b_len PySem.boot_len (pa_cons (pv 0) pa_nil)) (nomark _)) (pss_one (ps_ret (pv 3))) pss_nil)
      (pss_cons (ps_set (i := 4) sc_first_row.nd rfl (Or.inl rfl) (pe_op op_add (pe_callB call_len_seq (by rfl) T.b_len PySem.boot_len (pa_cons (pv 3) pa_nil)) pe_int))
      (pss_cons (ps_set (i := 5) sc_first_row.nd rfl (Or.inl rfl) (pe_call rk_first_row (hr.mono (by omega)) (by rfl) T.g_first_row T.f_first_row.kp T.n_first_row .nil pass0 (pa_cons (pv 0) (pa_cons (pv 1) (pa_cons (pv 2) (pa_cons (pe_op op_cat (pv 3) (pe_lst (pa_cons (pe_un un_neg (pv 4)) pa_nil))) pa_nil))))))
      (pss_cons (ps_if (pt_cmpR op_notN (pv 5) pe_non (nomark _)) (pss_one (ps_ret (pv 5))) pss_nil)
      (pss_one (ps_ret (pe_call rk_first_row (hr.mono (by omega)) (by rfl) T.g_first_row T.f_first_row.kp T.n_first_row .nil pass0 (pa_cons (pv 0) (pa_cons (pv 1) (pa_cons (pv 2) (pa_cons (pe_op op_cat (pv 3) (pe_lst (pa_cons (pv 4) pa_nil))) pa_nil)))))))))))), ?_⟩
    obtain ⟨ms, m1, m2, m3⟩ := pr_zip hC2
    have ml : ms.length = cs.length := by rw [← m2, List.length_map]
    have hC : SqL K H aC (ms.map fun m => V.ref m.1) := by
      rw [show ms.map (fun m => V.ref m.1) = (ms.map (·.1)).map V.ref by rw [List.map_map]; rfl, m1]
      exact hC1
    have gb := lcL (K := K) (σ := [some (.ref aA), some (.int (u : Int)), some (.ref aC), some (.ref aS), none, none, none]) (H := H) (t := tYes) (te := tCall (spBr K) [] E0 (tCons (tVar 6) (tCons (tVar 3) tNil))) (tl := tVar 2) (j := 6) (vs := [6]) (emb := fun m : Addr × List Int => V.ref m.1) (fun _ => true) (fun m => V.bl (brokenBy m.2 so)) (ev_var rfl) hC (by omega) (fun x => rfl) (fun m _ H1 e => et_yes)
      (fun m hm H1 e _ => ev_call (dvs := []) (ea_cons (ev_var (i := 6) rfl) (ea_cons (ev_var (i := 3) rfl) ea_nil)) fun H2 e2 Q2 k2 E2 => ⟨m.1, aS, m.2, so, rfl, ex_t (e.trans e2) (m3 m hm), sq_of ((e.trans e2) _ _ hS), hcz m.2 (by rw [← m2]; exact List.mem_map.mpr ⟨m, hm, rfl⟩), k2⟩)
    rw [filter_yes, show ms.map (fun m => V.bl (brokenBy m.2 so)) = ((ms.map (·.2)).map fun c => brokenBy c so).map V.bl by rw [List.map_map, List.map_map]; rfl, m2] at gb
    have g2 := ev_any (K := K) gb
    rw [any_map_id] at g2
    refine q_when (b := !okRow u as cs so) (et_is (et_or (et_B g2) fun _ => et_not (et_B (ev_call (dvs := []) (ea_cons (ev_var (i := 0) rfl) (ea_cons (ev_var (i := 1) rfl) (ea_cons (ev_var (i := 3) rfl) ea_nil))) fun H1 e1 Q1 k1 E1 => ⟨aA, aS, u, as, so, rfl, hA.ex e1, sq_of (e1 _ _ hS), hl, by omega, by omega, hg so, k1⟩))) (by unfold okRow; rw [Bool.not_and, Bool.not_not])) (fun hb H1 e1 => ?_) (fun hb H1 e1 => ?_)
    · have hb : okRow u as cs so = false := by simpa using hb
      have hn : rowF u as cs f so = none := by
        cases f with
        | zero => unfold rowF; rw [if_neg (by rw [hb]; decide)]
        | succ f => unfold rowF; rw [if_neg (by rw [hb]; decide)]
      exact s_ret ev_c fun H2 e2 => q1 hn H2 (e1.trans e2)
    · have hb : okRow u as cs so = true := by simpa using hb
      have lenS : ∀ {H2 y4 y5 y6}, Ex H H2 → Ev (tCB (fun xs H Q => ∃ p ys, xs = [V.ref p] ∧ (SqL K H p ys ∨ SqT K H p ys) ∧ Q (.int ys.length) H) (tCons (tVar 3) tNil)) [some (.ref aA), some (.int (u : Int)), some (.ref aC), some (.ref aS), y4, y5, y6] H2 (.int (so.length : Int)) := fun {H2 y4 y5 y6} e2 => by
        have z := ev_lenL (K := K) (σ := [some (.ref aA), some (.int (u : Int)), some (.ref aC), some (.ref aS), y4, y5, y6]) (H := H2) (ta := tVar 3) (ev_var rfl) (sq_of (e2 _ _ hS))
        rw [List.length_map] at z
        exact z
      have lenA : Ev (tCB (fun xs H Q => ∃ p ys, xs = [V.ref p] ∧ (SqL K H p ys ∨ SqT K H p ys) ∧ Q (.int ys.length) H) (tCons (tVar 0) tNil)) [some (.ref aA), some (.int (u : Int)), some (.ref aC), some (.ref aS), none, none, none] H1 (.int (as.length : Int)) := by
        obtain ⟨pa, s1, s2⟩ := hA.ex e1
        have z := ev_lenL (K := K) (σ := [some (.ref aA), some (.int (u : Int)), some (.ref aC), some (.ref aS), none, none, none]) (H := H1) (ta := tVar 0) (ev_var rfl) s1
        rw [List.length_map, pr_len s2] at z
        exact z
      refine q_when (et_test (ev_eq (lenS e1) lenA)) (fun hb2 H2 e2 => ?_) (fun hb2 H2 e2 => ?_)
      · have hb2 := of_decide_eq_true hb2
        have f0 : f = 0 := by omega
        subst f0
        have hr : rowF u as cs 0 so = some so := by unfold rowF; rw [if_pos hb]
        exact s_ret (ev_var (i := 3) rfl) fun H3 e3 => q2 so hr aS H3 ((e1.trans e2).trans e3) (((e1.trans e2).trans e3) _ _ hS)
      · have hb2 := of_decide_eq_false hb2
        obtain ⟨f, rfl⟩ : ∃ f', f = f' + 1 := ⟨f - 1, by omega⟩
        have hrow : rowF u as cs (f + 1) so = (rowF u as cs f (so ++ [0 - ((so.length + 1 : Nat) : Int)])).or (rowF u as cs f (so ++ [((so.length + 1 : Nat) : Int)])) := by
          show (if okRow u as cs so = true then _ else none) = _
          rw [if_pos hb]
        have e12 := e1.trans e2
        refine q_asg (v := .int ((so.length + 1 : Nat) : Int)) (ev_is (ev_add (lenS e12) ev_c) (congrArg V.int (by omega))) fun H3 e3 => ?_
        have e03 := e12.trans e3
        have lits : ∀ z : Int, z.natAbs = so.length + 1 → Lits as.length (so ++ [z]) := fun z hz y hy => by
          rcases List.mem_append.mp hy with h | h
          · exact hl y h
          · rw [List.mem_singleton.mp h]
            omega
        -- found = first_row(.., so + [-atom])
        have neg : (-((so.length + 1 : Nat) : Int)) = 0 - ((so.length + 1 : Nat) : Int) := by omega
        refine ⟨.ref aA, rfl, .int (u : Int), rfl, .ref aC, rfl, .ref aS, rfl, _, rfl, _, rfl, by show 1 ≤ sizeLine; decide, fun p1 n1 => ⟨aS, p1, so.map V.int, [.int (-((so.length + 1 : Nat) : Int))], rfl, rfl, (Ex.new n1) _ _ (e03 _ _ hS), upd_same, sz_of (by rw [List.length_map]; show so.length + 1 ≤ 100000; omega), fun p2 n2 => ?_⟩⟩
        have e4 : Ex H3 (upd H3 p1 (.lst [.int (-((so.length + 1 : Nat) : Int))])) := Ex.new n1
        generalize upd H3 p1 (.lst [.int (-((so.length + 1 : Nat) : Int))]) = H4 at *
        have e5 : Ex H4 (upd H4 p2 (.lst (so.map V.int ++ [.int (-((so.length + 1 : Nat) : Int))]))) := Ex.new n2
        have hp2 : (upd H4 p2 (.lst (so.map V.int ++ [.int (-((so.length + 1 : Nat) : Int))]))) p2 = some (.lst ((so ++ [0 - ((so.length + 1 : Nat) : Int)]).map V.int)) := by rw [upd_same, List.map_append, neg]; rfl
        generalize upd H4 p2 (.lst (so.map V.int ++ [.int (-((so.length + 1 : Nat) : Int))])) = H5 at *
        have e05 := (e03.trans e4).trans e5
        have hC5 : ∀ {H'}, Ex H H' → ClsAt K H' aC cs := fun e => ClsAt.ex e ⟨ps, hC1, hC2⟩
        refine ⟨aA, aC, p2, u, as, cs, so ++ [0 - ((so.length + 1 : Nat) : Int)], rfl, hA.ex e05, hC5 e05, hp2, by rw [List.length_append]; show so.length + 1 + f = _; omega, lits _ (by omega), hal, hcl, hcz, hu, hok, fun hn => ?_, fun r hr p H6 e6 hp => ?_⟩
        · intro H6 e6
          rw [hn, Option.none_or] at hrow
          have e06 := e05.trans e6
          refine q_when (b := false) (et_test (ev_notN (v := .non) (ev_var (i := 5) rfl) ev_c)) (fun z => Bool.noConfusion z) (fun _ H7 e7 => ?_)
          have e07 := e06.trans e7
          refine ⟨.ref aA, rfl, .int (u : Int), rfl, .ref aC, rfl, .ref aS, rfl, _, rfl, by show 1 ≤ sizeLine; decide, fun p3 n3 => ⟨aS, p3, so.map V.int, [.int ((so.length + 1 : Nat) : Int)], rfl, rfl, (Ex.new n3) _ _ (e07 _ _ hS), upd_same, sz_of (by rw [List.length_map]; show so.length + 1 ≤ 100000; omega), fun p4 n4 => ?_⟩⟩
          have e8 : Ex H7 (upd H7 p3 (.lst [.int ((so.length + 1 : Nat) : Int)])) := Ex.new n3
          generalize upd H7 p3 (.lst [.int ((so.length + 1 : Nat) : Int)]) = H8 at *
          have e9 : Ex H8 (upd H8 p4 (.lst (so.map V.int ++ [.int ((so.length + 1 : Nat) : Int)]))) := Ex.new n4
          have hp4 : (upd H8 p4 (.lst (so.map V.int ++ [.int ((so.length + 1 : Nat) : Int)]))) p4 = some (.lst ((so ++ [((so.length + 1 : Nat) : Int)]).map V.int)) := by rw [upd_same, List.map_append]; rfl
          generalize upd H8 p4 (.lst (so.map V.int ++ [.int ((so.length + 1 : Nat) : Int)])) = H9 at *
          have e09 := (e07.trans e8).trans e9
          exact ⟨aA, aC, p4, u, as, cs, so ++ [((so.length + 1 : Nat) : Int)], rfl, hA.ex e09, hC5 e09, hp4, by rw [List.length_append]; show so.length + 1 + f = _; omega, lits _ (by omega), hal, hcl, hcz, hu, hok, fun hn2 H10 e10 => q1 (hrow.trans hn2) H10 (e09.trans e10), fun r hr p H10 e10 hp => q2 r (hrow.trans hr) p H10 (e09.trans e10) hp⟩
        · rw [hr] at hrow
          have hrow : rowF u as cs (f + 1) so = some r := hrow
          refine q_when (b := true) (et_is (et_test (ev_notN (v := .ref p) (ev_var (i := 5) rfl) ev_c)) (by rw [decide_eq_false fun z => nomatch z]; rfl)) (fun _ H7 e7 => ?_) (fun z => Bool.noConfusion z)
          exact s_ret (ev_var (i := 5) rfl) fun H8 e8 => q2 r hrow p H8 (((e05.trans e6).trans e7).trans e8) ((e7.trans e8) _ _ hp)
theorem row_depth (T : Txt K mg D) : ∀ f, FnOk P w K mg base CX0 (4 - 1 + f + 1) D.a_first_row D.d_first_row ["atoms", "u", "clauses", "so"] (spRow K f)
  | 0 => step_first_row T 0 fn_never
  | f + 1 => step_first_row T (f + 1) (row_depth T f)
theorem ok_first_row (T : Txt K mg D) : FnOk P w K mg base CX0 12 D.a_first_row D.d_first_row ["atoms", "u", "clauses", "so"] (fun vs H Q E => ∃ k, k ≤ 8 ∧ spRow K k vs H Q E) := fn_depth (n := 8) (fun k _ => row_depth T k) (fun k hk => by omega)
/-! ### first_world -/
def spFw (K : PySem.W.Frag) : Sp := fun vs H Q _ => ∃ (aA aC : Addr) (u : Nat) (as : List Sm15.Atom) (cs : List (List Int)), vs = [.ref aA, .int (u : Int), .ref aC] ∧ AtomsAt K H aA as ∧ ClsAt K H aC cs ∧ as.length ≤ 8 ∧ cs.length ≤ 40000 ∧ (∀ c ∈ cs, c.length ≤ 1000) ∧ (∀ c ∈ cs, Lits as.length c) ∧ u ≤ 4 ∧ AtomsOk u as ∧
  (Sm15.world u as cs = none → RetV .non H Q) ∧ ∀ x, Sm15.world u as cs = some x → ∀ p p1 p2 H2, Ex H H2 → H2 p = some (.tup [.ref p1, .ref p2]) → H2 p1 = some (.lst (x.1.map V.int)) → H2 p2 = some (.lst (x.2.map V.int)) → x.1.length ≤ 8 → x.2.length ≤ 4 → Q (.ref p) H2
theorem numbersP_len (u : Nat) : ∀ (f x : Nat) (es : List Sm15.Edge), (numbersP u f x es).length = f
  | 0, _, _ => rfl
  | f + 1, x, es => by
    show (_ :: _).length = _
    rw [List.length_cons, numbersP_len u f]
theorem ok_first_world (T : Txt K mg D) : FnOk P w K mg base CX0 13 D.a_first_world D.d_first_world ["atoms", "u", "clauses"] (spFw K) := by
  refine T.f_first_world.ok sc_first_world (fun vs H Q E h => ?_) (fun cdv A outer s H vs Q E hr h => ?_)
  · obtain ⟨_, _, _, _, _, rfl, _⟩ := h
    rfl
  · obtain ⟨aA, aC, u, as, cs, rfl, hA, hC, hal, hcl, hcz, hlit, hu, hok, q1, q2⟩ := h
    have hg := good_edges hok
    rw [world_prog hg hlit] at q1 q2
    refine ⟨_, (pss_cons (ps_set (i := 3) sc_first_world.nd rfl (Or.inl rfl) (pe_call (ok_first_row T) hr (by rfl) T.g_first_row T.f_first_row.kp T.n_first_row .nil pass0 (pa_cons (pv 0) (pa_cons (pv 1) (pa_cons (pv 2) (pa_cons (pe_lst pa_nil) pa_nil))))))
      (pss_cons (ps_if (pt_cmpR op_isN (pv 3) pe_non (nomark _)) (pss_one (ps_ret pe_non)) pss_nil)
      (pss_one (ps_ret (pe_tup (pa_cons (pv 3) (pa_cons (pe_call (ok_nearest_values T) (hr.mono (by decide)) (by rfl) T.g_nearest_values T.f_nearest_values.kp T.n_nearest_values .nil pass0 (pa_cons (pv 1) (pa_cons (pe_call (ok_bounds_said T) (hr.mono (by decide)) (by rfl) T.g_bounds_said T.f_bounds_said.kp T.n_bounds_said .nil pass0 (pa_cons (pv 0) (pa_cons (pv 3) pa_nil))) pa_nil))) pa_nil))))))), ?_⟩
    refine ⟨.ref aA, rfl, .int (u : Int), rfl, .ref aC, rfl, by show 0 ≤ sizeLine; decide, fun aS nS => ?_⟩
    have e1 : Ex H (upd H aS (.lst [])) := Ex.new nS
    have hS : (upd H aS (.lst [])) aS = some (.lst (([] : List Int).map V.int)) := upd_same
    generalize upd H aS (.lst []) = H1 at *
    refine ⟨as.length, hal, aA, aC, aS, u, as, cs, [], rfl, hA.ex e1, hC.ex e1, hS, by simp, fun y hy => by simp at hy, hal, hcl, hcz, hu, hok, fun hn H2 e2 => ?_, fun r hr p H2 e2 hp => ?_⟩
    · rw [hn] at q1
      exact q_when (b := true) (et_test (ev_isN (v := .non) (ev_var (i := 3) rfl) ev_c)) (fun _ H3 e3 => s_ret ev_c fun H4 e4 => q1 rfl H4 (((e1.trans e2).trans e3).trans e4)) (fun z => Bool.noConfusion z)
    · rw [hr] at q2
      obtain ⟨ro, rl, rr⟩ := row_some hg isRow_nil hr
      have rl : r.length = as.length := by rw [rl]; simp
      have hfit : Sm15.fit u (Sm15.edgesOf as r) = true := by
        unfold okRow at ro
        rw [Bool.and_eq_true] at ro
        exact ro.2
      have rlit : Lits as.length r := fun y hy => by
        obtain ⟨i, hi, ei⟩ := List.getElem_of_mem hy
        have := rr i y (by rw [List.getElem?_eq_getElem hi, ei])
        omega
      have hnum := numbers_prog u 1 (Sm15.edgesOf as r) (hg r) ((fit_iff (hg r)).mp hfit) (by omega)
      refine q_when (b := false) (et_is (et_test (ev_isN (v := .ref p) (ev_var (i := 3) rfl) ev_c)) (decide_eq_false fun z => nomatch z)) (fun z => Bool.noConfusion z) (fun _ H3 e3 => ?_)
      have e03 := (e1.trans e2).trans e3
      have hp3 := e3 _ _ hp
      refine ⟨.ref p, rfl, .int (u : Int), rfl, .ref aA, rfl, .ref p, rfl, aA, p, as, r, rfl, hA.ex e03, sq_of hp3, rlit, by omega, fun aE H4 nE e4 hE => ?_⟩
      refine ⟨aE, u, Sm15.edgesOf as r, rfl, hE, hg r, hu, by have := edgesOf_len as r; omega, fun aV H5 nV e5 hV => ?_⟩
      refine ⟨by show 2 ≤ sizeLine; decide, fun t nt => ?_⟩
      have e6 : Ex H5 (upd H5 t (.tup [.ref p, .ref aV])) := Ex.new nt
      rw [hnum] at hV
      refine q2 _ rfl t p aV _ (((e03.trans e4).trans e5).trans e6) upd_same (((e4.trans e5).trans e6) _ _ hp3) (e6 _ _ hV) (by show r.length ≤ 8; omega) ?_
      show (Sm15.numbersOf u u 1 (Sm15.edgesOf as r)).length ≤ 4
      rw [← hnum, numbersP_len]
      exact hu
/-! ### decide -/
def decideR (u : Nat) (as : List Sm15.Atom) (ls : List Sm15.Line) : List Int := match Sm15.world u as (Sm15.claimsOf ls) with
  | some w => 1 :: Sm15.ints (w.1.length :: w.1.map fun l => Sm15.flag (decide (0 < l))) ++ (w.2.length : Int) :: w.2
  | none => [0]
def spDec (K : PySem.W.Frag) (D : Ad) : Sp := fun vs H Q _ => ∃ (b : Addr) (g : Pl) (u : Nat) (as : List Sm15.Atom) (ls : List Sm15.Line) (nx : Nat), vs = [.ref b] ∧ BookAt K D H b g u as ls nx ∧ as.length ≤ 8 ∧ ls.length ≤ 20000 ∧ (numsOf ls).Nodup ∧ (∀ x ∈ ls, x.clause.length ≤ 1000) ∧ (∀ x ∈ ls, Lits as.length x.clause) ∧ u ≤ 4 ∧ AtomsOk u as ∧ RetL ((decideR u as ls).map V.int) H Q
theorem ok_Book_decide (T : Txt K mg D) : FnOk P w K mg base CX0 14 D.a_Book_decide D.d_Book_decide ["self"] (spDec K D) := by
  refine T.f_Book_decide.ok sc_Book_decide (fun vs H Q E h => ?_) (fun cdv A outer s H vs Q E hr h => ?_)
  · obtain ⟨_, _, _, _, _, _, rfl, _⟩ := h
    rfl
  · obtain ⟨b, g, u, as, ls, nx, rfl, hB, hal, hz, hnd, hcz, hlit, hu, hok, q⟩ := h
    refine ⟨_, (pss_cons (ps_setLc (i := 1) (own := [("number", 4)]) (g := gName 4) (by rfl) sc_Book_decide.nd rfl rfl (sw_true rfl rfl rfl (by decide +kernel)) (pi_list (pe_meth (pv 0) T.k_Book T.t_Book_claims_among (ok_Book_claims_among T) (hr.mono (by decide)) T.n_Book_claims_among .nil pass0 (pa_cons (pe_fld (pv 0) rfl) pa_nil))) (blkOk_by (own := [("number", 4)]) (N := ["self", "clauses", "world", "row", "number", "literal"]) (sc := defScope s_Book_decide) (by decide +kernel)) (fun _ _ _ _ _ => (pg_name (i := 4) sc_Book_decide.nd rfl (Or.inl rfl))) (fun _ _ _ _ _ => pts_nil) (fun _ _ _ _ _ => (pe_fldK K (pe_dget (hu_of hr) (pe_fldK K (pv 0) rfl) (pv 4) (fun _ _ => rfl)) rfl)))
      (pss_cons (ps_set (i := 2) sc_Book_decide.nd rfl (Or.inl rfl) (pe_call (ok_first_world T) hr (by rfl) T.g_first_world T.f_first_world.kp T.n_first_world .nil pass0 (pa_cons (pe_fld (pv 0) rfl) (pa_cons (pe_fld (pv 0) rfl) (pa_cons (pv 1) pa_nil)))))
      (pss_cons (ps_if (pt_cmpR op_isN (pv 2) pe_non (nomark _)) (pss_one (ps_ret (pe_lst (pa_cons pe_int pa_nil)))) pss_nil)
      (pss_cons (ps_setLc (i := 3) (own := [("literal", 5)]) (g := gName 5) (by rfl) sc_Book_decide.nd rfl rfl (sw_true rfl rfl rfl (by decide +kernel)) (pi_list (pe_ix ix_tup (pv 2) pe_int (fun _ _ => rfl))) (blkOk_by (own := [("literal", 5)]) (N := ["self", "clauses", "world", "row", "number", "literal"]) (sc := defScope s_Book_decide) (by decide +kernel)) (fun _ _ _ _ _ => (pg_name (i := 5) sc_Book_decide.nd rfl (Or.inl rfl))) (fun _ _ _ _ _ => pts_nil) (fun _ _ _ _ _ => (pe_ifExp (pt_cmpR op_gt (pv 5) pe_int (nomark _)) pe_int pe_int)))
      (pss_one (ps_ret (pe_op op_cat (pe_op op_cat (pe_lst (pa_cons pe_int pa_nil)) (pe_call (ok_counted T) (hr.mono (by decide)) (by rfl) T.g_counted T.f_counted.kp T.n_counted .nil pass0 (pa_cons (pv 3) pa_nil))) (pe_call (ok_counted T) (hr.mono (by decide)) (by rfl) T.g_counted T.f_counted.kp T.n_counted .nil pass0 (pa_cons (pe_ix ix_tup (pv 2) pe_int (fun _ _ => rfl)) pa_nil))))))))), ?_⟩
    obtain ⟨kvs, l1, l2⟩ := hB.ln
    have cn := claim_nums hnd
    have gc := el_meth (D := D) (E := E0) (m := "claims_among") (sp := spCa K D) (te := tVar 0) (σ := [some (.ref b), none, none, none, none, none]) (xs := natV ((numsOf ls).filter (claimB ls))) (ev_var rfl) hB.ob (bF_m (by decide +kernel)) (ea_cons (rb_lines T hB (ev_var (i := 0) rfl)) ea_nil) fun H4 e4 Q4 q4 E4 => ⟨b, g, u, as, ls, nx, g.dl, numsOf ls, rfl, hB.ex e4, by rw [nums_len]; omega, fun k hk => hk, .inl ⟨rfl, rfl⟩, q4⟩
    rw [cn, show natV ((ls.filter fun x => x.way == .claim).map fun x => x.num) = (ls.filter fun x => x.way == .claim).map fun x => V.int (x.num : Int) from by unfold natV; rw [List.map_map]; rfl] at gc
    have cm : ∀ x ∈ ls.filter (fun x => x.way == .claim), x ∈ ls := fun x hx => (List.mem_filter.mp hx).1
    have fl : (ls.filter fun x => x.way == .claim).length ≤ ls.length := List.length_filter_le _ _
    have look : ∀ x ∈ ls, ∃ p dx tn tc k, valV kvs (Sum.inl (x.num : Int)) = some (.ref p) ∧ H p = some (.ins D.c_Line dx (lF k tn tc)) ∧ tcA H kvs x.num = tc ∧ H tc = some (.tup (x.clause.map V.int)) := fun x hx => by
      rcases val_lines (k := x.num) l2 with ⟨y, p, h1, h2, h3, dy, ty, cy, h4, h5, h6⟩ | ⟨h1, _⟩
      · rw [lineAt_self hnd hx] at h1
        cases h1
        exact ⟨p, dy, ty, cy, _, h3, h4, tcA_is h3 h4, h6⟩
      · rw [lineAt_self hnd hx] at h1
        cases h1
    have gl := lcN (K := K) (H := H) (t := tYes) (te := tFld K (tDGet (tFld K (tVar 0) "lines") (tVar 4)) "clause") (j := 4) (vs := [4]) (emb := fun x : Sm15.Line => V.int (x.num : Int)) (fun _ => true) (fun x => V.ref (tcA H kvs x.num)) gc (by omega) (fun x => rfl) (fun m _ H1 e => et_yes)
      (fun x hx H1 e _ => by
        obtain ⟨p, dx, tn, tc, k, h1, h2, h3, h4⟩ := look x (cm x hx)
        rw [h3]
        exact ev_fld (ev_dget (rb_lines T (hB.ex e) (ev_var (i := 0) rfl)) (ev_var (i := 4) rfl) (.inl (e _ _ l1)) h1) (e _ _ h2) T.k_Line T.x_Line_clause lF_clause)
    rw [filter_yes, show (ls.filter fun x => x.way == .claim).map (fun x => V.ref (tcA H kvs x.num)) = ((ls.filter fun x => x.way == .claim).map fun x => tcA H kvs x.num).map V.ref by rw [List.map_map]; rfl] at gl
    refine q_asgL gl fun aC H1 nC e1 hC => ?_
    have hCls : ClsAt K H1 aC (Sm15.claimsOf ls) := ⟨_, sq_of hC, pr_mk fun x hx => by
      obtain ⟨p, dx, tn, tc, k, h1, h2, h3, h4⟩ := look x (cm x hx)
      rw [h3]
      exact st_of (e1 _ _ h4)⟩
    have hB1 := hB.ex e1
    have cin : ∀ c ∈ Sm15.claimsOf ls, ∃ x ∈ ls, x.clause = c := fun c hc => by
      obtain ⟨x, hx, e⟩ := List.mem_map.mp hc
      exact ⟨x, cm x hx, e⟩
    unfold decideR at q
    refine ⟨.ref b, rfl, b, D.c_Book, g.dx, _, _, rfl, hB1.ob, T.k_Book, T.x_Book_atoms, bF_atoms, .ref b, rfl, b, D.c_Book, g.dx, _, _, rfl, hB1.ob, T.k_Book, T.x_Book_u, bF_u, .ref aC, rfl, g.al, aC, u, as, Sm15.claimsOf ls, rfl, hB1.atoms, hCls, hal, by unfold Sm15.claimsOf; rw [List.length_map]; omega, fun c hc => by
      obtain ⟨x, hx, rfl⟩ := cin c hc
      exact hcz x hx, fun c hc => by
      obtain ⟨x, hx, rfl⟩ := cin c hc
      exact hlit x hx, hu, hok, fun hn => ?_, fun x hx p p1 p2 H2 e2 hp hp1 hp2 s1 s2 => ?_⟩
    · intro H2 e2
      rw [hn] at q
      refine q_when (b := true) (et_test (ev_isN (v := .non) (ev_var (i := 2) rfl) ev_c)) (fun _ H3 e3 => ?_) (fun z => Bool.noConfusion z)
      exact s_retL (el_lst (ea_cons ev_c ea_nil) (by show 1 ≤ 100000; decide)) fun r H4 nr e4 hr => q r H4 (fresh_back ((e1.trans e2).trans e3) nr) (((e1.trans e2).trans e3).trans e4) hr
    · rw [hx] at q
      dsimp only at q
      refine q_when (b := false) (et_is (et_test (ev_isN (v := .ref p) (ev_var (i := 2) rfl) ev_c)) (decide_eq_false fun z => nomatch z)) (fun z => Bool.noConfusion z) (fun _ H3 e3 => ?_)
      have e03 := (e1.trans e2).trans e3
      have w0 : ∀ {H4} {y3 y4 y5}, Ex H3 H4 → Ev (tOp (rIxT K) (tVar 2) (tC (.int 0))) [some (.ref b), some (.ref aC), some (.ref p), y3, y4, y5] H4 (.ref p1) := fun e4 => ev_ixT (ev_var (i := 2) rfl) (st_of (e4 _ _ (e3 _ _ hp))) ev_c rfl
      have w1 : ∀ {H4} {y3 y4 y5}, Ex H3 H4 → Ev (tOp (rIxT K) (tVar 2) (tC (.int 1))) [some (.ref b), some (.ref aC), some (.ref p), y3, y4, y5] H4 (.ref p2) := fun e4 => ev_ixT (ev_var (i := 2) rfl) (st_of (e4 _ _ (e3 _ _ hp))) ev_c rfl
      have gr := lcL (K := K) (σ := [some (.ref b), some (.ref aC), some (.ref p), none, none, none]) (H := H3) (t := tYes) (te := tIf (tTest (tOp (rI0 fun i j => .bl (decide (j < i))) (tVar 5) (tC (.int 0)))) (tC (.int 1)) (tC (.int 0))) (tl := tOp (rIxT K) (tVar 2) (tC (.int 0))) (j := 5) (vs := [5]) (emb := V.int) (fun _ => true) (fun l => V.int ((Sm15.flag (decide (0 < l)) : Nat) : Int)) (w0 (Ex.refl _)) (sq_of (e3 _ _ hp1)) (by omega) (fun x => rfl) (fun m _ H1 e => et_yes)
        (fun m _ H4 e _ => ev_if (et_test (ev_gt (i := m) (ev_var (i := 5) rfl) ev_c)) (fun hb => by rw [hb]; exact ev_c) (fun hb => by rw [hb]; exact ev_c))
      rw [filter_yes, show x.1.map (fun l => V.int ((Sm15.flag (decide (0 < l)) : Nat) : Int)) = (x.1.map fun l => ((Sm15.flag (decide (0 < l)) : Nat) : Int)).map V.int by rw [List.map_map]; rfl] at gr
      refine q_asgL gr fun aR H4 nR e4 hR => ?_
      have gg := el_cat (el_cat (el_lst (ea_cons (ev_c (v := .int 1)) ea_nil) (by show 1 ≤ 100000; decide)) (el_counted (K := K) (E := E0) (σ := [some (.ref b), some (.ref aC), some (.ref p), some (.ref aR), none, none]) (te := tVar 3) (ev_var rfl) (.inl (sq_of hR)) (by rw [List.length_map]; omega)) (by simp [counts]; omega)) (el_counted (K := K) (E := E0) (l := x.2) (w1 e4) (.inl (sq_of ((e3.trans e4) _ _ hp2))) (by omega)) (by simp [counts]; omega)
      refine s_retL gg fun r H5 nr e5 hr => q r H5 (fresh_back (e03.trans e4) nr) ((e03.trans e4).trans e5) ?_
      rw [hr]
      congr 2
      simp [counts, Sm15.ints]
end
end Cp
/-! Cp17 -/
namespace Cp
open PySem PySem.Spec PyProof.Rows L2 Evl
/-! ### the house's proof in the heap -/
def pF (al : Addr) (u : Nat) (dl : Addr) (nx : Nat) (cl fw : Addr) : List (Str × V) := [("atoms", .ref al), ("u", .int (u : Int)), ("lines", .ref dl), ("next_number", .int (nx : Int)), ("claims", .ref cl), ("first_with", .ref fw)]
section
variable {u nx : Nat} {al dl cl fw : Addr}
theorem pF_atoms : (pF al u dl nx cl fw).lookup ("atoms" : Str) = some (.ref al) := lk_one
theorem pF_u : (pF al u dl nx cl fw).lookup ("u" : Str) = some (.int (u : Int)) := (lk_next (by decide +kernel)).trans lk_one
theorem pF_lines : (pF al u dl nx cl fw).lookup ("lines" : Str) = some (.ref dl) := (lk_next (by decide +kernel)).trans ((lk_next (by decide +kernel)).trans lk_one)
theorem pF_next : (pF al u dl nx cl fw).lookup ("next_number" : Str) = some (.int (nx : Int)) := (lk_next (by decide +kernel)).trans ((lk_next (by decide +kernel)).trans ((lk_next (by decide +kernel)).trans lk_one))
theorem pF_claims : (pF al u dl nx cl fw).lookup ("claims" : Str) = some (.ref cl) := (lk_next (by decide +kernel)).trans ((lk_next (by decide +kernel)).trans ((lk_next (by decide +kernel)).trans ((lk_next (by decide +kernel)).trans lk_one)))
theorem pF_first : (pF al u dl nx cl fw).lookup ("first_with" : Str) = some (.ref fw) := (lk_next (by decide +kernel)).trans ((lk_next (by decide +kernel)).trans ((lk_next (by decide +kernel)).trans ((lk_next (by decide +kernel)).trans ((lk_next (by decide +kernel)).trans lk_one))))
theorem pF_m {m : Str} (h : ((m == ("atoms" : Str)) || (m == ("u" : Str)) || (m == ("lines" : Str)) || (m == ("next_number" : Str)) || (m == ("claims" : Str)) || (m == ("first_with" : Str))) = false) : (pF al u dl nx cl fw).lookup m = none := by
  rw [Bool.or_eq_false_iff, Bool.or_eq_false_iff, Bool.or_eq_false_iff, Bool.or_eq_false_iff, Bool.or_eq_false_iff] at h
  exact (lk_next h.1.1.1.1.1).trans ((lk_next h.1.1.1.1.2).trans ((lk_next h.1.1.1.2).trans ((lk_next h.1.1.2).trans ((lk_next h.1.2).trans ((lk_next h.2).trans rfl)))))
theorem pF_putNext {n2 : Nat} : putF "next_number" (.int (n2 : Int)) (pF al u dl nx cl fw) = pF al u dl n2 cl fw := by
  unfold pF
  rw [put_next (by decide +kernel), put_next (by decide +kernel), put_next (by decide +kernel), put_one]
theorem pF_n2 {x y : V} : putF "u" y [("atoms", x)] = ([("atoms", x), ("u", y)] : List (Str × V)) := put_next (by decide +kernel)
theorem pF_n3 {x y z : V} : putF "lines" z [("atoms", x), ("u", y)] = ([("atoms", x), ("u", y), ("lines", z)] : List (Str × V)) := by
  rw [put_next (by decide +kernel), put_next (by decide +kernel)]
  rfl
theorem pF_n4 {x y z t : V} : putF "next_number" t [("atoms", x), ("u", y), ("lines", z)] = ([("atoms", x), ("u", y), ("lines", z), ("next_number", t)] : List (Str × V)) := by
  rw [put_next (by decide +kernel), put_next (by decide +kernel), put_next (by decide +kernel)]
  rfl
theorem pF_n5 {x y z t r : V} : putF "claims" r [("atoms", x), ("u", y), ("lines", z), ("next_number", t)] = ([("atoms", x), ("u", y), ("lines", z), ("next_number", t), ("claims", r)] : List (Str × V)) := by
  rw [put_next (by decide +kernel), put_next (by decide +kernel), put_next (by decide +kernel), put_next (by decide +kernel)]
  rfl
theorem pF_n6 {x y z t r k : V} : putF "first_with" k [("atoms", x), ("u", y), ("lines", z), ("next_number", t), ("claims", r)] = ([("atoms", x), ("u", y), ("lines", z), ("next_number", t), ("claims", r), ("first_with", k)] : List (Str × V)) := by
  rw [put_next (by decide +kernel), put_next (by decide +kernel), put_next (by decide +kernel), put_next (by decide +kernel), put_next (by decide +kernel)]
  rfl
end
/-- a clause as a key -/
def kI (c : List Int) : List Key := c.map Sum.inl
theorem kI_v (c : List Int) : (kI c).map kV = c.map V.int := by
  unfold kI
  rw [List.map_map]
  rfl
theorem kI_inj {a b : List Int} : kI a = kI b ↔ a = b := by
  constructor
  · intro h
    have := congrArg (List.map kV) h
    rw [kI_v, kI_v] at this
    have inj : ∀ {a b : List Int}, a.map V.int = b.map V.int → a = b := by
      intro a
      induction a with
      | nil => intro b h; cases b with
        | nil => rfl
        | cons _ _ => simp at h
      | cons x r ih => intro b h; cases b with
        | nil => simp at h
        | cons y s =>
          rw [List.map_cons, List.map_cons] at h
          injection h with h1 h2
          injection h1 with h1
          rw [h1, ih h2]
    exact inj this
  · rintro rfl
    rfl
/-- the first line with a clause, by the clause -/
def FwIs (ts : List (List Key × V)) (ls : List Sm15.Line) : Prop := ts.length ≤ ls.length ∧ ∀ c : List Int, valV ts (kI c) = (ls.find? fun x => x.clause == c).map fun x => V.int (x.num : Int)
theorem FwIs.snoc {ts : List (List Key × V)} {ls : List Sm15.Line} {x : Sm15.Line} (h : FwIs ts ls) (hn : valV ts (kI x.clause) = none) : FwIs (ts ++ [(kI x.clause, .int (x.num : Int))]) (ls ++ [x]) := by
  refine ⟨by rw [List.length_append, List.length_append]; exact Nat.succ_le_succ h.1, fun c => ?_⟩
  rw [valV_snoc (kI x.clause) (kI c) _ ts hn, List.find?_append]
  by_cases e : kI c = kI x.clause
  · have ec := kI_inj.mp e
    subst ec
    rw [if_pos rfl]
    have := h.2 x.clause
    rw [hn] at this
    cases q : ls.find? (fun y => y.clause == x.clause) with
    | none =>
      rw [Option.none_or, List.find?_cons]
      simp
    | some y => rw [q] at this; cases this
  · rw [if_neg e, h.2 c]
    have ne : (x.clause == c) = false := by
      rw [beq_eq_false_iff_ne]
      intro z
      exact e (by rw [z])
    rw [List.find?_cons, ne]
    cases ls.find? (fun y => y.clause == c) <;> rfl
theorem FwIs.same {ts : List (List Key × V)} {ls : List Sm15.Line} {x : Sm15.Line} {v : V} (h : FwIs ts ls) (hn : valV ts (kI x.clause) = some v) : FwIs ts (ls ++ [x]) := by
  refine ⟨by rw [List.length_append]; have := h.1; omega, fun c => ?_⟩
  rw [h.2 c, List.find?_append]
  cases q : ls.find? (fun y => y.clause == c) with
  | some y => rfl
  | none =>
    have ne : (x.clause == c) = false := by
      rw [beq_eq_false_iff_ne]
      intro z
      have := h.2 c
      rw [q, ← z, hn] at this
      cases this
    rw [Option.none_or, List.find?_cons, ne]
    rfl
structure PP where
  dx : Addr
  al : Addr
  dl : Addr
  cl : Addr
  fw : Addr
structure PfAt (K : PySem.W.Frag) (D : Ad) (H O : Hp) (q : Addr) (g : PP) (u : Nat) (as : List Sm15.Atom) (bk : Sm15.Book) (C : List Sm15.Line) : Prop where
  ob : H q = some (.ins D.c_Proof g.dx (pF g.al u g.dl bk.next g.cl g.fw))
  at_ : AtomsAt K O g.al as
  ln : ∃ kvs, H g.dl = some (.dK kvs) ∧ LinesAt K D.c_Line H kvs bk.lines
  cl : H g.cl = some (.lst (natV (C.map fun x => x.num)))
  cs : bk.lines.filter (fun x => x.way == .claim) = C
  fw : ∃ ts, H g.fw = some (.dT ts) ∧ FwIs ts bk.lines
  rest : Ex O H
  nq : O q = none
  nd : O g.dl = none
  nf : O g.fw = none
section
variable {P : Program} {w : World} {K : PySem.W.Frag} {mg : Str → Option Value} {base : Heap} {D : Ad}
theorem PfAt.ex {H H' O : Hp} {q : Addr} {g : PP} {u : Nat} {as : List Sm15.Atom} {bk : Sm15.Book} {C : List Sm15.Line} (e : Ex H H') (h : PfAt K D H O q g u as bk C) : PfAt K D H' O q g u as bk C := by
  obtain ⟨kvs, l1, l2⟩ := h.ln
  obtain ⟨ts, f1, f2⟩ := h.fw
  exact ⟨e _ _ h.ob, h.at_, ⟨kvs, e _ _ l1, l2.ex e⟩, e _ _ h.cl, h.cs, ⟨ts, e _ _ f1, f2⟩, h.rest.trans e, h.nq, h.nd, h.nf⟩
/-- all but the proof's own three objects -/
def hid3 (q d f : Addr) (H : Hp) : Hp := fun c => if c = q ∨ c = d ∨ c = f then none else H c
theorem PfAt.sub {H O : Hp} {q : Addr} {g : PP} {u : Nat} {as : List Sm15.Atom} {bk : Sm15.Book} {C : List Sm15.Line} (h : PfAt K D H O q g u as bk C) : Ex O (hid3 q g.dl g.fw H) := fun c o hc => by
  unfold hid3
  rw [if_neg]
  · exact h.rest c o hc
  · rintro (z | z | z)
    · rw [z, h.nq] at hc; cases hc
    · rw [z, h.nd] at hc; cases hc
    · rw [z, h.nf] at hc; cases hc
theorem PfAt.wide {H O : Hp} {q : Addr} {g : PP} {u : Nat} {as : List Sm15.Atom} {bk : Sm15.Book} {C : List Sm15.Line} (h : PfAt K D H O q g u as bk C) : PfAt K D H (hid3 q g.dl g.fw H) q g u as bk C :=
  ⟨h.ob, h.at_.ex h.sub, h.ln, h.cl, h.cs, h.fw, fun c o hc => by
    unfold hid3 at hc
    split at hc
    · cases hc
    · exact hc, by unfold hid3; rw [if_pos (.inl rfl)], by unfold hid3; rw [if_pos (.inr (.inl rfl))], by unfold hid3; rw [if_pos (.inr (.inr rfl))]⟩
theorem PfAt.back {H H0 O O' : Hp} {q : Addr} {g : PP} {u : Nat} {as : List Sm15.Atom} {bk bk0 : Sm15.Book} {C : List Sm15.Line} (h : PfAt K D H O' q g u as bk C) (e : Ex O O') (h0 : PfAt K D H0 O q g u as bk0 C) : PfAt K D H O q g u as bk C := ⟨h.ob, h0.at_, h.ln, h.cl, h.cs, h.fw, e.trans h.rest, h0.nq, h0.nd, h0.nf⟩
theorem hid3_at {H : Hp} {q d f c : Addr} {o : HO} (h : H c = some o) (h1 : c ≠ q) (h2 : c ≠ d) (h3 : c ≠ f) : hid3 q d f H c = some o := by
  unfold hid3
  rw [if_neg (by rintro (z | z | z); exact h1 z; exact h2 z; exact h3 z)]
  exact h
/-- a list is none of the three -/
theorem PfAt.lst {H O : Hp} {q : Addr} {g : PP} {u : Nat} {as : List Sm15.Atom} {bk : Sm15.Book} {C : List Sm15.Line} (h : PfAt K D H O q g u as bk C) {c : Addr} {xs : List V} (hc : H c = some (.lst xs)) : hid3 q g.dl g.fw H c = some (.lst xs) := by
  obtain ⟨kvs, l1, _⟩ := h.ln
  obtain ⟨ts, f1, _⟩ := h.fw
  have ob := h.ob
  refine hid3_at hc (fun z => ?_) (fun z => ?_) (fun z => ?_)
  · rw [z, ob] at hc; cases hc
  · rw [z, l1] at hc; cases hc
  · rw [z, f1] at hc; cases hc
theorem rp_lines (T : Txt K mg D) {σ : L2.St} {te : TE} {H O : Hp} {q : Addr} {g : PP} {u : Nat} {as : List Sm15.Atom} {bk : Sm15.Book} {C : List Sm15.Line} (h : PfAt K D H O q g u as bk C) (hv : Ev te σ H (.ref q)) : Ev (tFld K te "lines") σ H (.ref g.dl) := ev_fld hv h.ob T.k_Proof T.x_Proof_lines pF_lines
/-! ### line_for -/
theorem ev_dniT {σ : L2.St} {H : Hp} {ty td : TE} {b d : Addr} {k : List Key} {ts : List (List Key × V)} (h1 : Ev ty σ H (.ref b)) (h2 : Ev td σ H (.ref d)) (hb : H b = some (.tup (k.map kV))) (hd : H d = some (.dT ts)) : Ev (tDNotIn ty td) σ H (.bl (!(valV ts k).isSome)) := fun H1 e Q q =>
  h1 H1 e _ fun H2 e2 => h2 H2 (e.trans e2) _ fun H3 e3 => ⟨d, _, rfl, .inr ⟨ts, k, b, .inl (((e.trans e2).trans e3) _ _ hd), rfl, ((e.trans e2).trans e3) _ _ hb, rfl⟩, q H3 (e2.trans e3)⟩
theorem ev_dgetT {σ : L2.St} {H : Hp} {ty td : TE} {b d : Addr} {k : List Key} {ts : List (List Key × V)} {v : V} (h2 : Ev td σ H (.ref d)) (h1 : Ev ty σ H (.ref b)) (hb : H b = some (.tup (k.map kV))) (hd : H d = some (.dT ts)) (hv : valV ts k = some v) : Ev (tDGet td ty) σ H v := fun H1 e Q q =>
  h2 H1 e _ fun H2 e2 => h1 H2 (e.trans e2) _ fun H3 e3 => ⟨d, v, rfl, .inr ⟨ts, k, b, .inl (((e.trans e2).trans e3) _ _ hd), rfl, ((e.trans e2).trans e3) _ _ hb, hv.symm⟩, q H3 (e2.trans e3)⟩
def spLf (K : PySem.W.Frag) (D : Ad) : Sp := fun vs H Q _ => ∃ (q : Addr) (g : PP) (O : Hp) (u : Nat) (as : List Sm15.Atom) (bk : Sm15.Book) (C : List Sm15.Line) (way : Sm15.Way) (tn tc : Addr) (c : List Int), vs = [.ref q, .int (wayNo way), .ref tn, .ref tc] ∧ PfAt K D H O q g u as bk C ∧ way ≠ .claim ∧ SqT K H tn ((namedOf way).map V.int) ∧ H tc = some (.tup (c.map V.int)) ∧ bk.lines.length ≤ 50000 ∧ (∀ x ∈ bk.lines, x.num < bk.next) ∧
  ∀ H', PfAt K D H' O q g u as (Sm15.write bk c way).1 C → Q (.int ((Sm15.write bk c way).2 : Int)) H'
theorem ok_Proof_line_for (T : Txt K mg D) : FnOk P w K mg base CX0 3 D.a_Proof_line_for D.d_Proof_line_for ["self", "way", "named", "clause"] (spLf K D) := by
  refine T.f_Proof_line_for.ok sc_Proof_line_for (fun vs H Q E h => ?_) (fun cdv A outer s H vs Q E hr h => ?_)
  · obtain ⟨_, _, _, _, _, _, _, _, _, _, _, rfl, _⟩ := h
    rfl
  · obtain ⟨q, g, O, u, as, bk, C, way, tn, tc, c, rfl, hP, hw, hN, hc, hz, hlt, k⟩ := h
    refine ⟨_, (pss_cons (ps_if (pt_cmp (pc_dnotin (hu_of hr) (pv 3) (pe_fld (pv 0) rfl))) (pss_cons (ps_dput (hu_of hr) (pe_fld (pv 0) rfl) (pv 3) (pe_fld (pv 0) rfl) rfl)
      (pss_cons (ps_dput (hu_of hr) (pe_fld (pv 0) rfl) (pe_fld (pv 0) rfl) (pe_make T.m_Line (ok_Line___init__ T) hr (by rfl) T.g_Line T.n_Line___init__ .nil pass0 (pa_cons (pv 1) (pa_cons (pv 2) (pa_cons (pv 3) pa_nil)))) rfl)
      (pss_one (ps_fld (pv 0) (pe_op op_add (pe_fld (pv 0) rfl) pe_int) rfl)))) pss_nil)
      (pss_one (ps_ret (pe_dget (hu_of hr) (pe_fld (pv 0) rfl) (pv 3) (fun _ _ => rfl))))), ?_⟩
    obtain ⟨ts, f1, f2⟩ := hP.fw
    obtain ⟨kvs, l1, l2⟩ := hP.ln
    have kl := pr_len l2
    have hck : H tc = some (.tup ((kI c).map kV)) := by rw [kI_v]; exact hc
    have rf : ∀ {H1}, Ex H H1 → Ev (tFld K (tVar 0) "first_with") [some (.ref q), some (.int (wayNo way)), some (.ref tn), some (.ref tc)] H1 (.ref g.fw) := fun e => ev_fld (ev_var (i := 0) rfl) (e _ _ hP.ob) T.k_Proof T.x_Proof_first_with pF_first
    have rv := f2.2 c
    cases hfind : bk.lines.find? (fun x => x.clause == c) with
    | some x =>
      rw [hfind, Option.map_some] at rv
      have hwr : Sm15.write bk c way = (bk, x.num) := by unfold Sm15.write; rw [hfind]
      rw [hwr] at k
      refine q_when (b := false) (et_is (et_B (ev_dniT (ev_var (i := 3) rfl) (rf (Ex.refl H)) hck f1)) (by rw [rv]; rfl)) (fun z => Bool.noConfusion z) (fun _ H1 e1 => ?_)
      exact s_ret (ev_dgetT (rf e1) (ev_var (i := 3) rfl) (e1 _ _ hck) (e1 _ _ f1) rv) fun H2 e2 => k H2 (hP.ex (e1.trans e2))
    | none =>
      rw [hfind, Option.map_none] at rv
      have hwr : Sm15.write bk c way = (⟨bk.lines ++ [⟨bk.next, c, way⟩], bk.next + 1⟩, bk.next) := by unfold Sm15.write; rw [hfind]
      rw [hwr] at k
      have f2l := f2.1
      refine q_when (b := true) (et_is (et_B (ev_dniT (ev_var (i := 3) rfl) (rf (Ex.refl H)) hck f1)) (by rw [rv]; rfl)) (fun _ H1 e1 => ?_) (fun z => Bool.noConfusion z)
      have ob1 := e1 _ _ hP.ob
      have f11 := e1 _ _ f1
      have hck1 := e1 _ _ hck
      have l11 := e1 _ _ l1
      have l21 := l2.ex e1
      have cl1 := e1 _ _ hP.cl
      -- which are unlike
      have nqf : q ≠ g.fw := fun z => by rw [z, f11] at ob1; cases ob1
      have nqd : q ≠ g.dl := fun z => by rw [z, l11] at ob1; cases ob1
      have ndf : g.dl ≠ g.fw := fun z => by rw [z, f11] at l11; cases l11
      have ncf : g.cl ≠ g.fw := fun z => by rw [z, f11] at cl1; cases cl1
      have ncd : g.cl ≠ g.dl := fun z => by rw [z, l11] at cl1; cases cl1
      have ncq : g.cl ≠ q := fun z => by rw [z, ob1] at cl1; cases cl1
      have ntf : tc ≠ g.fw := fun z => by rw [z, f11] at hck1; cases hck1
      have ntd : tc ≠ g.dl := fun z => by rw [z, l11] at hck1; cases hck1
      have ntq : tc ≠ q := fun z => by rw [z, ob1] at hck1; cases hck1
      -- self.first_with[clause] = self.next_number
      refine ⟨.ref q, rfl, q, D.c_Proof, g.dx, _, _, rfl, ob1, T.k_Proof, T.x_Proof_next_number, pF_next, .ref q, rfl, q, D.c_Proof, g.dx, _, _, rfl, ob1, T.k_Proof, T.x_Proof_first_with, pF_first, .ref tc, rfl, g.fw, _, rfl, DPut.t (k := kI c) f11 hck1 (sz_lt (by omega)), ?_⟩
      rw [putK_new _ rv]
      have eF : ExB g.fw H1 (upd H1 g.fw (.dT (ts ++ [(kI c, .int (bk.next : Int))]))) := ExB.upd
      have sF : Soft H1 g.fw := ⟨(fun _ z => by rw [f11] at z; cases z), (fun _ _ z => by rw [f11] at z; cases z)⟩
      have nF : NoLine H1 g.fw := fun _ _ _ _ _ z => by rw [f11] at z; cases z
      have f12 : (upd H1 g.fw (.dT (ts ++ [(kI c, .int (bk.next : Int))]))) g.fw = some (.dT (ts ++ [(kI c, .int (bk.next : Int))])) := upd_same
      have ob2 := eF _ _ nqf ob1
      have l12 := eF _ _ ndf l11
      have l22 := eF.lines sF nF l21
      have cl2 := eF _ _ ncf cl1
      have hc2 := eF _ _ ntf hck1
      have hN2 := eF.sq sF (ex_t e1 hN)
      have eO2 : ∀ a o, O a = some o → (upd H1 g.fw (.dT (ts ++ [(kI c, .int (bk.next : Int))]))) a = some o := fun a o h => eF _ _ (ne_of_none h hP.nf) (e1 _ _ (hP.rest a o h))
      generalize upd H1 g.fw (.dT (ts ++ [(kI c, .int (bk.next : Int))])) = H2 at *
      -- self.lines[self.next_number] = Line(..)
      refine ⟨.int (wayNo way), rfl, .ref tn, rfl, .ref tc, rfl, fun x dx nx ndx nex => ⟨x, dx, tn, tc, wayNo way, rfl, upd_same, rfl, ?_⟩⟩
      rw [upd_over]
      have eM : Ex H2 (upd (upd H2 dx (.own x)) x (.ins D.c_Line dx (lF (wayNo way) tn tc))) := made_ex nx ndx
      have hLine : LineAt K D.c_Line (upd (upd H2 dx (.own x)) x (.ins D.c_Line dx (lF (wayNo way) tn tc))) x way c := ⟨dx, tn, tc, upd_same, ex_t eM hN2, by rw [← kI_v]; exact eM _ _ hc2⟩
      generalize upd (upd H2 dx (.own x)) x (.ins D.c_Line dx (lF (wayNo way) tn tc)) = H3 at *
      have ob3 := eM _ _ ob2
      have l13 := eM _ _ l12
      have l23 := l22.ex eM
      have vn : valV kvs (Sum.inl (bk.next : Int)) = none := val_none l23 (lineAt_none fun y hy => by have := hlt y hy; omega)
      refine ⟨.ref q, rfl, q, D.c_Proof, g.dx, _, _, rfl, ob3, T.k_Proof, T.x_Proof_lines, pF_lines, .ref q, rfl, q, D.c_Proof, g.dx, _, _, rfl, ob3, T.k_Proof, T.x_Proof_next_number, pF_next, g.dl, _, rfl, DPut.k (k := Sum.inl (bk.next : Int)) l13 (sz_lt (by omega)), ?_⟩
      rw [putK_new _ vn]
      have eD : ExB g.dl H3 (upd H3 g.dl (.dK (kvs ++ [(Sum.inl (bk.next : Int), .ref x)]))) := ExB.upd
      have sD := soft_dK l13
      have nD := noline_dK l13
      have l14 : (upd H3 g.dl (.dK (kvs ++ [(Sum.inl (bk.next : Int), .ref x)]))) g.dl = some (.dK (kvs ++ [(Sum.inl (bk.next : Int), .ref x)])) := upd_same
      have ob4 := eD _ _ nqd ob3
      have l24 := eD.lines sD nD l23
      have hL4 := eD.line sD nD hLine
      have f14 := eD _ _ ndf.symm (eM _ _ f12)
      have cl4 := eD _ _ ncd (eM _ _ cl2)
      have hc4 := eD _ _ ntd (eM _ _ hc2)
      have eO4 : ∀ a o, O a = some o → (upd H3 g.dl (.dK (kvs ++ [(Sum.inl (bk.next : Int), .ref x)]))) a = some o := fun a o h => eD _ _ (ne_of_none h hP.nd) (eM _ _ (eO2 a o h))
      generalize upd H3 g.dl (.dK (kvs ++ [(Sum.inl (bk.next : Int), .ref x)])) = H4 at *
      -- self.next_number = self.next_number + 1
      refine ⟨.ref q, rfl, q, D.c_Proof, g.dx, _, _, rfl, ob4, T.k_Proof, T.x_Proof_next_number, pF_next, (bk.next : Int), 1, rfl, rfl, .ref q, rfl, q, D.c_Proof, g.dx, _, rfl, ob4, T.k_Proof, T.x_Proof_next_number, by show 6 < 1000; decide, ?_⟩
      show tRet (tDGet (tFld K (tVar 0) "first_with") (tVar 3)) _ _ (upd H4 q (.ins D.c_Proof g.dx (putF "next_number" (.int ((bk.next + 1 : Nat) : Int)) (pF g.al u g.dl bk.next g.cl g.fw))))
      rw [pF_putNext]
      have eQ : ExB q H4 (upd H4 q (.ins D.c_Proof g.dx (pF g.al u g.dl (bk.next + 1) g.cl g.fw))) := ExB.upd
      have sQ := soft_ins ob4
      have nQ : NoLine H4 q := fun _ _ _ _ _ z => by
        rw [ob4] at z
        have e := (HO.ins.inj (Option.some.inj z)).2.2
        exact absurd (congrArg List.length e) (by show ¬ 6 = 3; decide)
      have hcs : (bk.lines ++ [(⟨bk.next, c, way⟩ : Sm15.Line)]).filter (fun x => x.way == .claim) = C := by
        rw [List.filter_append, hP.cs]
        have : ((⟨bk.next, c, way⟩ : Sm15.Line).way == .claim) = false := by
          show (way == .claim) = false
          rw [claim_beq]
          exact decide_eq_false fun z => hw (wayNo_is.2.2.2.mp z)
        rw [List.filter_cons, this]
        simp
      have hfw := f2.snoc (x := ⟨bk.next, c, way⟩) rv
      have hP5 : PfAt K D (upd H4 q (.ins D.c_Proof g.dx (pF g.al u g.dl (bk.next + 1) g.cl g.fw))) O q g u as ⟨bk.lines ++ [⟨bk.next, c, way⟩], bk.next + 1⟩ C :=
        ⟨upd_same, hP.at_, ⟨_, eQ _ _ nqd.symm l14, pr_snoc ⟨rfl, x, rfl, eQ.line sQ nQ hL4⟩ (eQ.lines sQ nQ l24)⟩, eQ _ _ ncq cl4, hcs, ⟨_, eQ _ _ nqf.symm f14, hfw⟩, fun a o h => eQ _ _ (ne_of_none h hP.nq) (eO4 a o h), hP.nq, hP.nd, hP.nf⟩
      have fv : valV (ts ++ [(kI c, V.int (bk.next : Int))]) (kI c) = some (.int (bk.next : Int)) := by rw [valV_snoc _ _ _ _ rv, if_pos rfl]
      exact s_ret (ev_dgetT (ev_fld (ev_var (i := 0) rfl) hP5.ob T.k_Proof T.x_Proof_first_with pF_first) (ev_var (i := 3) rfl) (eQ _ _ ntq hc4) (eQ _ _ nqf.symm f14) fv) fun H6 e6 => k H6 (hP5.ex e6)
end
end Cp
/-! Cp18 -/
namespace Cp
open PySem PySem.Spec PyProof.Rows L2 Evl
section
variable {P : Program} {w : World} {K : PySem.W.Frag} {mg : Str → Option Value} {base : Heap} {D : Ad}
/-- o.f = a new list, and then -/
theorem q_fldL {σ : L2.St} {H : Hp} {ta tv : TE} {tz : TS} {E : Ends} {f : Str} {xs : List V} {a C dx : Addr} {fs : List (Str × V)} (h : EvL tv σ H xs) (ha : Ev ta σ H (.ref a)) (ho : H a = some (.ins C dx fs)) (hc : Cls K C) (hn : NoAttr K C f) (hl : fs.length < 1000) (k : ∀ p H1, H p = none → Ex H H1 → H1 p = some (.lst xs) → tz E σ (upd H1 a (.ins C dx (putF f (.ref p) fs)))) :
    tSeq (sFld K ta tv f) tz E σ H := h H (Ex.refl H) _ fun p H1 np e1 hp => ha H1 e1 _ fun H2 e2 => ⟨a, C, dx, fs, rfl, (e1.trans e2) _ _ ho, hc, hn, hl, k p H2 np (e1.trans e2) (e2 _ _ hp)⟩
/-! ### Proof.__init__ -/
def spPi (K : PySem.W.Frag) (D : Ad) : Sp := fun vs H Q _ => ∃ (q dx al d0 : Addr) (O : Hp) (u nx : Nat) (as : List Sm15.Atom) (ls : List Sm15.Line) (kvs : List (Key × V)), vs = [.ref q, .ref al, .int (u : Int), .ref d0, .int (nx : Int)] ∧ H q = some (.ins D.c_Proof dx []) ∧ Ex O H ∧ O q = none ∧ AtomsAt K O al as ∧ O d0 = some (.dK kvs) ∧ LinesAt K D.c_Line O kvs ls ∧ ls.length ≤ 20000 ∧ (numsOf ls).Nodup ∧
  ∀ (H' : Hp) (g : PP), g.dx = dx → PfAt K D H' O q g u as ⟨ls, nx⟩ (ls.filter fun x => x.way == .claim) → Q .non H'
theorem ok_Proof___init__ (T : Txt K mg D) : FnOk P w K mg base CX0 1 D.a_Proof___init__ D.d_Proof___init__ ["self", "atoms", "u", "lines", "next_number"] (spPi K D) := by
  refine T.f_Proof___init__.ok sc_Proof___init__ (fun vs H Q E h => ?_) (fun cdv A outer s H vs Q E hr h => ?_)
  · obtain ⟨_, _, _, _, _, _, _, _, _, _, rfl, _⟩ := h
    rfl
  · obtain ⟨q, dx, al, d0, O, u, nx, as, ls, kvs, rfl, hq, r, nq, hA, hd0, hl0, hz, hnd, k⟩ := h
    refine ⟨_, (pss_cons (ps_fld (pv 0) (pv 1) rfl)
      (pss_cons (ps_fld (pv 0) (pv 2) rfl)
      (pss_cons (ps_fld (pv 0) (pe_callTy call_dictD (by rfl) T.b_dict (by decide +kernel) (pa_cons (pv 3) pa_nil)) rfl)
      (pss_cons (ps_fld (pv 0) (pv 4) rfl)
      (pss_cons (ps_fld (pv 0) (pe_lock (pe_lc (own := [("number", 5)]) (g := gName 5) (by rfl) sc_Proof___init__.nd (pi_keys (pv 3)) (blkOk_by (own := [("number", 5)]) (N := ["self", "atoms", "u", "lines", "next_number", "number", "line"]) (sc := defScope s_Proof___init__) (by decide +kernel)) (fun _ _ _ _ _ => (pg_name (i := 5) sc_Proof___init__.nd rfl (Or.inl rfl))) (fun _ _ _ _ _ => (pts_one (pt_cmpR op_eq (pe_fldK K (pe_dget (hu_of hr) (pv 3) (pv 5) (fun _ _ => rfl)) rfl) (pe_gi (by rfl) T.c_AS_CLAIM) (nomark _)))) (fun _ _ _ _ _ => (pv 5)))) rfl)
      (pss_cons (ps_fld (pv 0) pe_dnewT rfl)
      (pss_one (ps_lock (ps_for PassesOwn.never rfl (pi_items (pv 3)) (pg_tup rfl (pgs_cons (pg_name (i := 5) sc_Proof___init__.nd rfl (Or.inl rfl)) (pgs_cons (pg_name (i := 6) sc_Proof___init__.nd rfl (Or.inl rfl)) pgs_nil))) (pss_one (ps_expr (pe_bm PySem.F.plainAttrs_dict PySem.F.slot_dict_setdefault PySem.F.type_dict_setdefault (mt_setdT (hu_of hr)) (pe_fld (pv 0) rfl) (pa_cons (pe_fld (pv 6) rfl) (pa_cons (pv 5) pa_nil)))))))))))))), ?_⟩
    have kl := pr_len hl0
    -- self.atoms, self.u
    refine ⟨_, rfl, _, rfl, q, _, dx, [], rfl, hq, T.k_Proof, T.x_Proof_atoms, by show 0 < 1000; decide, ?_⟩
    rw [show putF "atoms" (.ref al) [] = ([("atoms", .ref al)] : List (Str × V)) from rfl]
    refine ⟨_, rfl, _, rfl, q, _, dx, [("atoms", .ref al)], rfl, upd_same, T.k_Proof, T.x_Proof_u, by show 1 < 1000; decide, ?_⟩
    rw [pF_n2, upd_over]
    have nd0 : d0 ≠ q := fun z => by rw [z, nq] at hd0; cases hd0
    have e1 : ExB q H (upd H q (.ins D.c_Proof dx [("atoms", .ref al), ("u", .int (u : Int))])) := ExB.upd
    have q1 : (upd H q (.ins D.c_Proof dx [("atoms", .ref al), ("u", .int (u : Int))])) q = some (.ins D.c_Proof dx [("atoms", .ref al), ("u", .int (u : Int))]) := upd_same
    generalize upd H q (.ins D.c_Proof dx [("atoms", .ref al), ("u", .int (u : Int))]) = H1 at *
    have eO1 : Ex O H1 := fun c o h => e1 _ _ (ne_of_none h nq) (r c o h)
    -- self.lines = dict(lines)
    refine ⟨_, rfl, d0, kvs, rfl, .inl (eO1 _ _ hd0), fun dl ndl => ⟨_, rfl, q, _, dx, [("atoms", .ref al), ("u", .int (u : Int))], rfl, ?_, T.k_Proof, T.x_Proof_lines, by show 2 < 1000; decide, ?_⟩⟩
    · rw [upd_ne (fun z => by rw [← z, q1] at ndl; cases ndl)]
      exact q1
    have ndq : dl ≠ q := fun z => by rw [z, q1] at ndl; cases ndl
    rw [pF_n3]
    -- self.next_number
    refine ⟨_, rfl, _, rfl, q, _, dx, _, rfl, upd_same, T.k_Proof, T.x_Proof_next_number, by show 3 < 1000; decide, ?_⟩
    rw [pF_n4, upd_over]
    have eO2 : Ex O (upd (upd H1 dl (.dK kvs)) q (.ins D.c_Proof dx [("atoms", .ref al), ("u", .int (u : Int)), ("lines", .ref dl), ("next_number", .int (nx : Int))])) := fun c o h => by
      rw [upd_ne (ne_of_none h nq), upd_ne (ne_of_none (eO1 _ _ h) ndl)]
      exact eO1 _ _ h
    have q2 : (upd (upd H1 dl (.dK kvs)) q (.ins D.c_Proof dx [("atoms", .ref al), ("u", .int (u : Int)), ("lines", .ref dl), ("next_number", .int (nx : Int))])) q = some (.ins D.c_Proof dx [("atoms", .ref al), ("u", .int (u : Int)), ("lines", .ref dl), ("next_number", .int (nx : Int))]) := upd_same
    have d2 : (upd (upd H1 dl (.dK kvs)) q (.ins D.c_Proof dx [("atoms", .ref al), ("u", .int (u : Int)), ("lines", .ref dl), ("next_number", .int (nx : Int))])) dl = some (.dK kvs) := by rw [upd_ne ndq, upd_same]
    have odl : O dl = none := fresh_back eO1 ndl
    generalize upd (upd H1 dl (.dK kvs)) q (.ins D.c_Proof dx [("atoms", .ref al), ("u", .int (u : Int)), ("lines", .ref dl), ("next_number", .int (nx : Int))]) = H2 at *
    -- self.claims = [..]
    have d02 := eO2 _ _ hd0
    have look : ∀ {HL : Hp}, ExB d0 H2 HL → Rd HL d0 (.dK kvs) → ∀ n ∈ numsOf ls, ∀ {H1}, Ex HL H1 → EvT (tTest (tOp rEq (tFld K (tDGet (tVar 3) (tVar 5)) "way") (tC (.int 0)))) ((wipe [some (.ref q), some (.ref al), some (.int (u : Int)), some (.ref d0), some (.int (nx : Int)), none, none] [5]).set 5 (some (.int (n : Int)))) H1 (claimB ls n) := fun {HL} eL hd n hn H3 e3 => by
      obtain ⟨x, hx⟩ := has_line.mp hn
      rcases val_lines (k := n) (eL.lines (soft_dK d02) (noline_dK d02) (hl0.ex eO2)) with ⟨y, p, h1, h2, h3, dy, ty, cy, h4, h5, h6⟩ | ⟨h1, h2⟩
      · unfold claimB
        rw [h1]
        exact et_test (ev_eq (ev_fld (ev_dget (ev_var (i := 3) rfl) (ev_var (i := 5) rfl) (ex_rd e3 hd) h3) (e3 _ _ h4) T.k_Line T.x_Line_way lF_way) ev_c)
      · rw [hx] at h1
        cases h1
    have gcl : EvL (tLockE (tLc (iKeys (tVar 3)) (gName 5) (tTest (tOp rEq (tFld K (tDGet (tVar 3) (tVar 5)) "way") (tC (.int 0)))) (tVar 5) [5])) [some (.ref q), some (.ref al), some (.int (u : Int)), some (.ref d0), some (.int (nx : Int)), none, none] H2 (natV ((ls.filter fun x => x.way == .claim).map fun x => x.num)) := by
      rw [← claim_nums hnd]
      refine el_lock d02 trivial fun od => ?_
      have eL : ExB d0 H2 (upd H2 d0 (.frz od (.dK kvs))) := ExB.upd
      refine lcK (σ := [some (.ref q), some (.ref al), some (.int (u : Int)), some (.ref d0), some (.int (nx : Int)), none, none]) (H := upd H2 d0 (.frz od (.dK kvs))) (d := d0) (te := tVar 5) (td := tVar 3) (j := 5) (vs := [5]) (od := od) (kvs := kvs) (ms := numsOf ls) (fun kv n => kv.1 = Sum.inl (n : Int) ∧ n ∈ numsOf ls) (claimB ls) (fun (n : Nat) => V.int (n : Int)) ?_ (ev_var rfl) upd_same (by rw [nums_len]; omega) (fun x => rfl) ?_ ?_
      · have go : ∀ {kvs : List (Key × V)} {l : List Sm15.Line}, LinesAt K D.c_Line O kvs l → (∀ x ∈ l, x ∈ ls) → Paired (fun (kv : Key × V) (n : Nat) => kv.1 = Sum.inl (n : Int) ∧ n ∈ numsOf ls) kvs (numsOf l) := by
          intro kvs l h
          induction h with
          | nil => exact fun _ => .nil
          | cons h t ih => exact fun hs => .cons ⟨h.1, List.mem_map.mpr ⟨_, hs _ List.mem_cons_self, rfl⟩⟩ (ih fun x hx => hs x (List.mem_cons_of_mem _ hx))
        exact go hl0 fun _ h => h
      · rintro kv n ⟨hk, hn⟩ H1 e1
        rw [hk]
        exact look eL (.inr ⟨od, upd_same⟩) n hn e1
      · rintro kv n ⟨hk, hn⟩ H1 e1 _
        rw [hk]
        exact ev_var (i := 5) rfl
    refine q_fldL gcl (ev_var (i := 0) rfl) q2 T.k_Proof T.x_Proof_claims (by show 4 < 1000; decide) fun cl H3 ncl e3 hcl => ?_
    rw [pF_n5]
    have ncq : cl ≠ q := fun z => by rw [z, q2] at ncl; cases ncl
    have q4 : (upd H3 q (.ins D.c_Proof dx [("atoms", .ref al), ("u", .int (u : Int)), ("lines", .ref dl), ("next_number", .int (nx : Int)), ("claims", .ref cl)])) q = some (.ins D.c_Proof dx [("atoms", .ref al), ("u", .int (u : Int)), ("lines", .ref dl), ("next_number", .int (nx : Int)), ("claims", .ref cl)]) := upd_same
    have c4 : (upd H3 q (.ins D.c_Proof dx [("atoms", .ref al), ("u", .int (u : Int)), ("lines", .ref dl), ("next_number", .int (nx : Int)), ("claims", .ref cl)])) cl = some (.lst (natV ((ls.filter fun x => x.way == .claim).map fun x => x.num))) := by rw [upd_ne ncq]; exact hcl
    have d4 : (upd H3 q (.ins D.c_Proof dx [("atoms", .ref al), ("u", .int (u : Int)), ("lines", .ref dl), ("next_number", .int (nx : Int)), ("claims", .ref cl)])) dl = some (.dK kvs) := by rw [upd_ne ndq]; exact e3 _ _ d2
    have eO4 : Ex O (upd H3 q (.ins D.c_Proof dx [("atoms", .ref al), ("u", .int (u : Int)), ("lines", .ref dl), ("next_number", .int (nx : Int)), ("claims", .ref cl)])) := fun c o h => by
      rw [upd_ne (ne_of_none h nq)]
      exact e3 _ _ (eO2 _ _ h)
    generalize upd H3 q (.ins D.c_Proof dx [("atoms", .ref al), ("u", .int (u : Int)), ("lines", .ref dl), ("next_number", .int (nx : Int)), ("claims", .ref cl)]) = H4 at *
    -- self.first_with = {}
    intro fw nfw
    have nfq : fw ≠ q := fun z => by rw [z, q4] at nfw; cases nfw
    have nfd : fw ≠ dl := fun z => by rw [z, d4] at nfw; cases nfw
    have nfc : fw ≠ cl := fun z => by rw [z, c4] at nfw; cases nfw
    refine ⟨_, rfl, q, _, dx, _, rfl, by rw [upd_ne nfq.symm]; exact q4, T.k_Proof, T.x_Proof_first_with, by show 5 < 1000; decide, ?_⟩
    rw [pF_n6]
    have q5 : (upd (upd H4 fw (.dT [])) q (.ins D.c_Proof dx (pF al u dl nx cl fw))) q = some (.ins D.c_Proof dx (pF al u dl nx cl fw)) := upd_same
    have f5 : (upd (upd H4 fw (.dT [])) q (.ins D.c_Proof dx (pF al u dl nx cl fw))) fw = some (.dT []) := by rw [upd_ne nfq, upd_same]
    have d5 : (upd (upd H4 fw (.dT [])) q (.ins D.c_Proof dx (pF al u dl nx cl fw))) dl = some (.dK kvs) := by rw [upd_ne ndq, upd_ne nfd.symm]; exact d4
    have c5 : (upd (upd H4 fw (.dT [])) q (.ins D.c_Proof dx (pF al u dl nx cl fw))) cl = some (.lst (natV ((ls.filter fun x => x.way == .claim).map fun x => x.num))) := by rw [upd_ne ncq, upd_ne nfc.symm]; exact c4
    have eO5 : Ex O (upd (upd H4 fw (.dT [])) q (.ins D.c_Proof dx (pF al u dl nx cl fw))) := fun c o h => by
      rw [upd_ne (ne_of_none h nq), upd_ne (ne_of_none (eO4 _ _ h) nfw)]
      exact eO4 _ _ h
    have ofw : O fw = none := fresh_back eO4 nfw
    show tLock _ _ _ (upd (upd H4 fw (.dT [])) q (.ins D.c_Proof dx (pF al u dl nx cl fw)))
    generalize upd (upd H4 fw (.dT [])) q (.ins D.c_Proof dx (pF al u dl nx cl fw)) = H5 at *
    -- for number, line in lines.items()
    have d05 := eO5 _ _ hd0
    refine ⟨d0, .dK kvs, d05, trivial, fun od => ?_⟩
    have eL : ExB d0 H5 (upd H5 d0 (.frz od (.dK kvs))) := ExB.upd
    have l2L := eL.lines (soft_dK d05) (noline_dK d05) (hl0.ex eO5)
    have dL : (upd H5 d0 (.frz od (.dK kvs))) d0 = some (.frz od (.dK kvs)) := upd_same
    have nfd0 : fw ≠ d0 := fun z => by rw [z, hd0] at ofw; cases ofw
    have nqd0 : q ≠ d0 := nd0.symm
    have qL := eL _ _ nqd0 q5
    have fL := eL _ _ nfd0 f5
    have back : ∀ H', ExB fw (upd H5 d0 (.frz od (.dK kvs))) H' → ExB fw H5 (upd H' d0 (.dK kvs)) := fun H' e c y hc hy => by
      by_cases z : c = d0
      · rw [z, upd_same, ← d05, ← z]
        exact hy
      · rw [upd_ne z]
        exact e c y hc (by rw [upd_ne z]; exact hy)
    generalize hHL : upd H5 d0 (.frz od (.dK kvs)) = HL at *
    have sF : Soft HL fw := ⟨(fun _ z => by rw [fL] at z; cases z), (fun _ _ z => by rw [fL] at z; cases z)⟩
    have nF : NoLine HL fw := fun _ _ _ _ _ z => by rw [fL] at z; cases z
    refine ⟨.ref d0, rfl, d0, od, kvs, rfl, dL, ?_⟩
    refine for_it walk_items (fun i σ H' => ∃ (y5 y6 : Option V) (ts : List (List Key × V)), σ = [some (.ref q), some (.ref al), some (.int (u : Int)), some (.ref d0), some (.int (nx : Int)), y5, y6] ∧ ExB fw HL H' ∧ H' fw = some (.dT ts) ∧ FwIs ts (ls.take i)) ⟨none, none, [], rfl, ExB.refl _ _, fL, Nat.zero_le _, fun c => rfl⟩ (fun i σ H' _ ⟨_, _, _, _, e, _⟩ => e _ _ nfd0.symm dL) ?_ ?_
    · rintro i x σ H' H'' hi ⟨y5, y6, ts, rfl, eB, hf, hfw⟩ ⟨Tp, x1, x2, rfl, nT, rfl, hx1, hx2⟩
      have hlt : i < ls.length := by omega
      obtain ⟨kv, hkv, hat⟩ := pr_get l2L (List.getElem?_eq_getElem hlt)
      obtain ⟨hk1, p, hk2, hk3⟩ := hat
      dsimp only at hx1 hx2
      rw [hkv] at hx1 hx2
      have ex1 : x1 = .int ((ls[i].num : Nat) : Int) := by
        have := Option.some.inj hx1
        rw [← this]
        dsimp only
        rw [hk1]
        rfl
      have ex2 : x2 = .ref p := by
        have := Option.some.inj hx2
        rw [← this]
        exact hk2
      subst ex1 ex2
      have eT : Ex H' (upd H' Tp (.tup [.int ((ls[i].num : Nat) : Int), .ref p])) := Ex.new nT
      have hT : (upd H' Tp (.tup [.int ((ls[i].num : Nat) : Int), .ref p])) Tp = some (.tup [.int ((ls[i].num : Nat) : Int), .ref p]) := upd_same
      generalize upd H' Tp (.tup [.int ((ls[i].num : Nat) : Int), .ref p]) = H7 at *
      refine ⟨Tp, _, rfl, st_of hT, rfl, _, _, rfl, _, _, rfl, rfl, ?_⟩
      obtain ⟨dy, ty, cy, h4, h5, h6⟩ := (eB.line sF nF hk3).ex eT
      have hf7 := eT _ _ hf
      have q7 := eT _ _ (eB _ _ nfq.symm qL)
      have more : ls.take (i + 1) = ls.take i ++ [ls[i]] := by rw [List.take_add_one, List.getElem?_eq_getElem hlt]; rfl
      have tl := hfw.1
      rw [List.length_take] at tl
      refine ⟨.ref q, rfl, q, D.c_Proof, dx, _, _, rfl, q7, T.k_Proof, T.x_Proof_first_with, pF_first, .inr (.inr (.inl ⟨rfl, .inr ⟨ts, hf7⟩⟩)), .ref p, rfl, p, D.c_Line, dy, _, _, rfl, h4, T.k_Line, T.x_Line_clause, lF_clause, _, rfl, fw, ts, kI ls[i].clause, cy, .int ((ls[i].num : Nat) : Int), rfl, rfl, hf7, by rw [kI_v]; exact h6, sz_lt (by omega), fun v hv => ?_, fun hv => ?_⟩
      · refine ⟨_, _, ts, rfl, eB.trans (ExB.of eT), hf7, ?_⟩
        rw [more]
        exact hfw.same hv
      · refine ⟨_, _, _, rfl, (eB.trans (ExB.of eT)).trans ExB.upd, upd_same, ?_⟩
        rw [more]
        exact hfw.snoc hv
    · rintro σ H' ⟨y5, y6, ts, rfl, eB, hf, hfw⟩
      rw [kl, List.take_length] at hfw
      refine ⟨eB _ _ nfd0.symm dL, ?_⟩
      have eE := back H' eB
      have nfw2 : fw ≠ d0 := nfd0
      have hf2 : (upd H' d0 (.dK kvs)) fw = some (.dT ts) := by rw [upd_ne nfd0]; exact hf
      have sF5 : Soft H5 fw := ⟨(fun _ z => by rw [f5] at z; cases z), (fun _ _ z => by rw [f5] at z; cases z)⟩
      have nF5 : NoLine H5 fw := fun _ _ _ _ _ z => by rw [f5] at z; cases z
      exact k _ ⟨dx, al, dl, cl, fw⟩ rfl ⟨eE _ _ nfq.symm q5, hA, ⟨kvs, eE _ _ nfd.symm d5, eE.lines sF5 nF5 (hl0.ex eO5)⟩, eE _ _ nfc.symm c5, rfl, ⟨ts, hf2, hfw⟩, fun c o h => eE _ _ (ne_of_none h ofw) (eO5 _ _ h), nq, odl, ofw⟩
end
end Cp
/-! Cp19 -/
namespace Cp
open PySem PySem.Spec PyProof.Rows L2 Evl
section
variable {P : Program} {w : World} {K : PySem.W.Frag} {mg : Str → Option Value} {base : Heap} {D : Ad}
/-- return o.m(..) -/
theorem s_retM {σ : L2.St} {H : Hp} {te : TE} {tr : TA} {E : XK} {B : Ends} {a C dx : Addr} {fs : List (Str × V)} {m : Str} {sp : Sp} {vs : List V} (h : Ev te σ H (.ref a)) (ho : H a = some (.ins C dx fs)) (hl : fs.lookup m = none) (hr : EvA tr σ H vs) (k : ∀ H1, Ex H H1 → sp (.ref a :: (vs ++ [])) H1 B.rt E) : tRet (tMeth C m sp [] E te tr) B σ H :=
  h H (Ex.refl H) _ fun H2 e2 => ⟨a, dx, fs, rfl, e2 a _ ho, hl, hr H2 e2 _ fun H3 e3 => k H3 (e2.trans e3)⟩
/-- what is asked of the proof's book -/
structure PgOk (u : Nat) (as : List Sm15.Atom) (bk : Sm15.Book) (f : Nat) : Prop where
  al : as.length ≤ 8
  u4 : u ≤ 4
  aok : AtomsOk u as
  bok : BOk as.length bk.lines bk.next
  size : bk.lines.length + 2 ^ (f + 1) ≤ 50000
theorem bok_len {as : List Sm15.Atom} (ha : as.length ≤ 8) {bk : Sm15.Book} (h : BOk as.length bk.lines bk.next) : ∀ x ∈ bk.lines, x.clause.length ≤ 16 := fun x hx => nodup_bound 8 _ (up_nodup (h.lits x hx).2) ((h.lits x hx).1.mono ha)
/-- the clause of a line of the proof -/
theorem ev_pclause (T : Txt K mg D) {σ : L2.St} {te ti : TE} {H O : Hp} {q : Addr} {g : PP} {u : Nat} {as : List Sm15.Atom} {bk : Sm15.Book} {C : List Sm15.Line} (hP : PfAt K D H O q g u as bk C) {n : Nat} {x : Sm15.Line} (hx : Sm15.lineAt bk.lines n = some x) :
    ∃ tc, H tc = some (.tup (x.clause.map V.int)) ∧ ∀ {H1}, Ex H H1 → Ev te σ H1 (.ref q) → Ev ti σ H1 (.int (n : Int)) → Ev (tFld K (tDGet (tFld K te "lines") ti) "clause") σ H1 (.ref tc) := by
  obtain ⟨kvs, l1, l2⟩ := hP.ln
  rcases val_lines (k := n) l2 with ⟨y, p, h1, h2, h3, dy, ty, cy, h4, h5, h6⟩ | ⟨h1, _⟩
  · rw [hx] at h1
    cases h1
    exact ⟨cy, h6, fun e1 hq hi => ev_fld (ev_dget (ev_fld hq (e1 _ _ hP.ob) T.k_Proof T.x_Proof_lines pF_lines) hi (.inl (e1 _ _ l1)) h3) (e1 _ _ h4) T.k_Line T.x_Line_clause lF_clause⟩
  · rw [hx] at h1
    cases h1
def spF (K : PySem.W.Frag) (D : Ad) (f : Nat) : Sp := fun vs H Q _ => ∃ (q : Addr) (g : PP) (O : Hp) (u : Nat) (as : List Sm15.Atom) (bk : Sm15.Book) (C : List Sm15.Line) (aS : Addr) (so : List Int), vs = [.ref q, .ref aS] ∧ PfAt K D H O q g u as bk C ∧ O aS = some (.lst (so.map V.int)) ∧ so.length + f = as.length ∧ Lits as.length so ∧ PgOk u as bk f ∧
  (Sm15.prove u as f (so.length + 1) so bk = none → ∀ H', Ex O H' → Q .non H') ∧ ∀ r, Sm15.prove u as f (so.length + 1) so bk = some r → ∀ H', PfAt K D H' O q g u as r.1 C → Q (.int (r.2 : Int)) H'
def spB (K : PySem.W.Frag) (D : Ad) : Nat → Sp
  | 0 => fun _ _ _ _ => False
  | f + 1 => fun vs H Q _ => ∃ (q : Addr) (g : PP) (O : Hp) (u : Nat) (as : List Sm15.Atom) (bk : Sm15.Book) (C : List Sm15.Line) (aS : Addr) (so : List Int), vs = [.ref q, .ref aS, .int ((so.length + 1 : Nat) : Int)] ∧ PfAt K D H O q g u as bk C ∧ O aS = some (.lst (so.map V.int)) ∧ so.length + (f + 1) = as.length ∧ Lits as.length so ∧ PgOk u as bk (f + 1) ∧
    (bothS u as f (so.length + 1) so bk = none → ∀ H', Ex O H' → Q .non H') ∧ ∀ r, bothS u as f (so.length + 1) so bk = some r → ∀ H', PfAt K D H' O q g u as r.1 C → Q (.int (r.2 : Int)) H'
theorem step_line_found (T : Txt K mg D) (f : Nat) (rk_Proof_line_of_both : FnOk P w K mg base CX0 (6 - 1 + 2 * f) D.a_Proof_line_of_both D.d_Proof_line_of_both ["self", "so", "atom"] (spB K D f)) : FnOk P w K mg base CX0 (6 - 1 + 2 * f + 1) D.a_Proof_line_found D.d_Proof_line_found ["self", "so"] (spF K D f) := by
  refine T.f_Proof_line_found.ok sc_Proof_line_found (fun vs H Q E h => ?_) (fun cdv A outer s H vs Q E hr h => ?_)
  · obtain ⟨_, _, _, _, _, _, _, _, _, rfl, _⟩ := h
    rfl
  · obtain ⟨q, g, O, u, as, bk, C, aS, so, rfl, hP, hS, hf, hl, ok, k1, k2⟩ := h
    refine ⟨_, (pss_cons (ps_for PassesOwn.never rfl (pi_list (pe_fld (pv 0) rfl)) (pg_name (i := 2) sc_Proof_line_found.nd rfl (Or.inl rfl)) (pss_one (ps_if (pt_val (pe_call (ok_is_broken T) (hr.mono (by omega)) (by rfl) T.g_is_broken T.f_is_broken.kp T.n_is_broken .nil pass0 (pa_cons (pe_fld (pe_dget (hu_of hr) (pe_fld (pv 0) rfl) (pv 2) (fun _ _ => rfl)) rfl) (pa_cons (pv 1) pa_nil)))) (pss_one (ps_ret (pv 2))) pss_nil)))
      (pss_cons (ps_set (i := 3) sc_Proof_line_found.nd rfl (Or.inl rfl) (pe_call (ok_reason_of T) (hr.mono (by omega)) (by rfl) T.g_reason_of T.f_reason_of.kp T.n_reason_of .nil pass0 (pa_cons (pe_fld (pv 0) rfl) (pa_cons (pe_fld (pv 0) rfl) (pa_cons (pv 1) pa_nil)))))
      (pss_cons (ps_if (pt_cmpR op_notN (pv 3) pe_non (nomark _)) (pss_one (ps_ret (pe_meth (pv 0) T.k_Proof T.t_Proof_line_for (ok_Proof_line_for T) (hr.mono (by omega)) T.n_Proof_line_for .nil pass0 (pa_cons (pe_gi (by rfl) T.c_BY_BOUNDS) (pa_cons (pe_tup pa_nil) (pa_cons (pe_call (ok_clause_of T) (hr.mono (by omega)) (by rfl) T.g_clause_of T.f_clause_of.kp T.n_clause_of .nil pass0 (pa_cons (pe_call (ok_opposites T) (hr.mono (by omega)) (by rfl) T.g_opposites T.f_opposites.kp T.n_opposites .nil pass0 (pa_cons (pv 3) pa_nil)) pa_nil)) pa_nil)))))) pss_nil)
      (pss_cons (ps_if (pt_cmpR op_eq (pe_callB call_len_seq (by rfl) T.b_len PySem.boot_len (pa_cons (pv 1) pa_nil)) (pe_callB call_len_seq (by rfl) T.b_len PySem.boot_len (pa_cons (pe_fld (pv 0) rfl) pa_nil)) (nomark _)) (pss_one (ps_ret pe_non)) pss_nil)
      (pss_one (ps_ret (pe_meth (pv 0) T.k_Proof T.t_Proof_line_of_both rk_Proof_line_of_both (hr.mono (by omega)) T.n_Proof_line_of_both .nil pass0 (pa_cons (pv 1) (pa_cons (pe_op op_add (pe_callB call_len_seq (by rfl) T.b_len PySem.boot_len (pa_cons (pv 1) pa_nil)) pe_int) pa_nil))))))))), ?_⟩
    have hg := good_edges ok.aok
    have nd := ok.bok.wf.nodup
    have bl := bok_len ok.al ok.bok
    have cin : ∀ x ∈ C, x ∈ bk.lines := fun x hx => by rw [← hP.cs] at hx; exact (List.mem_filter.mp hx).1
    have hpr := prove_is u as f (so.length + 1) so bk
    rw [find_claims, hP.cs] at hpr
    have bb : ∀ x : Sm15.Line, (x.clause.all fun l => so.contains (0 - l)) = brokenBy x.clause so := fun x => by
      unfold brokenBy
      congr 1
      funext l
      rw [Int.zero_sub]
    -- the claims
    refine q_forLn (K := K) (xs := natV (C.map fun x => x.num)) (ev_fld (ev_var (i := 0) rfl) hP.ob T.k_Proof T.x_Proof_claims pF_claims) (sq_of hP.cl) (fun i σ H' => ∃ y2, σ = [some (.ref q), some (.ref aS), y2, none] ∧ PfAt K D H' O q g u as bk C ∧ ∀ x ∈ C.take i, (x.clause.all fun l => so.contains (0 - l)) = false)
      (fun H1 e1 => ⟨none, rfl, hP.ex e1, fun x hx => by simp at hx⟩) (fun i σ H' _ ⟨_, _, p, _⟩ => sq_of p.cl) ?_ ?_
    · rintro i v σ H1 hi ⟨y2, rfl, hP1, hno⟩
      unfold natV at hi
      rw [List.map_map] at hi
      obtain ⟨x, hx, rfl, hxm⟩ := map_at hi
      have hxl := lineAt_self nd (cin x hxm)
      obtain ⟨tc, hc, rd⟩ := ev_pclause T (σ := [some (.ref q), some (.ref aS), some (.int (x.num : Int)), none]) (te := tVar 0) (ti := tVar 2) hP1 hxl
      have hS1 := hP1.rest _ _ hS
      refine s_when (et_is (et_B (ev_call (dvs := []) (ea_cons (rd (Ex.refl _) (ev_var rfl) (ev_var rfl)) (ea_cons (ev_var (i := 1) rfl) ea_nil)) fun H2 e2 Q2 q2 E2 => ⟨tc, aS, x.clause, so, rfl, st_of (e2 _ _ hc), sq_of (e2 _ _ hS1), by have := bl x (cin x hxm); omega, q2⟩)) (bb x).symm) (fun hb H2 e2 => ?_) (fun hb H2 e2 => ?_)
      · have hfd : C.find? (fun x => x.clause.all fun l => so.contains (0 - l)) = some x := by
          have lt : i < C.length := (List.getElem?_eq_some_iff.mp hx).1
          have e : C = C.take i ++ x :: C.drop (i + 1) := by
            have := List.take_append_drop i C
            rw [List.drop_eq_getElem_cons lt] at this
            rw [List.getElem?_eq_getElem lt] at hx
            rw [Option.some.inj hx] at this
            exact this.symm
          rw [e, List.find?_append, List.find?_eq_none.mpr (fun y hy => by rw [hno y hy]; decide), Option.none_or, List.find?_cons, hb]
        rw [hfd] at hpr
        exact s_ret (ev_var (i := 2) rfl) fun H3 e3 => k2 _ hpr H3 (hP1.ex (e2.trans e3))
      · refine ⟨_, rfl, hP1.ex e2, fun y hy => ?_⟩
        rw [List.take_add_one, hx, List.mem_append] at hy
        rcases hy with z | z
        · exact hno y z
        · have : y = x := by simpa using z
          rw [this]
          exact hb
    · rintro σ H1 ⟨y2, rfl, hP1, hno⟩
      rw [natV_len, List.length_map, List.take_length] at hno
      have hfd : C.find? (fun x => x.clause.all fun l => so.contains (0 - l)) = none := List.find?_eq_none.mpr fun y hy => by rw [hno y hy]; decide
      rw [hfd] at hpr
      have hrs : (if Sm15.fit u (Sm15.edgesOf as so) = true then none else Sm15.reason u as so) = Sm15.reason u as so := by
        by_cases c : Sm15.fit u (Sm15.edgesOf as so) = true
        · rw [if_pos c, reason_none hg c]
        · rw [if_neg c]
      rw [hrs] at hpr
      have hS1 := hP1.rest _ _ hS
      -- reason = reason_of(..)
      refine ⟨.ref q, rfl, q, D.c_Proof, g.dx, _, _, rfl, hP1.ob, T.k_Proof, T.x_Proof_atoms, pF_atoms, .ref q, rfl, q, D.c_Proof, g.dx, _, _, rfl, hP1.ob, T.k_Proof, T.x_Proof_u, pF_u, .ref aS, rfl, g.al, aS, u, as, so, rfl, hP1.at_.ex hP1.rest, sq_of hS1, hl, by have := ok.al; omega, ok.u4, ok.aok, fun hn => ?_, fun r hs => ?_⟩
      · intro H2 e2
        rw [hn] at hpr
        have hpr : Sm15.prove u as f (so.length + 1) so bk = nextS u as (so.length + 1) so bk f := hpr
        have hP2 := hP1.ex e2
        refine q_when (b := false) (et_test (ev_notN (v := .non) (ev_var (i := 3) rfl) ev_c)) (fun z => Bool.noConfusion z) (fun _ H3 e3 => ?_)
        have hP3 := hP2.ex e3
        have hS3 := hP3.rest _ _ hS
        have lenS : ∀ {H4}, Ex H3 H4 → Ev (tCB (fun xs H Q => ∃ p ys, xs = [V.ref p] ∧ (SqL K H p ys ∨ SqT K H p ys) ∧ Q (.int ys.length) H) (tCons (tVar 1) tNil)) [some (.ref q), some (.ref aS), y2, some .non] H4 (.int (so.length : Int)) := fun {H4} e4 => by
          have z := ev_lenL (K := K) (σ := [some (.ref q), some (.ref aS), y2, some .non]) (H := H4) (ta := tVar 1) (ev_var rfl) (sq_of (e4 _ _ hS3))
          rw [List.length_map] at z
          exact z
        have lenA : Ev (tCB (fun xs H Q => ∃ p ys, xs = [V.ref p] ∧ (SqL K H p ys ∨ SqT K H p ys) ∧ Q (.int ys.length) H) (tCons (tFld K (tVar 0) "atoms") tNil)) [some (.ref q), some (.ref aS), y2, some .non] H3 (.int (as.length : Int)) := by
          obtain ⟨pa, s1, s2⟩ := hP3.at_.ex hP3.rest
          have z := ev_lenL (K := K) (σ := [some (.ref q), some (.ref aS), y2, some .non]) (H := H3) (ta := tFld K (tVar 0) "atoms") (ev_fld (ev_var (i := 0) rfl) hP3.ob T.k_Proof T.x_Proof_atoms pF_atoms) s1
          rw [List.length_map, pr_len s2] at z
          exact z
        refine q_when (et_test (ev_eq (lenS (Ex.refl _)) lenA)) (fun hb H4 e4 => ?_) (fun hb H4 e4 => ?_)
        · have hb := of_decide_eq_true hb
          have f0 : f = 0 := by omega
          subst f0
          exact s_ret ev_c fun H5 e5 => k1 hpr H5 (hP3.rest.trans (e4.trans e5))
        · have hb := of_decide_eq_false hb
          obtain ⟨f, rfl⟩ : ∃ f', f = f' + 1 := ⟨f - 1, by omega⟩
          have hpr : Sm15.prove u as (f + 1) (so.length + 1) so bk = bothS u as f (so.length + 1) so bk := hpr
          have hP4 := hP3.ex e4
          exact s_retM (ev_var (i := 0) rfl) hP4.ob (pF_m (by decide +kernel)) (ea_cons (ev_var (i := 1) rfl) (ea_cons (ev_is (ev_add (lenS e4) ev_c) (show V.int ((so.length : Int) + 1) = V.int ((so.length + 1 : Nat) : Int) from rfl)) ea_nil)) fun H5 e5 => ⟨q, g, O, u, as, bk, C, aS, so, rfl, hP4.ex e5, hS, hf, hl, ok, fun hn => k1 (hpr.trans hn), fun r hr => k2 r (hpr.trans hr)⟩
      · intro p H2 np e2 hp
        rw [hs] at hpr
        have hpr : Sm15.prove u as f (so.length + 1) so bk = some (Sm15.write bk (Sm15.clauseOf (r.map fun l => 0 - l)) .bounds) := hpr
        have hP2 := hP1.ex e2
        refine q_when (b := true) (et_is (et_test (ev_notN (v := .ref p) (ev_var (i := 3) rfl) ev_c)) (by rw [decide_eq_false fun z => nomatch z]; rfl)) (fun _ H3 e3 => ?_) (fun z => Bool.noConfusion z)
        have hP3 := hP2.ex e3
        have hp3 := e3 _ _ hp
        have rl : r.length ≤ 8 := by
          unfold Sm15.reason at hs
          have hm := List.mem_of_find?_eq_some hs
          obtain ⟨k, _, hm⟩ := List.mem_flatMap.mp hm
          have := (mem_choose.mp hm).1.length_le
          have := ok.al
          omega
        -- self.line_for(BY_BOUNDS, (), clause_of(opposites(reason)))
        refine ⟨.ref q, rfl, q, g.dx, _, rfl, hP3.ob, pF_m (by decide +kernel), by show 0 ≤ sizeLine; decide, fun tn ntn => ?_⟩
        have e4 : Ex H3 (upd H3 tn (.tup [])) := Ex.new ntn
        have ht4 : (upd H3 tn (.tup [])) tn = some (.tup []) := upd_same
        generalize upd H3 tn (.tup []) = H4 at *
        refine ⟨.ref p, rfl, p, r, rfl, .inl (sq_of (e4 _ _ hp3)), by omega, fun o H5 no e5 ho => ?_⟩
        refine ⟨o, r.map fun n => -n, rfl, sq_of ho, by rw [List.length_map]; omega, fun H6 tc e6 ntc htc => ?_⟩
        have e6 : Ex H5 H6 := e6
        have hP6 := ((hP3.ex e4).ex e5).ex e6
        have eq : (r.map fun n => -n) = r.map fun l => 0 - l := List.map_congr_left fun l _ => by rw [Int.zero_sub]
        rw [eq] at htc
        have sz := ok.size
        have p1 : 1 ≤ 2 ^ (f + 1) := Nat.one_le_two_pow
        exact ⟨q, g, O, u, as, bk, C, .bounds, tn, tc, _, rfl, hP6, by decide, st_of ((e5.trans e6) _ _ ht4), htc, by omega, ok.bok.lt, fun H7 hP7 => k2 _ hpr H7 hP7⟩
theorem step_line_of_both (T : Txt K mg D) (f : Nat) (rk_Proof_line_found : FnOk P w K mg base CX0 (6 - 1 + 2 * f + 1) D.a_Proof_line_found D.d_Proof_line_found ["self", "so"] (spF K D f)) : FnOk P w K mg base CX0 (6 - 1 + 2 * f + 1 + 1) D.a_Proof_line_of_both D.d_Proof_line_of_both ["self", "so", "atom"] (spB K D (f + 1)) := by
  refine T.f_Proof_line_of_both.ok sc_Proof_line_of_both (fun vs H Q E h => ?_) (fun cdv A outer s H vs Q E hr h => ?_)
  · obtain ⟨_, _, _, _, _, _, _, _, _, rfl, _⟩ := h
    rfl
  · obtain ⟨q, g, O, u, as, bk, C, aS, so, rfl, hP, hS, hf, hl, ok, k1, k2⟩ := h
    refine ⟨_, (pss_cons (ps_set (i := 3) sc_Proof_line_of_both.nd rfl (Or.inl rfl) (pe_meth (pv 0) T.k_Proof T.t_Proof_line_found rk_Proof_line_found (hr.mono (by omega)) T.n_Proof_line_found .nil pass0 (pa_cons (pe_op op_cat (pv 1) (pe_lst (pa_cons (pe_un un_neg (pv 2)) pa_nil))) pa_nil)))
      (pss_cons (ps_if (PW.pt (pw_or (pt_cmpR op_isN (pv 3) pe_non (nomark _)) (pw_or1 (pt_cmpR op_notIn_seq (pv 2) (pe_fld (pe_dget (hu_of hr) (pe_fld (pv 0) rfl) (pv 3) (fun _ _ => rfl)) rfl) (by rfl))))) (pss_one (ps_ret (pv 3))) pss_nil)
      (pss_cons (ps_set (i := 4) sc_Proof_line_of_both.nd rfl (Or.inl rfl) (pe_meth (pv 0) T.k_Proof T.t_Proof_line_found rk_Proof_line_found (hr.mono (by omega)) T.n_Proof_line_found .nil pass0 (pa_cons (pe_op op_cat (pv 1) (pe_lst (pa_cons (pv 2) pa_nil))) pa_nil)))
      (pss_cons (ps_if (PW.pt (pw_or (pt_cmpR op_isN (pv 4) pe_non (nomark _)) (pw_or1 (pt_cmpR op_notIn_seq (pe_un un_neg (pv 2)) (pe_fld (pe_dget (hu_of hr) (pe_fld (pv 0) rfl) (pv 4) (fun _ _ => rfl)) rfl) (by rfl))))) (pss_one (ps_ret (pv 4))) pss_nil)
      (pss_cons (ps_set (i := 5) sc_Proof_line_of_both.nd rfl (Or.inl rfl) (pe_call (ok_put_together T) (hr.mono (by omega)) (by rfl) T.g_put_together T.f_put_together.kp T.n_put_together .nil pass0 (pa_cons (pe_fld (pe_dget (hu_of hr) (pe_fld (pv 0) rfl) (pv 3) (fun _ _ => rfl)) rfl) (pa_cons (pe_fld (pe_dget (hu_of hr) (pe_fld (pv 0) rfl) (pv 4) (fun _ _ => rfl)) rfl) (pa_cons (pv 2) pa_nil)))))
      (pss_one (ps_ret (pe_meth (pv 0) T.k_Proof T.t_Proof_line_for (ok_Proof_line_for T) (hr.mono (by omega)) T.n_Proof_line_for .nil pass0 (pa_cons (pe_gi (by rfl) T.c_BY_JOINING) (pa_cons (pe_tup (pa_cons (pv 3) (pa_cons (pv 4) (pa_cons (pv 2) pa_nil)))) (pa_cons (pv 5) pa_nil))))))))))), ?_⟩
    have hS0 := hP.rest _ _ hS
    have al := ok.al
    have lits : ∀ z : Int, z.natAbs = so.length + 1 → Lits as.length (so ++ [z]) := fun z hz y hy => by
      rcases List.mem_append.mp hy with h | h
      · exact hl y h
      · rw [List.mem_singleton.mp h]
        omega
    have neg : (-((so.length + 1 : Nat) : Int)) = 0 - ((so.length + 1 : Nat) : Int) := by omega
    have p2 : 2 ^ (f + 1 + 1) = 2 * 2 ^ (f + 1) := by rw [Nat.pow_succ, Nat.mul_comm]
    have p1 : 1 ≤ 2 ^ (f + 1) := Nat.one_le_two_pow
    have sz := ok.size
    unfold bothS at k1 k2
    -- first = self.line_found(so + [-atom])
    refine ⟨.ref q, rfl, q, g.dx, _, rfl, hP.ob, pF_m (by decide +kernel), .ref aS, rfl, .int ((so.length + 1 : Nat) : Int), rfl, _, rfl, by show 1 ≤ sizeLine; decide, fun p1 n1 => ⟨aS, p1, so.map V.int, [.int (-((so.length + 1 : Nat) : Int))], rfl, rfl, (Ex.new n1) _ _ hS0, upd_same, sz_of (by rw [List.length_map]; show so.length + 1 ≤ 100000; omega), fun p2 n2 => ?_⟩⟩
    have e4 : Ex H (upd H p1 (.lst [.int (-((so.length + 1 : Nat) : Int))])) := Ex.new n1
    generalize upd H p1 (.lst [.int (-((so.length + 1 : Nat) : Int))]) = H4 at *
    have e5 : Ex H4 (upd H4 p2 (.lst (so.map V.int ++ [.int (-((so.length + 1 : Nat) : Int))]))) := Ex.new n2
    have hp2 : (upd H4 p2 (.lst (so.map V.int ++ [.int (-((so.length + 1 : Nat) : Int))]))) p2 = some (.lst ((so ++ [0 - ((so.length + 1 : Nat) : Int)]).map V.int)) := by rw [upd_same, List.map_append, neg]; rfl
    generalize upd H4 p2 (.lst (so.map V.int ++ [.int (-((so.length + 1 : Nat) : Int))])) = H5 at *
    have hP5 := hP.ex (e4.trans e5)
    have hW5 := hP5.wide
    have ok5 : PgOk u as bk f := ⟨ok.al, ok.u4, ok.aok, ok.bok, by omega⟩
    refine ⟨q, g, _, u, as, bk, C, p2, so ++ [0 - ((so.length + 1 : Nat) : Int)], rfl, hW5, hP5.lst hp2, by rw [List.length_append]; show so.length + 1 + f = _; omega, lits _ (by omega), ok5, fun hn H6 e6 => ?_, fun x hx H6 hP6w => ?_⟩
    · have hn : Sm15.prove u as f (so.length + 1 + 1) (so ++ [0 - ((so.length + 1 : Nat) : Int)]) bk = none := by
        rw [List.length_append] at hn
        exact hn
      rw [hn] at k1
      refine q_when (b := true) (et_is (et_or (a := true) (b := true) (et_test (ev_isN (v := .non) (ev_var (i := 3) rfl) ev_c)) fun z => Bool.noConfusion z) rfl) (fun _ H7 e7 => ?_) (fun z => Bool.noConfusion z)
      exact s_ret (ev_var (i := 3) rfl) fun H8 e8 => k1 rfl H8 (hP5.sub.trans ((e6.trans e7).trans e8))
    · have hx : Sm15.prove u as f (so.length + 1 + 1) (so ++ [0 - ((so.length + 1 : Nat) : Int)]) bk = some x := by
        rw [List.length_append] at hx
        exact hx
      rw [hx, Option.bind_some] at k1 k2
      have hP6 := hP6w.back hP5.sub hP5
      obtain ⟨xb, ⟨new, xl, xn, _⟩, xin⟩ := prove_ok _ _ _ _ _ hx ok.bok (lits _ (by omega)) (by omega) (by omega)
      have xs := prove_size _ _ _ _ _ hx
      obtain ⟨lx, lx1, lx2⟩ := has_clause xin
      rw [lx2] at k1 k2
      dsimp only at k1 k2
      have lxl := bok_len al xb lx (lineAt_some lx1).1
      obtain ⟨tc, hc, rd⟩ := ev_pclause T (σ := [some (.ref q), some (.ref aS), some (.int ((so.length + 1 : Nat) : Int)), some (.int (x.2 : Int)), none, none]) (te := tVar 0) (ti := tVar 3) hP6 lx1
      refine q_when (b := !lx.clause.contains ((so.length + 1 : Nat) : Int)) (et_is (et_or (a := false) (et_is (et_test (ev_isN (v := .int (x.2 : Int)) (ev_var (i := 3) rfl) ev_c)) (decide_eq_false fun z => nomatch z)) fun _ => et_test (ev_niT (K := K) (k := ((so.length + 1 : Nat) : Int)) (ev_var (i := 2) rfl) (rd (Ex.refl _) (ev_var rfl) (ev_var rfl)) (st_of hc))) rfl) (fun hb H7 e7 => ?_) (fun hb H7 e7 => ?_)
      · have hb : lx.clause.contains ((so.length + 1 : Nat) : Int) = false := by simpa using hb
        rw [if_pos hb] at k2
        exact s_ret (ev_var (i := 3) rfl) fun H8 e8 => k2 x rfl H8 (hP6.ex (e7.trans e8))
      · have hb : lx.clause.contains ((so.length + 1 : Nat) : Int) = true := by simpa using hb
        rw [if_neg (by rw [hb]; decide)] at k1 k2
        have hP7 := hP6.ex e7
        have hS7 := hP7.rest _ _ hS
        -- second = self.line_found(so + [atom])
        refine ⟨.ref q, rfl, q, g.dx, _, rfl, hP7.ob, pF_m (by decide +kernel), .ref aS, rfl, .int ((so.length + 1 : Nat) : Int), rfl, by show 1 ≤ sizeLine; decide, fun p3 n3 => ⟨aS, p3, so.map V.int, [.int ((so.length + 1 : Nat) : Int)], rfl, rfl, (Ex.new n3) _ _ hS7, upd_same, sz_of (by rw [List.length_map]; show so.length + 1 ≤ 100000; omega), fun p4 n4 => ?_⟩⟩
        have e8 : Ex H7 (upd H7 p3 (.lst [.int ((so.length + 1 : Nat) : Int)])) := Ex.new n3
        generalize upd H7 p3 (.lst [.int ((so.length + 1 : Nat) : Int)]) = H8 at *
        have e9 : Ex H8 (upd H8 p4 (.lst (so.map V.int ++ [.int ((so.length + 1 : Nat) : Int)]))) := Ex.new n4
        have hp4 : (upd H8 p4 (.lst (so.map V.int ++ [.int ((so.length + 1 : Nat) : Int)]))) p4 = some (.lst ((so ++ [((so.length + 1 : Nat) : Int)]).map V.int)) := by rw [upd_same, List.map_append]; rfl
        generalize upd H8 p4 (.lst (so.map V.int ++ [.int ((so.length + 1 : Nat) : Int)])) = H9 at *
        have hP9 := hP7.ex (e8.trans e9)
        have ok9 : PgOk u as x.1 f := ⟨ok.al, ok.u4, ok.aok, xb, by omega⟩
        refine ⟨q, g, _, u, as, x.1, C, p4, so ++ [((so.length + 1 : Nat) : Int)], rfl, hP9.wide, hP9.lst hp4, by rw [List.length_append]; show so.length + 1 + f = _; omega, lits _ (by omega), ok9, fun hn H10 e10 => ?_, fun y hy H10 hP10w => ?_⟩
        · have hn : Sm15.prove u as f (so.length + 1 + 1) (so ++ [((so.length + 1 : Nat) : Int)]) x.1 = none := by
            rw [List.length_append] at hn
            exact hn
          rw [hn] at k1
          refine q_when (b := true) (et_is (et_or (a := true) (b := true) (et_test (ev_isN (v := .non) (ev_var (i := 4) rfl) ev_c)) fun z => Bool.noConfusion z) rfl) (fun _ H11 e11 => ?_) (fun z => Bool.noConfusion z)
          exact s_ret (ev_var (i := 4) rfl) fun H12 e12 => k1 rfl H12 (hP9.sub.trans ((e10.trans e11).trans e12))
        · have hy : Sm15.prove u as f (so.length + 1 + 1) (so ++ [((so.length + 1 : Nat) : Int)]) x.1 = some y := by
            rw [List.length_append] at hy
            exact hy
          rw [hy, Option.bind_some] at k1 k2
          have hP10 := hP10w.back hP9.sub hP9
          obtain ⟨yb, ⟨new2, yl, yn, _⟩, yin⟩ := prove_ok _ _ _ _ _ hy xb (lits _ (by omega)) (by omega) (by omega)
          have ys := prove_size _ _ _ _ _ hy
          obtain ⟨ly, ly1, ly2⟩ := has_clause yin
          rw [ly2] at k1 k2
          dsimp only at k1 k2
          have lyl := bok_len al yb ly (lineAt_some ly1).1
          obtain ⟨td, hd, rdy⟩ := ev_pclause T (σ := [some (.ref q), some (.ref aS), some (.int ((so.length + 1 : Nat) : Int)), some (.int (x.2 : Int)), some (.int (y.2 : Int)), none]) (te := tVar 0) (ti := tVar 4) hP10 ly1
          refine q_when (b := !ly.clause.contains (-((so.length + 1 : Nat) : Int))) (et_is (et_or (a := false) (et_is (et_test (ev_isN (v := .int (y.2 : Int)) (ev_var (i := 4) rfl) ev_c)) (decide_eq_false fun z => nomatch z)) fun _ => et_test (ev_niT (K := K) (k := -((so.length + 1 : Nat) : Int)) (ev_neg (ev_var (i := 2) rfl)) (rdy (Ex.refl _) (ev_var rfl) (ev_var rfl)) (st_of hd))) rfl) (fun hb2 H11 e11 => ?_) (fun hb2 H11 e11 => ?_)
          · have hb2 : ly.clause.contains (0 - ((so.length + 1 : Nat) : Int)) = false := by rw [Int.zero_sub]; simpa using hb2
            rw [if_pos hb2] at k2
            exact s_ret (ev_var (i := 4) rfl) fun H12 e12 => k2 y rfl H12 (hP10.ex (e11.trans e12))
          · have hb2 : ly.clause.contains (-((so.length + 1 : Nat) : Int)) = true := by simpa using hb2
            rw [if_neg (by rw [Int.zero_sub, hb2]; decide), join_is (by rw [hb, hb2]; rfl), Option.map_some] at k2
            have hP11 := hP10.ex e11
            -- clause = put_together(..)
            have lx3 : Sm15.lineAt y.1.lines x.2 = some lx := by
              rw [yl]
              unfold Sm15.lineAt at lx1 ⊢
              rw [List.find?_append, lx1]
              rfl
            obtain ⟨tx, htx, rdx⟩ := ev_pclause T (σ := [some (.ref q), some (.ref aS), some (.int ((so.length + 1 : Nat) : Int)), some (.int (x.2 : Int)), some (.int (y.2 : Int)), none]) (te := tVar 0) (ti := tVar 3) hP10 lx3
            refine q_asgU (eu_call (dvs := []) (xs := (joinC lx.clause ly.clause ((so.length + 1 : Nat) : Int)).map V.int) (ea_cons (rdx e11 (ev_var rfl) (ev_var rfl)) (ea_cons (rdy e11 (ev_var rfl) (ev_var rfl)) (ea_cons (ev_var (i := 2) rfl) ea_nil))) fun H12 e12 Q12 q12 E12 => ⟨tx, td, lx.clause, ly.clause, ((so.length + 1 : Nat) : Int), rfl, st_of ((e11.trans e12) _ _ htx), st_of ((e11.trans e12) _ _ hd), by omega, by omega, q12⟩) fun tj H12 ntj e12 htj => ?_
            have hP12 := hP11.ex e12
            -- self.line_for(BY_JOINING, (first, second, atom), clause)
            refine ⟨.ref q, rfl, q, g.dx, _, rfl, hP12.ob, pF_m (by decide +kernel), _, rfl, _, rfl, _, rfl, by show 3 ≤ sizeLine; decide, fun tn ntn => ?_⟩
            have e13 : Ex H12 (upd H12 tn (.tup [.int (x.2 : Int), .int (y.2 : Int), .int ((so.length + 1 : Nat) : Int)])) := Ex.new ntn
            exact ⟨.ref tj, rfl, q, g, O, u, as, y.1, C, .joined x.2 y.2 (so.length + 1), tn, tj, _, rfl, hP12.ex e13, (fun z => nomatch z), st_of upd_same, e13 _ _ htj, by omega, yb.lt, fun H14 hP14 => k2 _ rfl H14 hP14⟩
theorem found_depth (T : Txt K mg D) : ∀ f, FnOk P w K mg base CX0 (6 - 1 + 2 * f + 1) D.a_Proof_line_found D.d_Proof_line_found ["self", "so"] (spF K D f)
  | 0 => step_line_found T 0 fn_never
  | f + 1 => step_line_found T (f + 1) (step_line_of_both T f (found_depth T f))
theorem ok_Proof_line_found (T : Txt K mg D) : FnOk P w K mg base CX0 22 D.a_Proof_line_found D.d_Proof_line_found ["self", "so"] (fun vs H Q E => ∃ k, k ≤ 8 ∧ spF K D k vs H Q E) := fn_depth (n := 8) (fun k _ => found_depth T k) (fun k hk => by omega)
end
end Cp
/-! Cp20 -/
namespace Cp
open PySem PySem.Spec PyProof.Rows L2 Evl
section
variable {P : Program} {w : World} {K : PySem.W.Frag} {mg : Str → Option Value} {base : Heap} {D : Ad}
/-! ### prove -/
/-- other lines, in a new dict -/
theorem set_lines {H H' O : Hp} {b : Addr} {g : Pl} {u : Nat} {as : List Sm15.Atom} {ls ls' : List Sm15.Line} {nx nx' : Nat} {dl : Addr} (h : Bk K D H O b g u as ls nx) (e : Ex H H') (hn : H dl = none) (hd : DictAt K D H' dl ls') : Bk K D (upd H' b (.ins D.c_Book g.dx (bF u g.al dl nx' g.ml))) O b ⟨g.dx, g.al, dl, g.ml, g.rs, g.ms⟩ u as ls' nx' := by
  have h1 := h.ex e
  obtain ⟨ps, a1, a2⟩ := h1.at_.at_
  obtain ⟨kvs, l1, l2⟩ := hd
  have ob := h1.at_.ob
  have eB : ExB b H' (upd H' b (.ins D.c_Book g.dx (bF u g.al dl nx' g.ml))) := ExB.upd
  have nab : g.al ≠ b := fun z => by rw [z, ob] at a1; cases a1
  have nlb : dl ≠ b := fun z => by rw [z, ob] at l1; cases l1
  have sb := soft_ins ob
  have nb := noline_book ob
  have mk := h1.at_.mks.atBook eB ob
  refine ⟨⟨upd_same, ⟨ps, eB _ _ nab a1, pr_imp (fun _ _ => eB.atom sb) a2⟩, ⟨kvs, eB _ _ nlb l1, eB.lines sb nb l2⟩, mk.ml, mk.mks, fun r hr => ⟨(mk.da r hr).1, fun z => ?_, (mk.da r hr).2.2⟩, mk.am, mk.na, mk.nd⟩, fun c o hc => eB _ _ (ne_of_none hc h.nb) (h1.rest c o hc), h.nb, h.na, fresh_back h.rest hn, h.nm, h.nr⟩
  obtain ⟨m, hm⟩ := pr_left h.at_.mks.mks r hr
  obtain ⟨kv, k1, _⟩ := hm.ln
  rw [z, hn] at k1
  cases k1
def spPv (K : PySem.W.Frag) (D : Ad) : Sp := fun vs H Q _ => ∃ (b : Addr) (g : Pl) (O : Hp) (u : Nat) (as : List Sm15.Atom) (ls : List Sm15.Line) (nx : Nat), vs = [.ref b] ∧ Bk K D H O b g u as ls nx ∧ as.length ≤ 8 ∧ u ≤ 4 ∧ AtomsOk u as ∧ BOk as.length ls nx ∧ ls.length ≤ 20000 ∧
  (Sm15.prove u as as.length 1 [] ⟨ls, nx⟩ = none → ∀ (H' : Hp) (p : Addr), Bk K D H' O b g u as ls nx → H' p = some (.lst ([-8].map V.int)) → Q (.ref p) H') ∧
  ∀ r, Sm15.prove u as as.length 1 [] ⟨ls, nx⟩ = some r → (300 < r.1.lines.length → ∀ (H' : Hp) (p : Addr), Bk K D H' O b g u as ls nx → H' p = some (.lst ([-5].map V.int)) → Q (.ref p) H') ∧
    (¬ 300 < r.1.lines.length → ∀ (H' : Hp) (p : Addr) (g' : Pl), g'.ms = g.ms → Bk K D H' O b g' u as r.1.lines r.1.next → H' p = some (.lst ([(r.2 : Int), (r.1.next : Int) - (nx : Int)].map V.int)) → Q (.ref p) H')
theorem ok_Book_prove (T : Txt K mg D) : FnOk P w K mg base CX0 23 D.a_Book_prove D.d_Book_prove ["self"] (spPv K D) := by
  refine T.f_Book_prove.ok sc_Book_prove (fun vs H Q E h => ?_) (fun cdv A outer s H vs Q E hr h => ?_)
  · obtain ⟨_, _, _, _, _, _, _, rfl, _⟩ := h
    rfl
  · obtain ⟨b, g, O, u, as, ls, nx, rfl, hB, hal, hu, hok, hbk, hz, k1, k2⟩ := h
    refine ⟨_, (pss_cons (ps_set (i := 1) sc_Book_prove.nd rfl (Or.inl rfl) (pe_make T.m_Proof (ok_Proof___init__ T) (hr.mono (by decide)) (by rfl) T.g_Proof T.n_Proof___init__ .nil pass0 (pa_cons (pe_fld (pv 0) rfl) (pa_cons (pe_fld (pv 0) rfl) (pa_cons (pe_fld (pv 0) rfl) (pa_cons (pe_fld (pv 0) rfl) pa_nil))))))
      (pss_cons (ps_set (i := 2) sc_Book_prove.nd rfl (Or.inl rfl) (pe_meth (pv 1) T.k_Proof T.t_Proof_line_found (ok_Proof_line_found T) hr T.n_Proof_line_found .nil pass0 (pa_cons (pe_lst pa_nil) pa_nil)))
      (pss_cons (ps_if (pt_cmpR op_isN (pv 2) pe_non (nomark _)) (pss_one (ps_ret (pe_lst (pa_cons (pe_gi (by rfl) T.c_HAS_WORLD) pa_nil)))) pss_nil)
      (pss_cons (ps_if (pt_cmpR op_gt (pe_callB call_lenD (by rfl) T.b_len PySem.boot_len (pa_cons (pe_fld (pv 1) rfl) pa_nil)) (pe_gi (by rfl) T.c_MOST_LINES) (nomark _)) (pss_one (ps_ret (pe_lst (pa_cons (pe_gi (by rfl) T.c_FULL) pa_nil)))) pss_nil)
      (pss_cons (ps_set (i := 3) sc_Book_prove.nd rfl (Or.inl rfl) (pe_op op_sub (pe_fld (pv 1) rfl) (pe_fld (pv 0) rfl)))
      (pss_cons (ps_fld (pv 0) (pe_fld (pv 1) rfl) rfl)
      (pss_cons (ps_fld (pv 0) (pe_fld (pv 1) rfl) rfl)
      (pss_one (ps_ret (pe_lst (pa_cons (pv 2) (pa_cons (pv 3) pa_nil)))))))))))), ?_⟩
    obtain ⟨kvs, l1, l2⟩ := hB.at_.ln
    have ob := hB.at_.ob
    -- proof = Proof(..)
    refine ⟨.ref b, rfl, b, D.c_Book, g.dx, _, _, rfl, ob, T.k_Book, T.x_Book_atoms, bF_atoms, .ref b, rfl, b, D.c_Book, g.dx, _, _, rfl, ob, T.k_Book, T.x_Book_u, bF_u, .ref b, rfl, b, D.c_Book, g.dx, _, _, rfl, ob, T.k_Book, T.x_Book_lines, bF_lines, .ref b, rfl, b, D.c_Book, g.dx, _, _, rfl, ob, T.k_Book, T.x_Book_next_number, bF_next, fun q dx nq ndx nex => ?_⟩
    refine ⟨q, dx, g.al, g.dl, H, u, nx, as, ls, kvs, rfl, upd_same, made_ex nq ndx, nq, hB.at_.atoms, l1, l2, hz, hbk.wf.nodup, fun H1 pg _ hP1 => ⟨rfl, ?_⟩⟩
    -- found = proof.line_found([])
    refine ⟨.ref q, rfl, q, pg.dx, _, rfl, hP1.ob, pF_m (by decide +kernel), by show 0 ≤ sizeLine; decide, fun aS nS => ?_⟩
    have e2 : Ex H1 (upd H1 aS (.lst [])) := Ex.new nS
    have hS2 : (upd H1 aS (.lst [])) aS = some (.lst (([] : List Int).map V.int)) := upd_same
    generalize upd H1 aS (.lst []) = H2 at *
    have hP2 := hP1.ex e2
    have pw : 2 ^ (as.length + 1) ≤ 512 := Nat.le_trans (Nat.pow_le_pow_right (by decide) (show as.length + 1 ≤ 9 by omega)) (by decide)
    refine ⟨as.length, hal, q, pg, _, u, as, ⟨ls, nx⟩, _, aS, [], rfl, hP2.wide, hP2.lst hS2, by simp, fun y hy => by simp at hy, ⟨hal, hu, hok, hbk, by show ls.length + 2 ^ (as.length + 1) ≤ 50000; omega⟩, fun hn H3 e3 => ?_, fun r hr H3 hP3w => ?_⟩
    · have e03 : Ex H H3 := hP2.sub.trans e3
      refine q_when (b := true) (et_test (ev_isN (v := .non) (ev_var (i := 2) rfl) ev_c)) (fun _ H4 e4 => ?_) (fun z => Bool.noConfusion z)
      exact s_retL (el_lst (ea_cons ev_c ea_nil) (by show 1 ≤ 100000; decide)) fun p H5 np e5 hp => k1 hn H5 p (hB.ex ((e03.trans e4).trans e5)) hp
    · have hP3 := hP3w.back hP2.sub hP2
      obtain ⟨k3, k4⟩ := k2 r hr
      refine q_when (b := false) (et_is (et_test (ev_isN (v := .int (r.2 : Int)) (ev_var (i := 2) rfl) ev_c)) (decide_eq_false fun z => nomatch z)) (fun z => Bool.noConfusion z) (fun _ H4 e4 => ?_)
      have hP4 := hP3.ex e4
      obtain ⟨kvs4, l14, l24⟩ := hP4.ln
      have hlen : Ev (tCB (fun xs H Q => ∃ a kvs, xs = [V.ref a] ∧ H a = some (.dK kvs) ∧ Q (.int kvs.length) H) (tCons (tFld K (tVar 1) "lines") tNil)) [some (.ref b), some (.ref q), some (.int (r.2 : Int)), none] H4 (.int (r.1.lines.length : Int)) := ev_is (ev_lenD (ev_fld (ev_var (i := 1) rfl) hP4.ob T.k_Proof T.x_Proof_lines pF_lines) l14) (by rw [pr_len l24])
      refine q_when (et_test (ev_gt (j := 300) hlen ev_c)) (fun hb H5 e5 => ?_) (fun hb H5 e5 => ?_)
      · have hb := of_decide_eq_true hb
        exact s_retL (el_lst (ea_cons ev_c ea_nil) (by show 1 ≤ 100000; decide)) fun p H6 np e6 hp => k3 (by omega) H6 p (hB.ex (hP4.rest.trans (e5.trans e6))) hp
      · have hb := of_decide_eq_false hb
        have hP5 := hP4.ex e5
        have hB5 := hB.ex hP5.rest
        -- fresh
        refine q_asg (v := .int ((r.1.next : Int) - (nx : Int))) (ev_sub (ev_fld (ev_var (i := 1) rfl) hP5.ob T.k_Proof T.x_Proof_next_number pF_next) (rb_next T hB5.at_ (ev_var (i := 0) rfl))) fun H6 e6 => ?_
        have hP6 := hP5.ex e6
        have hB6 := hB5.ex e6
        have nqb : q ≠ b := fun z => by rw [z, ob] at nq; cases nq
        -- self.lines = proof.lines
        refine ⟨.ref q, rfl, q, D.c_Proof, pg.dx, _, _, rfl, hP6.ob, T.k_Proof, T.x_Proof_lines, pF_lines, .ref b, rfl, b, D.c_Book, g.dx, _, rfl, hB6.at_.ob, T.k_Book, T.x_Book_lines, by show 5 < 1000; decide, ?_⟩
        rw [bF_putLines]
        refine ⟨.ref q, rfl, q, D.c_Proof, pg.dx, _, _, rfl, by rw [upd_ne nqb]; exact hP6.ob, T.k_Proof, T.x_Proof_next_number, pF_next, .ref b, rfl, b, D.c_Book, g.dx, _, rfl, upd_same, T.k_Book, T.x_Book_next_number, by show 5 < 1000; decide, ?_⟩
        rw [bF_putNext, upd_over]
        have hfin := set_lines (nx' := r.1.next) hB hP6.rest hP6.nd hP6.ln
        exact s_retL (el_lst (ea_cons (ev_var (i := 2) rfl) (ea_cons (ev_var (i := 3) rfl) ea_nil)) (by show 2 ≤ 100000; decide)) fun p H8 np e8 hp => k4 (by omega) H8 p ⟨g.dx, g.al, pg.dl, g.ml, g.rs, g.ms⟩ rfl (hfin.ex e8) hp
end
end Cp
/-! Cp21 -/
namespace Cp
open PySem PySem.Spec PyProof.Rows L2 Evl
/-! ### steps from numbers -/
theorem nat_back {z : Int} (h : Sm15Neutral.nat z = true) : ((z.toNat : Nat) : Int) = z := by
  unfold Sm15Neutral.nat at h
  simp only [Bool.and_eq_true, decide_eq_true_eq] at h
  omega
theorem nats_back : ∀ {l : List Int}, Sm15Neutral.nats l = true → (l.map Int.toNat).map (fun (n : Nat) => (n : Int)) = l
  | [], _ => rfl
  | a :: l, h => by
    unfold Sm15Neutral.nats at h
    rw [List.all_cons, Bool.and_eq_true] at h
    rw [List.map_cons, List.map_cons, nat_back h.1, nats_back (l := l) h.2]
/-- how many numbers stand ahead of what is named -/
def preN (w : Sm15.Way) : List Int := match w with
  | .chain ks => [4, (ks.length : Int)]
  | w => [wayNo w]
theorem wayIn_is {l : List Int} {w : Sm15.Way} {l2 : List Int} (h : Sm15Neutral.wayIn l = some (w, l2)) : w ≠ .claim ∧ l = preN w ++ (namedOf w ++ l2) := by
  unfold Sm15Neutral.wayIn at h
  split at h
  · cases h
    exact ⟨(fun z => nomatch z), rfl⟩
  · split at h
    · rename_i i j a r hn
      cases h
      unfold Sm15Neutral.nats at hn
      simp only [List.all_cons, List.all_nil, Bool.and_true, Bool.and_eq_true] at hn
      refine ⟨(fun z => nomatch z), ?_⟩
      show _ = 2 :: (((i.toNat : Nat) : Int) :: ((j.toNat : Nat) : Int) :: ((a.toNat : Nat) : Int) :: _)
      rw [nat_back hn.1, nat_back hn.2.1, nat_back hn.2.2]
      rfl
    · cases h
  · split at h
    · rename_i i r hn
      cases h
      refine ⟨(fun z => nomatch z), ?_⟩
      show _ = 3 :: (((i.toNat : Nat) : Int) :: _)
      rw [nat_back hn]
      rfl
    · cases h
  · split at h
    · rename_i n r hn
      cases h
      refine ⟨(fun z => nomatch z), ?_⟩
      show _ = 4 :: ((((r.take n.toNat).map Int.toNat).length : Nat) : Int) :: (((r.take n.toNat).map Int.toNat).map (fun (n : Nat) => (n : Int)) ++ r.drop n.toNat)
      rw [nats_back hn.2.2, List.take_append_drop, List.length_map, List.length_take, Nat.min_eq_left hn.2.1, nat_back hn.1]
    · cases h
  · cases h
theorem clauseIn_is {l : List Int} {c l3 : List Int} (h : Sm15Neutral.clauseIn l = some (c, l3)) : l = (c.length : Int) :: (c ++ l3) := by
  unfold Sm15Neutral.clauseIn at h
  split at h
  · split at h
    · rename_i n r hn
      cases h
      rw [List.take_append_drop, List.length_take, Nat.min_eq_left hn.2.1, nat_back hn.1]
    · cases h
  · cases h
theorem told_cons {f : Nat} {x : Int} {l : List Int} {ts : List Sm15.Told} (h : Sm15Neutral.toldOf f (x :: l) = some ts) : ∃ f' w c l3 ts', w ≠ .claim ∧ x :: l = preN w ++ (namedOf w ++ ((c.length : Int) :: (c ++ l3))) ∧ Sm15Neutral.toldOf f' l3 = some ts' ∧ ts = ⟨w, c⟩ :: ts' := by
  cases f with
  | zero => unfold Sm15Neutral.toldOf at h; cases h
  | succ f =>
    unfold Sm15Neutral.toldOf at h
    cases h1 : Sm15Neutral.wayIn (x :: l) with
    | none => rw [h1] at h; cases h
    | some wl =>
      obtain ⟨w, l2⟩ := wl
      rw [h1, Option.bind_some] at h
      cases h2 : Sm15Neutral.clauseIn l2 with
      | none => rw [h2] at h; cases h
      | some cl =>
        obtain ⟨c, l3⟩ := cl
        rw [h2, Option.bind_some] at h
        cases h3 : Sm15Neutral.toldOf f l3 with
        | none => rw [h3] at h; cases h
        | some ts' =>
          rw [h3] at h
          have h : ⟨w, c⟩ :: ts' = ts := Option.some.inj h
          obtain ⟨g1, g2⟩ := wayIn_is h1
          exact ⟨f, w, c, l3, ts', g1, by rw [g2, clauseIn_is h2], h3, h.symm⟩
theorem told_nil {f : Nat} {ts : List Sm15.Told} (h : Sm15Neutral.toldOf f [] = some ts) : ts = [] := by
  unfold Sm15Neutral.toldOf at h
  cases f <;> (cases h; rfl)
theorem drop_at {ns a b : List Int} {i : Nat} (h : ns.drop i = a ++ b) : ns.drop (i + a.length) = b ∧ i + a.length + b.length = max i ns.length := by
  constructor
  · rw [← List.drop_drop, h, List.drop_left]
  · have := congrArg List.length h
    rw [List.length_drop, List.length_append] at this
    omega
theorem cut_mid {ns a b c : List Int} {i : Nat} (h : ns.drop i = a ++ (b ++ c)) (hi : i ≤ ns.length) : ((ns.drop (i + a.length)).take b.length) = b := by
  rw [(drop_at h).1, List.take_left]
section
variable {P : Program} {w : World} {K : PySem.W.Frag} {mg : Str → Option Value} {base : Heap} {D : Ad}
/-! ### split_steps -/
def ToldAt (K : PySem.W.Frag) (D : Ad) (H : Hp) (p : Addr) (t : Sm15.Told) : Prop := LineAt K D.c_Line H p t.way (Sm15.clauseOf t.clause)
def spSs (K : PySem.W.Frag) (D : Ad) : Sp := fun vs H Q _ => ∃ (a : Addr) (ns : List Int) (f : Nat) (ts : List Sm15.Told), vs = [.ref a] ∧ SqL K H a (ns.map V.int) ∧ ns.length ≤ 700 ∧ Sm15Neutral.toldOf f ns = some ts ∧
  ∀ (q : Addr) (H2 : Hp) (ps : List Addr), H q = none → Ex H H2 → H2 q = some (.lst (ps.map V.ref)) → Paired (ToldAt K D H2) ps ts → (∀ t ∈ ts, t.way ≠ .claim ∧ (Sm15.sources t.way).length ≤ 700 ∧ t.clause.length ≤ 700) → Q (.ref q) H2
theorem src_named (w : Sm15.Way) : (Sm15.sources w).length ≤ (namedOf w).length := by
  cases w with
  | chain l => show l.length ≤ (l.map fun (n : Nat) => (n : Int)).length; rw [List.length_map]; exact Nat.le_refl _
  | claim => exact Nat.le_refl _
  | bounds => exact Nat.le_refl _
  | joined i j a => show 2 ≤ 3; decide
  | wider i => show 1 ≤ 1; decide
theorem ok_split_steps (T : Txt K mg D) : FnOk P w K mg base CX0 5 D.a_split_steps D.d_split_steps ["steps"] (spSs K D) := by
  refine T.f_split_steps.ok sc_split_steps (fun vs H Q E h => ?_) (fun cdv A outer s H vs Q E hr h => ?_)
  · obtain ⟨_, _, _, _, rfl, _⟩ := h
    rfl
  · obtain ⟨a, ns, f, ts, rfl, hS, hz, hts, q⟩ := h
    refine ⟨_, (pss_cons (ps_set (i := 1) sc_split_steps.nd rfl (Or.inl rfl) (pe_lst pa_nil))
      (pss_cons (ps_set (i := 2) sc_split_steps.nd rfl (Or.inl rfl) pe_int)
      (pss_cons (ps_while PassesOwn.never (pt_cmpR op_lt (pv 2) (pe_callB call_len_seq (by rfl) T.b_len PySem.boot_len (pa_cons (pv 0) pa_nil)) (nomark _)) (pss_cons (ps_set (i := 3) sc_split_steps.nd rfl (Or.inl rfl) (pe_ix ix_list (pv 0) (pv 2) (fun _ _ => rfl)))
      (pss_cons (ps_set (i := 4) sc_split_steps.nd rfl (Or.inl rfl) (pe_ifExp (pt_cmpR op_eq (pv 3) (pe_gi (by rfl) T.c_BY_CHAIN) (nomark _)) (pe_op op_add (pv 2) pe_int) (pe_op op_add (pv 2) pe_int)))
      (pss_cons (ps_set (i := 5) sc_split_steps.nd rfl (Or.inl rfl) (pe_op op_add (pv 4) (pe_ifExp (pt_cmpR op_eq (pv 3) (pe_gi (by rfl) T.c_BY_CHAIN) (nomark _)) (pe_ix ix_list (pv 0) (pe_op op_add (pv 2) pe_int) (fun _ _ => rfl)) (pe_ix ix_tup (pe_gr (by rfl) T.c_NAMED) (pv 3) (fun _ _ => rfl)))))
      (pss_cons (ps_set (i := 2) sc_split_steps.nd rfl (Or.inl rfl) (pe_op op_add (pe_op op_add (pv 5) pe_int) (pe_ix ix_list (pv 0) (pv 5) (fun _ _ => rfl))))
      (pss_one (ps_expr (pe_bm PySem.F.plainAttrs_list PySem.F.slot_list_append PySem.F.type_list_append mt_append (pv 1) (pa_cons (pe_make T.m_Line (ok_Line___init__ T) (hr.mono (by decide)) (by rfl) T.g_Line T.n_Line___init__ .nil pass0 (pa_cons (pv 3) (pa_cons (pe_callTy call_tuple_of (by rfl) T.b_tuple (by decide +kernel) (pa_cons (pe_slice sl_list (pv 0) (po_some (pv 4)) (po_some (pv 5))) pa_nil)) (pa_cons (pe_call (ok_clause_of T) hr (by rfl) T.g_clause_of T.f_clause_of.kp T.n_clause_of .nil pass0 (pa_cons (pe_slice sl_list (pv 0) (po_some (pe_op op_add (pv 5) pe_int)) (po_some (pv 2))) pa_nil)) pa_nil)))) pa_nil)))))))))
      (pss_one (ps_ret (pv 1)))))), ?_⟩
    refine q_asgL (el_lst ea_nil (Nat.zero_le _)) fun o H1 no e1 h1 => ?_
    refine q_asg ev_c fun H2 e2 => ?_
    refine q_while (fun m σ H' => ∃ (i f : Nat) (rest done : List Sm15.Told) (ps : List Addr) (y3 y4 y5 : Option V), σ = [some (.ref a), some (.ref o), some (.int (i : Int)), y3, y4, y5] ∧ m + i = ns.length ∧ Ex H H' ∧ H' o = some (.lst (ps.map V.ref)) ∧ Paired (ToldAt K D (hidT o H')) ps done ∧ Sm15Neutral.toldOf f (ns.drop i) = some rest ∧ ts = done ++ rest ∧ ps.length ≤ i ∧ ∀ t ∈ done, t.way ≠ .claim ∧ (Sm15.sources t.way).length ≤ 700 ∧ t.clause.length ≤ 700) ns.length
      ⟨0, f, ts, [], [], none, none, none, rfl, rfl, e1.trans e2, e2 _ _ h1, .nil, hts, rfl, Nat.le_refl _, fun t ht => by simp at ht⟩ ?_
    rintro m σ Ha ⟨i, f, rest, done, ps, y3, y4, y5, rfl, hm, e, ho, hP, hc, hr', hpl, hok⟩
    have hS' := ex_l e hS
    have hlen : Ev (tCB (fun xs H Q => ∃ p ys, xs = [V.ref p] ∧ (SqL K H p ys ∨ SqT K H p ys) ∧ Q (.int ys.length) H) (tCons (tVar 0) tNil)) [some (.ref a), some (.ref o), some (.int (i : Int)), y3, y4, y5] Ha (.int (ns.length : Int)) := by
      have z := ev_lenL (K := K) (σ := [some (.ref a), some (.ref o), some (.int (i : Int)), y3, y4, y5]) (ta := tVar 0) (ev_var rfl) hS'
      rw [List.length_map] at z
      exact z
    refine ⟨_, et_test (ev_lt (ev_var (i := 2) rfl) hlen), fun hb H3 e3 => ?_, fun hb H3 e3 => ?_⟩
    · have hi : i < ns.length := by
        have := of_decide_eq_true hb
        omega
      refine ⟨fun σ' H'' => ∃ (i' f : Nat) (rest done : List Sm15.Told) (ps : List Addr) (y3 y4 y5 : Option V), i < i' ∧ i' ≤ ns.length ∧ σ' = [some (.ref a), some (.ref o), some (.int (i' : Int)), y3, y4, y5] ∧ Ex H H'' ∧ H'' o = some (.lst (ps.map V.ref)) ∧ Paired (ToldAt K D (hidT o H'')) ps done ∧ Sm15Neutral.toldOf f (ns.drop i') = some rest ∧ ts = done ++ rest ∧ ps.length ≤ i' ∧ ∀ t ∈ done, t.way ≠ .claim ∧ (Sm15.sources t.way).length ≤ 700 ∧ t.clause.length ≤ 700,
        fun σ' H'' ⟨i', f', rest', done', ps', z3, z4, z5, g0, g1, gs, g2, g3, g4, g5, g6, g7, g8⟩ => ⟨ns.length - i', by omega, i', f', rest', done', ps', z3, z4, z5, gs, by omega, g2, g3, g4, g5, g6, g7, g8⟩, ?_⟩
      obtain ⟨x, r, hpr⟩ : ∃ x r, ns.drop i = x :: r := by
        rw [List.drop_eq_getElem_cons hi]
        exact ⟨_, _, rfl⟩
      rw [hpr] at hc
      obtain ⟨f', wy, c, l3, ts', hw, hl, hrest, hcs⟩ := told_cons hc
      rw [hl] at hpr
      -- the places
      have d1 := drop_at hpr
      have d2 := drop_at d1.1
      have d3 := drop_at (a := [(c.length : Int)]) d2.1
      have d4 := drop_at d3.1
      have n0 : ns[i]? = some (wayNo wy) := by
        have : (ns.drop i)[0]? = some (wayNo wy) := by rw [hpr]; cases wy <;> rfl
        rw [List.getElem?_drop] at this
        exact this
      have nlen := src_named wy
      have pl : (preN wy).length = (if decide (wayNo wy = 4) = true then 2 else 1) := by cases wy <;> rfl
      have nEnd : ns[i + (preN wy).length + (namedOf wy).length]? = some (c.length : Int) := by
        have : (ns.drop (i + (preN wy).length + (namedOf wy).length))[0]? = some (c.length : Int) := by rw [d2.1]; rfl
        rw [List.getElem?_drop] at this
        exact this
      have lt1 : i + (preN wy).length + (namedOf wy).length < ns.length := (List.getElem?_eq_some_iff.mp nEnd).1
      have d4l := d4.2
      rw [show [(c.length : Int)].length = 1 from rfl] at d3 d4 d4l
      have fin : i + (preN wy).length + (namedOf wy).length + 1 + c.length ≤ ns.length := by omega
      have hS3 := ex_l e3 hS'
      have rd : ∀ {j : Nat} {z : Int} {H' : Hp} {σ' : L2.St} {tj : TE}, ns[j]? = some z → Ex H3 H' → Ev (tVar 0) σ' H' (.ref a) → Ev tj σ' H' (.int (j : Int)) → Ev (tOp (rIxL K) (tVar 0) tj) σ' H' (.int z) := fun {j z H' σ' tj} hj e' h0 h1 => ev_ixL h0 (ex_l e' hS3) h1 (atI_nat (by rw [List.getElem?_map, hj]; rfl))
      -- way = steps[at]
      refine q_asg (rd n0 (Ex.refl _) (ev_var (i := 0) rfl) (ev_var (i := 2) rfl)) fun H4 e4 => ?_
      -- named_at
      have tst : ∀ {H' y4 y5}, EvT (tTest (tOp rEq (tVar 3) (tC (.int 4)))) [some (.ref a), some (.ref o), some (.int (i : Int)), some (.int (wayNo wy)), y4, y5] H' (decide (wayNo wy = 4)) := et_test (ev_eq (ev_var (i := 3) rfl) ev_c)
      refine q_asg (v := .int ((i + (preN wy).length : Nat) : Int)) (ev_if tst (fun hb => ?_) (fun hb => ?_)) fun H5 e5 => ?_
      · rw [pl, if_pos hb]
        exact ev_is (ev_add (ev_var (i := 2) rfl) ev_c) (congrArg V.int (by omega))
      · rw [pl, if_neg (by rw [hb]; decide)]
        exact ev_is (ev_add (ev_var (i := 2) rfl) ev_c) (congrArg V.int (by omega))
      -- end
      have e45 := e4.trans e5
      refine q_asg (v := .int ((i + (preN wy).length + (namedOf wy).length : Nat) : Int)) (ev_is (ev_add (i := ((i + (preN wy).length : Nat) : Int)) (j := ((namedOf wy).length : Int)) (ev_var (i := 4) rfl) (ev_if tst (fun hb => ?_) (fun hb => ?_))) (congrArg V.int (by omega))) fun H6 e6 => ?_
      · have hb := of_decide_eq_true hb
        have n1 : ns[i + 1]? = some ((namedOf wy).length : Int) := by
          have : (ns.drop i)[1]? = some ((namedOf wy).length : Int) := by
            rw [hpr]
            cases wy with
            | chain ks =>
              show some (ks.length : Int) = some (((ks.map fun (n : Nat) => (n : Int)).length : Nat) : Int)
              rw [List.length_map]
            | claim => exact absurd hb (by decide)
            | bounds => exact absurd hb (by decide)
            | joined _ _ _ => exact absurd hb (by show ¬ (2 : Int) = 4; decide)
            | wider _ => exact absurd hb (by show ¬ (3 : Int) = 4; decide)
          rw [List.getElem?_drop] at this
          exact this
        exact rd n1 e45 (ev_var (i := 0) rfl) (ev_is (ev_add (ev_var (i := 2) rfl) ev_c) (show V.int ((i : Int) + 1) = V.int ((i + 1 : Nat) : Int) from rfl))
      · have hb := of_decide_eq_false hb
        refine ev_ixT (i := wayNo wy) ev_c (T.w_NAMED _) (ev_var (i := 3) rfl) ?_
        cases wy with
        | chain ks => exact absurd rfl hb
        | claim => exact absurd rfl hw
        | bounds => rfl
        | joined _ _ _ => rfl
        | wider _ => rfl
      -- at = end + 1 + steps[end]
      have e46 := e45.trans e6
      refine q_asg (v := .int ((i + (preN wy).length + (namedOf wy).length + 1 + c.length : Nat) : Int)) (ev_is (ev_add (ev_add (i := ((i + (preN wy).length + (namedOf wy).length : Nat) : Int)) (j := 1) (ev_var (i := 5) rfl) ev_c) (rd nEnd e46 (ev_var (i := 0) rfl) (ev_var (i := 5) rfl))) (congrArg V.int (by omega))) fun H7 e7 => ?_
      have e47 := e46.trans e7
      have e37 : Ex Ha H7 := e3.trans e47
      have ho7 := e37 _ _ ho
      have hS7 := ex_l e47 hS3
      -- found.append(Line(way, tuple(steps[named_at:end]), clause_of(steps[end + 1:at])))
      have sl1 := el_sl (K := K) (σ := [some (.ref a), some (.ref o), some (.int ((i + (preN wy).length + (namedOf wy).length + 1 + c.length : Nat) : Int)), some (.int (wayNo wy)), some (.int ((i + (preN wy).length : Nat) : Int)), some (.int ((i + (preN wy).length + (namedOf wy).length : Nat) : Int))]) (te := tVar 0) (tl := tPart (tVar 4)) (th := tPart (tVar 5)) (H := H7) (ev_var rfl) (eo_some (ev_var rfl)) (eo_some (ev_var rfl)) hS7
      rw [cut_ints (by omega) (by omega), Nat.add_sub_cancel_left, cut_mid hpr (by omega)] at sl1
      refine ⟨.ref o, rfl, .inl ⟨rfl, _, sq_of ho7⟩, .int (wayNo wy), rfl, ?_⟩
      refine sl1 H7 (Ex.refl _) _ fun t1 H8 nt1 e8 ht1 => ⟨t1, _, rfl, .inl ⟨sq_of ht1, fun tn ntn => ?_⟩⟩
      have e9 : Ex H8 (upd H8 tn (.tup ((namedOf wy).map V.int))) := Ex.new ntn
      have htn : (upd H8 tn (.tup ((namedOf wy).map V.int))) tn = some (.tup ((namedOf wy).map V.int)) := upd_same
      generalize upd H8 tn (.tup ((namedOf wy).map V.int)) = H9 at *
      have e79 := e8.trans e9
      have sl2 := el_sl (K := K) (σ := [some (.ref a), some (.ref o), some (.int ((i + (preN wy).length + (namedOf wy).length + 1 + c.length : Nat) : Int)), some (.int (wayNo wy)), some (.int ((i + (preN wy).length : Nat) : Int)), some (.int ((i + (preN wy).length + (namedOf wy).length : Nat) : Int))]) (te := tVar 0) (tl := tPart (tOp (rI0 fun i j => .int (i + j)) (tVar 5) (tC (.int 1)))) (th := tPart (tVar 2)) (H := H9) (ev_var rfl) (eo_some (ev_is (ev_add (ev_var (i := 5) rfl) ev_c) (show V.int (((i + (preN wy).length + (namedOf wy).length : Nat) : Int) + 1) = V.int ((i + (preN wy).length + (namedOf wy).length + 1 : Nat) : Int) from rfl))) (eo_some (ev_var rfl)) (ex_l e79 hS7)
      rw [cut_ints (by omega) (by omega), Nat.add_sub_cancel_left, d3.1, show c.append l3 = c ++ l3 from rfl, List.take_left] at sl2
      refine sl2 H9 (Ex.refl _) _ fun t2 H10 nt2 e10 ht2 => ⟨t2, c, rfl, sq_of ht2, by omega, fun H11 tc e11 ntc htc => ?_⟩
      have e11 : Ex H10 H11 := e11
      intro x dx nx ndx nex
      refine ⟨x, dx, tn, tc, wayNo wy, rfl, upd_same, rfl, ?_⟩
      rw [upd_over]
      have eM : Ex H11 (upd (upd H11 dx (.own x)) x (.ins D.c_Line dx (lF (wayNo wy) tn tc))) := made_ex nx ndx
      have e12 : Ex H7 (upd (upd H11 dx (.own x)) x (.ins D.c_Line dx (lF (wayNo wy) tn tc))) := ((e79.trans e10).trans e11).trans eM
      have hx12 : (upd (upd H11 dx (.own x)) x (.ins D.c_Line dx (lF (wayNo wy) tn tc))) x = some (.ins D.c_Line dx (lF (wayNo wy) tn tc)) := upd_same
      have htn12 := ((e10.trans e11).trans eM) _ _ htn
      have htc12 := eM _ _ htc
      have ho12 := e12 _ _ ho7
      generalize upd (upd H11 dx (.own x)) x (.ins D.c_Line dx (lF (wayNo wy) tn tc)) = H12 at *
      have nxo : x ≠ o := fun z => by rw [z, ho12] at hx12; cases hx12
      have nto : tn ≠ o := fun z => by rw [z, ho12] at htn12; cases htn12
      have nco : tc ≠ o := fun z => by rw [z, ho12] at htc12; cases htc12
      refine ⟨o, _, _, rfl, rfl, ho12, sz_lt (by rw [List.length_map]; omega), ?_⟩
      have keep : Ex (hidT o Ha) (hidT o (upd H12 o (.lst (ps.map V.ref ++ [.ref x])))) := (hidT_ex (e37.trans e12)).trans hidT_upd
      have p0 : 1 ≤ (preN wy).length := by rw [pl]; split <;> omega
      refine ⟨i + (preN wy).length + (namedOf wy).length + 1 + c.length, f', ts', done ++ [⟨wy, c⟩], ps ++ [x], _, _, _, by omega, fin, rfl, Ex.mut (e.trans (e37.trans e12)) no, by rw [upd_same, List.map_append]; rfl, pr_snoc ⟨dx, tn, tc, hidT_at nxo (by rw [upd_ne nxo]; exact hx12), st_of (hidT_at nto (by rw [upd_ne nto]; exact htn12)), hidT_at nco (by rw [upd_ne nco]; exact htc12)⟩ (pr_imp (fun _ _ => LineAt.ex keep) hP), by rw [d4.1]; exact hrest, by rw [hr', hcs, List.append_assoc]; rfl, by rw [List.length_append]; show ps.length + 1 ≤ _; omega, fun t ht => ?_⟩
      rcases List.mem_append.mp ht with z | z
      · exact hok t z
      · rw [List.mem_singleton.mp z]
        exact ⟨hw, by show (Sm15.sources wy).length ≤ 700; omega, by show c.length ≤ 700; omega⟩
    · have hi : i = ns.length := by
        have := of_decide_eq_false hb
        omega
      have hd : ns.drop i = [] := List.drop_eq_nil_of_le (by omega)
      rw [hd] at hc
      rw [told_nil hc, List.append_nil] at hr'
      subst hr'
      exact s_ret (ev_var (i := 1) rfl) fun H4 e4 => q o H4 ps no ((e.trans e3).trans e4) ((e3.trans e4) _ _ ho) (pr_imp (fun _ _ => LineAt.ex (hidT_sub.trans (e3.trans e4))) hP) hok
end
end Cp
/-! Cp22 -/
namespace Cp
open PySem PySem.Spec PyProof.Rows L2 Evl
theorem clause_le (c : List Int) : (Sm15.clauseOf c).length ≤ c.length := by
  obtain ⟨l, h1, h2⟩ := nodup_sub (up_nodup (up_clauseOf c)) fun y hy => mem_clauseOf.mp hy
  rw [← h2.length_eq]
  exact h1.length_le
theorem clause_all (n : Nat) (c : List Int) : (Sm15.clauseOf c).all (Sm15.isLit n) = c.all (Sm15.isLit n) := by
  rw [Bool.eq_iff_iff, List.all_eq_true, List.all_eq_true]
  exact ⟨fun h y hy => h y (mem_clauseOf.mpr hy), fun h y hy => h y (mem_clauseOf.mp hy)⟩
theorem clause_empty (c : List Int) : (Sm15.clauseOf c).length = 0 ↔ c = [] := by
  constructor
  · intro h
    cases c with
    | nil => rfl
    | cons a r =>
      have : a ∈ Sm15.clauseOf (a :: r) := mem_clauseOf.mpr List.mem_cons_self
      rw [List.eq_nil_of_length_eq_zero h] at this
      simp at this
  · rintro rfl
    rfl
def told2 (ts : List Sm15.Told) : List Sm15.Told := ts.map fun t => ⟨t.way, Sm15.clauseOf t.clause⟩
section
variable {P : Program} {w : World} {K : PySem.W.Frag} {mg : Str → Option Value} {base : Heap} {D : Ad}
/-! ### count_right -/
def spCr (K : PySem.W.Frag) (D : Ad) : Sp := fun vs H Q _ => ∃ (aT d0 aA : Addr) (u nx : Nat) (as : List Sm15.Atom) (ls : List Sm15.Line) (ps : List Addr) (ts : List Sm15.Told), vs = [.ref aT, .ref d0, .int (nx : Int), .ref aA, .int (u : Int)] ∧ H aT = some (.lst (ps.map V.ref)) ∧ Paired (ToldAt K D H) ps ts ∧ DictAt K D H d0 ls ∧ AtomsAt K H aA as ∧ AtomsOk u as ∧ as.length ≤ 8 ∧ u ≤ 4 ∧ ls.length ≤ 20000 ∧ (∀ x ∈ ls, x.num < nx ∧ x.clause.length ≤ 400) ∧ ts.length ≤ 1000 ∧ (∀ t ∈ ts, t.way ≠ .claim ∧ (Sm15.sources t.way).length ≤ 700 ∧ Lits as.length t.clause) ∧
  RetV (.int ((Sm15.judged u as ls nx (told2 ts) : Nat) : Int)) H Q
theorem ok_count_right (T : Txt K mg D) : FnOk P w K mg base CX0 8 D.a_count_right D.d_count_right ["steps", "lines", "next_number", "atoms", "u"] (spCr K D) := by
  refine T.f_count_right.ok sc_count_right (fun vs H Q E h => ?_) (fun cdv A outer s H vs Q E hr h => ?_)
  · obtain ⟨_, _, _, _, _, _, _, _, _, rfl, _⟩ := h
    rfl
  · obtain ⟨aT, d0, aA, u, nx, as, ls, ps, ts, rfl, hT, hP, ⟨kvs0, l10, l20⟩, hA, hok, hal, hu, hz, hls, htl, hts, q⟩ := h
    refine ⟨_, (pss_cons (ps_set (i := 5) sc_count_right.nd rfl (Or.inl rfl) (pe_callTy call_dictD (by rfl) T.b_dict (by decide +kernel) (pa_cons (pv 1) pa_nil)))
      (pss_cons (ps_for PassesOwn.never rfl (pi_enum (by rfl) T.b_enumerate (pa_cons (pv 0) pa_nil)) (pg_tup rfl (pgs_cons (pg_name (i := 6) sc_count_right.nd rfl (Or.inl rfl)) (pgs_cons (pg_name (i := 7) sc_count_right.nd rfl (Or.inl rfl)) pgs_nil))) (pss_cons (ps_if (pt_not (pt_val (pe_call (ok_is_shown T) hr (by rfl) T.g_is_shown T.f_is_shown.kp T.n_is_shown .nil pass0 (pa_cons (pv 7) (pa_cons (pv 5) (pa_cons (pv 3) (pa_cons (pv 4) pa_nil))))))) (pss_one (ps_ret (pv 6))) pss_nil)
      (pss_one (ps_dput (hu_of hr) (pv 5) (pe_op op_add (pv 2) (pv 6)) (pv 7) rfl))))
      (pss_one (ps_ret (pe_callB call_len_seq (by rfl) T.b_len PySem.boot_len (pa_cons (pv 0) pa_nil)))))), ?_⟩
    have pl := pr_len hP
    -- known = dict(lines)
    refine ⟨.ref d0, rfl, d0, kvs0, rfl, .inl l10, fun dk ndk => ?_⟩
    have e1 : Ex H (upd H dk (.dK kvs0)) := Ex.new ndk
    have k1 : (upd H dk (.dK kvs0)) dk = some (.dK kvs0) := upd_same
    generalize upd H dk (.dK kvs0) = H1 at *
    have nTk : aT ≠ dk := ne_of_none hT ndk
    have kl0 := pr_len l20
    -- all but known stands
    have toH : ∀ {H'}, ExB dk H1 H' → Ex H H' := fun e => ExB.new (Ex.refl H) ndk ((ExB.of e1).trans e)
    refine ⟨.ref aT, rfl, aT, _, rfl, sq_of (e1 _ _ hT), ?_⟩
    refine for_it walk_enum (fun i σ H' => ∃ (y6 y7 : Option V) (got : List Sm15.Line) (kvs : List (Key × V)), σ = [some (.ref aT), some (.ref d0), some (.int (nx : Int)), some (.ref aA), some (.int (u : Int)), some (.ref dk), y6, y7] ∧ ExB dk H1 H' ∧ H' dk = some (.dK kvs) ∧ LinesAt K D.c_Line H' kvs got ∧ Sm15.judged u as ls nx (told2 ts) = i + Sm15.judged u as got (nx + i) ((told2 ts).drop i) ∧ got.length = ls.length + i ∧ ∀ x ∈ got, x.num < nx + i ∧ x.clause.length ≤ 400)
      ⟨none, none, ls, kvs0, rfl, ExB.refl _ _, k1, l20.ex e1, by rw [Nat.zero_add]; rfl, rfl, hls⟩ (fun i σ H' _ ⟨_, _, _, _, _, e, _⟩ => sq_of (toH e _ _ hT)) ?_ ?_
    · rintro i x σ H' H'' hi ⟨y6, y7, got, kvs, rfl, eB, hk, hl, hj, hgl, hgot⟩ ⟨Tp, x1, x2, rfl, nT, rfl, hx1, hx2⟩
      have hx1 : x1 = .int (i : Int) := (Option.some.inj hx1).symm
      subst hx1
      obtain ⟨p, hp, rfl, _⟩ := map_at hx2
      obtain ⟨t, ht, hat⟩ := pr_get2 hP hp
      have tm := List.mem_of_getElem? ht
      have itl : i < ts.length := (List.getElem?_eq_some_iff.mp ht).1
      obtain ⟨t1, t2, t3⟩ := hts t tm
      have eT : Ex H' (upd H' Tp (.tup [.int (i : Int), .ref p])) := Ex.new nT
      have hTp : (upd H' Tp (.tup [.int (i : Int), .ref p])) Tp = some (.tup [.int (i : Int), .ref p]) := upd_same
      generalize upd H' Tp (.tup [.int (i : Int), .ref p]) = H2 at *
      refine ⟨Tp, _, rfl, st_of hTp, rfl, _, _, rfl, _, _, rfl, rfl, ?_⟩
      have e02 := (toH eB).trans eT
      have hk2 := eT _ _ hk
      have hl2 := hl.ex eT
      have hat2 : LineAt K D.c_Line H2 p t.way (Sm15.clauseOf t.clause) := LineAt.ex e02 hat
      have drop : (told2 ts).drop i = ⟨t.way, Sm15.clauseOf t.clause⟩ :: (told2 ts).drop (i + 1) := by
        have lt : i < (told2 ts).length := by unfold told2; rw [List.length_map]; exact itl
        rw [List.drop_eq_getElem_cons lt]
        congr 1
        have : (told2 ts)[i]? = some ⟨t.way, Sm15.clauseOf t.clause⟩ := by
          unfold told2
          rw [List.getElem?_map, ht]
          rfl
        rw [List.getElem?_eq_getElem lt] at this
        exact Option.some.inj this
      rw [drop] at hj
      have hj : Sm15.judged u as ls nx (told2 ts) = i + (if Sm15.shows u as got (Sm15.clauseOf t.clause) t.way = true then Sm15.judged u as (got ++ [⟨nx + i, Sm15.clauseOf t.clause, t.way⟩]) (nx + i + 1) ((told2 ts).drop (i + 1)) + 1 else 0) := hj
      have cl16 : (Sm15.clauseOf t.clause).length ≤ 16 := clause_len (t3.mono hal)
      refine q_when (et_not (et_B (ev_call (dvs := []) (ea_cons (ev_var (i := 7) rfl) (ea_cons (ev_var (i := 5) rfl) (ea_cons (ev_var (i := 3) rfl) (ea_cons (ev_var (i := 4) rfl) ea_nil)))) fun H3 e3 Q3 q3 E3 => ⟨p, dk, aA, u, t.way, Sm15.clauseOf t.clause, got, as, rfl, hat2.ex e3, ⟨kvs, e3 _ _ hk2, hl2.ex e3⟩, hA.ex (e02.trans e3), hok, hal, hu, lits_clause t3, by omega, fun y hy => (hgot y hy).2, by omega, t1, q3⟩))) (fun hb H3 e3 => ?_) (fun hb H3 e3 => ?_)
      · have hb : Sm15.shows u as got (Sm15.clauseOf t.clause) t.way = false := by simpa using hb
        rw [if_neg (by rw [hb]; decide), Nat.add_zero] at hj
        rw [hj] at q
        exact s_ret (ev_var (i := 6) rfl) fun H4 e4 => q H4 ((e02.trans e3).trans e4)
      · have hb : Sm15.shows u as got (Sm15.clauseOf t.clause) t.way = true := by simpa using hb
        rw [if_pos hb] at hj
        have hk3 := e3 _ _ hk2
        have hl3 := hl2.ex e3
        have kl3 := pr_len hl3
        have vn : valV kvs (Sum.inl ((nx + i : Nat) : Int)) = none := val_none hl3 (lineAt_none fun y hy e => by have := (hgot y hy).1; omega)
        refine ⟨.ref p, rfl, .ref dk, rfl, .int (nx : Int), rfl, .int (i : Int), rfl, (nx : Int), (i : Int), rfl, rfl, dk, _, rfl, DPut.k (k := Sum.inl ((nx + i : Nat) : Int)) hk3 (sz_lt (by omega)), ?_⟩
        rw [putK_new _ vn]
        have eD : ExB dk H3 (upd H3 dk (.dK (kvs ++ [(Sum.inl ((nx + i : Nat) : Int), .ref p)]))) := ExB.upd
        refine ⟨_, _, got ++ [⟨nx + i, Sm15.clauseOf t.clause, t.way⟩], _, rfl, (eB.trans (ExB.of (eT.trans e3))).trans eD, upd_same, pr_snoc ⟨rfl, p, rfl, eD.line (soft_dK hk3) (noline_dK hk3) (hat2.ex e3)⟩ (eD.lines (soft_dK hk3) (noline_dK hk3) hl3), by rw [hj, ← Nat.add_assoc nx i 1]; omega, by rw [List.length_append, hgl]; rfl, fun y hy => ?_⟩
        rcases List.mem_append.mp hy with z | z
        · have := hgot y z
          exact ⟨by omega, this.2⟩
        · rw [List.mem_singleton.mp z]
          exact ⟨by show nx + i < nx + (i + 1); omega, by show (Sm15.clauseOf t.clause).length ≤ 400; omega⟩
    · rintro σ H' ⟨y6, y7, got, kvs, rfl, eB, hk, hl, hj, hgl, hgot⟩
      have tl : (told2 ts).length = ts.length := by unfold told2; rw [List.length_map]
      rw [List.length_map, pl, List.drop_eq_nil_of_le (by omega)] at hj
      have hj : Sm15.judged u as ls nx (told2 ts) = ts.length := hj
      rw [hj] at q
      have z := ev_lenL (K := K) (σ := [some (.ref aT), some (.ref d0), some (.int (nx : Int)), some (.ref aA), some (.int (u : Int)), some (.ref dk), y6, y7]) (H := H') (ta := tVar 0) (ev_var rfl) (sq_of (toH eB _ _ hT))
      rw [List.length_map, pl] at z
      exact s_ret z fun H2 e2 => q H2 ((toH eB).trans e2)
/-! ### judge -/
def judgeR (u : Nat) (as : List Sm15.Atom) (ls : List Sm15.Line) (nx : Nat) (ts : List Sm15.Told) : List Int := if ts.any (fun t => !t.clause.all (Sm15.isLit as.length)) = true then [-2] else
  if Sm15.judged u as ls nx (told2 ts) = ts.length then [1, (Sm15.flag ((ts.getLast?.map fun t => t.clause) == some []) : Int)] else [0, (Sm15.judged u as ls nx (told2 ts) : Int)]
def spJu (K : PySem.W.Frag) (D : Ad) : Sp := fun vs H Q _ => ∃ (b : Addr) (g : Pl) (u : Nat) (as : List Sm15.Atom) (ls : List Sm15.Line) (nx : Nat) (a : Addr) (ns : List Int) (f : Nat) (ts : List Sm15.Told), vs = [.ref b, .ref a] ∧ BookAt K D H b g u as ls nx ∧ SqL K H a (ns.map V.int) ∧ ns.length ≤ 700 ∧ Sm15Neutral.toldOf f ns = some ts ∧ ts.length ≤ 700 ∧ as.length ≤ 8 ∧ u ≤ 4 ∧ AtomsOk u as ∧ ls.length ≤ 20000 ∧ (∀ x ∈ ls, x.num < nx ∧ x.clause.length ≤ 400) ∧ RetL ((judgeR u as ls nx ts).map V.int) H Q
theorem judged_le {u : Nat} {as : List Sm15.Atom} : ∀ (ts : List Sm15.Told) (ls : List Sm15.Line) (k : Nat), Sm15.judged u as ls k ts ≤ ts.length
  | [], _, _ => Nat.le_refl _
  | t :: ts, ls, k => by
    show (if _ then _ else _) ≤ _
    split
    · have := judged_le (u := u) (as := as) ts (ls ++ [⟨k, t.clause, t.way⟩]) (k + 1)
      exact Nat.succ_le_succ this
    · exact Nat.zero_le _
theorem ok_Book_judge (T : Txt K mg D) : FnOk P w K mg base CX0 9 D.a_Book_judge D.d_Book_judge ["self", "steps"] (spJu K D) := by
  refine T.f_Book_judge.ok sc_Book_judge (fun vs H Q E h => ?_) (fun cdv A outer s H vs Q E hr h => ?_)
  · obtain ⟨_, _, _, _, _, _, _, _, _, _, rfl, _⟩ := h
    rfl
  · obtain ⟨b, g, u, as, ls, nx, a, ns, f, ts, rfl, hB, hS, hz, hts, htl, hal, hu, hok, hlz, hls, q⟩ := h
    refine ⟨_, (pss_cons (ps_set (i := 2) sc_Book_judge.nd rfl (Or.inl rfl) (pe_call (ok_split_steps T) (hr.mono (by decide)) (by rfl) T.g_split_steps T.f_split_steps.kp T.n_split_steps .nil pass0 (pa_cons (pv 1) pa_nil)))
      (pss_cons (ps_if (pt_val (pe_callB (cr_any (by rfl)) (by rfl) T.b_any (by decide +kernel) (pa_cons (pe_lc (own := [("line", 4)]) (g := gName 4) (by rfl) sc_Book_judge.nd (pi_list (pv 2)) (blkOk_by (own := [("line", 4)]) (N := ["self", "steps", "lines", "right", "line"]) (sc := defScope s_Book_judge) (by decide +kernel)) (fun _ _ _ _ _ => (pg_name (i := 4) sc_Book_judge.nd rfl (Or.inl rfl))) (fun _ _ _ _ _ => pts_nil) (fun _ _ _ _ _ => (pe_meth (pv 0) T.k_Book T.t_Book_has_strange (ok_Book_has_strange T) (hr.mono (by decide)) T.n_Book_has_strange .nil pass0 (pa_cons (pe_fldK K (pv 4) rfl) pa_nil)))) pa_nil))) (pss_one (ps_ret (pe_lst (pa_cons (pe_gi (by rfl) T.c_NO_ATOM) pa_nil)))) pss_nil)
      (pss_cons (ps_set (i := 3) sc_Book_judge.nd rfl (Or.inl rfl) (pe_call (ok_count_right T) hr (by rfl) T.g_count_right T.f_count_right.kp T.n_count_right .nil pass0 (pa_cons (pv 2) (pa_cons (pe_fld (pv 0) rfl) (pa_cons (pe_fld (pv 0) rfl) (pa_cons (pe_fld (pv 0) rfl) (pa_cons (pe_fld (pv 0) rfl) pa_nil)))))))
      (pss_cons (ps_if (pt_cmpR op_lt (pv 3) (pe_callB call_len_seq (by rfl) T.b_len PySem.boot_len (pa_cons (pv 2) pa_nil)) (nomark _)) (pss_one (ps_ret (pe_lst (pa_cons pe_int (pa_cons (pv 3) pa_nil))))) pss_nil)
      (pss_one (ps_ret (pe_lst (pa_cons pe_int (pa_cons (pe_ifExp (PW.pt (pw_and (pt_cmpR op_gt (pe_callB call_len_seq (by rfl) T.b_len PySem.boot_len (pa_cons (pv 2) pa_nil)) pe_int (nomark _)) (pw_and1 (pt_cmpR op_eq (pe_callB call_len_seq (by rfl) T.b_len PySem.boot_len (pa_cons (pe_fld (pe_ix ix_list (pv 2) (pe_un un_neg pe_int) (fun _ _ => rfl)) rfl) pa_nil)) pe_int (nomark _))))) pe_int pe_int) pa_nil))))))))), ?_⟩
    -- lines = split_steps(steps)
    refine ⟨.ref a, rfl, a, ns, f, ts, rfl, hS, hz, hts, fun aT H1 ps nT e1 hT hP htok => ?_⟩
    have pl := pr_len hP
    have hB1 := hB.ex e1
    obtain ⟨ms, m1, m2, m3⟩ := pr_zip hP
    have ml : ms.length = ts.length := by rw [← m2, List.length_map]
    have hTm : SqL K H1 aT (ms.map fun m => V.ref m.1) := by
      rw [show ms.map (fun m => V.ref m.1) = (ms.map (·.1)).map V.ref by rw [List.map_map]; rfl, m1]
      exact sq_of hT
    have gs := lcL (K := K) (σ := [some (.ref b), some (.ref a), some (.ref aT), none, none]) (H := H1) (t := tYes) (te := tMeth D.c_Book "has_strange" (spHs K D) [] E0 (tVar 0) (tCons (tFld K (tVar 4) "clause") tNil)) (tl := tVar 2) (j := 4) (vs := [4]) (emb := fun m : Addr × Sm15.Told => V.ref m.1) (fun _ => true) (fun m => V.bl (!m.2.clause.all (Sm15.isLit as.length))) (ev_var rfl) hTm (by omega) (fun x => rfl) (fun m _ H1 e => et_yes)
      (fun m hm H2 e2 _ => by
        obtain ⟨dx, tn, tc, h1, h2, h3⟩ := m3 m hm
        have hc : m.2.clause.length ≤ 700 := (htok m.2 (by rw [← m2]; exact List.mem_map.mpr ⟨m, hm, rfl⟩)).2.2
        have cl := clause_le m.2.clause
        rw [← clause_all]
        exact ev_meth (dvs := []) (ev_var (i := 0) rfl) (e2 _ _ hB1.ob) (bF_m (by decide +kernel)) (ea_cons (ev_fld (ev_var (i := 4) rfl) (e2 _ _ h1) T.k_Line T.x_Line_clause lF_clause) ea_nil) fun H3 e3 Q3 q3 E3 => ⟨b, g, u, as, ls, nx, tc, Sm15.clauseOf m.2.clause, rfl, hB1.ex (e2.trans e3), .inr (st_of ((e2.trans e3) _ _ h3)), by omega, q3⟩)
    rw [filter_yes, show ms.map (fun m => V.bl (!m.2.clause.all (Sm15.isLit as.length))) = ((ms.map (·.2)).map fun t => !t.clause.all (Sm15.isLit as.length)).map V.bl by rw [List.map_map, List.map_map]; rfl, m2] at gs
    have g2 := ev_any (K := K) gs
    rw [any_map_id] at g2
    unfold judgeR at q
    refine q_when (et_B g2) (fun hb H2 e2 => ?_) (fun hb H2 e2 => ?_)
    · rw [if_pos hb] at q
      exact s_retL (el_lst (ea_cons ev_c ea_nil) (by show 1 ≤ 100000; decide)) fun p H3 np e3 hp => q p H3 (fresh_back (e1.trans e2) np) ((e1.trans e2).trans e3) hp
    · rw [if_neg (by rw [hb]; decide)] at q
      have hlit : ∀ t ∈ ts, Lits as.length t.clause := fun t ht => by
        have := List.any_eq_false.mp hb t ht
        exact lits_of (by simpa using this)
      have hB2 := hB1.ex e2
      have e12 := e1.trans e2
      -- right = count_right(..)
      refine q_asg (v := .int ((Sm15.judged u as ls nx (told2 ts) : Nat) : Int)) (ev_call (dvs := []) (ea_cons (ev_var (i := 2) rfl) (ea_cons (rb_lines T hB2 (ev_var (i := 0) rfl)) (ea_cons (rb_next T hB2 (ev_var (i := 0) rfl)) (ea_cons (rb_atoms T hB2 (ev_var (i := 0) rfl)) (ea_cons (rb_u T hB2 (ev_var (i := 0) rfl)) ea_nil))))) fun H3 e3 Q3 q3 E3 => ⟨aT, g.dl, g.al, u, nx, as, ls, ps, ts, rfl, (e2.trans e3) _ _ hT, pr_imp (fun _ _ h => LineAt.ex (e2.trans e3) h) hP, (hB2.ex e3).ln, (hB2.ex e3).atoms, hok, hal, hu, hlz, hls, by omega, fun t ht => ⟨(htok t ht).1, (htok t ht).2.1, hlit t ht⟩, q3⟩) fun H3 e3 => ?_
      have jl := judged_le (u := u) (as := as) (told2 ts) ls nx
      rw [show (told2 ts).length = ts.length by unfold told2; rw [List.length_map]] at jl
      have e13 := e2.trans e3
      have lenT : ∀ {H4}, Ex H3 H4 → Ev (tCB (fun xs H Q => ∃ p ys, xs = [V.ref p] ∧ (SqL K H p ys ∨ SqT K H p ys) ∧ Q (.int ys.length) H) (tCons (tVar 2) tNil)) [some (.ref b), some (.ref a), some (.ref aT), some (.int ((Sm15.judged u as ls nx (told2 ts) : Nat) : Int)), none] H4 (.int (ts.length : Int)) := fun {H4} e4 => by
        have z := ev_lenL (K := K) (σ := [some (.ref b), some (.ref a), some (.ref aT), some (.int ((Sm15.judged u as ls nx (told2 ts) : Nat) : Int)), none]) (H := H4) (ta := tVar 2) (ev_var rfl) (sq_of ((e13.trans e4) _ _ hT))
        rw [List.length_map, pl] at z
        exact z
      refine q_when (et_test (ev_lt (ev_var (i := 3) rfl) (lenT (Ex.refl _)))) (fun hb2 H4 e4 => ?_) (fun hb2 H4 e4 => ?_)
      · have hb2 := of_decide_eq_true hb2
        rw [if_neg (by omega)] at q
        exact s_retL (el_lst (ea_cons ev_c (ea_cons (ev_var (i := 3) rfl) ea_nil)) (by show 2 ≤ 100000; decide)) fun p H5 np e5 hp => q p H5 (fresh_back ((e12.trans e3).trans e4) np) (((e12.trans e3).trans e4).trans e5) hp
      · have hb2 := of_decide_eq_false hb2
        rw [if_pos (by omega)] at q
        have tst : EvT (tAnd (tTest (tOp (rI0 fun i j => .bl (decide (j < i))) (tCB (fun xs H Q => ∃ p ys, xs = [V.ref p] ∧ (SqL K H p ys ∨ SqT K H p ys) ∧ Q (.int ys.length) H) (tCons (tVar 2) tNil)) (tC (.int 0)))) (tTest (tOp rEq (tCB (fun xs H Q => ∃ p ys, xs = [V.ref p] ∧ (SqL K H p ys ∨ SqT K H p ys) ∧ Q (.int ys.length) H) (tCons (tFld K (tOp (rIxL K) (tVar 2) (tUn (rU fun i => .int (-i)) (tC (.int 1)))) "clause") tNil)) (tC (.int 0))))) [some (.ref b), some (.ref a), some (.ref aT), some (.int ((Sm15.judged u as ls nx (told2 ts) : Nat) : Int)), none] H4 ((ts.getLast?.map fun t => t.clause) == some []) := by
          refine et_is (et_and (et_test (ev_gt (j := 0) (lenT e4) ev_c)) (b := (ts.getLast?.map fun t => t.clause) == some []) fun hpos => ?_) ?_
          · have hpos := of_decide_eq_true hpos
            have ne : ts ≠ [] := fun z => by rw [z] at hpos; exact absurd hpos (by decide)
            have pne : ps ≠ [] := fun z => by rw [z] at pl; exact ne (List.eq_nil_of_length_eq_zero pl.symm)
            obtain ⟨t0, t, et⟩ : ∃ t0 t, ts = t0 ++ [t] := ⟨ts.dropLast, ts.getLast ne, (List.dropLast_concat_getLast ne).symm⟩
            obtain ⟨p0, p, ep⟩ : ∃ p0 p, ps = p0 ++ [p] := ⟨ps.dropLast, ps.getLast pne, (List.dropLast_concat_getLast pne).symm⟩
            have hP' := hP
            rw [et, ep] at hP'
            obtain ⟨_, dx, tn, tc, h1, h2, h3⟩ := pr_unsnoc hP'
            have e14 := e13.trans e4
            have rdl : Ev (tOp (rIxL K) (tVar 2) (tUn (rU fun i => .int (-i)) (tC (.int 1)))) [some (.ref b), some (.ref a), some (.ref aT), some (.int ((Sm15.judged u as ls nx (told2 ts) : Nat) : Int)), none] H4 (.ref p) := ev_ixL (i := -1) (ev_var (i := 2) rfl) (sq_of (e14 _ _ hT)) (ev_neg (i := 1) ev_c) (by
              rw [ep]
              unfold atI ixN
              rw [if_neg (by decide), List.map_append, List.length_append, List.length_map]
              rw [if_pos (by show -((p0.length + 1 : Nat) : Int) ≤ -1; omega)]
              show (p0.map V.ref ++ [V.ref p])[((-1 : Int) + ((p0.length + 1 : Nat) : Int)).toNat]? = some (.ref p)
              rw [show ((-1 : Int) + ((p0.length + 1 : Nat) : Int)).toNat = (p0.map V.ref).length by rw [List.length_map]; omega]
              simp)
            have zl := ev_lenT (K := K) (ev_fld rdl (e14 _ _ h1) T.k_Line T.x_Line_clause lF_clause) (st_of (e14 _ _ h3))
            rw [List.length_map] at zl
            refine et_is (et_test (ev_eq (j := 0) zl ev_c)) ?_
            rw [et, List.getLast?_append]
            show decide (((Sm15.clauseOf t.clause).length : Int) = 0) = (some t.clause == some [])
            rw [Bool.eq_iff_iff, decide_eq_true_eq, beq_iff_eq]
            have ce := clause_empty t.clause
            constructor
            · intro h
              rw [ce.mp (by omega)]
            · intro h
              have := ce.mpr (Option.some.inj h)
              omega
          · cases ts with
            | nil => rfl
            | cons t r =>
              rw [decide_eq_true (by show (0 : Int) < ((r.length + 1 : Nat) : Int); omega), Bool.true_and]
        have last : Ev (tIf (tAnd (tTest (tOp (rI0 fun i j => .bl (decide (j < i))) (tCB (fun xs H Q => ∃ p ys, xs = [V.ref p] ∧ (SqL K H p ys ∨ SqT K H p ys) ∧ Q (.int ys.length) H) (tCons (tVar 2) tNil)) (tC (.int 0)))) (tTest (tOp rEq (tCB (fun xs H Q => ∃ p ys, xs = [V.ref p] ∧ (SqL K H p ys ∨ SqT K H p ys) ∧ Q (.int ys.length) H) (tCons (tFld K (tOp (rIxL K) (tVar 2) (tUn (rU fun i => .int (-i)) (tC (.int 1)))) "clause") tNil)) (tC (.int 0))))) (tC (.int 1)) (tC (.int 0))) [some (.ref b), some (.ref a), some (.ref aT), some (.int ((Sm15.judged u as ls nx (told2 ts) : Nat) : Int)), none] H4 (.int ((Sm15.flag ((ts.getLast?.map fun t => t.clause) == some []) : Nat) : Int)) :=
          ev_if tst (fun hb => by rw [hb]; exact ev_c) (fun hb => by rw [hb]; exact ev_c)
        exact s_retL (el_lst (ea_cons (ev_c (v := .int 1)) (ea_cons last ea_nil)) (by show 2 ≤ 100000; decide)) fun p H5 np e5 hp => q p H5 (fresh_back ((e12.trans e3).trans e4) np) (((e12.trans e3).trans e4).trans e5) hp
end
end Cp
/-! Cp23 -/
namespace Cp
open PySem PySem.Spec PyProof.Rows L2 Evl
/-! ### answers are not long -/
theorem numbersOf_len (u : Nat) : ∀ (f x : Nat) (es : List Sm15.Edge), (Sm15.numbersOf u f x es).length = f
  | 0, _, _ => rfl
  | f + 1, x, es => by
    rw [numbers_cons, List.length_cons, numbersOf_len u f]
theorem ok_len {t : Nat} {s : Sm15.St} (ho : Ok t s) (ht : t ≤ 40) : s.now.lines.length ≤ 12001 := by
  have h1 := ho.now.ok.len
  have h2 := ho.next
  have : 300 * t ≤ 300 * 40 := Nat.mul_le_mul_left 300 ht
  omega
theorem ok_cl {t : Nat} {s : Sm15.St} (ho : Ok t s) : ∀ x ∈ s.now.lines, x.clause.length ≤ 16 := fun x hx => nodup_bound 8 _ (up_nodup (ho.now.ok.lits x hx).2) ((ho.now.ok.lits x hx).1.mono ho.now.al)
theorem code_len (w : Sm15.Way) : (Sm15.codeOf w).length ≤ (Sm15.sources w).length + 3 := by
  cases w with
  | chain l => show l.length + 2 ≤ l.length + 3; omega
  | claim => show 2 ≤ 3; decide
  | bounds => show 2 ≤ 3; decide
  | joined i j a => show 5 ≤ 5; decide
  | wider i => show 3 ≤ 4; decide
theorem rests_len {ls : List Sm15.Line} (wf : WfL ls) {k : Nat} (hk : k ∈ numsOf ls) : (Sm15.rests ls k).length ≤ ls.length := by
  have h := rests_prog wf hk _ claimB_is
  have := came_len wf hk
  rw [← h]
  exact Nat.le_trans (List.length_filter_le _ _) this
theorem ite_len {c : Prop} [Decidable c] {s s' : Sm15.St} {a b : List Int} {n : Nat} (ha : a.length ≤ n) (hb : b.length ≤ n) : (if c then (s, a) else (s', b)).2.length ≤ n := by
  split
  · exact ha
  · exact hb
theorem step_len {t : Nat} {s : Sm15.St} (ho : Ok t s) (ht : t ≤ 40) {c : List (List Int)} {x : Sm15.Call} (hc : CallIs c x) : (Sm15.step s x).2.length ≤ 30000 := by
  have ll := ok_len ho ht
  have cl := ok_cl ho
  cases hc with
  | start u => dsimp only [Sm15.step]; split <;> (show 1 ≤ 30000; decide)
  | yes => dsimp only [Sm15.step]; repeat' split
           all_goals (show 1 ≤ 30000; decide)
  | bound a b z => dsimp only [Sm15.step]; repeat' split
                   all_goals (show 1 ≤ 30000; decide)
  | claim l h => dsimp only [Sm15.step]; repeat' split
                 all_goals (show 1 ≤ 30000; decide)
  | bounds l h => dsimp only [Sm15.step]; repeat' split
                  all_goals (show 1 ≤ 30000; decide)
  | joined i j a l h => dsimp only [Sm15.step]; repeat' split
                        all_goals (show 1 ≤ 30000; decide)
  | wider i l h => dsimp only [Sm15.step]; repeat' split
                   all_goals (show 1 ≤ 30000; decide)
  | chain ks l hk h => dsimp only [Sm15.step]; repeat' split
                       all_goals (show 1 ≤ 30000; decide)
  | drop k => dsimp only [Sm15.step]; repeat' split
              all_goals (show 1 ≤ 30000; decide)
  | mark => dsimp only [Sm15.step]; repeat' split
            all_goals (show 1 ≤ 30000; decide)
  | back =>
    dsimp only [Sm15.step]
    split
    · show 1 ≤ 30000; decide
    · show 2 ≤ 30000; decide
  | decide =>
    dsimp only [Sm15.step]
    split
    · rename_i wd hw
      unfold Sm15.world at hw
      rw [Option.map_eq_some_iff] at hw
      obtain ⟨r, hr, rfl⟩ := hw
      have h1 := rows_len0 (List.mem_of_find?_eq_some hr)
      have h2 := ho.now.al
      have h3 := ho.u1.2
      have h4 := numbersOf_len s.u s.u 1 (Sm15.edgesOf s.now.atoms r)
      simp only [Sm15.ints, List.length_append, List.length_cons, List.length_map]
      omega
    · show 1 ≤ 30000; decide
  | prove =>
    dsimp only [Sm15.step]
    split
    · show 1 ≤ 30000; decide
    · split
      · show 1 ≤ 30000; decide
      · show 2 ≤ 30000; decide
  | «show» k =>
    dsimp only [Sm15.step]
    split
    · show 1 ≤ 30000; decide
    · rename_i x hx
      have h1 := cl x (lineAt_some hx).1
      have h2 := ho.now.ok.src x (lineAt_some hx).1
      have h3 := code_len x.way
      simp only [Sm15.ints, List.length_append, List.length_cons, List.length_map]
      omega
  | rests k =>
    dsimp only [Sm15.step]
    split
    · show 1 ≤ 30000; decide
    · rename_i hk
      have hk : k ∈ numsOf s.now.lines := has_line.mpr (by
        cases q : Sm15.lineAt s.now.lines k with
        | none => rw [q] at hk; exact absurd rfl hk
        | some x => exact ⟨x, rfl⟩)
      have := rests_len ho.now.ok.wf hk
      simp only [Sm15.ints, List.length_map, List.length_cons]
      omega
  | came k =>
    dsimp only [Sm15.step]
    split
    · show 1 ≤ 30000; decide
    · rename_i hk
      have hk : k ∈ numsOf s.now.lines := has_line.mpr (by
        cases q : Sm15.lineAt s.now.lines k with
        | none => rw [q] at hk; exact absurd rfl hk
        | some x => exact ⟨x, rfl⟩)
      have := came_len ho.now.ok.wf hk
      simp only [Sm15.ints, List.length_map, List.length_cons]
      omega
  | judge l t ht h =>
    dsimp only [Sm15.step]
    split
    · show 1 ≤ 30000; decide
    · split
      · show 2 ≤ 30000; decide
      · show 2 ≤ 30000; decide
  | reason l h =>
    dsimp only [Sm15.step]
    split
    · show 1 ≤ 30000; decide
    · split
      · show 1 ≤ 30000; decide
      · split
        · show 1 ≤ 30000; decide
        · rename_i r hs
          unfold Sm15.reason at hs
          have hm := List.mem_of_find?_eq_some hs
          obtain ⟨k, _, hm⟩ := List.mem_flatMap.mp hm
          have := (mem_choose.mp hm).1.length_le
          show r.length + 2 ≤ 30000
          omega
/-! ### what each call comes to -/
theorem step_claim (u : Nat) (as : List Sm15.Atom) (ls : List Sm15.Line) (nx : Nat) (mk : List Sm15.Stand) (l : List Int) : Sm15.step ⟨u, ⟨as, ls⟩, nx, mk⟩ (.claim l) = (⟨u, ⟨as, (claimR as ls nx l).1⟩, (claimR as ls nx l).2.1, mk⟩, [(claimR as ls nx l).2.2]) := by
  dsimp only [Sm15.step]
  unfold claimR
  repeat' split
  all_goals rfl
theorem step_step (u : Nat) (as : List Sm15.Atom) (ls : List Sm15.Line) (nx : Nat) (mk : List Sm15.Stand) (w : Sm15.Way) (l : List Int) : Sm15.step ⟨u, ⟨as, ls⟩, nx, mk⟩ (.step w l) = (⟨u, ⟨as, (deriveR u as ls nx w l).1⟩, (deriveR u as ls nx w l).2.1, mk⟩, [(deriveR u as ls nx w l).2.2]) := by
  dsimp only [Sm15.step]
  unfold deriveR
  repeat' split
  all_goals rfl
theorem step_drop (u : Nat) (as : List Sm15.Atom) (ls : List Sm15.Line) (nx : Nat) (mk : List Sm15.Stand) (k : Nat) : Sm15.step ⟨u, ⟨as, ls⟩, nx, mk⟩ (.drop k) = (⟨u, ⟨as, (dropR ls k).1⟩, nx, mk⟩, [(dropR ls k).2]) := by
  dsimp only [Sm15.step]
  unfold dropR
  cases Sm15.lineAt ls k with
  | none => rfl
  | some x =>
    dsimp only
    by_cases c : x.way ≠ .claim
    · rw [if_pos c, if_pos c]
    · rw [if_neg c, if_neg c]
theorem step_decide (u : Nat) (as : List Sm15.Atom) (ls : List Sm15.Line) (nx : Nat) (mk : List Sm15.Stand) : Sm15.step ⟨u, ⟨as, ls⟩, nx, mk⟩ .decide = (⟨u, ⟨as, ls⟩, nx, mk⟩, decideR u as ls) := rfl
theorem step_show (u : Nat) (as : List Sm15.Atom) (ls : List Sm15.Line) (nx : Nat) (mk : List Sm15.Stand) (k : Nat) : Sm15.step ⟨u, ⟨as, ls⟩, nx, mk⟩ (.show k) = (⟨u, ⟨as, ls⟩, nx, mk⟩, showR ls k) := rfl
theorem step_rests (u : Nat) (as : List Sm15.Atom) (ls : List Sm15.Line) (nx : Nat) (mk : List Sm15.Stand) (k : Nat) : Sm15.step ⟨u, ⟨as, ls⟩, nx, mk⟩ (.rests k) = (⟨u, ⟨as, ls⟩, nx, mk⟩, restsR ls k) := by
  dsimp only [Sm15.step]
  unfold restsR
  split
  · rfl
  · unfold counts Sm15.ints
    rw [List.map_cons, List.length_map]
theorem step_came (u : Nat) (as : List Sm15.Atom) (ls : List Sm15.Line) (nx : Nat) (mk : List Sm15.Stand) (k : Nat) : Sm15.step ⟨u, ⟨as, ls⟩, nx, mk⟩ (.came k) = (⟨u, ⟨as, ls⟩, nx, mk⟩, cameR ls k) := by
  dsimp only [Sm15.step]
  unfold cameR
  split
  · rfl
  · unfold counts Sm15.ints
    rw [List.map_cons, List.length_map]
theorem step_reason (u : Nat) (as : List Sm15.Atom) (ls : List Sm15.Line) (nx : Nat) (mk : List Sm15.Stand) (l : List Int) : Sm15.step ⟨u, ⟨as, ls⟩, nx, mk⟩ (.reason l) = (⟨u, ⟨as, ls⟩, nx, mk⟩, reasonR u as l) := rfl
theorem step_judge (u : Nat) (as : List Sm15.Atom) (ls : List Sm15.Line) (nx : Nat) (mk : List Sm15.Stand) (l : List Sm15.Told) : Sm15.step ⟨u, ⟨as, ls⟩, nx, mk⟩ (.judge l) = (⟨u, ⟨as, ls⟩, nx, mk⟩, judgeR u as ls nx l) := rfl
theorem told_count : ∀ {f : Nat} {l : List Int} {ts : List Sm15.Told}, Sm15Neutral.toldOf f l = some ts → ts.length ≤ l.length
  | f, [], ts, h => by rw [told_nil h]; exact Nat.le_refl _
  | 0, x :: l, ts, h => by unfold Sm15Neutral.toldOf at h; cases h
  | f + 1, x :: l, ts, h => by
    unfold Sm15Neutral.toldOf at h
    cases h1 : Sm15Neutral.wayIn (x :: l) with
    | none => rw [h1] at h; cases h
    | some wl =>
      obtain ⟨w, l2⟩ := wl
      rw [h1, Option.bind_some] at h
      cases h2 : Sm15Neutral.clauseIn l2 with
      | none => rw [h2] at h; cases h
      | some cl =>
        obtain ⟨c, l3⟩ := cl
        rw [h2, Option.bind_some] at h
        cases h3 : Sm15Neutral.toldOf f l3 with
        | none => rw [h3] at h; cases h
        | some ts' =>
          rw [h3] at h
          have h : ⟨w, c⟩ :: ts' = ts := Option.some.inj h
          have ih := told_count h3
          obtain ⟨_, g2⟩ := wayIn_is h1
          have g3 := clauseIn_is h2
          rw [← h, g2, g3]
          simp only [List.length_append, List.length_cons]
          omega
theorem lok_of {t : Nat} {s : Sm15.St} (ho : Ok t s) (ht : t ≤ 40) : LOk s.now.atoms s.now.lines s.next := ⟨ho.now.al, by have := ok_len ho ht; omega, ho.now.ok.lt, ho.now.ok.wf.nodup, fun x hx => ⟨(ho.now.ok.lits x hx).1.mono ho.now.al, ok_cl ho x hx⟩⟩
end Cp
/-! Cp24 -/
namespace Cp
open PySem PySem.Spec PyProof.Rows L2 Evl
section
variable {P : Program} {w : World} {K : PySem.W.Frag} {mg : Str → Option Value} {base : Heap} {D : Ad}
/-! ### tests, one behind another -/
theorem go_no {σ : L2.St} {H : Hp} {t : TT} {tu tz : TS} {B : Ends} (ht : EvT t σ H false) (k : ∀ H1, Ex H H1 → tz B σ H1) : ∀ H1, Ex H H1 → tSeq (tIfS t tu tNext) tz B σ H1 := fun H1 e => q_when (ht.mono e) (fun z => Bool.noConfusion z) fun _ H2 e2 => k H2 (e.trans e2)
theorem go_yes {σ : L2.St} {H : Hp} {t : TT} {tu tz : TS} {B : Ends} (ht : EvT t σ H true) (k : ∀ H1, Ex H H1 → tu { B with nx := tz B } σ H1) : ∀ H1, Ex H H1 → tSeq (tIfS t tu tNext) tz B σ H1 := fun H1 e => q_when (ht.mono e) (fun _ H2 e2 => k H2 (e.trans e2)) fun z => Bool.noConfusion z
/-- the book in a state -/
abbrev BkS (K : PySem.W.Frag) (D : Ad) (H O : Hp) (b : Addr) (g : Pl) (s : Sm15.St) : Prop := Bk K D H O b g s.u s.now.atoms s.now.lines s.next
/-- what is asked of a call and the book -/
structure AskOk (K : PySem.W.Frag) (D : Ad) (H O : Hp) (b p : Addr) (g : Pl) (s : Sm15.St) (t : Nat) (c : List (List Int)) (x : Sm15.Call) : Prop where
  bk : BkS K D H O b g s
  ok : Ok t s
  t40 : t ≤ 40
  mok : MOk s g.ms
  at_ : CallAt D.c_Call O p c
  is : CallIs c x
theorem AskOk.ex {H H' O : Hp} {b p : Addr} {g : Pl} {s : Sm15.St} {t : Nat} {c : List (List Int)} {x : Sm15.Call} (e : Ex H H') (h : AskOk K D H O b p g s t c x) : AskOk K D H' O b p g s t c x := ⟨h.bk.ex e, h.ok, h.t40, h.mok, h.at_, h.is⟩
def isOne : Sm15.Call → Bool
  | .start _ => true
  | .atom _ => true
  | .claim _ => true
  | .step _ _ => true
  | .drop _ => true
  | .mark => true
  | _ => false
def spOne (K : PySem.W.Frag) (D : Ad) : Sp := fun vs H Q _ => ∃ (O : Hp) (b p : Addr) (g : Pl) (s : Sm15.St) (t : Nat) (c : List (List Int)) (x : Sm15.Call), vs = [.ref b, .ref p] ∧ AskOk K D H O b p g s t c x ∧ isOne x = true ∧
  ∀ (H' : Hp) (g' : Pl) (z : Int), g'.ms = msAfter s g.ms x → BkS K D H' O b g' (Sm15.step s x).1 → (Sm15.step s x).2 = [z] → Q (.int z) H'
theorem ok_one_number (T : Txt K mg D) : FnOk P w K mg base CX0 10 D.a_one_number D.d_one_number ["book", "call"] (spOne K D) := by
  refine T.f_one_number.ok sc_one_number (fun vs H Q E h => ?_) (fun cdv A outer s H vs Q E hr h => ?_)
  · obtain ⟨_, _, _, _, _, _, _, _, rfl, _⟩ := h
    rfl
  · obtain ⟨O, b, p, g, st, t, c, x, rfl, ask, hone, k⟩ := h
    refine ⟨_, (pss_cons (ps_set (i := 2) sc_one_number.nd rfl (Or.inl rfl) (pe_fld (pv 1) rfl))
      (pss_cons (ps_set (i := 3) sc_one_number.nd rfl (Or.inl rfl) (pe_fld (pv 1) rfl))
      (pss_cons (ps_if (pt_cmpR op_eq (pe_fld (pv 1) rfl) (pe_gi (by rfl) T.c_START) (nomark _)) (pss_one (ps_ret (pe_meth (pv 0) T.k_Book T.t_Book_start (ok_Book_start T) (hr.mono (by decide)) T.n_Book_start .nil pass0 (pa_cons (pe_ix ix_list (pv 2) pe_int (fun _ _ => rfl)) pa_nil)))) pss_nil)
      (pss_cons (ps_if (pt_cmpR op_eq (pe_fld (pv 1) rfl) (pe_gi (by rfl) T.c_YES) (nomark _)) (pss_one (ps_ret (pe_meth0 (pv 0) T.k_Book T.t_Book_yes (ok_Book_yes T) (hr.mono (by decide)) T.n_Book_yes .nil pass0))) pss_nil)
      (pss_cons (ps_if (pt_cmpR op_eq (pe_fld (pv 1) rfl) (pe_gi (by rfl) T.c_BOUND) (nomark _)) (pss_one (ps_ret (pe_meth (pv 0) T.k_Book T.t_Book_bound (ok_Book_bound T) (hr.mono (by decide)) T.n_Book_bound .nil pass0 (pa_cons (pe_ix ix_list (pv 2) pe_int (fun _ _ => rfl)) (pa_cons (pe_ix ix_list (pv 2) pe_int (fun _ _ => rfl)) (pa_cons (pe_ix ix_list (pv 2) pe_int (fun _ _ => rfl)) pa_nil)))))) pss_nil)
      (pss_cons (ps_if (pt_cmpR op_eq (pe_fld (pv 1) rfl) (pe_gi (by rfl) T.c_CLAIM) (nomark _)) (pss_one (ps_ret (pe_meth (pv 0) T.k_Book T.t_Book_claim (ok_Book_claim T) (hr.mono (by decide)) T.n_Book_claim .nil pass0 (pa_cons (pe_ix ix_list (pv 3) pe_int (fun _ _ => rfl)) pa_nil)))) pss_nil)
      (pss_cons (ps_if (pt_cmpR op_eq (pe_fld (pv 1) rfl) (pe_gi (by rfl) T.c_BOUNDS) (nomark _)) (pss_one (ps_ret (pe_meth (pv 0) T.k_Book T.t_Book_bounds (ok_Book_bounds T) hr T.n_Book_bounds .nil pass0 (pa_cons (pe_ix ix_list (pv 3) pe_int (fun _ _ => rfl)) pa_nil)))) pss_nil)
      (pss_cons (ps_if (pt_cmpR op_eq (pe_fld (pv 1) rfl) (pe_gi (by rfl) T.c_JOINED) (nomark _)) (pss_one (ps_ret (pe_meth (pv 0) T.k_Book T.t_Book_joined (ok_Book_joined T) hr T.n_Book_joined .nil pass0 (pa_cons (pe_ix ix_list (pv 2) pe_int (fun _ _ => rfl)) (pa_cons (pe_ix ix_list (pv 2) pe_int (fun _ _ => rfl)) (pa_cons (pe_ix ix_list (pv 2) pe_int (fun _ _ => rfl)) (pa_cons (pe_ix ix_list (pv 3) pe_int (fun _ _ => rfl)) pa_nil))))))) pss_nil)
      (pss_cons (ps_if (pt_cmpR op_eq (pe_fld (pv 1) rfl) (pe_gi (by rfl) T.c_WIDER) (nomark _)) (pss_one (ps_ret (pe_meth (pv 0) T.k_Book T.t_Book_wider (ok_Book_wider T) hr T.n_Book_wider .nil pass0 (pa_cons (pe_ix ix_list (pv 2) pe_int (fun _ _ => rfl)) (pa_cons (pe_ix ix_list (pv 3) pe_int (fun _ _ => rfl)) pa_nil))))) pss_nil)
      (pss_cons (ps_if (pt_cmpR op_eq (pe_fld (pv 1) rfl) (pe_gi (by rfl) T.c_CHAIN) (nomark _)) (pss_one (ps_ret (pe_meth (pv 0) T.k_Book T.t_Book_chain (ok_Book_chain T) hr T.n_Book_chain .nil pass0 (pa_cons (pe_ix ix_list (pv 3) pe_int (fun _ _ => rfl)) (pa_cons (pe_ix ix_list (pv 3) pe_int (fun _ _ => rfl)) pa_nil))))) pss_nil)
      (pss_cons (ps_if (pt_cmpR op_eq (pe_fld (pv 1) rfl) (pe_gi (by rfl) T.c_DROP) (nomark _)) (pss_one (ps_ret (pe_meth (pv 0) T.k_Book T.t_Book_drop (ok_Book_drop T) (hr.mono (by decide)) T.n_Book_drop .nil pass0 (pa_cons (pe_ix ix_list (pv 2) pe_int (fun _ _ => rfl)) pa_nil)))) pss_nil)
      (pss_one (ps_ret (pe_meth0 (pv 0) T.k_Book T.t_Book_mark (ok_Book_mark T) (hr.mono (by decide)) T.n_Book_mark .nil pass0)))))))))))))), ?_⟩
    obtain ⟨dx, an, ar, op, ns, rows, rs, hc, hp, han, har, hrows⟩ := (CallAt.mono ask.bk.rest ask.at_).ex
    refine q_asg (ev_fld (ev_var (i := 1) rfl) hp T.k_Call T.x_Call_numbers cF_numbers) fun H1 e1 => ?_
    refine q_asg (ev_fld (ev_var (i := 1) rfl) (e1 _ _ hp) T.k_Call T.x_Call_rows cF_rows) fun H2 e2 => ?_
    have e02 := e1.trans e2
    have ask2 := ask.ex e02
    have hp2 := e02 _ _ hp
    have han2 := e02 _ _ han
    have har2 := e02 _ _ har
    have hrows2 : Paired (RowAt H2) rs rows := pr_imp (fun _ _ q => e02 _ _ q) hrows
    have lok := lok_of ask.ok ask.t40
    have hu4 := ask.ok.u1.2
    have aok := ask.ok.now.aok
    have ll := ok_len ask.ok ask.t40
    have num : ∀ {n : Int} {v : Bool}, decide (op = n) = v → EvT (tTest (tOp rEq (tFld K (tVar 1) "number") (tC (.int n)))) [some (.ref b), some (.ref p), some (.ref an), some (.ref ar)] H2 v := fun h => et_is (et_test (ev_eq (ev_fld (ev_var (i := 1) rfl) hp2 T.k_Call T.x_Call_number cF_number) ev_c)) h
    have nth : ∀ {H3} (j : Nat) (z : Int), Ex H2 H3 → ns[j]? = some z → Ev (tOp (rIxL K) (tVar 2) (tC (.int (j : Int)))) [some (.ref b), some (.ref p), some (.ref an), some (.ref ar)] H3 (.int z) := fun j z e hj => ev_ixL (ev_var (i := 2) rfl) (sq_of (e _ _ han2)) ev_c (atI_nat (by rw [List.getElem?_map, hj]; rfl))
    have row : ∀ {H3} (j : Nat) (l : List Int), Ex H2 H3 → rows[j]? = some l → ∃ a, H3 a = some (.lst (l.map V.int)) ∧ Ev (tOp (rIxL K) (tVar 3) (tC (.int (j : Int)))) [some (.ref b), some (.ref p), some (.ref an), some (.ref ar)] H3 (.ref a) := fun j l e hj => by
      obtain ⟨a, ha, hR⟩ := pr_get hrows2 hj
      exact ⟨a, e _ _ hR, ev_ixL (ev_var (i := 3) rfl) (sq_of (e _ _ har2)) ev_c (atI_nat (by rw [List.getElem?_map, ha]; rfl))⟩
    obtain ⟨u, ⟨as, ls⟩, nx, mk⟩ := st
    have hmk : mk = g.ms.map (·.1) := ask.mok.is
    have der : ∀ {H3 : Hp} {way : Sm15.Way} {l : List Int} {aL : Addr}, Ex H2 H3 → x = .step way l → H3 aL = some (.lst (l.map V.int)) → l.length ≤ 40 → (Sm15.sources way).length ≤ 60 → DerivOk K D H3 b aL way l Q := fun {H3 way l aL} e hx hl hz hs => by
      refine ⟨g, O, u, as, ls, nx, ask2.bk.ex e, sq_of hl, by omega, hs, lok, aok, hu4, fun H' hB' => k H' g _ (by rw [hx]; rfl) ?_ ?_⟩
      · rw [hx, step_step]
        exact hB'
      · rw [hx, step_step]
    generalize hx : x = y at *
    cases ask.is with
    | start v =>
      obtain ⟨rfl, rfl⟩ : op = 0 ∧ ns = [(v : Int)] := by cases hc; exact ⟨rfl, rfl⟩
      refine go_yes (num (by decide)) (fun H3 e3 => ?_) H2 (Ex.refl _)
      refine s_retM (ev_var (i := 0) rfl) (ask2.ex e3).bk.at_.ob (bF_m (by decide +kernel)) (ea_cons (nth 0 _ e3 rfl) ea_nil) fun H4 e4 => ⟨b, g, O, u, as, ls, nx, v, rfl, (ask2.ex (e3.trans e4)).bk, fun hv H' hB' => k H' g (-1) ?_ ?_ ?_, fun hv H' g' hg' hB' => k H' g' (v : Int) ?_ ?_ ?_⟩
      · show g.ms = if v = 0 ∨ 4 < v then g.ms else []
        rw [if_pos hv]
      · dsimp only [Sm15.step]
        rw [if_pos hv]
        exact hB'
      · dsimp only [Sm15.step]
        rw [if_pos hv]
      · show g'.ms = if v = 0 ∨ 4 < v then g.ms else []
        rw [if_neg hv]
        exact hg'
      · dsimp only [Sm15.step]
        rw [if_neg hv]
        exact hB'
      · dsimp only [Sm15.step]
        rw [if_neg hv]
    | yes =>
      have gy : ¬ Sm15.goodBound u .yes = false := fun z => absurd (show true = false from z) (by decide)
      obtain ⟨rfl, rfl⟩ : op = 1 ∧ ns = [] := by cases hc; exact ⟨rfl, rfl⟩
      refine go_no (num (by decide)) (go_yes (num (by decide)) fun H3 e3 => ?_) H2 (Ex.refl _)
      refine s_retM (ev_var (i := 0) rfl) (ask2.ex e3).bk.at_.ob (bF_m (by decide +kernel)) ea_nil fun H4 e4 => ⟨b, g, O, u, as, ls, nx, rfl, (ask2.ex (e3.trans e4)).bk, fun hv H' hB' => k H' g (-5) rfl ?_ ?_, fun hv H' hB' => k H' g _ rfl ?_ ?_⟩
      · dsimp only [Sm15.step]
        rw [if_neg gy, if_pos hv]
        exact hB'
      · dsimp only [Sm15.step]
        rw [if_neg gy, if_pos hv]
      · dsimp only [Sm15.step]
        rw [if_neg gy, if_neg hv]
        exact hB'
      · dsimp only [Sm15.step]
        rw [if_neg gy, if_neg hv]
    | bound a d z =>
      obtain ⟨rfl, rfl⟩ : op = 2 ∧ ns = [(a : Int), (d : Int), z] := by cases hc; exact ⟨rfl, rfl⟩
      refine go_no (num (by decide)) (go_no (num (by decide)) (go_yes (num (by decide)) fun H3 e3 => ?_)) H2 (Ex.refl _)
      refine s_retM (ev_var (i := 0) rfl) (ask2.ex e3).bk.at_.ob (bF_m (by decide +kernel)) (ea_cons (nth 0 _ e3 rfl) (ea_cons (nth 1 _ e3 rfl) (ea_cons (nth 2 _ e3 rfl) ea_nil))) fun H4 e4 => ⟨b, g, O, u, as, ls, nx, a, d, z, rfl, (ask2.ex (e3.trans e4)).bk, fun hg H' hB' => k H' g (-1) rfl ?_ ?_, fun hg hv H' hB' => k H' g (-5) rfl ?_ ?_, fun hg hv H' hB' => k H' g _ rfl ?_ ?_⟩
      · dsimp only [Sm15.step]
        rw [if_pos hg]
        exact hB'
      · dsimp only [Sm15.step]
        rw [if_pos hg]
      · dsimp only [Sm15.step]
        rw [if_neg (by rw [hg]; decide), if_pos hv]
        exact hB'
      · dsimp only [Sm15.step]
        rw [if_neg (by rw [hg]; decide), if_pos hv]
      · dsimp only [Sm15.step]
        rw [if_neg (by rw [hg]; decide), if_neg hv]
        exact hB'
      · dsimp only [Sm15.step]
        rw [if_neg (by rw [hg]; decide), if_neg hv]
    | claim l h =>
      obtain ⟨rfl, rfl⟩ : op = 3 ∧ rows = [l] := by cases hc; exact ⟨rfl, rfl⟩
      refine go_no (num (by decide)) (go_no (num (by decide)) (go_no (num (by decide)) (go_yes (num (by decide)) fun H3 e3 => ?_))) H2 (Ex.refl _)
      obtain ⟨aL, ha, rd⟩ := row 0 l e3 rfl
      refine s_retM (ev_var (i := 0) rfl) (ask2.ex e3).bk.at_.ob (bF_m (by decide +kernel)) (ea_cons rd ea_nil) fun H4 e4 => ⟨b, g, O, u, as, ls, nx, aL, l, rfl, (ask2.ex (e3.trans e4)).bk, sq_of (e4 _ _ ha), by omega, lok, fun H' hB' => k H' g _ rfl (by rw [step_claim]; exact hB') (by rw [step_claim])⟩
    | bounds l h =>
      obtain ⟨rfl, rfl⟩ : op = 4 ∧ rows = [l] := by cases hc; exact ⟨rfl, rfl⟩
      refine go_no (num (by decide)) (go_no (num (by decide)) (go_no (num (by decide)) (go_no (num (by decide)) (go_yes (num (by decide)) fun H3 e3 => ?_)))) H2 (Ex.refl _)
      obtain ⟨aL, ha, rd⟩ := row 0 l e3 rfl
      exact s_retM (ev_var (i := 0) rfl) (ask2.ex e3).bk.at_.ob (bF_m (by decide +kernel)) (ea_cons rd ea_nil) fun H4 e4 => ⟨b, aL, l, rfl, der (e3.trans e4) rfl (e4 _ _ ha) h (by show 0 ≤ 60; decide)⟩
    | joined i j a l h =>
      obtain ⟨rfl, rfl, rfl⟩ : op = 5 ∧ ns = [(i : Int), (j : Int), (a : Int)] ∧ rows = [l] := by cases hc; exact ⟨rfl, rfl, rfl⟩
      refine go_no (num (by decide)) (go_no (num (by decide)) (go_no (num (by decide)) (go_no (num (by decide)) (go_no (num (by decide)) (go_yes (num (by decide)) fun H3 e3 => ?_))))) H2 (Ex.refl _)
      obtain ⟨aL, ha, rd⟩ := row 0 l e3 rfl
      exact s_retM (ev_var (i := 0) rfl) (ask2.ex e3).bk.at_.ob (bF_m (by decide +kernel)) (ea_cons (nth 0 _ e3 rfl) (ea_cons (nth 1 _ e3 rfl) (ea_cons (nth 2 _ e3 rfl) (ea_cons rd ea_nil)))) fun H4 e4 => ⟨b, aL, i, j, a, l, rfl, der (e3.trans e4) rfl (e4 _ _ ha) h (by show 2 ≤ 60; decide)⟩
    | wider i l h =>
      obtain ⟨rfl, rfl, rfl⟩ : op = 6 ∧ ns = [(i : Int)] ∧ rows = [l] := by cases hc; exact ⟨rfl, rfl, rfl⟩
      refine go_no (num (by decide)) (go_no (num (by decide)) (go_no (num (by decide)) (go_no (num (by decide)) (go_no (num (by decide)) (go_no (num (by decide)) (go_yes (num (by decide)) fun H3 e3 => ?_)))))) H2 (Ex.refl _)
      obtain ⟨aL, ha, rd⟩ := row 0 l e3 rfl
      exact s_retM (ev_var (i := 0) rfl) (ask2.ex e3).bk.at_.ob (bF_m (by decide +kernel)) (ea_cons (nth 0 _ e3 rfl) (ea_cons rd ea_nil)) fun H4 e4 => ⟨b, aL, i, l, rfl, der (e3.trans e4) rfl (e4 _ _ ha) h (by show 1 ≤ 60; decide)⟩
    | chain ks l hk h =>
      obtain ⟨rfl, rfl⟩ : op = 7 ∧ rows = [ks.map fun (n : Nat) => (n : Int), l] := by cases hc; exact ⟨rfl, rfl⟩
      refine go_no (num (by decide)) (go_no (num (by decide)) (go_no (num (by decide)) (go_no (num (by decide)) (go_no (num (by decide)) (go_no (num (by decide)) (go_no (num (by decide)) (go_yes (num (by decide)) fun H3 e3 => ?_))))))) H2 (Ex.refl _)
      obtain ⟨aK, hak, rdk⟩ := row 0 (ks.map fun (n : Nat) => (n : Int)) e3 rfl
      obtain ⟨aL, ha, rd⟩ := row 1 l e3 rfl
      refine s_retM (ev_var (i := 0) rfl) (ask2.ex e3).bk.at_.ob (bF_m (by decide +kernel)) (ea_cons rdk (ea_cons rd ea_nil)) fun H4 e4 => ⟨b, aL, aK, ks, l, rfl, ?_, der (e3.trans e4) rfl (e4 _ _ ha) h (by show ks.length ≤ 60; omega)⟩
      have := e4 _ _ hak
      rw [List.map_map] at this
      exact sq_of this
    | drop n =>
      obtain ⟨rfl, rfl⟩ : op = 8 ∧ ns = [(n : Int)] := by cases hc; exact ⟨rfl, rfl⟩
      refine go_no (num (by decide)) (go_no (num (by decide)) (go_no (num (by decide)) (go_no (num (by decide)) (go_no (num (by decide)) (go_no (num (by decide)) (go_no (num (by decide)) (go_no (num (by decide)) (go_yes (num (by decide)) fun H3 e3 => ?_)))))))) H2 (Ex.refl _)
      exact s_retM (ev_var (i := 0) rfl) (ask2.ex e3).bk.at_.ob (bF_m (by decide +kernel)) (ea_cons (nth 0 _ e3 rfl) ea_nil) fun H4 e4 => ⟨b, g, O, u, as, ls, nx, n, rfl, (ask2.ex (e3.trans e4)).bk, by have : ls.length ≤ 12001 := ll; omega, ask.ok.now.ok.wf, fun x hx => by have := ask.ok.now.ok.src x hx; omega, fun H' hB' => k H' g _ rfl (by rw [step_drop]; exact hB') (by rw [step_drop])⟩
    | mark =>
      obtain ⟨rfl, rfl⟩ : op = 9 ∧ ns = [] := by cases hc; exact ⟨rfl, rfl⟩
      refine go_no (num (by decide)) (go_no (num (by decide)) (go_no (num (by decide)) (go_no (num (by decide)) (go_no (num (by decide)) (go_no (num (by decide)) (go_no (num (by decide)) (go_no (num (by decide)) (go_no (num (by decide)) fun H3 e3 => ?_)))))))) H2 (Ex.refl _)
      have ml : mk.length = g.ms.length := by rw [hmk, List.length_map]
      refine s_retM (ev_var (i := 0) rfl) (ask2.ex e3).bk.at_.ob (bF_m (by decide +kernel)) ea_nil fun H4 e4 => ⟨b, g, O, u, as, ls, nx, rfl, (ask2.ex (e3.trans e4)).bk, fun hv H' hB' => k H' g (-5) ?_ ?_ ?_, fun hv H' g' hg' hB' => k H' g' _ ?_ ?_ ?_⟩
      · show g.ms = if 8 ≤ g.ms.length then g.ms else _
        rw [if_pos hv]
      · dsimp only [Sm15.step]
        rw [if_pos (by omega)]
        exact hB'
      · dsimp only [Sm15.step]
        rw [if_pos (by omega)]
      · show g'.ms = if 8 ≤ g.ms.length then g.ms else _
        rw [if_neg hv]
        exact hg'
      · dsimp only [Sm15.step]
        rw [if_neg (by omega)]
        exact hB'
      · dsimp only [Sm15.step]
        rw [if_neg (by omega), ml]
    | back => cases hone
    | decide => cases hone
    | prove => cases hone
    | «show» n => cases hone
    | rests n => cases hone
    | came n => cases hone
    | judge l ts ht h => cases hone
    | reason l h => cases hone
end
end Cp
/-! Cp25 -/
namespace Cp
open PySem PySem.Spec PyProof.Rows L2 Evl
theorem keptP_len (n : Nat) : ∀ (l got : List Sm15.Line), got.length ≤ (keptP n l got).length
  | [], got => Nat.le_refl _
  | x :: l, got => by
    show got.length ≤ (if stays n got x = true then keptP n l (got ++ [x]) else keptP n l got).length
    split
    · have := keptP_len n l (got ++ [x])
      rw [List.length_append] at this
      have : got.length + 1 ≤ _ := this
      omega
    · exact keptP_len n l got
section
variable {P : Program} {w : World} {K : PySem.W.Frag} {mg : Str → Option Value} {base : Heap} {D : Ad}
/-! ### answer_of -/
def spAo (K : PySem.W.Frag) (D : Ad) : Sp := fun vs H Q _ => ∃ (O : Hp) (b p : Addr) (g : Pl) (s : Sm15.St) (t : Nat) (c : List (List Int)) (x : Sm15.Call), vs = [.ref b, .ref p] ∧ AskOk K D H O b p g s t c x ∧
  ∀ (H' : Hp) (g' : Pl) (r : Addr), g'.ms = msAfter s g.ms x → BkS K D H' O b g' (Sm15.step s x).1 → H' r = some (.lst ((Sm15.step s x).2.map V.int)) → Q (.ref r) H'
theorem ok_answer_of (T : Txt K mg D) : FnOk P w K mg base CX0 24 D.a_answer_of D.d_answer_of ["book", "call"] (spAo K D) := by
  refine T.f_answer_of.ok sc_answer_of (fun vs H Q E h => ?_) (fun cdv A outer s H vs Q E hr h => ?_)
  · obtain ⟨_, _, _, _, _, _, _, _, rfl, _⟩ := h
    rfl
  · obtain ⟨O, b, p, g, st, t, c, x, rfl, ask, k⟩ := h
    refine ⟨_, (pss_cons (ps_if (pt_cmpR op_le (pe_fld (pv 1) rfl) (pe_gi (by rfl) T.c_MARK) (nomark _)) (pss_one (ps_ret (pe_lst (pa_cons (pe_call (ok_one_number T) (hr.mono (by decide)) (by rfl) T.g_one_number T.f_one_number.kp T.n_one_number .nil pass0 (pa_cons (pv 0) (pa_cons (pv 1) pa_nil))) pa_nil)))) pss_nil)
      (pss_cons (ps_if (pt_cmpR op_eq (pe_fld (pv 1) rfl) (pe_gi (by rfl) T.c_BACK) (nomark _)) (pss_one (ps_ret (pe_meth0 (pv 0) T.k_Book T.t_Book_back (ok_Book_back T) (hr.mono (by decide)) T.n_Book_back .nil pass0))) pss_nil)
      (pss_cons (ps_if (pt_cmpR op_eq (pe_fld (pv 1) rfl) (pe_gi (by rfl) T.c_DECIDE) (nomark _)) (pss_one (ps_ret (pe_meth0 (pv 0) T.k_Book T.t_Book_decide (ok_Book_decide T) (hr.mono (by decide)) T.n_Book_decide .nil pass0))) pss_nil)
      (pss_cons (ps_if (pt_cmpR op_eq (pe_fld (pv 1) rfl) (pe_gi (by rfl) T.c_PROVE) (nomark _)) (pss_one (ps_ret (pe_meth0 (pv 0) T.k_Book T.t_Book_prove (ok_Book_prove T) hr T.n_Book_prove .nil pass0))) pss_nil)
      (pss_cons (ps_if (pt_cmpR op_eq (pe_fld (pv 1) rfl) (pe_gi (by rfl) T.c_SHOW) (nomark _)) (pss_one (ps_ret (pe_meth (pv 0) T.k_Book T.t_Book_show (ok_Book_show T) (hr.mono (by decide)) T.n_Book_show .nil pass0 (pa_cons (pe_ix ix_list (pe_fld (pv 1) rfl) pe_int (fun _ _ => rfl)) pa_nil)))) pss_nil)
      (pss_cons (ps_if (pt_cmpR op_eq (pe_fld (pv 1) rfl) (pe_gi (by rfl) T.c_RESTS) (nomark _)) (pss_one (ps_ret (pe_meth (pv 0) T.k_Book T.t_Book_rests (ok_Book_rests T) (hr.mono (by decide)) T.n_Book_rests .nil pass0 (pa_cons (pe_ix ix_list (pe_fld (pv 1) rfl) pe_int (fun _ _ => rfl)) pa_nil)))) pss_nil)
      (pss_cons (ps_if (pt_cmpR op_eq (pe_fld (pv 1) rfl) (pe_gi (by rfl) T.c_CAME) (nomark _)) (pss_one (ps_ret (pe_meth (pv 0) T.k_Book T.t_Book_came (ok_Book_came T) (hr.mono (by decide)) T.n_Book_came .nil pass0 (pa_cons (pe_ix ix_list (pe_fld (pv 1) rfl) pe_int (fun _ _ => rfl)) pa_nil)))) pss_nil)
      (pss_cons (ps_if (pt_cmpR op_eq (pe_fld (pv 1) rfl) (pe_gi (by rfl) T.c_JUDGE) (nomark _)) (pss_one (ps_ret (pe_meth (pv 0) T.k_Book T.t_Book_judge (ok_Book_judge T) (hr.mono (by decide)) T.n_Book_judge .nil pass0 (pa_cons (pe_ix ix_list (pe_fld (pv 1) rfl) pe_int (fun _ _ => rfl)) pa_nil)))) pss_nil)
      (pss_one (ps_ret (pe_meth (pv 0) T.k_Book T.t_Book_reason (ok_Book_reason T) (hr.mono (by decide)) T.n_Book_reason .nil pass0 (pa_cons (pe_ix ix_list (pe_fld (pv 1) rfl) pe_int (fun _ _ => rfl)) pa_nil)))))))))))), ?_⟩
    obtain ⟨dx, an, ar, op, ns, rows, rs, hc, hp, han, har, hrows⟩ := (CallAt.mono ask.bk.rest ask.at_).ex
    have fnum : Ev (tFld K (tVar 1) "number") [some (.ref b), some (.ref p)] H (.int op) := ev_fld (ev_var (i := 1) rfl) hp T.k_Call T.x_Call_number cF_number
    have num : ∀ {n : Int} {v : Bool}, decide (op = n) = v → EvT (tTest (tOp rEq (tFld K (tVar 1) "number") (tC (.int n)))) [some (.ref b), some (.ref p)] H v := fun h => et_is (et_test (ev_eq fnum ev_c)) h
    have le9 : ∀ {v : Bool}, decide (op ≤ 9) = v → EvT (tTest (tOp (rI0 fun i j => .bl (decide (i ≤ j))) (tFld K (tVar 1) "number") (tC (.int 9)))) [some (.ref b), some (.ref p)] H v := fun h => et_is (et_test (ev_le fnum ev_c)) h
    have fns : ∀ {H3} (j : Nat) (z : Int), Ex H H3 → ns[j]? = some z → Ev (tOp (rIxL K) (tFld K (tVar 1) "numbers") (tC (.int (j : Int)))) [some (.ref b), some (.ref p)] H3 (.int z) := fun j z e hj => ev_ixL (ev_fld (ev_var (i := 1) rfl) (e _ _ hp) T.k_Call T.x_Call_numbers cF_numbers) (sq_of (e _ _ han)) ev_c (atI_nat (by rw [List.getElem?_map, hj]; rfl))
    have row : ∀ {H3} (j : Nat) (l : List Int), Ex H H3 → rows[j]? = some l → ∃ a, H3 a = some (.lst (l.map V.int)) ∧ Ev (tOp (rIxL K) (tFld K (tVar 1) "rows") (tC (.int (j : Int)))) [some (.ref b), some (.ref p)] H3 (.ref a) := fun j l e hj => by
      obtain ⟨a, ha, hR⟩ := pr_get hrows hj
      exact ⟨a, e _ _ hR, ev_ixL (ev_fld (ev_var (i := 1) rfl) (e _ _ hp) T.k_Call T.x_Call_rows cF_rows) (sq_of (e _ _ har)) ev_c (atI_nat (by rw [List.getElem?_map, ha]; rfl))⟩
    have ll := ok_len ask.ok ask.t40
    have cl := ok_cl ask.ok
    have hu4 := ask.ok.u1.2
    have aok := ask.ok.now.aok
    have bok := ask.ok.now.ok
    have al8 := ask.ok.now.al
    have oneS : isOne x = true → ∀ (B : Ends), B.rt = Q → ∀ H1, Ex H H1 → tRet (tLst (tCons (tCall (spOne K D) [] E0 (tCons (tVar 0) (tCons (tVar 1) tNil))) tNil)) B [some (.ref b), some (.ref p)] H1 := fun hone B hB H1 e1 => by
      refine ⟨_, rfl, _, rfl, O, b, p, g, _, t, c, x, rfl, ask.ex e1, hone, fun H' g' z hg' hB' hz => ⟨by show 1 ≤ sizeLine; decide, fun r hr => ?_⟩⟩
      rw [hB]
      refine k _ g' r hg' (hB'.ex (Ex.new hr)) ?_
      rw [upd_same, hz]
      rfl
    obtain ⟨u, ⟨as, ls⟩, nx, mk⟩ := st
    have ll : ls.length ≤ 12001 := ll
    have hmk : mk = g.ms.map (·.1) := ask.mok.is
    -- a call that leaves the book
    have rd : ∀ {H3 : Hp} {res : List Int}, Ex H H3 → Sm15.step ⟨u, ⟨as, ls⟩, nx, mk⟩ x = (⟨u, ⟨as, ls⟩, nx, mk⟩, res) → msAfter ⟨u, ⟨as, ls⟩, nx, mk⟩ g.ms x = g.ms → RetL (res.map V.int) H3 Q := fun {H3 res} e3 hst hms r H4 nr e4 hr => k H4 g r hms.symm (by rw [hst]; exact (ask.ex (e3.trans e4)).bk) (by rw [hst]; exact hr)
    generalize hx : x = y at *
    cases ask.is with
    | start v =>
      obtain ⟨rfl, rfl⟩ : op = 0 ∧ ns = [(v : Int)] := by cases hc; exact ⟨rfl, rfl⟩
      exact go_yes (le9 (by decide)) (oneS rfl _ rfl) H (Ex.refl _)
    | yes =>
      obtain ⟨rfl, rfl⟩ : op = 1 ∧ ns = [] := by cases hc; exact ⟨rfl, rfl⟩
      exact go_yes (le9 (by decide)) (oneS rfl _ rfl) H (Ex.refl _)
    | bound a d z =>
      obtain ⟨rfl, rfl⟩ : op = 2 ∧ ns = [(a : Int), (d : Int), z] := by cases hc; exact ⟨rfl, rfl⟩
      exact go_yes (le9 (by decide)) (oneS rfl _ rfl) H (Ex.refl _)
    | claim l h =>
      obtain ⟨rfl, rfl⟩ : op = 3 ∧ rows = [l] := by cases hc; exact ⟨rfl, rfl⟩
      exact go_yes (le9 (by decide)) (oneS rfl _ rfl) H (Ex.refl _)
    | bounds l h =>
      obtain ⟨rfl, rfl⟩ : op = 4 ∧ rows = [l] := by cases hc; exact ⟨rfl, rfl⟩
      exact go_yes (le9 (by decide)) (oneS rfl _ rfl) H (Ex.refl _)
    | joined i j a l h =>
      obtain ⟨rfl, rfl⟩ : op = 5 ∧ rows = [l] := by cases hc; exact ⟨rfl, rfl⟩
      exact go_yes (le9 (by decide)) (oneS rfl _ rfl) H (Ex.refl _)
    | wider i l h =>
      obtain ⟨rfl, rfl⟩ : op = 6 ∧ rows = [l] := by cases hc; exact ⟨rfl, rfl⟩
      exact go_yes (le9 (by decide)) (oneS rfl _ rfl) H (Ex.refl _)
    | chain ks l hk h =>
      obtain ⟨rfl, rfl⟩ : op = 7 ∧ ns = [] := by cases hc; exact ⟨rfl, rfl⟩
      exact go_yes (le9 (by decide)) (oneS rfl _ rfl) H (Ex.refl _)
    | drop n =>
      obtain ⟨rfl, rfl⟩ : op = 8 ∧ ns = [(n : Int)] := by cases hc; exact ⟨rfl, rfl⟩
      exact go_yes (le9 (by decide)) (oneS rfl _ rfl) H (Ex.refl _)
    | mark =>
      obtain ⟨rfl, rfl⟩ : op = 9 ∧ ns = [] := by cases hc; exact ⟨rfl, rfl⟩
      exact go_yes (le9 (by decide)) (oneS rfl _ rfl) H (Ex.refl _)
    | back =>
      obtain ⟨rfl, rfl⟩ : op = 10 ∧ ns = [] := by cases hc; exact ⟨rfl, rfl⟩
      refine go_no (le9 (by decide)) (go_yes (num (by decide)) fun H3 e3 => ?_) H (Ex.refl _)
      refine s_retM (ev_var (i := 0) rfl) (ask.ex e3).bk.at_.ob (bF_m (by decide +kernel)) ea_nil fun H4 e4 => ⟨b, g, O, u, as, ls, nx, rfl, (ask.ex (e3.trans e4)).bk, by omega, bok.wf.nodup, fun x hx => ⟨by have := cl x hx; omega, by have := bok.src x hx; omega, ask.mok.j x hx⟩, fun hms H' r hB' hr => ?_, fun m ms hms => ?_⟩
      · have hmk0 : mk = [] := by rw [hmk, hms]; rfl
        subst hmk0
        exact k H' g r (by show g.ms = g.ms.tail; rw [hms]; rfl) hB' hr
      · have hm : m ∈ g.ms := by rw [hms]; simp
        have hmk1 : mk = m.1 :: ms.map (·.1) := by rw [hmk, hms]; rfl
        obtain ⟨o1, o2⟩ := ask.mok.old m hm
        have sok := ask.ok.marks m.1 (by rw [hmk1]; simp)
        have ml : m.1.lines.length ≤ 12001 := by
          have h1 := sok.ok.len
          have h2 := ask.ok.next
          have : 300 * t ≤ 300 * 40 := Nat.mul_le_mul_left 300 ask.t40
          have h1 : m.1.lines.length ≤ nx := h1
          have h2 : nx ≤ 1 + 300 * t := h2
          omega
        refine ⟨by omega, o1, fun H' r g' ls' hg' hls' hB' hr => ?_⟩
        have hk := kept_prog (n := m.1.atoms.length) (mn := m.2) ls m.1.lines bok.wf.nodup (fun x hx lt => ask.mok.now m hm x hx lt) (fun x hx le hin => by
          obtain ⟨y, hy, e⟩ := List.mem_map.mp hin
          have h1 := o1 y hy
          have e : y.num = x.num := e
          omega)
        rw [← hk] at hls'
        have len : m.1.lines.length ≤ ls'.length := by rw [hls', hk]; exact keptP_len _ _ _
        subst hmk1
        refine k H' g' r (by show g'.ms = g.ms.tail; rw [hms, hg']; rfl) (by
          show Bk K D H' O b g' u m.1.atoms (Sm15.kept m.1.atoms.length ls m.1.lines) nx
          rw [← hls']
          exact hB') ?_
        show H' r = some (.lst (([(((Sm15.kept m.1.atoms.length ls m.1.lines).length : Nat) : Int), (((Sm15.kept m.1.atoms.length ls m.1.lines).length - m.1.lines.length : Nat) : Int)] : List Int).map V.int))
        rw [← hls', hr]
        congr 4
        congr 2
        omega
    | decide =>
      obtain ⟨rfl, rfl⟩ : op = 11 ∧ ns = [] := by cases hc; exact ⟨rfl, rfl⟩
      refine go_no (le9 (by decide)) (go_no (num (by decide)) (go_yes (num (by decide)) fun H3 e3 => ?_)) H (Ex.refl _)
      exact s_retM (ev_var (i := 0) rfl) (ask.ex e3).bk.at_.ob (bF_m (by decide +kernel)) ea_nil fun H4 e4 => ⟨b, g, u, as, ls, nx, rfl, (ask.ex (e3.trans e4)).bk.at_, al8, by omega, bok.wf.nodup, fun x hx => by have := cl x hx; omega, fun x hx => (bok.lits x hx).1, hu4, aok, rd (e3.trans e4) (step_decide ..) rfl⟩
    | prove =>
      obtain ⟨rfl, rfl⟩ : op = 12 ∧ ns = [] := by cases hc; exact ⟨rfl, rfl⟩
      refine go_no (le9 (by decide)) (go_no (num (by decide)) (go_no (num (by decide)) (go_yes (num (by decide)) fun H3 e3 => ?_))) H (Ex.refl _)
      refine s_retM (ev_var (i := 0) rfl) (ask.ex e3).bk.at_.ob (bF_m (by decide +kernel)) ea_nil fun H4 e4 => ⟨b, g, O, u, as, ls, nx, rfl, (ask.ex (e3.trans e4)).bk, al8, hu4, aok, bok, by omega, fun hn H' r hB' hr => ?_, fun r hs => ⟨fun h3 H' q hB' hr => ?_, fun h3 H' q g' hg' hB' hr => ?_⟩⟩
      · refine k H' g r rfl ?_ ?_
        · dsimp only [Sm15.step]
          rw [hn]
          exact hB'
        · dsimp only [Sm15.step]
          rw [hn]
          exact hr
      · refine k H' g q rfl ?_ ?_
        · dsimp only [Sm15.step]
          rw [hs]
          dsimp only
          rw [if_pos h3]
          exact hB'
        · dsimp only [Sm15.step]
          rw [hs]
          dsimp only
          rw [if_pos h3]
          exact hr
      · obtain ⟨_, ⟨new, b2, b3, _⟩, _⟩ := prove_ok _ _ _ _ _ hs (show BOk as.length ls nx from bok) (fun y hy => by simp at hy) (by decide) (show 1 + as.length ≤ as.length + 1 by omega)
        refine k H' g' q hg' ?_ ?_
        · dsimp only [Sm15.step]
          rw [hs]
          dsimp only
          rw [if_neg h3]
          exact hB'
        · dsimp only [Sm15.step]
          rw [hs]
          dsimp only
          rw [if_neg h3, hr]
          have b2 : r.1.lines = ls ++ new := b2
          have b3 : r.1.next = nx + new.length := b3
          have : (r.1.next : Int) - (nx : Int) = ((r.1.lines.length - ls.length : Nat) : Int) := by rw [b2, b3, List.length_append]; omega
          rw [this]
          rfl
    | «show» n =>
      obtain ⟨rfl, rfl⟩ : op = 13 ∧ ns = [(n : Int)] := by cases hc; exact ⟨rfl, rfl⟩
      refine go_no (le9 (by decide)) (go_no (num (by decide)) (go_no (num (by decide)) (go_no (num (by decide)) (go_yes (num (by decide)) fun H3 e3 => ?_)))) H (Ex.refl _)
      exact s_retM (ev_var (i := 0) rfl) (ask.ex e3).bk.at_.ob (bF_m (by decide +kernel)) (ea_cons (fns 0 _ e3 rfl) ea_nil) fun H4 e4 => ⟨b, g, u, as, ls, nx, n, rfl, (ask.ex (e3.trans e4)).bk.at_, fun x hx => ⟨by have := bok.src x hx; omega, by have := cl x hx; omega⟩, rd (e3.trans e4) (step_show ..) rfl⟩
    | rests n =>
      obtain ⟨rfl, rfl⟩ : op = 14 ∧ ns = [(n : Int)] := by cases hc; exact ⟨rfl, rfl⟩
      refine go_no (le9 (by decide)) (go_no (num (by decide)) (go_no (num (by decide)) (go_no (num (by decide)) (go_no (num (by decide)) (go_yes (num (by decide)) fun H3 e3 => ?_))))) H (Ex.refl _)
      exact s_retM (ev_var (i := 0) rfl) (ask.ex e3).bk.at_.ob (bF_m (by decide +kernel)) (ea_cons (fns 0 _ e3 rfl) ea_nil) fun H4 e4 => ⟨b, g, u, as, ls, nx, n, rfl, (ask.ex (e3.trans e4)).bk.at_, by omega, bok.wf, rd (e3.trans e4) (step_rests ..) rfl⟩
    | came n =>
      obtain ⟨rfl, rfl⟩ : op = 15 ∧ ns = [(n : Int)] := by cases hc; exact ⟨rfl, rfl⟩
      refine go_no (le9 (by decide)) (go_no (num (by decide)) (go_no (num (by decide)) (go_no (num (by decide)) (go_no (num (by decide)) (go_no (num (by decide)) (go_yes (num (by decide)) fun H3 e3 => ?_)))))) H (Ex.refl _)
      exact s_retM (ev_var (i := 0) rfl) (ask.ex e3).bk.at_.ob (bF_m (by decide +kernel)) (ea_cons (fns 0 _ e3 rfl) ea_nil) fun H4 e4 => ⟨b, g, u, as, ls, nx, n, rfl, (ask.ex (e3.trans e4)).bk.at_, by omega, bok.wf, rd (e3.trans e4) (step_came ..) rfl⟩
    | judge l ts ht h =>
      obtain ⟨rfl, rfl⟩ : op = 16 ∧ rows = [l] := by cases hc; exact ⟨rfl, rfl⟩
      refine go_no (le9 (by decide)) (go_no (num (by decide)) (go_no (num (by decide)) (go_no (num (by decide)) (go_no (num (by decide)) (go_no (num (by decide)) (go_no (num (by decide)) (go_yes (num (by decide)) fun H3 e3 => ?_))))))) H (Ex.refl _)
      obtain ⟨aL, ha, rdl⟩ := row 0 l e3 rfl
      exact s_retM (ev_var (i := 0) rfl) (ask.ex e3).bk.at_.ob (bF_m (by decide +kernel)) (ea_cons rdl ea_nil) fun H4 e4 => ⟨b, g, u, as, ls, nx, aL, l, l.length, ts, rfl, (ask.ex (e3.trans e4)).bk.at_, sq_of (e4 _ _ ha), h, ht, by have := told_count ht; omega, al8, hu4, aok, by omega, fun x hx => ⟨bok.lt x hx, by have := cl x hx; omega⟩, rd (e3.trans e4) (step_judge ..) rfl⟩
    | reason l h =>
      obtain ⟨rfl, rfl⟩ : op = 17 ∧ rows = [l] := by cases hc; exact ⟨rfl, rfl⟩
      refine go_no (le9 (by decide)) (go_no (num (by decide)) (go_no (num (by decide)) (go_no (num (by decide)) (go_no (num (by decide)) (go_no (num (by decide)) (go_no (num (by decide)) (go_no (num (by decide)) fun H3 e3 => ?_))))))) H (Ex.refl _)
      obtain ⟨aL, ha, rdl⟩ := row 0 l e3 rfl
      exact s_retM (ev_var (i := 0) rfl) (ask.ex e3).bk.at_.ob (bF_m (by decide +kernel)) (ea_cons rdl ea_nil) fun H4 e4 => ⟨b, g, u, as, ls, nx, aL, l, rfl, (ask.ex (e3.trans e4)).bk.at_, sq_of (e4 _ _ ha), by omega, hu4, aok, rd (e3.trans e4) (step_reason ..) rfl⟩
end
end Cp
/-! Cp26 -/
namespace Cp
open PySem PySem.Spec PyProof.Rows L2 Evl
namespace Z
/-! ### what is new -/
def nw (B H : Hp) : Hp := fun b => match B b with
  | none => H b
  | some _ => none
theorem nw_at {B H : Hp} {b : Addr} (h : B b = none) : nw B H b = H b := by
  unfold nw
  rw [h]
theorem nw_out {B H : Hp} {b : Addr} {o : HO} (h : B b = some o) : nw B H b = none := by
  unfold nw
  rw [h]
theorem nw_ex {B H : Hp} : Ex (nw B H) H := fun b x h => by
  cases c : B b with
  | none => rw [nw_at c] at h; exact h
  | some o => rw [nw_out c] at h; cases h
theorem nw_mono {B H H' : Hp} (e : Ex H H') : Ex (nw B H) (nw B H') := fun b x h => by
  cases c : B b with
  | none => rw [nw_at c] at h ⊢; exact e _ _ h
  | some o => rw [nw_out c] at h; cases h
theorem formed {op : Int} {n k : Nat} (h : PySm15.shape op = some (n, k)) : 0 ≤ op ∧ ([[1, 0], [0, 0], [3, 0], [0, 1], [0, 1], [3, 1], [1, 1], [0, 2], [1, 0], [0, 0], [0, 0], [0, 0], [0, 0], [1, 0], [1, 0], [1, 0], [0, 1], [0, 1]] : List (List Int))[op.toNat]? = some [(n : Int), (k : Int)] := by
  unfold PySm15.shape at h
  by_cases c0 : op = 0
  · subst c0
    injection h with h
    injection h with h1 h2
    subst h1 h2
    exact ⟨by decide, rfl⟩
  rw [if_neg c0] at h
  by_cases c1 : op = 1
  · subst c1
    injection h with h
    injection h with h1 h2
    subst h1 h2
    exact ⟨by decide, rfl⟩
  rw [if_neg c1] at h
  by_cases c2 : op = 2
  · subst c2
    injection h with h
    injection h with h1 h2
    subst h1 h2
    exact ⟨by decide, rfl⟩
  rw [if_neg c2] at h
  by_cases c3 : op = 3
  · subst c3
    injection h with h
    injection h with h1 h2
    subst h1 h2
    exact ⟨by decide, rfl⟩
  rw [if_neg c3] at h
  by_cases c4 : op = 4
  · subst c4
    injection h with h
    injection h with h1 h2
    subst h1 h2
    exact ⟨by decide, rfl⟩
  rw [if_neg c4] at h
  by_cases c5 : op = 5
  · subst c5
    injection h with h
    injection h with h1 h2
    subst h1 h2
    exact ⟨by decide, rfl⟩
  rw [if_neg c5] at h
  by_cases c6 : op = 6
  · subst c6
    injection h with h
    injection h with h1 h2
    subst h1 h2
    exact ⟨by decide, rfl⟩
  rw [if_neg c6] at h
  by_cases c7 : op = 7
  · subst c7
    injection h with h
    injection h with h1 h2
    subst h1 h2
    exact ⟨by decide, rfl⟩
  rw [if_neg c7] at h
  by_cases c8 : op = 8
  · subst c8
    injection h with h
    injection h with h1 h2
    subst h1 h2
    exact ⟨by decide, rfl⟩
  rw [if_neg c8] at h
  by_cases c9 : op = 9
  · subst c9
    injection h with h
    injection h with h1 h2
    subst h1 h2
    exact ⟨by decide, rfl⟩
  rw [if_neg c9] at h
  by_cases c10 : op = 10
  · subst c10
    injection h with h
    injection h with h1 h2
    subst h1 h2
    exact ⟨by decide, rfl⟩
  rw [if_neg c10] at h
  by_cases c11 : op = 11
  · subst c11
    injection h with h
    injection h with h1 h2
    subst h1 h2
    exact ⟨by decide, rfl⟩
  rw [if_neg c11] at h
  by_cases c12 : op = 12
  · subst c12
    injection h with h
    injection h with h1 h2
    subst h1 h2
    exact ⟨by decide, rfl⟩
  rw [if_neg c12] at h
  by_cases c13 : op = 13
  · subst c13
    injection h with h
    injection h with h1 h2
    subst h1 h2
    exact ⟨by decide, rfl⟩
  rw [if_neg c13] at h
  by_cases c14 : op = 14
  · subst c14
    injection h with h
    injection h with h1 h2
    subst h1 h2
    exact ⟨by decide, rfl⟩
  rw [if_neg c14] at h
  by_cases c15 : op = 15
  · subst c15
    injection h with h
    injection h with h1 h2
    subst h1 h2
    exact ⟨by decide, rfl⟩
  rw [if_neg c15] at h
  by_cases c16 : op = 16
  · subst c16
    injection h with h
    injection h with h1 h2
    subst h1 h2
    exact ⟨by decide, rfl⟩
  rw [if_neg c16] at h
  by_cases c17 : op = 17
  · subst c17
    injection h with h
    injection h with h1 h2
    subst h1 h2
    exact ⟨by decide, rfl⟩
  rw [if_neg c17] at h
  cases h
section
variable {P : Program} {w : World} {K : PySem.W.Frag} {mg : Str → Option Value} {base : Heap} {D : Ad}
def spSplit (K : PySem.W.Frag) (C : Addr) : Sp := fun vs H Q _ => ∃ (a : Addr) (ns : List Int) (f : Nat) (raw : List (List (List Int))), vs = [.ref a] ∧ SqL K H a (ns.map V.int) ∧ ns.length ≤ 30000 ∧ PyFlat.calls PySm15.shape f ns = some raw ∧
  ∀ (q : Addr) (H2 : Hp) (ps : List Addr), H q = none → Ex H H2 → H2 q = some (.lst (ps.map V.ref)) → Paired (CallAt C (nw H H2)) ps raw → Q (.ref q) H2
theorem ok_split_calls (T : Txt K mg D) : FnOk P w K mg base CX0 3 D.a_split_calls D.d_split_calls ["handed"] (spSplit K D.c_Call) := by
  refine T.f_split_calls.ok sc_split_calls (fun vs H Q E h => ?_) (fun cdv A outer s H vs Q E hr h => ?_)
  · obtain ⟨_, _, _, _, rfl, _⟩ := h
    rfl
  · obtain ⟨a, ns, f, raw, rfl, hS, hz, hraw, q⟩ := h
    refine ⟨_, (pss_cons (ps_set (i := 1) sc_split_calls.nd rfl (Or.inl rfl) (pe_lst pa_nil))
      (pss_cons (ps_set (i := 2) sc_split_calls.nd rfl (Or.inl rfl) pe_int)
      (pss_cons (ps_while PassesOwn.never (pt_cmpR op_lt (pv 2) (pe_callB call_len_seq (by rfl) T.b_len PySem.boot_len (pa_cons (pv 0) pa_nil)) (nomark _)) (pss_cons (ps_set (i := 3) sc_split_calls.nd rfl (Or.inl rfl) (pe_ix ix_list (pv 0) (pv 2) (fun _ _ => rfl)))
      (pss_cons (ps_set (i := 4) sc_split_calls.nd rfl (Or.inl rfl) (pe_ix ix_tup (pe_gr (by rfl) T.c_FORMS) (pv 3) (fun _ _ => rfl)))
      (pss_cons (ps_set (i := 5) sc_split_calls.nd rfl (Or.inl rfl) (pe_op op_add (pe_op op_add (pv 2) pe_int) (pe_ix ix_tup (pv 4) pe_int (fun _ _ => rfl))))
      (pss_cons (ps_set (i := 6) sc_split_calls.nd rfl (Or.inl rfl) (pe_slice sl_list (pv 0) (po_some (pe_op op_add (pv 2) pe_int)) (po_some (pv 5))))
      (pss_cons (ps_set (i := 2) sc_split_calls.nd rfl (Or.inl rfl) (pv 5))
      (pss_cons (ps_set (i := 7) sc_split_calls.nd rfl (Or.inl rfl) (pe_lst pa_nil))
      (pss_cons (ps_while PassesOwn.never (pt_cmpR op_lt (pe_callB call_len_seq (by rfl) T.b_len PySem.boot_len (pa_cons (pv 7) pa_nil)) (pe_ix ix_tup (pv 4) pe_int (fun _ _ => rfl)) (nomark _)) (pss_cons (ps_set (i := 8) sc_split_calls.nd rfl (Or.inl rfl) (pe_op op_add (pe_op op_add (pv 2) pe_int) (pe_ix ix_list (pv 0) (pv 2) (fun _ _ => rfl))))
      (pss_cons (ps_expr (pe_bm PySem.F.plainAttrs_list PySem.F.slot_list_append PySem.F.type_list_append mt_append (pv 7) (pa_cons (pe_slice sl_list (pv 0) (po_some (pe_op op_add (pv 2) pe_int)) (po_some (pv 8))) pa_nil)))
      (pss_one (ps_set (i := 2) sc_split_calls.nd rfl (Or.inl rfl) (pv 8))))))
      (pss_one (ps_expr (pe_bm PySem.F.plainAttrs_list PySem.F.slot_list_append PySem.F.type_list_append mt_append (pv 1) (pa_cons (pe_make T.m_Call (ok_Call___init__ T) hr (by rfl) T.g_Call T.n_Call___init__ .nil pass0 (pa_cons (pv 3) (pa_cons (pv 6) (pa_cons (pv 7) pa_nil)))) pa_nil))))))))))))
      (pss_one (ps_ret (pv 1)))))), ?_⟩
    refine q_asgL (el_lst ea_nil (Nat.zero_le _)) fun o H1 no e1 h1 => ?_
    refine q_asg ev_c fun H2 e2 => ?_
    refine q_while (fun m σ H' => ∃ (i f : Nat) (rest done : List (List (List Int))) (ps : List Addr) (y3 y4 y5 y6 y7 y8 : Option V), σ = [some (.ref a), some (.ref o), some (.int (i : Int)), y3, y4, y5, y6, y7, y8] ∧ m + i = ns.length ∧ Ex H H' ∧ H' o = some (.lst (ps.map V.ref)) ∧
        Paired (CallAt D.c_Call (nw H (hid o H'))) ps done ∧ PyFlat.calls PySm15.shape f (ns.drop i) = some rest ∧ raw = done ++ rest ∧ ps.length ≤ i) ns.length
      ⟨0, f, raw, [], [], none, none, none, none, none, none, rfl, rfl, e1.trans e2, e2 _ _ h1, .nil, hraw, rfl, Nat.le_refl _⟩ ?_
    rintro m σ Ha ⟨i, f, rest, done, ps, y3, y4, y5, y6, y7, y8, rfl, hm, e, ho, hP, hc, hr', hpl⟩
    have hS' := ex_l e hS
    have hlen : Ev (tCB (fun xs H Q => ∃ p ys, xs = [V.ref p] ∧ (SqL K H p ys ∨ SqT K H p ys) ∧ Q (.int ys.length) H) (tCons (tVar 0) tNil)) [some (.ref a), some (.ref o), some (.int (i : Int)), y3, y4, y5, y6, y7, y8] Ha (.int (ns.length : Int)) := by
      have z := ev_lenL (K := K) (σ := [some (.ref a), some (.ref o), some (.int (i : Int)), y3, y4, y5, y6, y7, y8]) (ta := tVar 0) (ev_var rfl) hS'
      rw [List.length_map] at z
      exact z
    refine ⟨_, et_test (ev_lt (ev_var (i := 2) rfl) hlen), fun hb H3 e3 => ?_, fun hb H3 e3 => ?_⟩
    · -- a turn
      have hi : i < ns.length := by
        have := of_decide_eq_true hb
        omega
      refine ⟨fun σ' H'' => ∃ (i' f : Nat) (rest done : List (List (List Int))) (ps : List Addr) (y3 y4 y5 y6 y7 y8 : Option V), i < i' ∧ i' ≤ ns.length ∧ σ' = [some (.ref a), some (.ref o), some (.int (i' : Int)), y3, y4, y5, y6, y7, y8] ∧ Ex H H'' ∧ H'' o = some (.lst (ps.map V.ref)) ∧
        Paired (CallAt D.c_Call (nw H (hid o H''))) ps done ∧ PyFlat.calls PySm15.shape f (ns.drop i') = some rest ∧ raw = done ++ rest ∧ ps.length ≤ i', fun σ' H'' ⟨i', f', rest', done', ps', z3, z4, z5, z6, z7, z8, h0, h0', hs, h1, h2, h3, h4, h5, h6⟩ => ⟨ns.length - i', by omega, i', f', rest', done', ps', z3, z4, z5, z6, z7, z8, hs, by omega, h1, h2, h3, h4, h5, h6⟩, ?_⟩
      obtain ⟨p, r, hpr⟩ : ∃ p r, ns.drop i = p :: r := by
        rw [List.drop_eq_getElem_cons hi]
        exact ⟨_, _, rfl⟩
      obtain ⟨_, hp, hd⟩ := drop_cons hpr
      rw [hpr] at hc
      obtain ⟨f', n, k, xs, t, rest', hsh, hn, hrows, hrest, hcs⟩ := calls_cons hc
      obtain ⟨hp0, hfo⟩ := formed hsh
      have hrl : r.length + (i + 1) = ns.length := by rw [← hd, List.length_drop]; omega
      have hS3 := ex_l e3 hS'
      -- number = handed[at]
      refine q_asg (v := .int p) (ev_ixL (ev_var (i := 0) rfl) hS3 (ev_var (i := 2) rfl) (atI_nat (by rw [List.getElem?_map, hp]; rfl))) fun H4 e4 => ?_
      -- form = FORMS[number]
      obtain ⟨fp, hf1, hf2⟩ := T.w_FORMS H4
      obtain ⟨fq, hfq, hfr⟩ := pr_get hf2 hfo
      refine q_asg (v := .ref fq) (ev_ixT ev_c hf1 (ev_var (i := 3) rfl) (at_of (j := p.toNat) (by omega) (by rw [List.getElem?_map, hfq]; rfl))) fun H5 e5 => ?_
      have hform5 : SqT K H5 fq [.int (n : Int), .int (k : Int)] := ex_t e5 hfr
      -- rows_at = at + 1 + form[0]
      refine q_asg (v := .int (((i + 1 + n : Nat)) : Int)) (ev_is (ev_add (ev_add (ev_var (i := 2) rfl) ev_c) (ev_ixT (v := .int (n : Int)) (ev_var (i := 4) rfl) hform5 ev_c rfl)) (congrArg V.int (by omega))) fun H6 e6 => ?_
      have hS6 := ex_l (e4.trans (e5.trans e6)) hS3
      -- numbers = handed[at + 1:rows_at]
      refine q_asgL (el_sl (ev_var (i := 0) rfl) (eo_some (ev_is (ev_add (ev_var (i := 2) rfl) ev_c) (show V.int ((i : Int) + 1) = V.int ((i + 1 : Nat) : Int) by congr 1))) (eo_some (ev_var (i := 5) rfl)) hS6) fun an H7 nan e7 han => ?_
      rw [cut_ints (by omega) (by omega), hd, show i + 1 + n - (i + 1) = n by omega] at han
      refine q_asg (ev_var (i := 5) rfl) fun H8 e8 => ?_
      refine q_asgL (el_lst ea_nil (Nat.zero_le _)) fun ar H9 nar e9 har => ?_
      have e39 : Ex H3 H9 := (((((e4.trans e5).trans e6).trans e7).trans e8).trans e9)
      have eH9 : Ex H H9 := (e.trans e3).trans e39
      have ho9 : H9 o = some (.lst (ps.map V.ref)) := (e3.trans e39) _ _ ho
      have han9 : H9 an = some (.lst ((r.take n).map V.int)) := (e8.trans e9) _ _ han
      have nao : ar ≠ o := fun z => by
        have := (((((e3.trans e4).trans e5).trans e6).trans e7).trans e8) _ _ ho
        rw [← z, nar] at this
        cases this
      have nano : an ≠ o := fun z => by
        have := (((e3.trans e4).trans e5).trans e6) _ _ ho
        rw [← z, nan] at this
        cases this
      have nara : an ≠ ar := fun z => by
        have := e8 _ _ han
        rw [z, nar] at this
        cases this
      have hP9 : Paired (CallAt D.c_Call (nw H (hid o H9))) ps done := pr_imp (fun _ _ => CallAt.mono (nw_mono (ExB.of (e3.trans e39)).hid)) hP
      have hform9 : SqT K H9 fq [.int (n : Int), .int (k : Int)] := ex_t (((e6.trans e7).trans e8).trans e9) hform5
      have narH : H ar = none := fresh_back ((((((e.trans e3).trans e4).trans e5).trans e6).trans e7).trans e8) nar
      -- the rows
      refine q_while (fun m σ H' => ∃ (j : Nat) (xr xd : List (List Int)) (rs : List Addr) (y8 : Option V), σ = [some (.ref a), some (.ref o), some (.int (j : Int)), some (.int p), some (.ref fq), some (.int ((i + 1 + n : Nat) : Int)), some (.ref an), some (.ref ar), y8] ∧ m + xd.length = k ∧ ExB ar H9 H' ∧ H' ar = some (.lst (rs.map V.ref)) ∧
          Paired (RowAt (nw H (hid o (hid ar H')))) rs xd ∧ PyFlat.rows m (ns.drop j) = some (xr, t) ∧ xs = xd ++ xr ∧ i + 1 + n ≤ j ∧ j ≤ ns.length ∧ xd.length ≤ j) k
        ⟨i + 1 + n, xs, [], [], y8, rfl, rfl, ExB.refl _ _, har, .nil, by rw [← List.drop_drop, hd]; exact hrows, rfl, Nat.le_refl _, by omega, Nat.zero_le _⟩ ?_
      rintro m' σ H' ⟨j, xr, xd, rs, z8, rfl, hmk, eB, hrl', hRP, hrw, hxs, hj1, hj2, hj3⟩
      have rlen : rs.length = xd.length := pr_len hRP
      have hfm : SqT K H' fq [.int (n : Int), .int (k : Int)] := eB.tup har hform9
      have hS10 : SqL K H' a (ns.map V.int) := by
        have nea : a ≠ ar ∨ a = ar := by
          by_cases c : a = ar
          · exact .inr c
          · exact .inl c
        rcases hS with (hS | ⟨oo, hS⟩) | hS
        · exact .inl (.inl (eB _ _ (fun z => by rw [z, narH] at hS; cases hS) (eH9 _ _ hS)))
        · exact .inl (.inr ⟨oo, eB _ _ (fun z => by rw [z, narH] at hS; cases hS) (eH9 _ _ hS)⟩)
        · exact .inr hS
      have hl7 : Ev (tCB (fun xs H Q => ∃ p ys, xs = [V.ref p] ∧ (SqL K H p ys ∨ SqT K H p ys) ∧ Q (.int ys.length) H) (tCons (tVar 7) tNil)) [some (.ref a), some (.ref o), some (.int (j : Int)), some (.int p), some (.ref fq), some (.int ((i + 1 + n : Nat) : Int)), some (.ref an), some (.ref ar), z8] H' (.int (xd.length : Int)) := by
        have z := ev_lenL (K := K) (σ := [some (.ref a), some (.ref o), some (.int (j : Int)), some (.int p), some (.ref fq), some (.int ((i + 1 + n : Nat) : Int)), some (.ref an), some (.ref ar), z8]) (ta := tVar 7) (ev_var rfl) (sq_of hrl')
        rw [List.length_map, rlen] at z
        exact z
      refine ⟨_, et_test (ev_lt hl7 (ev_ixT (v := .int (k : Int)) (ev_var (i := 4) rfl) hfm ev_c rfl)), fun hb2 H10 e10 => ?_, fun hb2 H10 e10 => ?_⟩
      · have hk : xd.length < k := by
          have := of_decide_eq_true hb2
          omega
        obtain ⟨m2, rfl⟩ : ∃ m2, m' = m2 + 1 := ⟨m' - 1, by omega⟩
        obtain ⟨cnt, r2, xs', hdj, hc0, hcl, hrw2, hxr⟩ := rows_succ hrw
        obtain ⟨hjl, hjx, hjd⟩ := drop_cons hdj
        have hr2l : r2.length + (j + 1) = ns.length := by rw [← hjd, List.length_drop]; omega
        have hSa := ex_l e10 hS10
        refine ⟨fun σ' H'' => ∃ (j : Nat) (xr xd : List (List Int)) (rs : List Addr) (y8 : Option V), σ' = [some (.ref a), some (.ref o), some (.int (j : Int)), some (.int p), some (.ref fq), some (.int ((i + 1 + n : Nat) : Int)), some (.ref an), some (.ref ar), y8] ∧ m2 + xd.length = k ∧ ExB ar H9 H'' ∧ H'' ar = some (.lst (rs.map V.ref)) ∧
          Paired (RowAt (nw H (hid o (hid ar H'')))) rs xd ∧ PyFlat.rows m2 (ns.drop j) = some (xr, t) ∧ xs = xd ++ xr ∧ i + 1 + n ≤ j ∧ j ≤ ns.length ∧ xd.length ≤ j, fun σ' H'' hw => ⟨m2, by omega, hw⟩, ?_⟩
        refine q_asg (v := .int ((j + 1 + cnt.toNat : Nat) : Int)) (ev_is (ev_add (ev_add (ev_var (i := 2) rfl) ev_c) (ev_ixL (v := .int cnt) (ev_var (i := 0) rfl) hSa (ev_var (i := 2) rfl) (atI_nat (by rw [List.getElem?_map, hjx]; rfl)))) (congrArg V.int (by omega))) fun H11 e11 => ?_
        have hS11 := ex_l e11 hSa
        have har11 := e11 _ _ (e10 _ _ hrl')
        refine q_appL (K := K) (l := ar) (xs := rs.map V.ref) har11 (ev_var (i := 7) rfl) (el_sl (ev_var (i := 0) rfl) (eo_some (ev_is (ev_add (ev_var (i := 2) rfl) ev_c) (show V.int ((j : Int) + 1) = V.int ((j + 1 : Nat) : Int) by congr 1))) (eo_some (ev_var (i := 8) rfl)) hS11) (by rw [List.length_map]; omega) fun rw1 H12 nrw e12 hrw1 => ?_
        rw [cut_ints (by omega) (by omega), hjd, show j + 1 + cnt.toNat - (j + 1) = cnt.toNat by omega] at hrw1
        have har12 := e12 _ _ har11
        have nra : rw1 ≠ ar := fun z => by rw [z, har11] at nrw; cases nrw
        have nro : rw1 ≠ o := fun z => by
          have := e11 _ _ (e10 _ _ (eB _ _ nao.symm ho9))
          rw [z, this] at nrw
          cases nrw
        refine s_asg (ev_var (i := 8) rfl) fun H13 e13 => ?_
        have eB13 : ExB ar H' H13 := ((ExB.of ((e10.trans e11).trans e12)).trans ExB.upd).trans (ExB.of e13)
        refine ⟨j + 1 + cnt.toNat, xs', xd ++ [r2.take cnt.toNat], rs ++ [rw1], _, rfl, by rw [List.length_append]; show m2 + (xd.length + 1) = k; omega, eB.trans eB13, e13 _ _ (by rw [upd_same, List.map_append]; rfl), ?_, ?_, by rw [hxs, hxr, List.append_assoc]; rfl, by omega, by omega, by rw [List.length_append]; show xd.length + 1 ≤ _; omega⟩
        · refine pr_snoc ?_ (pr_imp (fun _ _ q => ?_) hRP)
          · show nw H (hid o (hid ar H13)) rw1 = _
            have eH11 : Ex H H11 := fun b u h => e11 _ _ (e10 _ _ (eB _ _ (ne_of_none h narH) (eH9 _ _ h)))
            rw [nw_at (fresh_back eH11 nrw), hid_ne nro, hid_ne nra]
            refine e13 _ _ ?_
            rw [upd_ne nra]
            exact hrw1
          · exact nw_mono (ExB.of eB13.hid).hid _ _ q
        · rw [← List.drop_drop, hjd]
          exact hrw2
      · -- found.append(Call(number, numbers, rows))
        have hk : m' = 0 := by
          have := of_decide_eq_false hb2
          omega
        subst hk
        have hxr : xr = [] ∧ t = ns.drop j := by
          unfold PyFlat.rows at hrw
          cases hrw
          exact ⟨rfl, rfl⟩
        obtain ⟨rfl, rfl⟩ := hxr
        rw [List.append_nil] at hxs
        subst hxs
        have ho10 : H10 o = some (.lst (ps.map V.ref)) := e10 _ _ (eB _ _ nao.symm ho9)
        refine ⟨.ref o, rfl, .inl ⟨rfl, _, sq_of ho10⟩, .int p, rfl, .ref an, rfl, .ref ar, rfl, fun x dx nx ndx nex => ?_⟩
        refine ⟨x, dx, an, ar, p, rfl, upd_same, rfl, ?_⟩
        rw [upd_over]
        have eM : Ex H10 (upd (upd H10 dx (.own x)) x (.ins D.c_Call dx (cF p an ar))) := made_ex nx ndx
        have xo : x ≠ o := fun z => by rw [z, ho10] at nx; cases nx
        have ho11 := eM _ _ ho10
        refine ⟨o, _, _, rfl, rfl, ho11, sz_lt (by rw [List.length_map]; omega), ?_⟩
        have eF : ExB o H10 (upd (upd (upd H10 dx (.own x)) x (.ins D.c_Call dx (cF p an ar))) o (.lst (ps.map V.ref ++ [.ref x]))) := (ExB.of eM).trans ExB.upd
        have xat : (upd (upd (upd H10 dx (.own x)) x (.ins D.c_Call dx (cF p an ar))) o (.lst (ps.map V.ref ++ [.ref x]))) x = some (.ins D.c_Call dx (cF p an ar)) := by rw [upd_ne xo, upd_same]
        have upo : (upd (upd (upd H10 dx (.own x)) x (.ins D.c_Call dx (cF p an ar))) o (.lst (ps.map V.ref ++ [.ref x]))) o = some (.lst (ps.map V.ref ++ [.ref x])) := upd_same
        generalize upd (upd (upd H10 dx (.own x)) x (.ins D.c_Call dx (cF p an ar))) o (.lst (ps.map V.ref ++ [.ref x])) = HF at *
        have hh : Ex (nw H (hid o H10)) (nw H (hid o HF)) := nw_mono eF.hid
        have eH10 : Ex H H10 := fun b u h => e10 _ _ (eB _ _ (ne_of_none h narH) (eH9 _ _ h))
        have eB' : ExB ar H9 H10 := eB.trans (ExB.of e10)
        -- what stood ahead of the turn
        have e8' : Ex Ha H8 := ((((e3.trans e4).trans e5).trans e6).trans e7).trans e8
        have eAF : ExB o Ha HF := fun b u hb h => eF b u hb (eB' b u (ne_of_none (e8' b u h) nar) (e9 b u (e8' b u h)))
        have old : Paired (CallAt D.c_Call (nw H (hid o HF))) ps done := pr_imp (fun _ _ => CallAt.mono (nw_mono eAF.hid)) hP
        refine ⟨j, f', rest', done ++ [(p :: r.take n) :: xs], ps ++ [x], some (.int p), some (.ref fq), some (.int ((i + 1 + n : Nat) : Int)), some (.ref an), some (.ref ar), z8, by omega, hj2, rfl, ExB.new e no eAF, by rw [upo, List.map_append]; rfl, pr_snoc ?_ old, hrest, by rw [hr', hcs, List.append_assoc]; rfl, by rw [List.length_append]; show ps.length + 1 ≤ j; omega⟩
        refine ⟨dx, an, ar, p, r.take n, xs, rs, rfl, by rw [nw_at (fresh_back eH10 nx), hid_ne xo]; exact xat, ?_, ?_, ?_⟩
        · exact hh _ _ (by rw [nw_at (fresh_back ((((e.trans e3).trans e4).trans e5).trans e6) nan), hid_ne nano]; exact e10 _ _ (eB _ _ nara han9))
        · exact hh _ _ (by rw [nw_at narH, hid_ne nao]; exact e10 _ _ hrl')
        · exact pr_imp (fun _ _ q => hh _ _ (nw_mono ((Ex.trans (ExB.of hid_ex).hid) (ExB.of e10).hid) _ _ q)) hRP
    · -- the end
      have hi : i = ns.length := by
        have := of_decide_eq_false hb
        omega
      have hd : ns.drop i = [] := List.drop_eq_nil_of_le (by omega)
      have hrest : rest = [] := by
        rw [hd] at hc
        unfold PyFlat.calls at hc
        cases hc
        rfl
      rw [hrest, List.append_nil] at hr'
      subst hr'
      exact s_ret (ev_var (i := 1) rfl) fun H4 e4 => q o H4 ps no ((e.trans e3).trans e4) ((e3.trans e4) _ _ ho) (pr_imp (fun _ _ => CallAt.mono (nw_mono ((hid_ex).trans (e3.trans e4)))) hP)
end
end Z
end Cp
/-! Cp27 -/
namespace Cp
open PySem PySem.Spec PyProof.Rows L2 Evl
namespace Z
section
variable {P : Program} {w : World} {K : PySem.W.Frag} {mg : Str → Option Value} {base : Heap} {D : Ad}
/-! ### the book, beside a list that grows -/
theorem bk_put {H O : Hp} {b o : Addr} {g : Pl} {u : Nat} {as : List Sm15.Atom} {ls : List Sm15.Line} {nx : Nat} {xs ys : List V} (h : Bk K D H O b g u as ls nx) (ho : O o = some (.lst xs)) : Bk K D (upd H o (.lst ys)) (upd O o (.lst ys)) b g u as ls nx := by
  have hH := h.rest _ _ ho
  have eB : ExB o H (upd H o (.lst ys)) := ExB.upd
  have sf := soft_lst hH
  have nl := noline_lst hH
  have nm : NoMark H o := fun _ _ _ _ _ z => by rw [hH] at z; cases z
  have ne : ∀ {c}, O c = none → c ≠ o := fun hc z => by rw [z, ho] at hc; cases hc
  have no : ∀ {c}, O c = none → upd O o (.lst ys) c = none := fun hc => by rw [upd_ne (ne hc)]; exact hc
  obtain ⟨ps, a1, a2⟩ := h.at_.at_
  obtain ⟨kvs, l1, l2⟩ := h.at_.ln
  refine ⟨⟨eB _ _ (ne h.nb) h.at_.ob, ⟨ps, eB _ _ (ne h.na) a1, pr_imp (fun _ _ => eB.atom sf) a2⟩, ⟨kvs, eB _ _ (ne h.nl) l1, eB.lines sf nl l2⟩, h.at_.mks.exb eB sf nl nm (ne h.nm) fun r hr => ⟨ne (h.nr r hr).1, ne (h.nr r hr).2⟩⟩, fun c x hc => ?_, no h.nb, no h.na, no h.nl, no h.nm, fun r hr => ⟨no (h.nr r hr).1, no (h.nr r hr).2⟩⟩
  by_cases z : c = o
  · subst z
    rw [upd_same] at hc ⊢
    exact hc
  · rw [upd_ne z] at hc ⊢
    exact h.rest _ _ hc
theorem bk_wide {H1 H2 H3 O : Hp} {b o : Addr} {g : Pl} {u : Nat} {as : List Sm15.Atom} {ls : List Sm15.Line} {nx : Nat} {xs : List V} (h : Bk K D H1 O b g u as ls nx) (no : H1 o = none) (e2 : Ex H1 H2) (e3 : Ex H2 H3) (ho : H2 o = some (.lst xs)) : Bk K D H3 (upd (nw H2 H3) o (.lst xs)) b g u as ls nx := by
  obtain ⟨ps, a1, _⟩ := h.at_.at_
  obtain ⟨kvs, l1, _⟩ := h.at_.ln
  have hid : ∀ {c x}, H1 c = some x → upd (nw H2 H3) o (.lst xs) c = none := fun {c x} hc => by
    rw [upd_ne (ne_of_none hc no)]
    exact nw_out (e2 _ _ hc)
  refine ⟨(h.ex (e2.trans e3)).at_, fun c x hc => ?_, hid h.at_.ob, hid a1, hid l1, hid h.at_.mks.ml, fun r hr => ?_⟩
  · by_cases z : c = o
    · subst z
      rw [upd_same] at hc
      cases hc
      exact e3 _ _ ho
    · rw [upd_ne z] at hc
      exact nw_ex _ _ hc
  · obtain ⟨m, hm⟩ := pr_left h.at_.mks.mks r hr
    obtain ⟨ps, b1, _⟩ := hm.at_
    obtain ⟨kvs, c1, _⟩ := hm.ln
    exact ⟨hid b1, hid c1⟩
theorem call_hw {c : List (List Int)} {x : Sm15.Call} (h : CallIs c x) : ∀ w l, x = .step w l → (Sm15.sources w).length ≤ 60 ∧ w ≠ .claim := by
  intro w l hx
  cases h with
  | bounds => cases hx; exact ⟨by show 0 ≤ 60; decide, fun z => by cases z⟩
  | joined => cases hx; exact ⟨by show 2 ≤ 60; decide, fun z => by cases z⟩
  | wider => cases hx; exact ⟨by show 1 ≤ 60; decide, fun z => by cases z⟩
  | chain ks _ hk => cases hx; exact ⟨hk, fun z => by cases z⟩
  | _ => cases hx
theorem told_cons (a : List Int) (l : List (List Int)) : PyFlat.told (a :: l) = counts a ++ PyFlat.told l := rfl
theorem drop_at {α : Type} {l : List α} {i : Nat} {x : α} (h : l[i]? = some x) : l.drop i = x :: l.drop (i + 1) := by
  obtain ⟨hi, e⟩ := List.getElem?_eq_some_iff.mp h
  rw [List.drop_eq_getElem_cons hi, e]
/-! ### answers -/
def spAns (K : PySem.W.Frag) : Sp := fun vs H Q _ => ∃ (a : Addr) (ns : List Int), vs = [.ref a] ∧ SqL K H a (ns.map V.int) ∧ PySm15.answers_asked ns = true ∧ ns.length ≤ 28200 ∧
  ∀ (H' : Hp) (p : Addr), H' p = some (.lst ((PySm15.answers ns).map V.int)) → Q (.ref p) H'
theorem ok_answers (T : Txt K mg D) : FnOk P w K mg base CX0 25 D.a_answers D.d_answers ["calls"] (spAns K) := by
  refine T.f_answers.ok sc_answers (fun vs H Q E h => ?_) (fun cdv A outer s H vs Q E hr h => ?_)
  · obtain ⟨_, _, rfl, _⟩ := h
    rfl
  · obtain ⟨a, ns, rfl, hS, hask, hz, q⟩ := h
    refine ⟨_, (pss_cons (ps_set (i := 1) sc_answers.nd rfl (Or.inl rfl) (pe_make0 T.m_Book (ok_Book___init__ T) (hr.mono (by decide)) (by rfl) T.g_Book T.n_Book___init__ .nil pass0))
      (pss_cons (ps_set (i := 2) sc_answers.nd rfl (Or.inl rfl) (pe_lst pa_nil))
      (pss_cons (ps_for PassesOwn.never rfl (pi_list (pe_call (ok_split_calls T) (hr.mono (by decide)) (by rfl) T.g_split_calls T.f_split_calls.kp T.n_split_calls .nil pass0 (pa_cons (pv 0) pa_nil))) (pg_name (i := 3) sc_answers.nd rfl (Or.inl rfl)) (pss_one (ps_expr (pe_bm PySem.F.plainAttrs_list PySem.F.slot_list_extend PySem.F.type_list_extend mt_extend (pv 2) (pa_cons (pe_call (ok_counted T) (hr.mono (by decide)) (by rfl) T.g_counted T.f_counted.kp T.n_counted .nil pass0 (pa_cons (pe_call (ok_answer_of T) hr (by rfl) T.g_answer_of T.f_answer_of.kp T.n_answer_of .nil pass0 (pa_cons (pv 1) (pa_cons (pv 3) pa_nil))) pa_nil)) pa_nil)))))
      (pss_one (ps_ret (pv 2)))))), ?_⟩
    obtain ⟨raw, hraw, hlen, his, hans⟩ := asked_is hask
    intro b dx nb ndx nbd
    refine ⟨b, dx, H, rfl, upd_same, made_ex nb ndx, nb, fun H1 g hg hB => ⟨rfl, ?_⟩⟩
    refine q_asgL (el_lst ea_nil (Nat.zero_le _)) fun o H2 no e2 h2 => ?_
    refine ⟨.ref a, rfl, a, ns, _, raw, rfl, ex_l (hB.rest.trans e2) hS, by omega, hraw, fun cl H3 ps ncl e3 hcl hP => ?_⟩
    show tSeq (tFor (iList K (tC (.ref cl))) _ _) _ _ _ H3
    have hpl := pr_len hP
    generalize hN : nw H2 H3 = N at hP
    have nco : cl ≠ o := fun z => by rw [z, h2] at ncl; cases ncl
    have hNc : N cl = some (.lst (ps.map V.ref)) := by rw [← hN, nw_at ncl]; exact hcl
    refine q_forLn (K := K) (xs := ps.map V.ref) ev_c (sq_of hcl) (fun i σ H' => ∃ (y : Option V) (g : Pl) (s : Sm15.St) (got : List Int), σ = [some (.ref a), some (.ref b), some (.ref o), y] ∧ BkS K D H' (upd N o (.lst (got.map V.int))) b g s ∧ Ok i s ∧ MOk s g.ms ∧ got.length ≤ 30001 * i ∧
        PyFlat.told (PyFlat.played dueOf Sm15.init raw) = got ++ PyFlat.told (PyFlat.played dueOf s (raw.drop i))) (fun H4 e4 => ⟨none, g, Sm15.init, [], rfl, ?_, ok_init, by rw [hg]; exact mok_init, by show 0 ≤ _; omega, rfl⟩) ?_ ?_ ?_
    · rw [← hN]
      exact (bk_wide hB no e2 e3 h2).ex e4
    · rintro i σ H' _ ⟨y, g', s, got, rfl, hB', _, _, _, _⟩
      exact sq_of (hB'.rest _ _ (by rw [upd_ne nco]; exact hNc))
    · rintro i x σ H' hx ⟨y, g', s, got, rfl, hB', ho, hm, hgl, htold⟩
      rw [List.getElem?_map] at hx
      cases hp : ps[i]? with
      | none => rw [hp] at hx; cases hx
      | some p =>
        rw [hp] at hx
        cases hx
        obtain ⟨hi, _⟩ := List.getElem?_eq_some_iff.mp hp
        have hi' : i < raw.length := by omega
        obtain ⟨c, hc⟩ : ∃ c, raw[i]? = some c := ⟨_, List.getElem?_eq_getElem hi'⟩
        obtain ⟨p', hp', hcall⟩ := pr_get hP hc
        rw [hp] at hp'
        cases hp'
        obtain ⟨x, hx1, hx2⟩ := his c (List.mem_of_getElem? hc)
        have hno : N o = none := by rw [← hN]; exact nw_out h2
        have ask : AskOk K D H' (upd N o (.lst (got.map V.int))) b p g' s i c x := ⟨hB', ho, by omega, hm, CallAt.mono (Ex.new hno) hcall, hx2⟩
        have sl := step_len ho (show i ≤ 40 by omega) hx2
        have hoH : (upd N o (.lst (got.map V.int))) o = some (.lst (got.map V.int)) := upd_same
        refine ⟨.ref o, rfl, ?_, .ref b, rfl, .ref p, rfl, _, b, p, g', s, i, c, x, rfl, ask, fun H4 g4 r hg4 hB4 hr4 => ?_⟩
        · exact .inl ⟨rfl, _, sq_of (hB'.rest _ _ hoH)⟩
        refine ⟨r, (Sm15.step s x).2, rfl, .inl (sq_of hr4), by omega, fun r2 H5 nr2 e5 hr5 => ?_⟩
        have hB5 := hB4.ex e5
        have h30 : 30001 * i ≤ 30001 * 40 := Nat.mul_le_mul_left 30001 (by omega)
        have hcl : (counts (Sm15.step s x).2).length = (Sm15.step s x).2.length + 1 := rfl
        refine ⟨o, r2, _, _, rfl, rfl, hB5.rest _ _ hoH, hr5, ?_, some (.ref p), g4, (Sm15.step s x).1, got ++ counts (Sm15.step s x).2, rfl, ?_, ho.after x (call_hw hx2), ?_, ?_, ?_⟩
        · rw [List.length_map, List.length_map, hcl]
          have : (1300000 : Nat) ≤ sizeLine := by decide
          omega
        · have z := bk_put (ys := (got ++ counts (Sm15.step s x).2).map V.int) hB5 hoH
          rw [upd_over] at z
          rw [← List.map_append]
          exact z
        · rw [hg4]
          exact hm.after ho x fun w l hx => (call_hw hx2 w l hx).2
        · rw [List.length_append, hcl]
          omega
        · rw [htold, drop_at hc]
          show got ++ PyFlat.told ((dueOf s c).2 :: PyFlat.played dueOf (dueOf s c).1 (raw.drop (i + 1))) = _
          rw [due_is hx1, told_cons, List.append_assoc]
    · rintro σ H' ⟨y, g', s, got, rfl, hB', ho, hm, hgl, htold⟩
      rw [List.length_map, hpl, List.drop_length] at htold
      refine s_ret (ev_var (i := 2) rfl) fun H5 e5 => q H5 o ?_
      rw [hans, htold]
      show H5 o = some (HO.lst ((got ++ []).map V.int))
      rw [List.append_nil]
      exact e5 _ _ (hB'.rest _ _ upd_same)
end
end Z
end Cp
/-! CpTop -/
namespace Cp
open PySem PySem.Spec PyProof.Rows L2
/-! ### what the top has written, fact by fact -/
def BindsSo (x qual : Str) (st : Stmt) (ps : List Str) : Prop := ∀ (kV doc pm : Value) (an : Option Addr) (cdv ct : Value) (us : List Value), us.length = ps.length → bindArgs (PySem.W.fnOf x qual (defArgs st) (defBody st) (defScope st) .none kV doc pm an cdv ct) ⟨us, []⟩ = pure (ps.zip us)
theorem bi_Call___init__ : BindsSo "__init__" "Call.__init__" s_Call___init__ ["self", "number", "numbers", "rows"] := fun _ _ _ _ _ _ us hl => match us, hl with | [_, _, _, _], _ => rfl
theorem bi_split_calls : BindsSo "split_calls" "split_calls" s_split_calls ["handed"] := fun _ _ _ _ _ _ us hl => match us, hl with | [_], _ => rfl
theorem bi_place : BindsSo "place" "place" s_place ["literal"] := fun _ _ _ _ _ _ us hl => match us, hl with | [_], _ => rfl
theorem bi_clause_of : BindsSo "clause_of" "clause_of" s_clause_of ["literals"] := fun _ _ _ _ _ _ us hl => match us, hl with | [_], _ => rfl
theorem bi_opposites : BindsSo "opposites" "opposites" s_opposites ["literals"] := fun _ _ _ _ _ _ us hl => match us, hl with | [_], _ => rfl
theorem bi_without : BindsSo "without" "without" s_without ["clause", "literal"] := fun _ _ _ _ _ _ us hl => match us, hl with | [_, _], _ => rfl
theorem bi_put_together : BindsSo "put_together" "put_together" s_put_together ["first", "second", "atom"] := fun _ _ _ _ _ _ us hl => match us, hl with | [_, _, _], _ => rfl
theorem bi_is_loose : BindsSo "is_loose" "is_loose" s_is_loose ["clause"] := fun _ _ _ _ _ _ us hl => match us, hl with | [_], _ => rfl
theorem bi_is_broken : BindsSo "is_broken" "is_broken" s_is_broken ["clause", "so"] := fun _ _ _ _ _ _ us hl => match us, hl with | [_, _], _ => rfl
theorem bi_said_by : BindsSo "said_by" "said_by" s_said_by ["atom", "literal"] := fun _ _ _ _ _ _ us hl => match us, hl with | [_, _], _ => rfl
theorem bi_bounds_said : BindsSo "bounds_said" "bounds_said" s_bounds_said ["atoms", "literals"] := fun _ _ _ _ _ _ us hl => match us, hl with | [_, _], _ => rfl
theorem bi_lower_once : BindsSo "lower_once" "lower_once" s_lower_once ["values", "said"] := fun _ _ _ _ _ _ us hl => match us, hl with | [_, _], _ => rfl
theorem bi_can_be_together : BindsSo "can_be_together" "can_be_together" s_can_be_together ["atoms", "u", "literals"] := fun _ _ _ _ _ _ us hl => match us, hl with | [_, _, _], _ => rfl
theorem bi_add_up_to_less_than_0 : BindsSo "add_up_to_less_than_0" "add_up_to_less_than_0" s_add_up_to_less_than_0 ["said"] := fun _ _ _ _ _ _ us hl => match us, hl with | [_], _ => rfl
theorem bi_one_place_more : BindsSo "one_place_more" "one_place_more" s_one_place_more ["choices", "count"] := fun _ _ _ _ _ _ us hl => match us, hl with | [_, _], _ => rfl
theorem bi_reason_of : BindsSo "reason_of" "reason_of" s_reason_of ["atoms", "u", "literals"] := fun _ _ _ _ _ _ us hl => match us, hl with | [_, _, _], _ => rfl
theorem bi_most_above : BindsSo "most_above" "most_above" s_most_above ["u", "said", "base"] := fun _ _ _ _ _ _ us hl => match us, hl with | [_, _, _], _ => rfl
theorem bi_nearest_to_0 : BindsSo "nearest_to_0" "nearest_to_0" s_nearest_to_0 ["u", "said", "unknown"] := fun _ _ _ _ _ _ us hl => match us, hl with | [_, _, _], _ => rfl
theorem bi_nearest_values : BindsSo "nearest_values" "nearest_values" s_nearest_values ["u", "said"] := fun _ _ _ _ _ _ us hl => match us, hl with | [_, _], _ => rfl
theorem bi_Line___init__ : BindsSo "__init__" "Line.__init__" s_Line___init__ ["self", "way", "named", "clause"] := fun _ _ _ _ _ _ us hl => match us, hl with | [_, _, _, _], _ => rfl
theorem bi_Line_sources : BindsSo "sources" "Line.sources" s_Line_sources ["self"] := fun _ _ _ _ _ _ us hl => match us, hl with | [_], _ => rfl
theorem bi_shown_by_differences : BindsSo "shown_by_differences" "shown_by_differences" s_shown_by_differences ["clause", "atoms", "u"] := fun _ _ _ _ _ _ us hl => match us, hl with | [_, _, _], _ => rfl
theorem bi_shown_by_joining : BindsSo "shown_by_joining" "shown_by_joining" s_shown_by_joining ["clause", "first", "second", "atom"] := fun _ _ _ _ _ _ us hl => match us, hl with | [_, _, _, _], _ => rfl
theorem bi_shown_by_widening : BindsSo "shown_by_widening" "shown_by_widening" s_shown_by_widening ["clause", "source"] := fun _ _ _ _ _ _ us hl => match us, hl with | [_, _], _ => rfl
theorem bi_shown_by_chain : BindsSo "shown_by_chain" "shown_by_chain" s_shown_by_chain ["clause", "sources"] := fun _ _ _ _ _ _ us hl => match us, hl with | [_, _], _ => rfl
theorem bi_is_shown : BindsSo "is_shown" "is_shown" s_is_shown ["line", "lines", "atoms", "u"] := fun _ _ _ _ _ _ us hl => match us, hl with | [_, _, _, _], _ => rfl
theorem bi_Proof___init__ : BindsSo "__init__" "Proof.__init__" s_Proof___init__ ["self", "atoms", "u", "lines", "next_number"] := fun _ _ _ _ _ _ us hl => match us, hl with | [_, _, _, _, _], _ => rfl
theorem bi_Proof_line_found : BindsSo "line_found" "Proof.line_found" s_Proof_line_found ["self", "so"] := fun _ _ _ _ _ _ us hl => match us, hl with | [_, _], _ => rfl
theorem bi_Proof_line_of_both : BindsSo "line_of_both" "Proof.line_of_both" s_Proof_line_of_both ["self", "so", "atom"] := fun _ _ _ _ _ _ us hl => match us, hl with | [_, _, _], _ => rfl
theorem bi_Proof_line_for : BindsSo "line_for" "Proof.line_for" s_Proof_line_for ["self", "way", "named", "clause"] := fun _ _ _ _ _ _ us hl => match us, hl with | [_, _, _, _], _ => rfl
theorem bi_split_steps : BindsSo "split_steps" "split_steps" s_split_steps ["steps"] := fun _ _ _ _ _ _ us hl => match us, hl with | [_], _ => rfl
theorem bi_count_right : BindsSo "count_right" "count_right" s_count_right ["steps", "lines", "next_number", "atoms", "u"] := fun _ _ _ _ _ _ us hl => match us, hl with | [_, _, _, _, _], _ => rfl
theorem bi_first_row : BindsSo "first_row" "first_row" s_first_row ["atoms", "u", "clauses", "so"] := fun _ _ _ _ _ _ us hl => match us, hl with | [_, _, _, _], _ => rfl
theorem bi_first_world : BindsSo "first_world" "first_world" s_first_world ["atoms", "u", "clauses"] := fun _ _ _ _ _ _ us hl => match us, hl with | [_, _, _], _ => rfl
theorem bi_Mark___init__ : BindsSo "__init__" "Mark.__init__" s_Mark___init__ ["self", "atoms", "lines", "next_number"] := fun _ _ _ _ _ _ us hl => match us, hl with | [_, _, _, _], _ => rfl
theorem bi_Book___init__ : BindsSo "__init__" "Book.__init__" s_Book___init__ ["self"] := fun _ _ _ _ _ _ us hl => match us, hl with | [_], _ => rfl
theorem bi_Book_begin : BindsSo "begin" "Book.begin" s_Book_begin ["self", "u"] := fun _ _ _ _ _ _ us hl => match us, hl with | [_, _], _ => rfl
theorem bi_Book_start : BindsSo "start" "Book.start" s_Book_start ["self", "u"] := fun _ _ _ _ _ _ us hl => match us, hl with | [_, _], _ => rfl
theorem bi_Book_yes : BindsSo "yes" "Book.yes" s_Book_yes ["self"] := fun _ _ _ _ _ _ us hl => match us, hl with | [_], _ => rfl
theorem bi_Book_bound : BindsSo "bound" "Book.bound" s_Book_bound ["self", "a", "b", "c"] := fun _ _ _ _ _ _ us hl => match us, hl with | [_, _, _, _], _ => rfl
theorem bi_Book_claim : BindsSo "claim" "Book.claim" s_Book_claim ["self", "literals"] := fun _ _ _ _ _ _ us hl => match us, hl with | [_, _], _ => rfl
theorem bi_Book_bounds : BindsSo "bounds" "Book.bounds" s_Book_bounds ["self", "literals"] := fun _ _ _ _ _ _ us hl => match us, hl with | [_, _], _ => rfl
theorem bi_Book_joined : BindsSo "joined" "Book.joined" s_Book_joined ["self", "i", "j", "a", "literals"] := fun _ _ _ _ _ _ us hl => match us, hl with | [_, _, _, _, _], _ => rfl
theorem bi_Book_wider : BindsSo "wider" "Book.wider" s_Book_wider ["self", "i", "literals"] := fun _ _ _ _ _ _ us hl => match us, hl with | [_, _, _], _ => rfl
theorem bi_Book_chain : BindsSo "chain" "Book.chain" s_Book_chain ["self", "lines", "literals"] := fun _ _ _ _ _ _ us hl => match us, hl with | [_, _, _], _ => rfl
theorem bi_Book_drop : BindsSo "drop" "Book.drop" s_Book_drop ["self", "k"] := fun _ _ _ _ _ _ us hl => match us, hl with | [_, _], _ => rfl
theorem bi_Book_mark : BindsSo "mark" "Book.mark" s_Book_mark ["self"] := fun _ _ _ _ _ _ us hl => match us, hl with | [_], _ => rfl
theorem bi_Book_back : BindsSo "back" "Book.back" s_Book_back ["self"] := fun _ _ _ _ _ _ us hl => match us, hl with | [_], _ => rfl
theorem bi_Book_decide : BindsSo "decide" "Book.decide" s_Book_decide ["self"] := fun _ _ _ _ _ _ us hl => match us, hl with | [_], _ => rfl
theorem bi_Book_prove : BindsSo "prove" "Book.prove" s_Book_prove ["self"] := fun _ _ _ _ _ _ us hl => match us, hl with | [_], _ => rfl
theorem bi_Book_show : BindsSo "show" "Book.show" s_Book_show ["self", "k"] := fun _ _ _ _ _ _ us hl => match us, hl with | [_, _], _ => rfl
theorem bi_Book_rests : BindsSo "rests" "Book.rests" s_Book_rests ["self", "k"] := fun _ _ _ _ _ _ us hl => match us, hl with | [_, _], _ => rfl
theorem bi_Book_came : BindsSo "came" "Book.came" s_Book_came ["self", "k"] := fun _ _ _ _ _ _ us hl => match us, hl with | [_, _], _ => rfl
theorem bi_Book_judge : BindsSo "judge" "Book.judge" s_Book_judge ["self", "steps"] := fun _ _ _ _ _ _ us hl => match us, hl with | [_, _], _ => rfl
theorem bi_Book_reason : BindsSo "reason" "Book.reason" s_Book_reason ["self", "literals"] := fun _ _ _ _ _ _ us hl => match us, hl with | [_, _], _ => rfl
theorem bi_Book_derive : BindsSo "derive" "Book.derive" s_Book_derive ["self", "way", "named", "literals"] := fun _ _ _ _ _ _ us hl => match us, hl with | [_, _, _, _], _ => rfl
theorem bi_Book_add_atom : BindsSo "add_atom" "Book.add_atom" s_Book_add_atom ["self", "atom"] := fun _ _ _ _ _ _ us hl => match us, hl with | [_, _], _ => rfl
theorem bi_Book_add_line : BindsSo "add_line" "Book.add_line" s_Book_add_line ["self", "line"] := fun _ _ _ _ _ _ us hl => match us, hl with | [_, _], _ => rfl
theorem bi_Book_has_strange : BindsSo "has_strange" "Book.has_strange" s_Book_has_strange ["self", "literals"] := fun _ _ _ _ _ _ us hl => match us, hl with | [_, _], _ => rfl
theorem bi_Book_has_all : BindsSo "has_all" "Book.has_all" s_Book_has_all ["self", "numbers"] := fun _ _ _ _ _ _ us hl => match us, hl with | [_, _], _ => rfl
theorem bi_Book_claims_among : BindsSo "claims_among" "Book.claims_among" s_Book_claims_among ["self", "numbers"] := fun _ _ _ _ _ _ us hl => match us, hl with | [_, _], _ => rfl
theorem bi_Book_can_stay : BindsSo "can_stay" "Book.can_stay" s_Book_can_stay ["self", "line"] := fun _ _ _ _ _ _ us hl => match us, hl with | [_, _], _ => rfl
theorem bi_Book_resting_on : BindsSo "resting_on" "Book.resting_on" s_Book_resting_on ["self", "k"] := fun _ _ _ _ _ _ us hl => match us, hl with | [_, _], _ => rfl
theorem bi_Book_ancestry : BindsSo "ancestry" "Book.ancestry" s_Book_ancestry ["self", "k"] := fun _ _ _ _ _ _ us hl => match us, hl with | [_, _], _ => rfl
theorem bi_counted : BindsSo "counted" "counted" s_counted ["numbers"] := fun _ _ _ _ _ _ us hl => match us, hl with | [_], _ => rfl
theorem bi_one_number : BindsSo "one_number" "one_number" s_one_number ["book", "call"] := fun _ _ _ _ _ _ us hl => match us, hl with | [_, _], _ => rfl
theorem bi_answer_of : BindsSo "answer_of" "answer_of" s_answer_of ["book", "call"] := fun _ _ _ _ _ _ us hl => match us, hl with | [_, _], _ => rfl
theorem bi_answers : BindsSo "answers" "answers" s_answers ["calls"] := fun _ _ _ _ _ _ us hl => match us, hl with | [_], _ => rfl
section
variable {GOAL : Prop} {K : PySem.W.Frag} {h : Heap} {mg : Str → Option Value} {x qual : Str} {st : Stmt} {ps : List Str} {f C o : Addr} {od an : Option Addr} {sl : Array (Option Value)} {oc kV dc pm cd ct : Value} {i : Int} {t : Tok} {n : Nat}
theorem st_fn (X : K.In h) (G : h.Ns mainGlobals mg) (b : BindsSo x qual st ps) (a : PySem.W.nsIn K mainGlobals x = some (some (.ref f)))
    (l : K.lookup f = some ⟨oc, od, .func (PySem.W.fnOf x qual (defArgs st) (defBody st) (defScope st) .none kV dc pm an cd ct), sl⟩) (c : PySem.W.codeIn K cd qual = true) (k : PySem.W.keepIn K (.ref f) = true)
    (rest : mg x = some (.ref f) → Fun K x qual st f (PySem.W.fnOf x qual (defArgs st) (defBody st) (defScope st) .none kV dc pm an cd ct) → Binds K (PySem.W.fnOf x qual (defArgs st) (defBody st) (defScope st) .none kV dc pm an cd ct) ps [] → GOAL) : GOAL :=
  rest (PySem.W.mg_of X G a) (fun_mk l c k) ((fun_mk l c k).binds b)
theorem st_me (kC : Cls K C) (b : BindsSo x qual st ps) (a : PySem.W.findIn K (.ref C) x = some (some (.ref f))) (i : PySem.W.isFn K (.ref f) = true)
    (l : K.lookup f = some ⟨oc, od, .func (PySem.W.fnOf x qual (defArgs st) (defBody st) (defScope st) .none kV dc pm an cd ct), sl⟩) (c : PySem.W.codeIn K cd qual = true) (k : PySem.W.keepIn K (.ref f) = true)
    (rest : Meth K C x f → Fun K x qual st f (PySem.W.fnOf x qual (defArgs st) (defBody st) (defScope st) .none kV dc pm an cd ct) → Binds K (PySem.W.fnOf x qual (defArgs st) (defBody st) (defScope st) .none kV dc pm an cd ct) ps [] → GOAL) : GOAL :=
  rest ⟨a, i, k⟩ (fun_mk l c k) ((fun_mk l c k).binds b)
theorem st_cl (X : K.In h) (G : h.Ns mainGlobals mg) (a : PySem.W.nsIn K mainGlobals x = some (some (.ref C))) (pg : PySem.W.plainGet K C Str.empty = true) (hd : PySem.W.hasDictIn K C = true) (po : PySem.W.plainOver K C = true)
    (sa : PySem.W.findIn K (.ref C) "__setattr__" = some (some (.builtin "object.__setattr__"))) (mk : PySem.W.makesIn K C = true) (kc : PySem.W.keepIn K (.ref C) = true)
    (rest : mg x = some (.ref C) → Cls K C → PySem.W.makesIn K C = true → PySem.W.keepIn K (.ref C) = true → GOAL) : GOAL := rest (PySem.W.mg_of X G a) ⟨pg, hd, po, sa⟩ mk kc
theorem st_na (kC : Cls K C) (a : PySem.W.findIn K (.ref C) x = some none) (rest : NoAttr K C x → GOAL) : GOAL := rest a
theorem st_ci (X : K.In h) (G : h.Ns mainGlobals mg) (a : PySem.W.nsIn K mainGlobals x = some (some (.int i t))) (rest : (∃ t, mg x = some (.int i t)) → GOAL) : GOAL := rest ⟨t, PySem.W.mg_of X G a⟩
theorem st_bn (X : K.In h) (G : h.Ns mainGlobals mg) (a : PySem.W.nsIn K mainGlobals x = some none) (rest : mg x = none → GOAL) : GOAL := rest (PySem.W.mg_none_of X G a)
theorem st_c0 (X : K.In h) (G : h.Ns mainGlobals mg) (a : PySem.W.nsIn K mainGlobals x = some (some (.ref o))) (l : K.lookup o = some ⟨.type "tuple", od, .seq #[] n, sl⟩) (rest : mg x = some (.ref o) → (∀ H : Hp, SqT K H o []) → GOAL) : GOAL :=
  rest (PySem.W.mg_of X G a) fun H => .inr ⟨_, _, n, l, rfl, rfl, (by show 0 ≤ sizeLine; decide), .nil⟩
end
theorem tup_w {K : PySem.W.Frag} {H : Hp} {p : Addr} {y z : Int} {t u : Tok} {oc : Option Addr} {k : Nat} {sl : Array (Option Value)} (r : K.lookup p = some ⟨.type "tuple", oc, .seq #[.int y t, .int z u] k, sl⟩) : SqT K H p ([y, z].map V.int) :=
  .inr ⟨_, _, k, r, rfl, rfl, (by show 2 ≤ sizeLine; decide), .cons ⟨t, rfl⟩ (.cons ⟨u, rfl⟩ .nil)⟩
theorem st_cf4 {GOAL : Prop} {K : PySem.W.Frag} {h : Heap} {mg : Str → Option Value} {x : Str} {o : Addr} {od : Option Addr} {n : Nat} {sl : Array (Option Value)} {y0 : Int} {t0 : Tok} {y1 : Int} {t1 : Tok} {y2 : Int} {t2 : Tok} {y3 : Int} {t3 : Tok} (X : K.In h) (G : h.Ns mainGlobals mg)
    (a : PySem.W.nsIn K mainGlobals x = some (some (.ref o))) (l : K.lookup o = some ⟨.type "tuple", od, .seq #[.int y0 t0, .int y1 t1, .int y2 t2, .int y3 t3] n, sl⟩) (rest : mg x = some (.ref o) → (∀ H : Hp, SqT K H o ([y0, y1, y2, y3].map V.int)) → GOAL) : GOAL :=
  rest (PySem.W.mg_of X G a) fun H => .inr ⟨_, _, n, l, rfl, rfl, (by show 4 ≤ sizeLine; decide), (.cons ⟨t0, rfl⟩ (.cons ⟨t1, rfl⟩ (.cons ⟨t2, rfl⟩ (.cons ⟨t3, rfl⟩ .nil))))⟩
theorem st_ct18 {GOAL : Prop} {K : PySem.W.Frag} {h : Heap} {mg : Str → Option Value} {x : Str} {o : Addr} {od : Option Addr} {n : Nat} {sl : Array (Option Value)} {p0 : Addr} {y0 z0 : Int} {t0 u0 : Tok} {oc0 : Option Addr} {k0 : Nat} {sl0 : Array (Option Value)} {p1 : Addr} {y1 z1 : Int} {t1 u1 : Tok} {oc1 : Option Addr} {k1 : Nat} {sl1 : Array (Option Value)} {p2 : Addr} {y2 z2 : Int} {t2 u2 : Tok} {oc2 : Option Addr} {k2 : Nat} {sl2 : Array (Option Value)} {p3 : Addr} {y3 z3 : Int} {t3 u3 : Tok} {oc3 : Option Addr} {k3 : Nat} {sl3 : Array (Option Value)} {p4 : Addr} {y4 z4 : Int} {t4 u4 : Tok} {oc4 : Option Addr} {k4 : Nat} {sl4 : Array (Option Value)} {p5 : Addr} {y5 z5 : Int} {t5 u5 : Tok} {oc5 : Option Addr} {k5 : Nat} {sl5 : Array (Option Value)} {p6 : Addr} {y6 z6 : Int} {t6 u6 : Tok} {oc6 : Option Addr} {k6 : Nat} {sl6 : Array (Option Value)} {p7 : Addr} {y7 z7 : Int} {t7 u7 : Tok} {oc7 : Option Addr} {k7 : Nat} {sl7 : Array (Option Value)} {p8 : Addr} {y8 z8 : Int} {t8 u8 : Tok} {oc8 : Option Addr} {k8 : Nat} {sl8 : Array (Option Value)} {p9 : Addr} {y9 z9 : Int} {t9 u9 : Tok} {oc9 : Option Addr} {k9 : Nat} {sl9 : Array (Option Value)} {p10 : Addr} {y10 z10 : Int} {t10 u10 : Tok} {oc10 : Option Addr} {k10 : Nat} {sl10 : Array (Option Value)} {p11 : Addr} {y11 z11 : Int} {t11 u11 : Tok} {oc11 : Option Addr} {k11 : Nat} {sl11 : Array (Option Value)} {p12 : Addr} {y12 z12 : Int} {t12 u12 : Tok} {oc12 : Option Addr} {k12 : Nat} {sl12 : Array (Option Value)} {p13 : Addr} {y13 z13 : Int} {t13 u13 : Tok} {oc13 : Option Addr} {k13 : Nat} {sl13 : Array (Option Value)} {p14 : Addr} {y14 z14 : Int} {t14 u14 : Tok} {oc14 : Option Addr} {k14 : Nat} {sl14 : Array (Option Value)} {p15 : Addr} {y15 z15 : Int} {t15 u15 : Tok} {oc15 : Option Addr} {k15 : Nat} {sl15 : Array (Option Value)} {p16 : Addr} {y16 z16 : Int} {t16 u16 : Tok} {oc16 : Option Addr} {k16 : Nat} {sl16 : Array (Option Value)} {p17 : Addr} {y17 z17 : Int} {t17 u17 : Tok} {oc17 : Option Addr} {k17 : Nat} {sl17 : Array (Option Value)} (X : K.In h) (G : h.Ns mainGlobals mg)
    (a : PySem.W.nsIn K mainGlobals x = some (some (.ref o))) (l : K.lookup o = some ⟨.type "tuple", od, .seq #[.ref p0, .ref p1, .ref p2, .ref p3, .ref p4, .ref p5, .ref p6, .ref p7, .ref p8, .ref p9, .ref p10, .ref p11, .ref p12, .ref p13, .ref p14, .ref p15, .ref p16, .ref p17] n, sl⟩) (r0 : K.lookup p0 = some ⟨.type "tuple", oc0, .seq #[.int y0 t0, .int z0 u0] k0, sl0⟩) (r1 : K.lookup p1 = some ⟨.type "tuple", oc1, .seq #[.int y1 t1, .int z1 u1] k1, sl1⟩) (r2 : K.lookup p2 = some ⟨.type "tuple", oc2, .seq #[.int y2 t2, .int z2 u2] k2, sl2⟩) (r3 : K.lookup p3 = some ⟨.type "tuple", oc3, .seq #[.int y3 t3, .int z3 u3] k3, sl3⟩) (r4 : K.lookup p4 = some ⟨.type "tuple", oc4, .seq #[.int y4 t4, .int z4 u4] k4, sl4⟩) (r5 : K.lookup p5 = some ⟨.type "tuple", oc5, .seq #[.int y5 t5, .int z5 u5] k5, sl5⟩) (r6 : K.lookup p6 = some ⟨.type "tuple", oc6, .seq #[.int y6 t6, .int z6 u6] k6, sl6⟩) (r7 : K.lookup p7 = some ⟨.type "tuple", oc7, .seq #[.int y7 t7, .int z7 u7] k7, sl7⟩) (r8 : K.lookup p8 = some ⟨.type "tuple", oc8, .seq #[.int y8 t8, .int z8 u8] k8, sl8⟩) (r9 : K.lookup p9 = some ⟨.type "tuple", oc9, .seq #[.int y9 t9, .int z9 u9] k9, sl9⟩) (r10 : K.lookup p10 = some ⟨.type "tuple", oc10, .seq #[.int y10 t10, .int z10 u10] k10, sl10⟩) (r11 : K.lookup p11 = some ⟨.type "tuple", oc11, .seq #[.int y11 t11, .int z11 u11] k11, sl11⟩) (r12 : K.lookup p12 = some ⟨.type "tuple", oc12, .seq #[.int y12 t12, .int z12 u12] k12, sl12⟩) (r13 : K.lookup p13 = some ⟨.type "tuple", oc13, .seq #[.int y13 t13, .int z13 u13] k13, sl13⟩) (r14 : K.lookup p14 = some ⟨.type "tuple", oc14, .seq #[.int y14 t14, .int z14 u14] k14, sl14⟩) (r15 : K.lookup p15 = some ⟨.type "tuple", oc15, .seq #[.int y15 t15, .int z15 u15] k15, sl15⟩) (r16 : K.lookup p16 = some ⟨.type "tuple", oc16, .seq #[.int y16 t16, .int z16 u16] k16, sl16⟩) (r17 : K.lookup p17 = some ⟨.type "tuple", oc17, .seq #[.int y17 t17, .int z17 u17] k17, sl17⟩)
    (rest : mg x = some (.ref o) → (∀ H : Hp, RowsT K H o [[y0, z0], [y1, z1], [y2, z2], [y3, z3], [y4, z4], [y5, z5], [y6, z6], [y7, z7], [y8, z8], [y9, z9], [y10, z10], [y11, z11], [y12, z12], [y13, z13], [y14, z14], [y15, z15], [y16, z16], [y17, z17]]) → GOAL) : GOAL :=
  rest (PySem.W.mg_of X G a) fun H => ⟨[p0, p1, p2, p3, p4, p5, p6, p7, p8, p9, p10, p11, p12, p13, p14, p15, p16, p17], .inr ⟨_, _, n, l, rfl, rfl, (by show 18 ≤ sizeLine; decide), (.cons rfl (.cons rfl (.cons rfl (.cons rfl (.cons rfl (.cons rfl (.cons rfl (.cons rfl (.cons rfl (.cons rfl (.cons rfl (.cons rfl (.cons rfl (.cons rfl (.cons rfl (.cons rfl (.cons rfl (.cons rfl .nil))))))))))))))))))⟩, (.cons (tup_w r0) (.cons (tup_w r1) (.cons (tup_w r2) (.cons (tup_w r3) (.cons (tup_w r4) (.cons (tup_w r5) (.cons (tup_w r6) (.cons (tup_w r7) (.cons (tup_w r8) (.cons (tup_w r9) (.cons (tup_w r10) (.cons (tup_w r11) (.cons (tup_w r12) (.cons (tup_w r13) (.cons (tup_w r14) (.cons (tup_w r15) (.cons (tup_w r16) (.cons (tup_w r17) .nil))))))))))))))))))⟩
end Cp
/-! CpEnd -/
namespace Cp
open PySem PySem.Spec PyProof.Rows L2
theorem fin_mk {P : Program} {w : World} {K : PySem.W.Frag} {mg : Str → Option Value} {fa : Addr} {D : Ad} (hfa : mg "answers" = some (.ref fa)) (T : Txt K mg D) : 
    ∃ fd : FuncData, (∀ (s : Shared) (us : List Value), us.length = (["calls"] : List Str).length → BindsTo s fd ⟨us, []⟩ ((["calls"] : List Str).zip us)) ∧ ∀ base : Heap, K.In base → base.Ns mainGlobals mg → FnOk P w K mg base CX0 25 fa fd ["calls"] (Z.spAns K) := by
  have e := hfa.symm.trans T.g_answers
  cases e
  refine ⟨D.d_answers, fun s us hu => ?_, fun base _ _ => Z.ok_answers T⟩
  obtain ⟨oc, od, kV, doc, pm, an, cdv, ct, osl, e, _, _⟩ := T.f_answers.ex
  rw [e]
  exact .of_eq (bi_answers kV doc pm an cdv ct us hu)
end Cp
open PySem PySem.W PyProof.Rows
set_option maxRecDepth 100000 in
set_option maxHeartbeats 8000000 in
theorem PySem.Challenge.cw_clauseproofs_s01_answers_holds : PySem.Challenge.rw_clauseproofs_s01_answers.Holds := by
  w_on; k_headS; (case hw => exact ⟨[.list [.int 1]], by decide +kernel, by decide +kernel⟩)
  k_fillS
  refine L2.walk_specK (r := PySem.Challenge.rw_clauseproofs_s01_answers) (k := 25) (CX := L2.CX0) (ps := ["calls"]) (sp := Cp.Z.spAns) (by decide +kernel) rfl rfl ⟨rfl, by decide, by decide⟩ (fun w h Y => PySem.W.kIn_of Y) ?F ?S (fun _ _ _ _ z => z)
  case F =>
    intro w mg fa h Y KX G hmg
    refine' Cp.st_cl (x := "Call") KX G ?a_0 ?b_0 ?c_0 ?d_0 ?e_0 ?f_0 ?g_0 ?rest_0
    (case a_0 => k_is); (case b_0 => k_is); (case c_0 => k_is); (case d_0 => k_is); (case e_0 => k_is); (case f_0 => k_is); (case g_0 => k_is)
    intro g_Call k_Call mk_Call kc_Call
    refine' Cp.st_cl (x := "Line") KX G ?a_1 ?b_1 ?c_1 ?d_1 ?e_1 ?f_1 ?g_1 ?rest_1
    (case a_1 => k_is); (case b_1 => k_is); (case c_1 => k_is); (case d_1 => k_is); (case e_1 => k_is); (case f_1 => k_is); (case g_1 => k_is)
    intro g_Line k_Line mk_Line kc_Line
    refine' Cp.st_cl (x := "Proof") KX G ?a_2 ?b_2 ?c_2 ?d_2 ?e_2 ?f_2 ?g_2 ?rest_2
    (case a_2 => k_is); (case b_2 => k_is); (case c_2 => k_is); (case d_2 => k_is); (case e_2 => k_is); (case f_2 => k_is); (case g_2 => k_is)
    intro g_Proof k_Proof mk_Proof kc_Proof
    refine' Cp.st_cl (x := "Mark") KX G ?a_3 ?b_3 ?c_3 ?d_3 ?e_3 ?f_3 ?g_3 ?rest_3
    (case a_3 => k_is); (case b_3 => k_is); (case c_3 => k_is); (case d_3 => k_is); (case e_3 => k_is); (case f_3 => k_is); (case g_3 => k_is)
    intro g_Mark k_Mark mk_Mark kc_Mark
    refine' Cp.st_cl (x := "Book") KX G ?a_4 ?b_4 ?c_4 ?d_4 ?e_4 ?f_4 ?g_4 ?rest_4
    (case a_4 => k_is); (case b_4 => k_is); (case c_4 => k_is); (case d_4 => k_is); (case e_4 => k_is); (case f_4 => k_is); (case g_4 => k_is)
    intro g_Book k_Book mk_Book kc_Book
    refine' Cp.st_me (st := Cp.s_Call___init__) (C := _) (x := "__init__") (qual := "Call.__init__") (ps := ["self", "number", "numbers", "rows"]) k_Call Cp.bi_Call___init__ ?a_5 ?i_5 ?l_5 ?c_5 ?k_5 ?rest_5
    (case a_5 => k_is); (case i_5 => k_is); (case l_5 => k_is); (case c_5 => k_is); (case k_5 => k_is)
    intro t_Call___init__ f_Call___init__ n_Call___init__
    refine' Cp.st_fn (st := Cp.s_split_calls) (x := "split_calls") (qual := "split_calls") (ps := ["handed"]) KX G Cp.bi_split_calls ?a_6 ?l_6 ?c_6 ?k_6 ?rest_6
    (case a_6 => k_is); (case l_6 => k_is); (case c_6 => k_is); (case k_6 => k_is)
    intro g_split_calls f_split_calls n_split_calls
    refine' Cp.st_fn (st := Cp.s_place) (x := "place") (qual := "place") (ps := ["literal"]) KX G Cp.bi_place ?a_7 ?l_7 ?c_7 ?k_7 ?rest_7
    (case a_7 => k_is); (case l_7 => k_is); (case c_7 => k_is); (case k_7 => k_is)
    intro g_place f_place n_place
    refine' Cp.st_fn (st := Cp.s_clause_of) (x := "clause_of") (qual := "clause_of") (ps := ["literals"]) KX G Cp.bi_clause_of ?a_8 ?l_8 ?c_8 ?k_8 ?rest_8
    (case a_8 => k_is); (case l_8 => k_is); (case c_8 => k_is); (case k_8 => k_is)
    intro g_clause_of f_clause_of n_clause_of
    refine' Cp.st_fn (st := Cp.s_opposites) (x := "opposites") (qual := "opposites") (ps := ["literals"]) KX G Cp.bi_opposites ?a_9 ?l_9 ?c_9 ?k_9 ?rest_9
    (case a_9 => k_is); (case l_9 => k_is); (case c_9 => k_is); (case k_9 => k_is)
    intro g_opposites f_opposites n_opposites
    refine' Cp.st_fn (st := Cp.s_without) (x := "without") (qual := "without") (ps := ["clause", "literal"]) KX G Cp.bi_without ?a_10 ?l_10 ?c_10 ?k_10 ?rest_10
    (case a_10 => k_is); (case l_10 => k_is); (case c_10 => k_is); (case k_10 => k_is)
    intro g_without f_without n_without
    refine' Cp.st_fn (st := Cp.s_put_together) (x := "put_together") (qual := "put_together") (ps := ["first", "second", "atom"]) KX G Cp.bi_put_together ?a_11 ?l_11 ?c_11 ?k_11 ?rest_11
    (case a_11 => k_is); (case l_11 => k_is); (case c_11 => k_is); (case k_11 => k_is)
    intro g_put_together f_put_together n_put_together
    refine' Cp.st_fn (st := Cp.s_is_loose) (x := "is_loose") (qual := "is_loose") (ps := ["clause"]) KX G Cp.bi_is_loose ?a_12 ?l_12 ?c_12 ?k_12 ?rest_12
    (case a_12 => k_is); (case l_12 => k_is); (case c_12 => k_is); (case k_12 => k_is)
    intro g_is_loose f_is_loose n_is_loose
    refine' Cp.st_fn (st := Cp.s_is_broken) (x := "is_broken") (qual := "is_broken") (ps := ["clause", "so"]) KX G Cp.bi_is_broken ?a_13 ?l_13 ?c_13 ?k_13 ?rest_13
    (case a_13 => k_is); (case l_13 => k_is); (case c_13 => k_is); (case k_13 => k_is)
    intro g_is_broken f_is_broken n_is_broken
    refine' Cp.st_fn (st := Cp.s_said_by) (x := "said_by") (qual := "said_by") (ps := ["atom", "literal"]) KX G Cp.bi_said_by ?a_14 ?l_14 ?c_14 ?k_14 ?rest_14
    (case a_14 => k_is); (case l_14 => k_is); (case c_14 => k_is); (case k_14 => k_is)
    intro g_said_by f_said_by n_said_by
    refine' Cp.st_fn (st := Cp.s_bounds_said) (x := "bounds_said") (qual := "bounds_said") (ps := ["atoms", "literals"]) KX G Cp.bi_bounds_said ?a_15 ?l_15 ?c_15 ?k_15 ?rest_15
    (case a_15 => k_is); (case l_15 => k_is); (case c_15 => k_is); (case k_15 => k_is)
    intro g_bounds_said f_bounds_said n_bounds_said
    refine' Cp.st_fn (st := Cp.s_lower_once) (x := "lower_once") (qual := "lower_once") (ps := ["values", "said"]) KX G Cp.bi_lower_once ?a_16 ?l_16 ?c_16 ?k_16 ?rest_16
    (case a_16 => k_is); (case l_16 => k_is); (case c_16 => k_is); (case k_16 => k_is)
    intro g_lower_once f_lower_once n_lower_once
    refine' Cp.st_fn (st := Cp.s_can_be_together) (x := "can_be_together") (qual := "can_be_together") (ps := ["atoms", "u", "literals"]) KX G Cp.bi_can_be_together ?a_17 ?l_17 ?c_17 ?k_17 ?rest_17
    (case a_17 => k_is); (case l_17 => k_is); (case c_17 => k_is); (case k_17 => k_is)
    intro g_can_be_together f_can_be_together n_can_be_together
    refine' Cp.st_fn (st := Cp.s_add_up_to_less_than_0) (x := "add_up_to_less_than_0") (qual := "add_up_to_less_than_0") (ps := ["said"]) KX G Cp.bi_add_up_to_less_than_0 ?a_18 ?l_18 ?c_18 ?k_18 ?rest_18
    (case a_18 => k_is); (case l_18 => k_is); (case c_18 => k_is); (case k_18 => k_is)
    intro g_add_up_to_less_than_0 f_add_up_to_less_than_0 n_add_up_to_less_than_0
    refine' Cp.st_fn (st := Cp.s_one_place_more) (x := "one_place_more") (qual := "one_place_more") (ps := ["choices", "count"]) KX G Cp.bi_one_place_more ?a_19 ?l_19 ?c_19 ?k_19 ?rest_19
    (case a_19 => k_is); (case l_19 => k_is); (case c_19 => k_is); (case k_19 => k_is)
    intro g_one_place_more f_one_place_more n_one_place_more
    refine' Cp.st_fn (st := Cp.s_reason_of) (x := "reason_of") (qual := "reason_of") (ps := ["atoms", "u", "literals"]) KX G Cp.bi_reason_of ?a_20 ?l_20 ?c_20 ?k_20 ?rest_20
    (case a_20 => k_is); (case l_20 => k_is); (case c_20 => k_is); (case k_20 => k_is)
    intro g_reason_of f_reason_of n_reason_of
    refine' Cp.st_fn (st := Cp.s_most_above) (x := "most_above") (qual := "most_above") (ps := ["u", "said", "base"]) KX G Cp.bi_most_above ?a_21 ?l_21 ?c_21 ?k_21 ?rest_21
    (case a_21 => k_is); (case l_21 => k_is); (case c_21 => k_is); (case k_21 => k_is)
    intro g_most_above f_most_above n_most_above
    refine' Cp.st_fn (st := Cp.s_nearest_to_0) (x := "nearest_to_0") (qual := "nearest_to_0") (ps := ["u", "said", "unknown"]) KX G Cp.bi_nearest_to_0 ?a_22 ?l_22 ?c_22 ?k_22 ?rest_22
    (case a_22 => k_is); (case l_22 => k_is); (case c_22 => k_is); (case k_22 => k_is)
    intro g_nearest_to_0 f_nearest_to_0 n_nearest_to_0
    refine' Cp.st_fn (st := Cp.s_nearest_values) (x := "nearest_values") (qual := "nearest_values") (ps := ["u", "said"]) KX G Cp.bi_nearest_values ?a_23 ?l_23 ?c_23 ?k_23 ?rest_23
    (case a_23 => k_is); (case l_23 => k_is); (case c_23 => k_is); (case k_23 => k_is)
    intro g_nearest_values f_nearest_values n_nearest_values
    refine' Cp.st_me (st := Cp.s_Line___init__) (C := _) (x := "__init__") (qual := "Line.__init__") (ps := ["self", "way", "named", "clause"]) k_Line Cp.bi_Line___init__ ?a_24 ?i_24 ?l_24 ?c_24 ?k_24 ?rest_24
    (case a_24 => k_is); (case i_24 => k_is); (case l_24 => k_is); (case c_24 => k_is); (case k_24 => k_is)
    intro t_Line___init__ f_Line___init__ n_Line___init__
    refine' Cp.st_me (st := Cp.s_Line_sources) (C := _) (x := "sources") (qual := "Line.sources") (ps := ["self"]) k_Line Cp.bi_Line_sources ?a_25 ?i_25 ?l_25 ?c_25 ?k_25 ?rest_25
    (case a_25 => k_is); (case i_25 => k_is); (case l_25 => k_is); (case c_25 => k_is); (case k_25 => k_is)
    intro t_Line_sources f_Line_sources n_Line_sources
    refine' Cp.st_fn (st := Cp.s_shown_by_differences) (x := "shown_by_differences") (qual := "shown_by_differences") (ps := ["clause", "atoms", "u"]) KX G Cp.bi_shown_by_differences ?a_26 ?l_26 ?c_26 ?k_26 ?rest_26
    (case a_26 => k_is); (case l_26 => k_is); (case c_26 => k_is); (case k_26 => k_is)
    intro g_shown_by_differences f_shown_by_differences n_shown_by_differences
    refine' Cp.st_fn (st := Cp.s_shown_by_joining) (x := "shown_by_joining") (qual := "shown_by_joining") (ps := ["clause", "first", "second", "atom"]) KX G Cp.bi_shown_by_joining ?a_27 ?l_27 ?c_27 ?k_27 ?rest_27
    (case a_27 => k_is); (case l_27 => k_is); (case c_27 => k_is); (case k_27 => k_is)
    intro g_shown_by_joining f_shown_by_joining n_shown_by_joining
    refine' Cp.st_fn (st := Cp.s_shown_by_widening) (x := "shown_by_widening") (qual := "shown_by_widening") (ps := ["clause", "source"]) KX G Cp.bi_shown_by_widening ?a_28 ?l_28 ?c_28 ?k_28 ?rest_28
    (case a_28 => k_is); (case l_28 => k_is); (case c_28 => k_is); (case k_28 => k_is)
    intro g_shown_by_widening f_shown_by_widening n_shown_by_widening
    refine' Cp.st_fn (st := Cp.s_shown_by_chain) (x := "shown_by_chain") (qual := "shown_by_chain") (ps := ["clause", "sources"]) KX G Cp.bi_shown_by_chain ?a_29 ?l_29 ?c_29 ?k_29 ?rest_29
    (case a_29 => k_is); (case l_29 => k_is); (case c_29 => k_is); (case k_29 => k_is)
    intro g_shown_by_chain f_shown_by_chain n_shown_by_chain
    refine' Cp.st_fn (st := Cp.s_is_shown) (x := "is_shown") (qual := "is_shown") (ps := ["line", "lines", "atoms", "u"]) KX G Cp.bi_is_shown ?a_30 ?l_30 ?c_30 ?k_30 ?rest_30
    (case a_30 => k_is); (case l_30 => k_is); (case c_30 => k_is); (case k_30 => k_is)
    intro g_is_shown f_is_shown n_is_shown
    refine' Cp.st_me (st := Cp.s_Proof___init__) (C := _) (x := "__init__") (qual := "Proof.__init__") (ps := ["self", "atoms", "u", "lines", "next_number"]) k_Proof Cp.bi_Proof___init__ ?a_31 ?i_31 ?l_31 ?c_31 ?k_31 ?rest_31
    (case a_31 => k_is); (case i_31 => k_is); (case l_31 => k_is); (case c_31 => k_is); (case k_31 => k_is)
    intro t_Proof___init__ f_Proof___init__ n_Proof___init__
    refine' Cp.st_me (st := Cp.s_Proof_line_found) (C := _) (x := "line_found") (qual := "Proof.line_found") (ps := ["self", "so"]) k_Proof Cp.bi_Proof_line_found ?a_32 ?i_32 ?l_32 ?c_32 ?k_32 ?rest_32
    (case a_32 => k_is); (case i_32 => k_is); (case l_32 => k_is); (case c_32 => k_is); (case k_32 => k_is)
    intro t_Proof_line_found f_Proof_line_found n_Proof_line_found
    refine' Cp.st_me (st := Cp.s_Proof_line_of_both) (C := _) (x := "line_of_both") (qual := "Proof.line_of_both") (ps := ["self", "so", "atom"]) k_Proof Cp.bi_Proof_line_of_both ?a_33 ?i_33 ?l_33 ?c_33 ?k_33 ?rest_33
    (case a_33 => k_is); (case i_33 => k_is); (case l_33 => k_is); (case c_33 => k_is); (case k_33 => k_is)
    intro t_Proof_line_of_both f_Proof_line_of_both n_Proof_line_of_both
    refine' Cp.st_me (st := Cp.s_Proof_line_for) (C := _) (x := "line_for") (qual := "Proof.line_for") (ps := ["self", "way", "named", "clause"]) k_Proof Cp.bi_Proof_line_for ?a_34 ?i_34 ?l_34 ?c_34 ?k_34 ?rest_34
    (case a_34 => k_is); (case i_34 => k_is); (case l_34 => k_is); (case c_34 => k_is); (case k_34 => k_is)
    intro t_Proof_line_for f_Proof_line_for n_Proof_line_for
    refine' Cp.st_fn (st := Cp.s_split_steps) (x := "split_steps") (qual := "split_steps") (ps := ["steps"]) KX G Cp.bi_split_steps ?a_35 ?l_35 ?c_35 ?k_35 ?rest_35
    (case a_35 => k_is); (case l_35 => k_is); (case c_35 => k_is); (case k_35 => k_is)
    intro g_split_steps f_split_steps n_split_steps
    refine' Cp.st_fn (st := Cp.s_count_right) (x := "count_right") (qual := "count_right") (ps := ["steps", "lines", "next_number", "atoms", "u"]) KX G Cp.bi_count_right ?a_36 ?l_36 ?c_36 ?k_36 ?rest_36
    (case a_36 => k_is); (case l_36 => k_is); (case c_36 => k_is); (case k_36 => k_is)
    intro g_count_right f_count_right n_count_right
    refine' Cp.st_fn (st := Cp.s_first_row) (x := "first_row") (qual := "first_row") (ps := ["atoms", "u", "clauses", "so"]) KX G Cp.bi_first_row ?a_37 ?l_37 ?c_37 ?k_37 ?rest_37
    (case a_37 => k_is); (case l_37 => k_is); (case c_37 => k_is); (case k_37 => k_is)
    intro g_first_row f_first_row n_first_row
    refine' Cp.st_fn (st := Cp.s_first_world) (x := "first_world") (qual := "first_world") (ps := ["atoms", "u", "clauses"]) KX G Cp.bi_first_world ?a_38 ?l_38 ?c_38 ?k_38 ?rest_38
    (case a_38 => k_is); (case l_38 => k_is); (case c_38 => k_is); (case k_38 => k_is)
    intro g_first_world f_first_world n_first_world
    refine' Cp.st_me (st := Cp.s_Mark___init__) (C := _) (x := "__init__") (qual := "Mark.__init__") (ps := ["self", "atoms", "lines", "next_number"]) k_Mark Cp.bi_Mark___init__ ?a_39 ?i_39 ?l_39 ?c_39 ?k_39 ?rest_39
    (case a_39 => k_is); (case i_39 => k_is); (case l_39 => k_is); (case c_39 => k_is); (case k_39 => k_is)
    intro t_Mark___init__ f_Mark___init__ n_Mark___init__
    refine' Cp.st_me (st := Cp.s_Book___init__) (C := _) (x := "__init__") (qual := "Book.__init__") (ps := ["self"]) k_Book Cp.bi_Book___init__ ?a_40 ?i_40 ?l_40 ?c_40 ?k_40 ?rest_40
    (case a_40 => k_is); (case i_40 => k_is); (case l_40 => k_is); (case c_40 => k_is); (case k_40 => k_is)
    intro t_Book___init__ f_Book___init__ n_Book___init__
    refine' Cp.st_me (st := Cp.s_Book_begin) (C := _) (x := "begin") (qual := "Book.begin") (ps := ["self", "u"]) k_Book Cp.bi_Book_begin ?a_41 ?i_41 ?l_41 ?c_41 ?k_41 ?rest_41
    (case a_41 => k_is); (case i_41 => k_is); (case l_41 => k_is); (case c_41 => k_is); (case k_41 => k_is)
    intro t_Book_begin f_Book_begin n_Book_begin
    refine' Cp.st_me (st := Cp.s_Book_start) (C := _) (x := "start") (qual := "Book.start") (ps := ["self", "u"]) k_Book Cp.bi_Book_start ?a_42 ?i_42 ?l_42 ?c_42 ?k_42 ?rest_42
    (case a_42 => k_is); (case i_42 => k_is); (case l_42 => k_is); (case c_42 => k_is); (case k_42 => k_is)
    intro t_Book_start f_Book_start n_Book_start
    refine' Cp.st_me (st := Cp.s_Book_yes) (C := _) (x := "yes") (qual := "Book.yes") (ps := ["self"]) k_Book Cp.bi_Book_yes ?a_43 ?i_43 ?l_43 ?c_43 ?k_43 ?rest_43
    (case a_43 => k_is); (case i_43 => k_is); (case l_43 => k_is); (case c_43 => k_is); (case k_43 => k_is)
    intro t_Book_yes f_Book_yes n_Book_yes
    refine' Cp.st_me (st := Cp.s_Book_bound) (C := _) (x := "bound") (qual := "Book.bound") (ps := ["self", "a", "b", "c"]) k_Book Cp.bi_Book_bound ?a_44 ?i_44 ?l_44 ?c_44 ?k_44 ?rest_44
    (case a_44 => k_is); (case i_44 => k_is); (case l_44 => k_is); (case c_44 => k_is); (case k_44 => k_is)
    intro t_Book_bound f_Book_bound n_Book_bound
    refine' Cp.st_me (st := Cp.s_Book_claim) (C := _) (x := "claim") (qual := "Book.claim") (ps := ["self", "literals"]) k_Book Cp.bi_Book_claim ?a_45 ?i_45 ?l_45 ?c_45 ?k_45 ?rest_45
    (case a_45 => k_is); (case i_45 => k_is); (case l_45 => k_is); (case c_45 => k_is); (case k_45 => k_is)
    intro t_Book_claim f_Book_claim n_Book_claim
    refine' Cp.st_me (st := Cp.s_Book_bounds) (C := _) (x := "bounds") (qual := "Book.bounds") (ps := ["self", "literals"]) k_Book Cp.bi_Book_bounds ?a_46 ?i_46 ?l_46 ?c_46 ?k_46 ?rest_46
    (case a_46 => k_is); (case i_46 => k_is); (case l_46 => k_is); (case c_46 => k_is); (case k_46 => k_is)
    intro t_Book_bounds f_Book_bounds n_Book_bounds
    refine' Cp.st_me (st := Cp.s_Book_joined) (C := _) (x := "joined") (qual := "Book.joined") (ps := ["self", "i", "j", "a", "literals"]) k_Book Cp.bi_Book_joined ?a_47 ?i_47 ?l_47 ?c_47 ?k_47 ?rest_47
    (case a_47 => k_is); (case i_47 => k_is); (case l_47 => k_is); (case c_47 => k_is); (case k_47 => k_is)
    intro t_Book_joined f_Book_joined n_Book_joined
    refine' Cp.st_me (st := Cp.s_Book_wider) (C := _) (x := "wider") (qual := "Book.wider") (ps := ["self", "i", "literals"]) k_Book Cp.bi_Book_wider ?a_48 ?i_48 ?l_48 ?c_48 ?k_48 ?rest_48
    (case a_48 => k_is); (case i_48 => k_is); (case l_48 => k_is); (case c_48 => k_is); (case k_48 => k_is)
    intro t_Book_wider f_Book_wider n_Book_wider
    refine' Cp.st_me (st := Cp.s_Book_chain) (C := _) (x := "chain") (qual := "Book.chain") (ps := ["self", "lines", "literals"]) k_Book Cp.bi_Book_chain ?a_49 ?i_49 ?l_49 ?c_49 ?k_49 ?rest_49
    (case a_49 => k_is); (case i_49 => k_is); (case l_49 => k_is); (case c_49 => k_is); (case k_49 => k_is)
    intro t_Book_chain f_Book_chain n_Book_chain
    refine' Cp.st_me (st := Cp.s_Book_drop) (C := _) (x := "drop") (qual := "Book.drop") (ps := ["self", "k"]) k_Book Cp.bi_Book_drop ?a_50 ?i_50 ?l_50 ?c_50 ?k_50 ?rest_50
    (case a_50 => k_is); (case i_50 => k_is); (case l_50 => k_is); (case c_50 => k_is); (case k_50 => k_is)
    intro t_Book_drop f_Book_drop n_Book_drop
    refine' Cp.st_me (st := Cp.s_Book_mark) (C := _) (x := "mark") (qual := "Book.mark") (ps := ["self"]) k_Book Cp.bi_Book_mark ?a_51 ?i_51 ?l_51 ?c_51 ?k_51 ?rest_51
    (case a_51 => k_is); (case i_51 => k_is); (case l_51 => k_is); (case c_51 => k_is); (case k_51 => k_is)
    intro t_Book_mark f_Book_mark n_Book_mark
    refine' Cp.st_me (st := Cp.s_Book_back) (C := _) (x := "back") (qual := "Book.back") (ps := ["self"]) k_Book Cp.bi_Book_back ?a_52 ?i_52 ?l_52 ?c_52 ?k_52 ?rest_52
    (case a_52 => k_is); (case i_52 => k_is); (case l_52 => k_is); (case c_52 => k_is); (case k_52 => k_is)
    intro t_Book_back f_Book_back n_Book_back
    refine' Cp.st_me (st := Cp.s_Book_decide) (C := _) (x := "decide") (qual := "Book.decide") (ps := ["self"]) k_Book Cp.bi_Book_decide ?a_53 ?i_53 ?l_53 ?c_53 ?k_53 ?rest_53
    (case a_53 => k_is); (case i_53 => k_is); (case l_53 => k_is); (case c_53 => k_is); (case k_53 => k_is)
    intro t_Book_decide f_Book_decide n_Book_decide
    refine' Cp.st_me (st := Cp.s_Book_prove) (C := _) (x := "prove") (qual := "Book.prove") (ps := ["self"]) k_Book Cp.bi_Book_prove ?a_54 ?i_54 ?l_54 ?c_54 ?k_54 ?rest_54
    (case a_54 => k_is); (case i_54 => k_is); (case l_54 => k_is); (case c_54 => k_is); (case k_54 => k_is)
    intro t_Book_prove f_Book_prove n_Book_prove
    refine' Cp.st_me (st := Cp.s_Book_show) (C := _) (x := "show") (qual := "Book.show") (ps := ["self", "k"]) k_Book Cp.bi_Book_show ?a_55 ?i_55 ?l_55 ?c_55 ?k_55 ?rest_55
    (case a_55 => k_is); (case i_55 => k_is); (case l_55 => k_is); (case c_55 => k_is); (case k_55 => k_is)
    intro t_Book_show f_Book_show n_Book_show
    refine' Cp.st_me (st := Cp.s_Book_rests) (C := _) (x := "rests") (qual := "Book.rests") (ps := ["self", "k"]) k_Book Cp.bi_Book_rests ?a_56 ?i_56 ?l_56 ?c_56 ?k_56 ?rest_56
    (case a_56 => k_is); (case i_56 => k_is); (case l_56 => k_is); (case c_56 => k_is); (case k_56 => k_is)
    intro t_Book_rests f_Book_rests n_Book_rests
    refine' Cp.st_me (st := Cp.s_Book_came) (C := _) (x := "came") (qual := "Book.came") (ps := ["self", "k"]) k_Book Cp.bi_Book_came ?a_57 ?i_57 ?l_57 ?c_57 ?k_57 ?rest_57
    (case a_57 => k_is); (case i_57 => k_is); (case l_57 => k_is); (case c_57 => k_is); (case k_57 => k_is)
    intro t_Book_came f_Book_came n_Book_came
    refine' Cp.st_me (st := Cp.s_Book_judge) (C := _) (x := "judge") (qual := "Book.judge") (ps := ["self", "steps"]) k_Book Cp.bi_Book_judge ?a_58 ?i_58 ?l_58 ?c_58 ?k_58 ?rest_58
    (case a_58 => k_is); (case i_58 => k_is); (case l_58 => k_is); (case c_58 => k_is); (case k_58 => k_is)
    intro t_Book_judge f_Book_judge n_Book_judge
    refine' Cp.st_me (st := Cp.s_Book_reason) (C := _) (x := "reason") (qual := "Book.reason") (ps := ["self", "literals"]) k_Book Cp.bi_Book_reason ?a_59 ?i_59 ?l_59 ?c_59 ?k_59 ?rest_59
    (case a_59 => k_is); (case i_59 => k_is); (case l_59 => k_is); (case c_59 => k_is); (case k_59 => k_is)
    intro t_Book_reason f_Book_reason n_Book_reason
    refine' Cp.st_me (st := Cp.s_Book_derive) (C := _) (x := "derive") (qual := "Book.derive") (ps := ["self", "way", "named", "literals"]) k_Book Cp.bi_Book_derive ?a_60 ?i_60 ?l_60 ?c_60 ?k_60 ?rest_60
    (case a_60 => k_is); (case i_60 => k_is); (case l_60 => k_is); (case c_60 => k_is); (case k_60 => k_is)
    intro t_Book_derive f_Book_derive n_Book_derive
    refine' Cp.st_me (st := Cp.s_Book_add_atom) (C := _) (x := "add_atom") (qual := "Book.add_atom") (ps := ["self", "atom"]) k_Book Cp.bi_Book_add_atom ?a_61 ?i_61 ?l_61 ?c_61 ?k_61 ?rest_61
    (case a_61 => k_is); (case i_61 => k_is); (case l_61 => k_is); (case c_61 => k_is); (case k_61 => k_is)
    intro t_Book_add_atom f_Book_add_atom n_Book_add_atom
    refine' Cp.st_me (st := Cp.s_Book_add_line) (C := _) (x := "add_line") (qual := "Book.add_line") (ps := ["self", "line"]) k_Book Cp.bi_Book_add_line ?a_62 ?i_62 ?l_62 ?c_62 ?k_62 ?rest_62
    (case a_62 => k_is); (case i_62 => k_is); (case l_62 => k_is); (case c_62 => k_is); (case k_62 => k_is)
    intro t_Book_add_line f_Book_add_line n_Book_add_line
    refine' Cp.st_me (st := Cp.s_Book_has_strange) (C := _) (x := "has_strange") (qual := "Book.has_strange") (ps := ["self", "literals"]) k_Book Cp.bi_Book_has_strange ?a_63 ?i_63 ?l_63 ?c_63 ?k_63 ?rest_63
    (case a_63 => k_is); (case i_63 => k_is); (case l_63 => k_is); (case c_63 => k_is); (case k_63 => k_is)
    intro t_Book_has_strange f_Book_has_strange n_Book_has_strange
    refine' Cp.st_me (st := Cp.s_Book_has_all) (C := _) (x := "has_all") (qual := "Book.has_all") (ps := ["self", "numbers"]) k_Book Cp.bi_Book_has_all ?a_64 ?i_64 ?l_64 ?c_64 ?k_64 ?rest_64
    (case a_64 => k_is); (case i_64 => k_is); (case l_64 => k_is); (case c_64 => k_is); (case k_64 => k_is)
    intro t_Book_has_all f_Book_has_all n_Book_has_all
    refine' Cp.st_me (st := Cp.s_Book_claims_among) (C := _) (x := "claims_among") (qual := "Book.claims_among") (ps := ["self", "numbers"]) k_Book Cp.bi_Book_claims_among ?a_65 ?i_65 ?l_65 ?c_65 ?k_65 ?rest_65
    (case a_65 => k_is); (case i_65 => k_is); (case l_65 => k_is); (case c_65 => k_is); (case k_65 => k_is)
    intro t_Book_claims_among f_Book_claims_among n_Book_claims_among
    refine' Cp.st_me (st := Cp.s_Book_can_stay) (C := _) (x := "can_stay") (qual := "Book.can_stay") (ps := ["self", "line"]) k_Book Cp.bi_Book_can_stay ?a_66 ?i_66 ?l_66 ?c_66 ?k_66 ?rest_66
    (case a_66 => k_is); (case i_66 => k_is); (case l_66 => k_is); (case c_66 => k_is); (case k_66 => k_is)
    intro t_Book_can_stay f_Book_can_stay n_Book_can_stay
    refine' Cp.st_me (st := Cp.s_Book_resting_on) (C := _) (x := "resting_on") (qual := "Book.resting_on") (ps := ["self", "k"]) k_Book Cp.bi_Book_resting_on ?a_67 ?i_67 ?l_67 ?c_67 ?k_67 ?rest_67
    (case a_67 => k_is); (case i_67 => k_is); (case l_67 => k_is); (case c_67 => k_is); (case k_67 => k_is)
    intro t_Book_resting_on f_Book_resting_on n_Book_resting_on
    refine' Cp.st_me (st := Cp.s_Book_ancestry) (C := _) (x := "ancestry") (qual := "Book.ancestry") (ps := ["self", "k"]) k_Book Cp.bi_Book_ancestry ?a_68 ?i_68 ?l_68 ?c_68 ?k_68 ?rest_68
    (case a_68 => k_is); (case i_68 => k_is); (case l_68 => k_is); (case c_68 => k_is); (case k_68 => k_is)
    intro t_Book_ancestry f_Book_ancestry n_Book_ancestry
    refine' Cp.st_fn (st := Cp.s_counted) (x := "counted") (qual := "counted") (ps := ["numbers"]) KX G Cp.bi_counted ?a_69 ?l_69 ?c_69 ?k_69 ?rest_69
    (case a_69 => k_is); (case l_69 => k_is); (case c_69 => k_is); (case k_69 => k_is)
    intro g_counted f_counted n_counted
    refine' Cp.st_fn (st := Cp.s_one_number) (x := "one_number") (qual := "one_number") (ps := ["book", "call"]) KX G Cp.bi_one_number ?a_70 ?l_70 ?c_70 ?k_70 ?rest_70
    (case a_70 => k_is); (case l_70 => k_is); (case c_70 => k_is); (case k_70 => k_is)
    intro g_one_number f_one_number n_one_number
    refine' Cp.st_fn (st := Cp.s_answer_of) (x := "answer_of") (qual := "answer_of") (ps := ["book", "call"]) KX G Cp.bi_answer_of ?a_71 ?l_71 ?c_71 ?k_71 ?rest_71
    (case a_71 => k_is); (case l_71 => k_is); (case c_71 => k_is); (case k_71 => k_is)
    intro g_answer_of f_answer_of n_answer_of
    refine' Cp.st_fn (st := Cp.s_answers) (x := "answers") (qual := "answers") (ps := ["calls"]) KX G Cp.bi_answers ?a_72 ?l_72 ?c_72 ?k_72 ?rest_72
    (case a_72 => k_is); (case l_72 => k_is); (case c_72 => k_is); (case k_72 => k_is)
    intro g_answers f_answers n_answers
    refine' Cp.st_na (x := "number") k_Call ?a_73 ?rest_73
    (case a_73 => k_is)
    intro x_Call_number
    refine' Cp.st_na (x := "numbers") k_Call ?a_74 ?rest_74
    (case a_74 => k_is)
    intro x_Call_numbers
    refine' Cp.st_na (x := "rows") k_Call ?a_75 ?rest_75
    (case a_75 => k_is)
    intro x_Call_rows
    refine' Cp.st_na (x := "way") k_Line ?a_76 ?rest_76
    (case a_76 => k_is)
    intro x_Line_way
    refine' Cp.st_na (x := "named") k_Line ?a_77 ?rest_77
    (case a_77 => k_is)
    intro x_Line_named
    refine' Cp.st_na (x := "clause") k_Line ?a_78 ?rest_78
    (case a_78 => k_is)
    intro x_Line_clause
    refine' Cp.st_na (x := "atoms") k_Proof ?a_79 ?rest_79
    (case a_79 => k_is)
    intro x_Proof_atoms
    refine' Cp.st_na (x := "u") k_Proof ?a_80 ?rest_80
    (case a_80 => k_is)
    intro x_Proof_u
    refine' Cp.st_na (x := "lines") k_Proof ?a_81 ?rest_81
    (case a_81 => k_is)
    intro x_Proof_lines
    refine' Cp.st_na (x := "next_number") k_Proof ?a_82 ?rest_82
    (case a_82 => k_is)
    intro x_Proof_next_number
    refine' Cp.st_na (x := "claims") k_Proof ?a_83 ?rest_83
    (case a_83 => k_is)
    intro x_Proof_claims
    refine' Cp.st_na (x := "first_with") k_Proof ?a_84 ?rest_84
    (case a_84 => k_is)
    intro x_Proof_first_with
    refine' Cp.st_na (x := "atoms") k_Mark ?a_85 ?rest_85
    (case a_85 => k_is)
    intro x_Mark_atoms
    refine' Cp.st_na (x := "lines") k_Mark ?a_86 ?rest_86
    (case a_86 => k_is)
    intro x_Mark_lines
    refine' Cp.st_na (x := "next_number") k_Mark ?a_87 ?rest_87
    (case a_87 => k_is)
    intro x_Mark_next_number
    refine' Cp.st_na (x := "u") k_Book ?a_88 ?rest_88
    (case a_88 => k_is)
    intro x_Book_u
    refine' Cp.st_na (x := "atoms") k_Book ?a_89 ?rest_89
    (case a_89 => k_is)
    intro x_Book_atoms
    refine' Cp.st_na (x := "lines") k_Book ?a_90 ?rest_90
    (case a_90 => k_is)
    intro x_Book_lines
    refine' Cp.st_na (x := "next_number") k_Book ?a_91 ?rest_91
    (case a_91 => k_is)
    intro x_Book_next_number
    refine' Cp.st_na (x := "marks") k_Book ?a_92 ?rest_92
    (case a_92 => k_is)
    intro x_Book_marks
    refine' Cp.st_ci (x := "START") (i := 0) KX G ?a_93 ?rest_93
    (case a_93 => k_is)
    intro c_START
    refine' Cp.st_ci (x := "YES") (i := 1) KX G ?a_94 ?rest_94
    (case a_94 => k_is)
    intro c_YES
    refine' Cp.st_ci (x := "BOUND") (i := 2) KX G ?a_95 ?rest_95
    (case a_95 => k_is)
    intro c_BOUND
    refine' Cp.st_ci (x := "CLAIM") (i := 3) KX G ?a_96 ?rest_96
    (case a_96 => k_is)
    intro c_CLAIM
    refine' Cp.st_ci (x := "BOUNDS") (i := 4) KX G ?a_97 ?rest_97
    (case a_97 => k_is)
    intro c_BOUNDS
    refine' Cp.st_ci (x := "JOINED") (i := 5) KX G ?a_98 ?rest_98
    (case a_98 => k_is)
    intro c_JOINED
    refine' Cp.st_ci (x := "WIDER") (i := 6) KX G ?a_99 ?rest_99
    (case a_99 => k_is)
    intro c_WIDER
    refine' Cp.st_ci (x := "CHAIN") (i := 7) KX G ?a_100 ?rest_100
    (case a_100 => k_is)
    intro c_CHAIN
    refine' Cp.st_ci (x := "DROP") (i := 8) KX G ?a_101 ?rest_101
    (case a_101 => k_is)
    intro c_DROP
    refine' Cp.st_ci (x := "MARK") (i := 9) KX G ?a_102 ?rest_102
    (case a_102 => k_is)
    intro c_MARK
    refine' Cp.st_ci (x := "BACK") (i := 10) KX G ?a_103 ?rest_103
    (case a_103 => k_is)
    intro c_BACK
    refine' Cp.st_ci (x := "DECIDE") (i := 11) KX G ?a_104 ?rest_104
    (case a_104 => k_is)
    intro c_DECIDE
    refine' Cp.st_ci (x := "PROVE") (i := 12) KX G ?a_105 ?rest_105
    (case a_105 => k_is)
    intro c_PROVE
    refine' Cp.st_ci (x := "SHOW") (i := 13) KX G ?a_106 ?rest_106
    (case a_106 => k_is)
    intro c_SHOW
    refine' Cp.st_ci (x := "RESTS") (i := 14) KX G ?a_107 ?rest_107
    (case a_107 => k_is)
    intro c_RESTS
    refine' Cp.st_ci (x := "CAME") (i := 15) KX G ?a_108 ?rest_108
    (case a_108 => k_is)
    intro c_CAME
    refine' Cp.st_ci (x := "JUDGE") (i := 16) KX G ?a_109 ?rest_109
    (case a_109 => k_is)
    intro c_JUDGE
    refine' Cp.st_ct18 (x := "FORMS") (y0 := 1) (z0 := 0) (y1 := 0) (z1 := 0) (y2 := 3) (z2 := 0) (y3 := 0) (z3 := 1) (y4 := 0) (z4 := 1) (y5 := 3) (z5 := 1) (y6 := 1) (z6 := 1) (y7 := 0) (z7 := 2) (y8 := 1) (z8 := 0) (y9 := 0) (z9 := 0) (y10 := 0) (z10 := 0) (y11 := 0) (z11 := 0) (y12 := 0) (z12 := 0) (y13 := 1) (z13 := 0) (y14 := 1) (z14 := 0) (y15 := 1) (z15 := 0) (y16 := 0) (z16 := 1) (y17 := 0) (z17 := 1) KX G ?a_110 ?l_110 ?r0_110 ?r1_110 ?r2_110 ?r3_110 ?r4_110 ?r5_110 ?r6_110 ?r7_110 ?r8_110 ?r9_110 ?r10_110 ?r11_110 ?r12_110 ?r13_110 ?r14_110 ?r15_110 ?r16_110 ?r17_110 ?rest_110
    (case a_110 => k_is); (case l_110 => k_is); (case r0_110 => k_is); (case r1_110 => k_is); (case r2_110 => k_is); (case r3_110 => k_is); (case r4_110 => k_is); (case r5_110 => k_is); (case r6_110 => k_is); (case r7_110 => k_is); (case r8_110 => k_is); (case r9_110 => k_is); (case r10_110 => k_is); (case r11_110 => k_is); (case r12_110 => k_is); (case r13_110 => k_is); (case r14_110 => k_is); (case r15_110 => k_is); (case r16_110 => k_is); (case r17_110 => k_is)
    intro c_FORMS w_FORMS
    refine' Cp.st_c0 (x := "QUESTION") KX G ?a_111 ?l_111 ?rest_111
    (case a_111 => k_is); (case l_111 => k_is)
    intro c_QUESTION w_QUESTION
    refine' Cp.st_ci (x := "AS_CLAIM") (i := 0) KX G ?a_112 ?rest_112
    (case a_112 => k_is)
    intro c_AS_CLAIM
    refine' Cp.st_ci (x := "BY_BOUNDS") (i := 1) KX G ?a_113 ?rest_113
    (case a_113 => k_is)
    intro c_BY_BOUNDS
    refine' Cp.st_ci (x := "BY_JOINING") (i := 2) KX G ?a_114 ?rest_114
    (case a_114 => k_is)
    intro c_BY_JOINING
    refine' Cp.st_ci (x := "BY_WIDENING") (i := 3) KX G ?a_115 ?rest_115
    (case a_115 => k_is)
    intro c_BY_WIDENING
    refine' Cp.st_ci (x := "BY_CHAIN") (i := 4) KX G ?a_116 ?rest_116
    (case a_116 => k_is)
    intro c_BY_CHAIN
    refine' Cp.st_cf4 (x := "NAMED") (y0 := 0) (y1 := 0) (y2 := 3) (y3 := 1) KX G ?a_117 ?l_117 ?rest_117
    (case a_117 => k_is); (case l_117 => k_is)
    intro c_NAMED w_NAMED
    refine' Cp.st_ci (x := "FIRST_U") (i := 3) KX G ?a_118 ?rest_118
    (case a_118 => k_is)
    intro c_FIRST_U
    refine' Cp.st_ci (x := "MOST_U") (i := 4) KX G ?a_119 ?rest_119
    (case a_119 => k_is)
    intro c_MOST_U
    refine' Cp.st_ci (x := "MOST_APART") (i := 1000) KX G ?a_120 ?rest_120
    (case a_120 => k_is)
    intro c_MOST_APART
    refine' Cp.st_ci (x := "MOST_ATOMS") (i := 8) KX G ?a_121 ?rest_121
    (case a_121 => k_is)
    intro c_MOST_ATOMS
    refine' Cp.st_ci (x := "MOST_LINES") (i := 300) KX G ?a_122 ?rest_122
    (case a_122 => k_is)
    intro c_MOST_LINES
    refine' Cp.st_ci (x := "MOST_CLAIMS") (i := 16) KX G ?a_123 ?rest_123
    (case a_123 => k_is)
    intro c_MOST_CLAIMS
    refine' Cp.st_ci (x := "MOST_MARKS") (i := 8) KX G ?a_124 ?rest_124
    (case a_124 => k_is)
    intro c_MOST_MARKS
    refine' Cp.st_ci (x := "MOST_TO_REASON") (i := 8) KX G ?a_125 ?rest_125
    (case a_125 => k_is)
    intro c_MOST_TO_REASON
    refine' Cp.st_ci (x := "WRONG") (i := -1) KX G ?a_126 ?rest_126
    (case a_126 => k_is)
    intro c_WRONG
    refine' Cp.st_ci (x := "NO_ATOM") (i := -2) KX G ?a_127 ?rest_127
    (case a_127 => k_is)
    intro c_NO_ATOM
    refine' Cp.st_ci (x := "NO_LINE") (i := -3) KX G ?a_128 ?rest_128
    (case a_128 => k_is)
    intro c_NO_LINE
    refine' Cp.st_ci (x := "FULL") (i := -5) KX G ?a_129 ?rest_129
    (case a_129 => k_is)
    intro c_FULL
    refine' Cp.st_ci (x := "NOT_SHOWN") (i := -6) KX G ?a_130 ?rest_130
    (case a_130 => k_is)
    intro c_NOT_SHOWN
    refine' Cp.st_ci (x := "NO_MARK") (i := -7) KX G ?a_131 ?rest_131
    (case a_131 => k_is)
    intro c_NO_MARK
    refine' Cp.st_ci (x := "HAS_WORLD") (i := -8) KX G ?a_132 ?rest_132
    (case a_132 => k_is)
    intro c_HAS_WORLD
    refine' Cp.st_bn (x := "abs") KX G ?a_133 ?rest_133
    (case a_133 => k_is)
    intro b_abs
    refine' Cp.st_bn (x := "all") KX G ?a_134 ?rest_134
    (case a_134 => k_is)
    intro b_all
    refine' Cp.st_bn (x := "any") KX G ?a_135 ?rest_135
    (case a_135 => k_is)
    intro b_any
    refine' Cp.st_bn (x := "dict") KX G ?a_136 ?rest_136
    (case a_136 => k_is)
    intro b_dict
    refine' Cp.st_bn (x := "enumerate") KX G ?a_137 ?rest_137
    (case a_137 => k_is)
    intro b_enumerate
    refine' Cp.st_bn (x := "len") KX G ?a_138 ?rest_138
    (case a_138 => k_is)
    intro b_len
    refine' Cp.st_bn (x := "list") KX G ?a_139 ?rest_139
    (case a_139 => k_is)
    intro b_list
    refine' Cp.st_bn (x := "range") KX G ?a_140 ?rest_140
    (case a_140 => k_is)
    intro b_range
    refine' Cp.st_bn (x := "reversed") KX G ?a_141 ?rest_141
    (case a_141 => k_is)
    intro b_reversed
    refine' Cp.st_bn (x := "set") KX G ?a_142 ?rest_142
    (case a_142 => k_is)
    intro b_set
    refine' Cp.st_bn (x := "sorted") KX G ?a_143 ?rest_143
    (case a_143 => k_is)
    intro b_sorted
    refine' Cp.st_bn (x := "sum") KX G ?a_144 ?rest_144
    (case a_144 => k_is)
    intro b_sum
    refine' Cp.st_bn (x := "tuple") KX G ?a_145 ?rest_145
    (case a_145 => k_is)
    intro b_tuple
    exact Cp.fin_mk (D := ⟨_, _, _, _, _, _, _, _, _, _, _, _, _, _, _, _, _, _, _, _, _, _, _, _, _, _, _, _, _, _, _, _, _, _, _, _, _, _, _, _, _, _, _, _, _, _, _, _, _, _, _, _, _, _, _, _, _, _, _, _, _, _, _, _, _, _, _, _, _, _, _, _, _, _, _, _, _, _, _, _, _, _, _, _, _, _, _, _, _, _, _, _, _, _, _, _, _, _, _, _, _, _, _, _, _, _, _, _, _, _, _, _, _, _, _, _, _, _, _, _, _, _, _, _, _, _, _, _, _, _, _, _, _, _, _, _, _, _, _, _, _, _, _, _⟩) hmg ⟨k_Call, g_Call, ⟨mk_Call, t_Call___init__.at_, t_Call___init__.fn, kc_Call⟩, x_Call_number, x_Call_numbers, x_Call_rows, k_Line, g_Line, ⟨mk_Line, t_Line___init__.at_, t_Line___init__.fn, kc_Line⟩, x_Line_way, x_Line_named, x_Line_clause, k_Proof, g_Proof, ⟨mk_Proof, t_Proof___init__.at_, t_Proof___init__.fn, kc_Proof⟩, x_Proof_atoms, x_Proof_u, x_Proof_lines, x_Proof_next_number, x_Proof_claims, x_Proof_first_with, k_Mark, g_Mark, ⟨mk_Mark, t_Mark___init__.at_, t_Mark___init__.fn, kc_Mark⟩, x_Mark_atoms, x_Mark_lines, x_Mark_next_number, k_Book, g_Book, ⟨mk_Book, t_Book___init__.at_, t_Book___init__.fn, kc_Book⟩, x_Book_u, x_Book_atoms, x_Book_lines, x_Book_next_number, x_Book_marks, f_Call___init__, n_Call___init__, f_split_calls, n_split_calls, g_split_calls, f_place, n_place, g_place, f_clause_of, n_clause_of, g_clause_of, f_opposites, n_opposites, g_opposites, f_without, n_without, g_without, f_put_together, n_put_together, g_put_together, f_is_loose, n_is_loose, g_is_loose, f_is_broken, n_is_broken, g_is_broken, f_said_by, n_said_by, g_said_by, f_bounds_said, n_bounds_said, g_bounds_said, f_lower_once, n_lower_once, g_lower_once, f_can_be_together, n_can_be_together, g_can_be_together, f_add_up_to_less_than_0, n_add_up_to_less_than_0, g_add_up_to_less_than_0, f_one_place_more, n_one_place_more, g_one_place_more, f_reason_of, n_reason_of, g_reason_of, f_most_above, n_most_above, g_most_above, f_nearest_to_0, n_nearest_to_0, g_nearest_to_0, f_nearest_values, n_nearest_values, g_nearest_values, f_Line___init__, n_Line___init__, f_Line_sources, n_Line_sources, t_Line_sources, f_shown_by_differences, n_shown_by_differences, g_shown_by_differences, f_shown_by_joining, n_shown_by_joining, g_shown_by_joining, f_shown_by_widening, n_shown_by_widening, g_shown_by_widening, f_shown_by_chain, n_shown_by_chain, g_shown_by_chain, f_is_shown, n_is_shown, g_is_shown, f_Proof___init__, n_Proof___init__, f_Proof_line_found, n_Proof_line_found, t_Proof_line_found, f_Proof_line_of_both, n_Proof_line_of_both, t_Proof_line_of_both, f_Proof_line_for, n_Proof_line_for, t_Proof_line_for, f_split_steps, n_split_steps, g_split_steps, f_count_right, n_count_right, g_count_right, f_first_row, n_first_row, g_first_row, f_first_world, n_first_world, g_first_world, f_Mark___init__, n_Mark___init__, f_Book___init__, n_Book___init__, f_Book_begin, n_Book_begin, t_Book_begin, f_Book_start, n_Book_start, t_Book_start, f_Book_yes, n_Book_yes, t_Book_yes, f_Book_bound, n_Book_bound, t_Book_bound, f_Book_claim, n_Book_claim, t_Book_claim, f_Book_bounds, n_Book_bounds, t_Book_bounds, f_Book_joined, n_Book_joined, t_Book_joined, f_Book_wider, n_Book_wider, t_Book_wider, f_Book_chain, n_Book_chain, t_Book_chain, f_Book_drop, n_Book_drop, t_Book_drop, f_Book_mark, n_Book_mark, t_Book_mark, f_Book_back, n_Book_back, t_Book_back, f_Book_decide, n_Book_decide, t_Book_decide, f_Book_prove, n_Book_prove, t_Book_prove, f_Book_show, n_Book_show, t_Book_show, f_Book_rests, n_Book_rests, t_Book_rests, f_Book_came, n_Book_came, t_Book_came, f_Book_judge, n_Book_judge, t_Book_judge, f_Book_reason, n_Book_reason, t_Book_reason, f_Book_derive, n_Book_derive, t_Book_derive, f_Book_add_atom, n_Book_add_atom, t_Book_add_atom, f_Book_add_line, n_Book_add_line, t_Book_add_line, f_Book_has_strange, n_Book_has_strange, t_Book_has_strange, f_Book_has_all, n_Book_has_all, t_Book_has_all, f_Book_claims_among, n_Book_claims_among, t_Book_claims_among, f_Book_can_stay, n_Book_can_stay, t_Book_can_stay, f_Book_resting_on, n_Book_resting_on, t_Book_resting_on, f_Book_ancestry, n_Book_ancestry, t_Book_ancestry, f_counted, n_counted, g_counted, f_one_number, n_one_number, g_one_number, f_answer_of, n_answer_of, g_answer_of, f_answers, n_answers, g_answers, c_START, c_YES, c_BOUND, c_CLAIM, c_BOUNDS, c_JOINED, c_WIDER, c_CHAIN, c_DROP, c_MARK, c_BACK, c_DECIDE, c_PROVE, c_SHOW, c_RESTS, c_CAME, c_JUDGE, c_FORMS, w_FORMS, c_QUESTION, w_QUESTION, c_AS_CLAIM, c_BY_BOUNDS, c_BY_JOINING, c_BY_WIDENING, c_BY_CHAIN, c_NAMED, w_NAMED, c_FIRST_U, c_MOST_U, c_MOST_APART, c_MOST_ATOMS, c_MOST_LINES, c_MOST_CLAIMS, c_MOST_MARKS, c_MOST_TO_REASON, c_WRONG, c_NO_ATOM, c_NO_LINE, c_FULL, c_NOT_SHOWN, c_NO_MARK, c_HAS_WORLD, b_abs, b_all, b_any, b_dict, b_enumerate, b_len, b_list, b_range, b_reversed, b_set, b_sorted, b_sum, b_tuple⟩
  case S =>
    intro K H xs a hO hwi hask hx
    cases hx with
    | cons h1 h2 =>
      cases h2
      cases h1 with
      | lst hs ha =>
        have e := L2.ints_dw a.1 _ ha
        subst e
        have q : ((Codec.inLen 0 28200 a.1 && a.1.all (Codec.inInt (-2147483648) 4294967295)) && true) = true := hwi
        rw [Bool.and_eq_true, Bool.and_eq_true] at q
        exact ⟨_, a.1, rfl, hs, hask, (Codec.inNat_iff.mp q.1.1).2, fun H' p hp => .lst (L2.SqL.of hp) (L2.dw_ints _)⟩
#print axioms PySem.Challenge.cw_clauseproofs_s01_answers_holds
