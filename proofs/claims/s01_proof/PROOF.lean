import PyProof.Rows.All
import Wide.All
import OpenK.AllK
import Wide.FinOn
import Open.SpecLaws
import KE.OsGo
import HandS.ForSpec
import HandS.Comp
import HandS.Iter
import HandS.WideBits
import HandS.Text
import HandS.IterVal
import KE.DatumOrd
import HandS.SortKw
import HandS.WordsDict
import HandS.Flow
import HandS.Walk
import HandS.Zip
import HandS.Dict
import HandS.Lambda
import HandS.Nested
import KE.DataMinKey
import PyProof.DictWalks
import PyProof.WalkInts
import PySem.Challenge.RW_planestimates_s01_answers
set_option Elab.async false
set_option maxRecDepth 100000
set_option maxHeartbeats 4000000
/-! Descending rounds over numbers and "can't be had" (none): they settle within as many rounds as there are variables. -/
namespace ThFix

/-- x is at most n -/
def RO (x : Option Nat) (n : Nat) : Prop := ∃ m, x = some m ∧ m ≤ n
/-- x is no more than y -/
def LeO (x y : Option Nat) : Prop := ∀ n, RO y n → RO x n

theorem RO_some {m n : Nat} : RO (some m) n ↔ m ≤ n :=
  ⟨fun ⟨_, e, h⟩ => by cases e; exact h, fun h => ⟨m, rfl, h⟩⟩
theorem RO_none {n : Nat} : ¬ RO none n := fun ⟨_, e, _⟩ => by cases e
theorem RO.up {x : Option Nat} {m n : Nat} (h : RO x m) (l : m ≤ n) : RO x n := by
  obtain ⟨k, e, hk⟩ := h
  exact ⟨k, e, Nat.le_trans hk l⟩
theorem LeO.refl (x : Option Nat) : LeO x x := fun _ h => h
theorem LeO.trans {x y z : Option Nat} (a : LeO x y) (b : LeO y z) : LeO x z := fun n h => a n (b n h)
theorem LeO.antisymm {x y : Option Nat} (a : LeO x y) (b : LeO y x) : x = y := by
  cases x with
  | none => cases y with
    | none => rfl
    | some n => exact absurd (a n (RO_some.2 (Nat.le_refl n))) RO_none
  | some m => cases y with
    | none => exact absurd (b m (RO_some.2 (Nat.le_refl m))) RO_none
    | some n =>
      have h1 := RO_some.1 (a n (RO_some.2 (Nat.le_refl n)))
      have h2 := RO_some.1 (b m (RO_some.2 (Nat.le_refl m)))
      exact congrArg some (Nat.le_antisymm h1 h2)
theorem RO_ext {x y : Option Nat} (h : ∀ n, RO x n ↔ RO y n) : x = y :=
  LeO.antisymm (fun n => (h n).2) (fun n => (h n).1)
theorem LeO_none (x : Option Nat) : LeO x none := fun _ h => absurd h RO_none

theorem exists_least (P : Nat → Prop) (h : ∃ n, P n) : ∃ m, P m ∧ ∀ k, P k → m ≤ k := by
  obtain ⟨n, hn⟩ := h
  induction n using Nat.strongRecOn with
  | _ n ih =>
    by_cases c : ∃ k, k < n ∧ P k
    · obtain ⟨k, hk, pk⟩ := c
      exact ih k hk pk
    · refine ⟨n, hn, fun k pk => ?_⟩
      by_cases d : k < n
      · exact absurd ⟨k, d, pk⟩ c
      · omega

/-- a system: rules (κ), each with heads, a body and a value -/
structure Sys (κ : Type) where
  N : Nat
  heads : κ → Nat → Prop
  body : κ → List Nat
  val : κ → (Nat → Option Nat) → Option Nat
  hN : ∀ k f, heads k f → f < N
  bN : ∀ k f, heads k f → ∀ p, p ∈ body k → p < N
  mono : ∀ k v w, (∀ p, p ∈ body k → LeO (v p) (w p)) → LeO (val k v) (val k w)
  infl : ∀ k v n, RO (val k v) n → ∀ p, p ∈ body k → RO (v p) n

variable {κ : Type}

theorem Sys.loc (S : Sys κ) (k : κ) (v w : Nat → Option Nat) (h : ∀ p, p ∈ S.body k → v p = w p) : S.val k v = S.val k w :=
  LeO.antisymm (S.mono k v w fun p hp => by rw [h p hp]; exact LeO.refl _) (S.mono k w v fun p hp => by rw [h p hp]; exact LeO.refl _)

/-- one round leads from v to w -/
def Sys.Round (S : Sys κ) (v w : Nat → Option Nat) : Prop :=
  ∀ f, f < S.N → ∀ n, RO (w f) n ↔ RO (v f) n ∨ ∃ k, S.heads k f ∧ RO (S.val k v) n

/-- no rule gives less than u -/
def Sys.Under (S : Sys κ) (u : Nat → Option Nat) : Prop :=
  ∀ f n, ∀ k, S.heads k f → RO (S.val k u) n → RO (u f) n

structure Run (S : Sys κ) where
  v : Nat → Nat → Option Nat
  rd : ∀ i, S.Round (v i) (v (i + 1))

variable {S : Sys κ}

theorem Run.desc1 (r : Run S) (i f : Nat) (hf : f < S.N) : LeO (r.v (i + 1) f) (r.v i f) :=
  fun n h => (r.rd i f hf n).2 (.inl h)

theorem Run.desc (r : Run S) {i j : Nat} (h : i ≤ j) (f : Nat) (hf : f < S.N) : LeO (r.v j f) (r.v i f) := by
  induction h with
  | refl => exact LeO.refl _
  | step _ ih => exact LeO.trans (r.desc1 _ f hf) ih

/-- what lies under the start and is under all rules lies under every round -/
theorem Run.under (r : Run S) {u : Nat → Option Nat} (hu : S.Under u) (h0 : ∀ f, f < S.N → LeO (u f) (r.v 0 f)) :
    ∀ i f, f < S.N → LeO (u f) (r.v i f)
  | 0, f, hf => h0 f hf
  | i + 1, f, hf => fun n h => by
    rcases (r.rd i f hf n).1 h with h | ⟨k, hk, hv⟩
    · exact r.under hu h0 i f hf n h
    · refine hu f n k hk (S.mono k u (r.v i) (fun p hp => ?_) n hv)
      exact r.under hu h0 i p (S.bN k f hk p hp)

/-- each variable comes to rest -/
theorem Run.rest1 (r : Run S) (f : Nat) (hf : f < S.N) : ∃ K, ∀ i, K ≤ i → r.v i f = r.v K f := by
  by_cases c : ∃ n i, r.v i f = some n
  · obtain ⟨m, ⟨K, hK⟩, hm⟩ := exists_least (fun n => ∃ i, r.v i f = some n) c
    refine ⟨K, fun i hi => ?_⟩
    have d := r.desc hi f hf m (by rw [hK]; exact RO_some.2 (Nat.le_refl m))
    obtain ⟨q, e, hq⟩ := d
    have := hm q ⟨i, e⟩
    rw [hK, e, Nat.le_antisymm hq this]
  · refine ⟨0, fun i _ => ?_⟩
    have h : ∀ j, r.v j f = none := fun j => by
      cases e : r.v j f with
      | none => rfl
      | some n => exact absurd ⟨n, j, e⟩ c
    rw [h, h]

theorem Run.restN (r : Run S) : ∀ M, M ≤ S.N → ∃ K, ∀ i, K ≤ i → ∀ f, f < M → r.v i f = r.v K f
  | 0, _ => ⟨0, fun _ _ f hf => by omega⟩
  | M + 1, hM => by
    obtain ⟨K, hK⟩ := r.restN M (by omega)
    obtain ⟨L, hL⟩ := r.rest1 M (by omega)
    refine ⟨max K L, fun i hi f hf => ?_⟩
    by_cases c : f = M
    · subst c
      rw [hL i (by omega), hL (max K L) (by omega)]
    · rw [hK i (by omega) f (by omega), hK (max K L) (by omega) f (by omega)]

/-- how many of the first M satisfy p -/
def count (p : Nat → Bool) : Nat → Nat
  | 0 => 0
  | M + 1 => count p M + (if p M = true then 1 else 0)

theorem count_le (p : Nat → Bool) : ∀ M, count p M ≤ M
  | 0 => Nat.le_refl 0
  | M + 1 => by
    have := count_le p M
    unfold count
    split <;> omega

theorem count_mono {p q : Nat → Bool} : ∀ M, (∀ f, f < M → p f = true → q f = true) → count p M ≤ count q M
  | 0, _ => Nat.le_refl 0
  | M + 1, h => by
    have ih := count_mono M fun f hf => h f (by omega)
    have hM := h M (by omega)
    unfold count
    by_cases c : p M = true
    · rw [if_pos c, if_pos (hM c)]; omega
    · rw [if_neg c]; omega

theorem count_lt {p q : Nat → Bool} : ∀ M, (∀ f, f < M → p f = true → q f = true) → ∀ g, g < M → p g = false → q g = true → count p M < count q M
  | 0, _, g, hg, _, _ => by omega
  | M + 1, h, g, hg, pg, qg => by
    have hM := h M (by omega)
    unfold count
    by_cases c : g = M
    · subst c
      have ih := count_mono g fun f hf => h f (by omega)
      rw [if_neg (by rw [pg]; exact Bool.false_ne_true), if_pos qg]; omega
    · have ih := count_lt M (fun f hf => h f (by omega)) g (by omega) pg qg
      by_cases d : p M = true
      · rw [if_pos d, if_pos (hM d)]; omega
      · rw [if_neg d]; omega

theorem count_full {p : Nat → Bool} : ∀ M, count p M = M → ∀ f, f < M → p f = true
  | 0, _, f, hf => by omega
  | M + 1, h, f, hf => by
    have hl := count_le p M
    unfold count at h
    by_cases c : p M = true
    · rw [if_pos c] at h
      by_cases e : f = M
      · rw [e]; exact c
      · exact count_full M (by omega) f (by omega)
    · rw [if_neg c] at h; omega

/-- at rest the rounds give nothing new -/
theorem Run.fixUnder (r : Run S) {K : Nat} (hK : ∀ i, K ≤ i → ∀ f, f < S.N → r.v i f = r.v K f) : S.Under (r.v K) := by
  intro f n k hk hv
  have := (r.rd K f (S.hN k f hk) n).2 (.inr ⟨k, hk, hv⟩)
  rwa [hK (K + 1) (by omega) f (S.hN k f hk)] at this

/-- while not all are at rest, one more comes to rest in each round -/
theorem Run.more (r : Run S) {K : Nat} (hK : ∀ i, K ≤ i → ∀ f, f < S.N → r.v i f = r.v K f) (i : Nat)
    (hi : ∃ f, f < S.N ∧ r.v i f ≠ r.v K f) :
    ∃ g, g < S.N ∧ r.v i g ≠ r.v K g ∧ r.v (i + 1) g = r.v K g := by
  have low : ∀ j f, f < S.N → LeO (r.v K f) (r.v j f) := fun j f hf => by
    by_cases c : j ≤ K
    · exact r.desc c f hf
    · rw [hK j (by omega) f hf]; exact LeO.refl _
  have fixU := r.fixUnder hK
  -- the least final number among those that are not at rest
  have some_of : ∀ f, f < S.N → r.v i f ≠ r.v K f → ∃ m, r.v K f = some m := fun f hf ne => by
    cases e : r.v K f with
    | some m => exact ⟨m, rfl⟩
    | none =>
      exfalso
      apply ne
      have l := low i f hf
      rw [e] at l ⊢
      exact LeO.antisymm (LeO_none _) l
  obtain ⟨m, ⟨f0, hf0, ne0, e0⟩, hm⟩ := exists_least (fun n => ∃ f, f < S.N ∧ r.v i f ≠ r.v K f ∧ r.v K f = some n) (by
    obtain ⟨f, hf, ne⟩ := hi
    obtain ⟨m, e⟩ := some_of f hf ne
    exact ⟨m, f, hf, ne, e⟩)
  apply Classical.byContradiction
  intro no
  -- raise those: under all rules still
  let E : Nat → Prop := fun f => f < S.N ∧ r.v i f ≠ r.v K f ∧ r.v K f = some m
  have decE : ∀ f, Decidable (E f) := fun f => Classical.propDecidable _
  let u : Nat → Option Nat := fun f => @ite _ (E f) (decE f) (some (m + 1)) (r.v K f)
  have uE : ∀ f, E f → u f = some (m + 1) := fun f h => if_pos h
  have uN : ∀ f, ¬ E f → u f = r.v K f := fun f h => if_neg h
  have above : ∀ f, LeO (r.v K f) (u f) := fun f => by
    by_cases c : E f
    · rw [uE f c, c.2.2]
      intro n h
      have := RO_some.1 h
      exact RO_some.2 (by omega)
    · rw [uN f c]; exact LeO.refl _
  have uU : S.Under u := by
    intro f n k hk hv
    have hf := S.hN k f hk
    have hv' : RO (S.val k (r.v K)) n := S.mono k (r.v K) u (fun p _ => above p) n hv
    have hn := fixU f n k hk hv'
    by_cases c : E f
    · rw [uE f c]
      have ⟨_, nef, ef⟩ := c
      rw [ef] at hn
      have hmn := RO_some.1 hn
      by_cases d : n = m
      · exfalso
        subst d
        -- no body's variable is raised
        have hb : ∀ p, p ∈ S.body k → r.v i p = r.v K p := fun p hp => by
          apply Classical.byContradiction
          intro nep
          have hpN := S.bN k f hk p hp
          have ru := S.infl k u n hv p hp
          have rK := S.infl k (r.v K) n hv' p hp
          obtain ⟨q, eq, hq⟩ := rK
          have h1 := hm q ⟨p, hpN, nep, eq⟩
          have : q = n := by omega
          subst this
          rw [uE p ⟨hpN, nep, eq⟩] at ru
          have := RO_some.1 ru
          omega
        have hvi : RO (S.val k (r.v i)) n := by
          rw [S.loc k (r.v i) (r.v K) hb]; exact hv'
        have h2 := (r.rd i f hf n).2 (.inr ⟨k, hk, hvi⟩)
        apply no
        refine ⟨f, hf, nef, ?_⟩
        obtain ⟨q, eq, hq⟩ := h2
        have l := low (i + 1) f hf q (by rw [eq]; exact RO_some.2 (Nat.le_refl q))
        rw [ef] at l
        have := RO_some.1 l
        rw [eq, ef, Nat.le_antisymm hq this]
      · exact RO_some.2 (by omega)
    · rw [uN f c]; exact hn
  have u0 : ∀ f, f < S.N → LeO (u f) (r.v 0 f) := fun f hf => by
    by_cases c : E f
    · rw [uE f c]
      intro n h
      have h1 := r.desc (Nat.zero_le i) f hf n h
      obtain ⟨q, eq, hq⟩ := h1
      have l := low i f hf q (by rw [eq]; exact RO_some.2 (Nat.le_refl q))
      rw [c.2.2] at l
      have lq := RO_some.1 l
      have : q ≠ m := fun e => c.2.1 (by rw [eq, c.2.2, e])
      exact RO_some.2 (by omega)
    · rw [uN f c]; exact low 0 f hf
  have h3 := r.under uU u0 K f0 hf0 m (by rw [e0]; exact RO_some.2 (Nat.le_refl m))
  rw [uE f0 ⟨hf0, ne0, e0⟩] at h3
  have := RO_some.1 h3
  omega

/-- **after N less so many rounds as are at rest at first, all is at rest.** c of them: those that never change -/
theorem Run.settled (r : Run S) (c : Nat) (p0 : Nat → Bool) (hp : ∀ f, f < S.N → p0 f = true → ∀ i, r.v i f = r.v 0 f) (hc : c ≤ count p0 S.N) :
    ∀ i j, S.N - c ≤ i → S.N - c ≤ j → ∀ f, f < S.N → r.v i f = r.v j f := by
  obtain ⟨K, hK⟩ := r.restN S.N (Nat.le_refl _)
  have low : ∀ j f, f < S.N → LeO (r.v K f) (r.v j f) := fun j f hf => by
    by_cases c : j ≤ K
    · exact r.desc c f hf
    · rw [hK j (by omega) f hf]; exact LeO.refl _
  have keep : ∀ i f, f < S.N → r.v i f = r.v K f → r.v (i + 1) f = r.v K f := fun i f hf e =>
    LeO.antisymm (by rw [← e]; exact r.desc1 i f hf) (low (i + 1) f hf)
  have grow : ∀ i, min S.N (c + i) ≤ count (fun f => r.v i f == r.v K f) S.N := by
    intro i
    induction i with
    | zero =>
      refine Nat.le_trans (Nat.le_trans (Nat.min_le_right _ _) hc) (count_mono S.N fun f hf h => ?_)
      have := hp f hf h K
      simp only [beq_iff_eq]
      exact this.symm
    | succ i ih =>
      by_cases d : ∃ f, f < S.N ∧ r.v i f ≠ r.v K f
      · obtain ⟨g, hg, ng, eg⟩ := r.more hK i d
        have lt := count_lt (p := fun f => r.v i f == r.v K f) (q := fun f => r.v (i + 1) f == r.v K f) S.N
          (fun f hf h => by
            simp only [beq_iff_eq] at h ⊢
            exact keep i f hf h) g hg (by simpa using ng) (by simpa using eg)
        omega
      · have : ∀ f, f < S.N → r.v (i + 1) f = r.v K f := fun f hf => by
          apply keep i f hf
          apply Classical.byContradiction
          intro ne
          exact d ⟨f, hf, ne⟩
        have h := count_mono (p := fun _ => true) (q := fun f => r.v (i + 1) f == r.v K f) S.N (fun f hf _ => by simpa using this f hf)
        have full : ∀ M, count (fun _ => true) M = M := fun M => by
          induction M with
          | zero => rfl
          | succ M ih => unfold count; rw [ih]; rfl
        rw [full] at h
        omega
  have done : ∀ i, S.N - c ≤ i → ∀ f, f < S.N → r.v i f = r.v K f := fun i hi f hf => by
    have g := grow i
    have l := count_le (fun f => r.v i f == r.v K f) S.N
    have := count_full (p := fun f => r.v i f == r.v K f) S.N (by omega) f hf
    simpa using this
  intro i j hi hj f hf
  rw [done i hi f hf, done j hj f hf]

end ThFix

/-! What the specification says facts are worth: its rounds settle; what is there then. -/
namespace ThVal
open ThFix Pn03

theorem RO_least {a b : Option Nat} {n : Nat} : RO (Pn.least a b) n ↔ RO a n ∨ RO b n := by
  cases a with
  | none =>
    have e : Pn.least none b = b := by cases b <;> rfl
    rw [e]
    exact ⟨.inr, fun h => h.elim (fun h => absurd h RO_none) id⟩
  | some x => cases b with
    | none =>
      have e : Pn.least (some x) none = some x := rfl
      rw [e]
      exact ⟨.inl, fun h => h.elim id (fun h => absurd h RO_none)⟩
    | some y =>
      have e : Pn.least (some x) (some y) = some (min x y) := rfl
      rw [e, RO_some, RO_some, RO_some]
      omega

theorem RO_foldl {α : Type} (P : α → Prop) [DecidablePred P] (x : α → Option Nat) : ∀ (l : List α) (b : Option Nat) (n : Nat),
    RO (l.foldl (fun b k => if P k then Pn.least b (x k) else b) b) n ↔ RO b n ∨ ∃ k, k ∈ l ∧ P k ∧ RO (x k) n
  | [], b, n => ⟨.inl, fun h => h.elim id fun ⟨k, hk, _⟩ => by cases hk⟩
  | a :: l, b, n => by
    rw [List.foldl_cons, RO_foldl P x l]
    by_cases c : P a
    · rw [if_pos c, RO_least]
      constructor
      · rintro ((h | h) | ⟨k, hk, h⟩)
        · exact .inl h
        · exact .inr ⟨a, List.mem_cons_self, c, h⟩
        · exact .inr ⟨k, List.mem_cons_of_mem _ hk, h⟩
      · rintro (h | ⟨k, hk, hp, h⟩)
        · exact .inl (.inl h)
        · rcases List.mem_cons.1 hk with e | hk
          · subst e; exact .inl (.inr h)
          · exact .inr ⟨k, hk, hp, h⟩
    · rw [if_neg c]
      constructor
      · rintro (h | ⟨k, hk, h⟩)
        · exact .inl h
        · exact .inr ⟨k, List.mem_cons_of_mem _ hk, h⟩
      · rintro (h | ⟨k, hk, hp, h⟩)
        · exact .inl h
        · rcases List.mem_cons.1 hk with e | hk
          · subst e; exact absurd hp c
          · exact .inr ⟨k, hk, hp, h⟩

/-! ## a row's worth -/
def op (sum : Bool) (a b : Option Nat) : Option Nat := match a, b with
  | some x, some y => some (if sum = true then x + y else max x y)
  | _, _ => none
/-- as the specification's join, over any function -/
def joinF (sum : Bool) (u : Nat → Option Nat) (l : List Nat) : Option Nat := l.foldl (fun a f => op sum a (u f)) (some 0)

theorem join_eq (sum : Bool) (v : Values) (l : List Nat) : join sum v l = joinF sum (val v) l := rfl

theorem op_mono {sum : Bool} {a a' b b' : Option Nat} (h : LeO a a') (g : LeO b b') : LeO (op sum a b) (op sum a' b') := by
  intro n hn
  cases a' with
  | none => exact absurd hn RO_none
  | some x' => cases b' with
    | none => exact absurd hn RO_none
    | some y' =>
      obtain ⟨x, e, hx⟩ := h x' (RO_some.2 (Nat.le_refl _))
      obtain ⟨y, e2, hy⟩ := g y' (RO_some.2 (Nat.le_refl _))
      subst e e2
      have hn' := RO_some.1 (show RO (some (if sum = true then x' + y' else max x' y')) n from hn)
      refine RO_some.2 (show (if sum = true then x + y else max x y) ≤ n from ?_)
      cases sum
      · simp only [Bool.false_eq_true, if_false] at hn' ⊢; omega
      · simp only [if_true] at hn' ⊢; omega

theorem op_infl {sum : Bool} {a b : Option Nat} {n : Nat} (h : RO (op sum a b) n) : RO a n ∧ RO b n := by
  cases a with
  | none => exact absurd h RO_none
  | some x => cases b with
    | none => exact absurd h RO_none
    | some y =>
      have hn := RO_some.1 (show RO (some (if sum = true then x + y else max x y)) n from h)
      rw [RO_some, RO_some]
      cases sum
      · simp only [Bool.false_eq_true, if_false] at hn; omega
      · simp only [if_true] at hn; omega

theorem foldl_mono {sum : Bool} {u w : Nat → Option Nat} : ∀ (l : List Nat) (a b : Option Nat), (∀ p, p ∈ l → LeO (u p) (w p)) → LeO a b →
    LeO (l.foldl (fun a f => op sum a (u f)) a) (l.foldl (fun a f => op sum a (w f)) b)
  | [], _, _, _, h => h
  | x :: l, a, b, hl, h => foldl_mono l _ _ (fun p hp => hl p (List.mem_cons_of_mem _ hp)) (op_mono h (hl x List.mem_cons_self))

theorem foldl_infl {sum : Bool} {u : Nat → Option Nat} : ∀ (l : List Nat) (a : Option Nat) (n : Nat), RO (l.foldl (fun a f => op sum a (u f)) a) n → RO a n ∧ ∀ p, p ∈ l → RO (u p) n
  | [], _, _, h => ⟨h, fun p hp => by cases hp⟩
  | x :: l, a, n, h => by
    obtain ⟨h1, h2⟩ := foldl_infl l _ n h
    obtain ⟨h3, h4⟩ := op_infl h1
    refine ⟨h3, fun p hp => ?_⟩
    rcases List.mem_cons.1 hp with e | hp
    · subst e; exact h4
    · exact h2 p hp

theorem joinF_mono {sum : Bool} {u w : Nat → Option Nat} {l : List Nat} (h : ∀ p, p ∈ l → LeO (u p) (w p)) : LeO (joinF sum u l) (joinF sum w l) :=
  foldl_mono l _ _ h (LeO.refl _)
theorem joinF_infl {sum : Bool} {u : Nat → Option Nat} {l : List Nat} {n : Nat} (h : RO (joinF sum u l) n) : ∀ p, p ∈ l → RO (u p) n := (foldl_infl l _ n h).2
theorem joinF_congr {sum : Bool} {u w : Nat → Option Nat} {l : List Nat} (h : ∀ p, p ∈ l → u p = w p) : joinF sum u l = joinF sum w l :=
  LeO.antisymm (joinF_mono fun p hp => by rw [h p hp]; exact LeO.refl _) (joinF_mono fun p hp => by rw [h p hp]; exact LeO.refl _)

theorem foldl_max {u : Nat → Option Nat} : ∀ (l : List Nat) (a : Option Nat) (n : Nat), RO (l.foldl (fun a f => op false a (u f)) a) n ↔ RO a n ∧ ∀ p, p ∈ l → RO (u p) n
  | [], _, _ => ⟨fun h => ⟨h, fun p hp => by cases hp⟩, fun h => h.1⟩
  | x :: l, a, n => by
    rw [List.foldl_cons, foldl_max l]
    have e : RO (op false a (u x)) n ↔ RO a n ∧ RO (u x) n := by
      refine ⟨op_infl, fun ⟨h1, h2⟩ => ?_⟩
      obtain ⟨p, e1, h1⟩ := h1
      obtain ⟨q, e2, h2⟩ := h2
      rw [e1, e2]
      exact RO_some.2 (show (if false = true then p + q else max p q) ≤ n by simp only [Bool.false_eq_true, if_false]; omega)
    rw [e]
    constructor
    · rintro ⟨⟨h1, h2⟩, h3⟩
      refine ⟨h1, fun p hp => ?_⟩
      rcases List.mem_cons.1 hp with e | hp
      · subst e; exact h2
      · exact h3 p hp
    · rintro ⟨h1, h2⟩
      exact ⟨⟨h1, h2 x List.mem_cons_self⟩, fun p hp => h2 p (List.mem_cons_of_mem _ hp)⟩
/-- by the dearest: at most n just if each is -/
theorem joinF_max {u : Nat → Option Nat} {l : List Nat} {n : Nat} : RO (joinF false u l) n ↔ ∀ p, p ∈ l → RO (u p) n := by
  unfold joinF
  rw [foldl_max]
  exact ⟨fun h => h.2, fun h => ⟨RO_some.2 (Nat.zero_le _), h⟩⟩

theorem RO_map_add {x : Option Nat} {c n : Nat} : RO (x.map fun p => p + c) n ↔ ∃ m, x = some m ∧ m + c ≤ n := by
  cases x with
  | none => exact ⟨fun h => absurd h RO_none, fun ⟨m, e, _⟩ => by cases e⟩
  | some p =>
    rw [Option.map_some, RO_some]
    exact ⟨fun h => ⟨p, rfl, h⟩, fun ⟨m, e, h⟩ => by cases e; exact h⟩

/-! ## the system of a row of steps -/
def stepAt (l : List Step) (k : Nat) : Step := l.getD k ⟨[], []⟩

/-- the steps as a system over the first N facts -/
def sys (sum : Bool) (l : List Step) (c : List Nat) (N : Nat) (h : ∀ k, k < l.length → ∀ p, p ∈ (stepAt l k).pre → p < N) : Sys Nat where
  N := N
  heads k f := k < l.length ∧ (stepAt l k).add.contains f = true ∧ f < N
  body k := (stepAt l k).pre
  val k v := (joinF sum v (stepAt l k).pre).map fun p => p + c.getD k 0
  hN _ _ h := h.2.2
  bN k _ g p hp := h k g.1 p hp
  mono k v w hh n hn := by
    rw [RO_map_add] at hn ⊢
    obtain ⟨m, e, hm⟩ := hn
    obtain ⟨q, e2, hq⟩ := joinF_mono (sum := sum) hh m (by rw [e]; exact RO_some.2 (Nat.le_refl m))
    exact ⟨q, e2, by omega⟩
  infl k v n hn p hp := by
    rw [RO_map_add] at hn
    obtain ⟨m, e, hm⟩ := hn
    exact (joinF_infl (sum := sum) (l := (stepAt l k).pre) (n := m) (by rw [e]; exact RO_some.2 (Nat.le_refl m)) p hp).up (by omega)

theorem val_map_range (n : Nat) (g : Nat → Option Nat) (f : Nat) (h : f < n) : val ((List.range n).map g) f = g f := by
  unfold val
  rw [List.getD_eq_getElem?_getD, List.getElem?_map, List.getElem?_range h]
  rfl

theorem round_length (sum : Bool) (l : List Step) (c : List Nat) (v : Values) : (round sum l c v).length = v.length := by
  unfold round
  rw [List.length_map, List.length_range]

theorem RO_round {sum : Bool} {l : List Step} {c : List Nat} {v : Values} {f : Nat} (hf : f < v.length) (n : Nat) :
    RO (val (round sum l c v) f) n ↔ RO (val v f) n ∨ ∃ k, k < l.length ∧ (stepAt l k).add.contains f = true ∧ RO ((joinF sum (val v) (stepAt l k).pre).map fun p => p + c.getD k 0) n := by
  unfold round
  rw [val_map_range _ _ _ hf]
  have e := RO_foldl (fun k => (stepAt l k).add.contains f = true) (fun k => (joinF sum (val v) (stepAt l k).pre).map fun p => p + c.getD k 0) (List.range l.length) (val v f) n
  refine Iff.trans e ?_
  constructor
  · rintro (h | ⟨k, hk, h⟩)
    · exact .inl h
    · exact .inr ⟨k, List.mem_range.1 hk, h⟩
  · rintro (h | ⟨k, hk, h⟩)
    · exact .inl h
    · exact .inr ⟨k, List.mem_range.2 hk, h⟩

def iter {α : Type} (f : α → α) : Nat → α → α
  | 0, v => v
  | n + 1, v => iter f n (f v)
theorem iter_succ {α : Type} (f : α → α) : ∀ n v, iter f (n + 1) v = f (iter f n v)
  | 0, _ => rfl
  | n + 1, v => iter_succ f n (f v)
theorem iter_fix {α : Type} {f : α → α} {v : α} (h : f v = v) : ∀ n, iter f n v = v
  | 0 => rfl
  | n + 1 => by
    show iter f n (f v) = v
    rw [h]
    exact iter_fix h n
theorem times_iter (f : Values → Values) : ∀ n v, times f n v = iter f n v
  | 0, _ => rfl
  | n + 1, v => by
    show (if f v = v then v else times f n (f v)) = iter f n (f v)
    by_cases c : f v = v
    · rw [if_pos c, c, iter_fix c]
    · rw [if_neg c, times_iter f n (f v)]

theorem iter_length (sum : Bool) (l : List Step) (c : List Nat) : ∀ i v, (iter (round sum l c) i v).length = v.length
  | 0, _ => rfl
  | i + 1, v => by rw [iter_succ, round_length, iter_length sum l c i v]

/-- the rounds from any row of values -/
def runOf (sum : Bool) (l : List Step) (c : List Nat) (N : Nat) (h : ∀ k, k < l.length → ∀ p, p ∈ (stepAt l k).pre → p < N) (v : Values) (hl : N ≤ v.length) : Run (sys sum l c N h) where
  v i f := val (iter (round sum l c) i v) f
  rd i f hf n := by
    have hf' : f < N := hf
    rw [iter_succ, RO_round (by rw [iter_length]; omega) n]
    constructor
    · rintro (h | ⟨k, hk, hc, h⟩)
      · exact .inl h
      · exact .inr ⟨k, ⟨hk, hc, hf⟩, h⟩
    · rintro (h | ⟨k, ⟨hk, hc, _⟩, h⟩)
      · exact .inl h
      · exact .inr ⟨k, hk, hc, h⟩

/-! ## the task's steps -/
theorem mem_facts {n m f : Nat} : f ∈ facts n m ↔ f < n ∧ Pn.bit m f = true := by
  unfold facts
  rw [List.mem_filter, List.mem_range]

theorem steps_length (t : Pn.Task) : (steps t).length = t.acts.length + 1 := by
  unfold steps
  rw [List.length_append, List.length_map]
  rfl

theorem stepAt_act (t : Pn.Task) (k : Nat) (h : k < t.acts.length) : stepAt (steps t) k = stepOf t.facts (t.acts[k]) := by
  unfold stepAt steps
  rw [List.getD_eq_getElem?_getD, List.getElem?_append_left (by rw [List.length_map]; exact h), List.getElem?_map, List.getElem?_eq_getElem h]
  rfl
theorem stepAt_goal (t : Pn.Task) : stepAt (steps t) t.acts.length = ⟨if facts t.facts t.goal = [] then [t.facts] else facts t.facts t.goal, [t.facts + 1]⟩ := by
  unfold stepAt steps
  rw [List.getD_eq_getElem?_getD, List.getElem?_append_right (by rw [List.length_map]; exact Nat.le_refl _), List.length_map, Nat.sub_self]
  rfl

/-- a row's facts, or the one that's always so -/
def needs (n m : Nat) : List Nat := if facts n m = [] then [n] else facts n m
theorem needs_lt {n m p : Nat} (h : p ∈ needs n m) : p < n + 1 := by
  unfold needs at h
  split at h
  · rw [List.mem_singleton] at h; omega
  · have := (mem_facts.1 h).1; omega

theorem pre_lt (t : Pn.Task) : ∀ k, k < (steps t).length → ∀ p, p ∈ (stepAt (steps t) k).pre → p < t.facts + 1 := by
  intro k hk p hp
  rw [steps_length] at hk
  by_cases c : k < t.acts.length
  · rw [stepAt_act t k c] at hp
    exact needs_lt (n := t.facts) (m := (t.acts[k]).pre) hp
  · have : k = t.acts.length := by omega
    subst this
    rw [stepAt_goal] at hp
    exact needs_lt (n := t.facts) (m := t.goal) hp

theorem first_length (t : Pn.Task) (s : Nat) : (first t s).length = t.facts + 2 := by
  unfold first
  rw [List.length_map, List.length_range]
theorem val_first (t : Pn.Task) (s f : Nat) (h : f < t.facts + 2) : val (first t s) f = if f = t.facts ∨ (f < t.facts ∧ Pn.bit s f = true) then some 0 else none := by
  unfold first
  rw [val_map_range _ _ _ h]

/-- the rounds of the task, over the facts and the one that's always so -/
def run1 (sum : Bool) (t : Pn.Task) (c : List Nat) (s : Nat) : Run (sys sum (steps t) c (t.facts + 1) (pre_lt t)) :=
  runOf sum (steps t) c (t.facts + 1) (pre_lt t) (first t s) (by rw [first_length]; omega)
/-- and over the goal's own fact too -/
def run2 (sum : Bool) (t : Pn.Task) (c : List Nat) (s : Nat) : Run (sys sum (steps t) c (t.facts + 2) (fun k hk p hp => Nat.lt_succ_of_lt (pre_lt t k hk p hp))) :=
  runOf sum (steps t) c (t.facts + 2) _ (first t s) (by rw [first_length]; exact Nat.le_refl _)

/-- the i-th round -/
def nth (sum : Bool) (t : Pn.Task) (c : List Nat) (s i : Nat) : Values := iter (round sum (steps t) c) i (first t s)

theorem values_nth (sum : Bool) (t : Pn.Task) (c : List Nat) (s : Nat) : values sum t c s = nth sum t c s (t.facts + 3) := times_iter _ _ _

theorem always (sum : Bool) (t : Pn.Task) (c : List Nat) (s : Nat) (f : Nat) (h : f = t.facts ∨ (f < t.facts ∧ Pn.bit s f = true)) : ∀ i, val (nth sum t c s i) f = some 0 := by
  intro i
  have hf : f < t.facts + 1 := by omega
  have h0 : val (first t s) f = some 0 := by rw [val_first t s f (by omega), if_pos h]
  obtain ⟨m, e, hm⟩ := (run1 sum t c s).desc (Nat.zero_le i) f hf 0 (show RO (val (first t s) f) 0 by rw [h0]; exact RO_some.2 (Nat.le_refl 0))
  have : m = 0 := by omega
  subst this
  exact e

theorem count_one (n : Nat) : ∀ M, n < M → 1 ≤ count (fun f => f == n) M
  | 0, h => by omega
  | M + 1, h => by
    unfold count
    by_cases c : n = M
    · subst c; simp
    · have := count_one n M (by omega); omega

/-- as many rounds as there are facts are enough for the facts -/
theorem settled1 (sum : Bool) (t : Pn.Task) (c : List Nat) (s i j : Nat) (hi : t.facts ≤ i) (hj : t.facts ≤ j) (f : Nat) (hf : f < t.facts + 1) : val (nth sum t c s i) f = val (nth sum t c s j) f := by
  refine (run1 sum t c s).settled 1 (fun f => f == t.facts) (fun f hf h k => ?_) (count_one t.facts (t.facts + 1) (by omega)) i j ?_ ?_ f hf
  · have e : f = t.facts := by simpa using h
    show val (nth sum t c s k) f = val (nth sum t c s 0) f
    rw [always sum t c s f (.inl e), always sum t c s f (.inl e)]
  · show t.facts + 1 - 1 ≤ i; omega
  · show t.facts + 1 - 1 ≤ j; omega
/-- and one more for the goal's own -/
theorem settled2 (sum : Bool) (t : Pn.Task) (c : List Nat) (s i j : Nat) (hi : t.facts + 1 ≤ i) (hj : t.facts + 1 ≤ j) (f : Nat) (hf : f < t.facts + 2) : val (nth sum t c s i) f = val (nth sum t c s j) f := by
  refine (run2 sum t c s).settled 1 (fun f => f == t.facts) (fun f hf h k => ?_) (count_one t.facts (t.facts + 2) (by omega)) i j ?_ ?_ f hf
  · have e : f = t.facts := by simpa using h
    show val (nth sum t c s k) f = val (nth sum t c s 0) f
    rw [always sum t c s f (.inl e), always sum t c s f (.inl e)]
  · show t.facts + 2 - 1 ≤ i; omega
  · show t.facts + 2 - 1 ≤ j; omega

/-- what each fact is worth in the end -/
def W (sum : Bool) (t : Pn.Task) (c : List Nat) (s f : Nat) : Option Nat := val (values sum t c s) f

theorem W_nth (sum : Bool) (t : Pn.Task) (c : List Nat) (s f i : Nat) (hf : f < t.facts + 1) (hi : t.facts ≤ i) : W sum t c s f = val (nth sum t c s i) f := by
  unfold W
  rw [values_nth]
  exact settled1 sum t c s _ _ (by omega) hi f hf

/-- it is no more than at first, and no step brings it for less -/
theorem W_first (sum : Bool) (t : Pn.Task) (c : List Nat) (s f : Nat) (hf : f < t.facts + 1) : LeO (W sum t c s f) (val (first t s) f) := by
  rw [W_nth sum t c s f t.facts hf (Nat.le_refl _)]
  exact (run1 sum t c s).desc (Nat.zero_le _) f hf
theorem W_under (sum : Bool) (t : Pn.Task) (c : List Nat) (s : Nat) : (sys sum (steps t) c (t.facts + 1) (pre_lt t)).Under (W sum t c s) := by
  have h := (run1 sum t c s).fixUnder (K := t.facts) fun i hi f hf => settled1 sum t c s i t.facts hi (Nat.le_refl _) f hf
  intro f n k hk hv
  have hf : f < t.facts + 1 := hk.2.2
  rw [W_nth sum t c s f t.facts hf (Nat.le_refl _)]
  refine h f n k hk ?_
  rwa [Sys.loc _ k (W sum t c s) ((run1 sum t c s).v t.facts) fun p hp => W_nth sum t c s p t.facts ((sys sum (steps t) c (t.facts + 1) (pre_lt t)).bN k f hk p hp) (Nat.le_refl _)] at hv
/-- and it is the greatest such -/
theorem W_greatest (sum : Bool) (t : Pn.Task) (c : List Nat) (s : Nat) (u : Nat → Option Nat) (hu : (sys sum (steps t) c (t.facts + 1) (pre_lt t)).Under u)
    (h0 : ∀ f, f < t.facts + 1 → LeO (u f) (val (first t s) f)) : ∀ f, f < t.facts + 1 → LeO (u f) (W sum t c s f) := by
  intro f hf
  rw [W_nth sum t c s f t.facts hf (Nat.le_refl _)]
  exact (run1 sum t c s).under hu h0 t.facts f hf

/-- the goal's own fact is worth what the wanted row is -/
theorem W_goal (sum : Bool) (t : Pn.Task) (c : List Nat) (s : Nat) (hc : c.getD t.acts.length 0 = 0) (hadd : ∀ a, a ∈ t.acts → ¬ t.facts + 1 ∈ facts t.facts a.add) : W sum t c s (t.facts + 1) = joinF sum (W sum t c s) (facts t.facts t.goal) := by
  have en : joinF sum (W sum t c s) (needs t.facts t.goal) = joinF sum (W sum t c s) (facts t.facts t.goal) := by
    unfold needs
    split
    · rename_i h
      rw [h]
      have a0 : W sum t c s t.facts = some 0 := by
        rw [W_nth sum t c s t.facts t.facts (by omega) (Nat.le_refl _)]
        exact always sum t c s t.facts (.inl rfl) _
      show op sum (some 0) (W sum t c s t.facts) = some 0
      rw [a0]
      cases sum <;> rfl
    · rfl
  rw [← en]
  refine RO_ext fun n => ?_
  have e : W sum t c s (t.facts + 1) = val (nth sum t c s (t.facts + 2)) (t.facts + 1) := by
    unfold W
    rw [values_nth]
    exact settled2 sum t c s _ _ (by omega) (by omega) _ (by omega)
  have only : ∀ k, k < (steps t).length → (stepAt (steps t) k).add.contains (t.facts + 1) = true → k = t.acts.length := by
    intro k hk h
    rw [steps_length] at hk
    by_cases d : k < t.acts.length
    · exfalso
      rw [stepAt_act t k d] at h
      exact hadd _ (List.getElem_mem d) (by simpa [stepOf] using h)
    · omega
  have step : ∀ i, t.facts ≤ i → ∀ n, (∃ k, k < (steps t).length ∧ (stepAt (steps t) k).add.contains (t.facts + 1) = true ∧ RO ((joinF sum (val (nth sum t c s i)) (stepAt (steps t) k).pre).map fun p => p + c.getD k 0) n) ↔ RO (joinF sum (W sum t c s) (needs t.facts t.goal)) n := by
    intro i hi n
    have ej : joinF sum (val (nth sum t c s i)) (needs t.facts t.goal) = joinF sum (W sum t c s) (needs t.facts t.goal) :=
      joinF_congr fun p hp => (W_nth sum t c s p i (needs_lt hp) hi).symm
    constructor
    · rintro ⟨k, hk, hc1, h⟩
      have ek := only k hk hc1
      subst ek
      rw [stepAt_goal, RO_map_add, hc] at h
      obtain ⟨m, e, hm⟩ := h
      have e' : joinF sum (val (nth sum t c s i)) (needs t.facts t.goal) = some m := e
      rw [← ej, e']
      exact RO_some.2 (by omega)
    · rintro ⟨m, e, hm⟩
      refine ⟨t.acts.length, by rw [steps_length]; omega, by rw [stepAt_goal]; simp, ?_⟩
      rw [stepAt_goal, RO_map_add, hc]
      exact ⟨m, by rw [← ej] at e; exact e, by omega⟩
  rw [e]
  have hl : t.facts + 1 < (nth sum t c s (t.facts + 1)).length := by unfold nth; rw [iter_length, first_length]; omega
  have e2 : nth sum t c s (t.facts + 2) = round sum (steps t) c (nth sum t c s (t.facts + 1)) := iter_succ _ _ _
  rw [e2, RO_round hl, step (t.facts + 1) (by omega) n]
  refine ⟨fun h => h.elim (fun h => ?_) id, .inr⟩
  have e3 : val (nth sum t c s (t.facts + 1)) (t.facts + 1) = val (nth sum t c s (t.facts + 2)) (t.facts + 1) := settled2 sum t c s _ _ (by omega) (by omega) _ (by omega)
  -- what it is worth is worth it by the last round that changed it
  have hi : ∀ i, RO (val (nth sum t c s i) (t.facts + 1)) n → ∃ j, j < i ∧ RO (val (nth sum t c s (j + 1)) (t.facts + 1)) n ∧ ¬ RO (val (nth sum t c s j) (t.facts + 1)) n := by
    intro i
    induction i with
    | zero =>
      intro h
      exfalso
      have : val (nth sum t c s 0) (t.facts + 1) = none := by
        show val (first t s) (t.facts + 1) = none
        rw [val_first t s _ (by omega), if_neg (by omega)]
      rw [this] at h
      exact RO_none h
    | succ i ih =>
      intro h
      by_cases d : RO (val (nth sum t c s i) (t.facts + 1)) n
      · obtain ⟨j, hj, h1, h2⟩ := ih d
        exact ⟨j, by omega, h1, h2⟩
      · exact ⟨i, by omega, h, d⟩
  obtain ⟨j, hj, h1, h2⟩ := hi _ h
  have hl : t.facts + 1 < (nth sum t c s j).length := by unfold nth; rw [iter_length, first_length]; omega
  have e4 : nth sum t c s (j + 1) = round sum (steps t) c (nth sum t c s j) := iter_succ _ _ _
  rw [e4, RO_round hl] at h1
  rcases h1 with h1 | ⟨k, hk, hc1, h1⟩
  · exact absurd h1 h2
  · have ek := only k hk hc1
    subst ek
    rw [stepAt_goal, RO_map_add, hc] at h1
    obtain ⟨m, e, hm⟩ := h1
    have e' : joinF sum (val (nth sum t c s j)) (needs t.facts t.goal) = some m := e
    refine (joinF_mono (sum := sum) (u := W sum t c s) (w := val (nth sum t c s j)) (fun p hp => ?_)) n (by rw [e']; exact RO_some.2 (by omega))
    rw [W_nth sum t c s p (max j t.facts) (needs_lt hp) (by omega)]
    exact (run1 sum t c s).desc (by omega) p (needs_lt hp)

end ThVal

/-! What the specification says plans cost: its rounds settle; what is there then is the least over all plans; the first of the cheapest. -/
namespace ThCost
open ThFix Pn

/-- every act keeps to the facts, and costs something -/
def Good (t : Task) : Prop := ∀ a, a ∈ t.acts → a.add < 2 ^ t.facts ∧ 1 ≤ a.cost

theorem then_lt {n : Nat} {a : Act} {s : Nat} (ha : a.add < 2 ^ n) (hs : s < 2 ^ n) : a.then_ s < 2 ^ n := by
  unfold Act.then_
  exact Nat.or_lt_two_pow (by omega) ha

theorem at_ofList (l : List (Option Nat)) (s : Nat) : at_ l.toArray s = l.getD s none := by
  unfold at_
  simp [Array.getD_eq_getD_getElem?, List.getD_eq_getElem?_getD]

theorem at_map_range (n : Nat) (g : Nat → Option Nat) (s : Nat) (h : s < n) : at_ ((List.range n).map g).toArray s = g s := by
  rw [at_ofList]
  exact ThVal.val_map_range n g s h

theorem RO_map_addL {x : Option Nat} {c n : Nat} : RO (x.map fun p => c + p) n ↔ ∃ m, x = some m ∧ c + m ≤ n := by
  cases x with
  | none => exact ⟨fun h => absurd h RO_none, fun ⟨m, e, _⟩ => by cases e⟩
  | some p =>
    rw [Option.map_some, RO_some]
    exact ⟨fun h => ⟨p, rfl, h⟩, fun ⟨m, e, h⟩ => by cases e; exact h⟩

/-- states as variables; an act done in a state as a rule -/
def sys (t : Task) (h : Good t) : Sys (Act × Nat) where
  N := 2 ^ t.facts
  heads k s := k.1 ∈ t.acts ∧ k.1.may s = true ∧ k.2 = s ∧ s < 2 ^ t.facts
  body k := [k.1.then_ k.2]
  val k v := (v (k.1.then_ k.2)).map fun c => k.1.cost + c
  hN _ _ h := h.2.2.2
  bN k s g p hp := by
    rw [List.mem_singleton] at hp
    obtain ⟨h1, _, h3, h4⟩ := g
    rw [hp, h3]
    exact then_lt (h _ h1).1 h4
  mono k v w hh n hn := by
    rw [RO_map_addL] at hn ⊢
    obtain ⟨m, e, hm⟩ := hn
    obtain ⟨q, e2, hq⟩ := hh _ (List.mem_singleton.2 rfl) m (by rw [e]; exact RO_some.2 (Nat.le_refl m))
    exact ⟨q, e2, by omega⟩
  infl k v n hn p hp := by
    rw [List.mem_singleton] at hp
    subst hp
    rw [RO_map_addL] at hn
    obtain ⟨m, e, hm⟩ := hn
    exact ⟨m, e, by omega⟩

theorem RO_round (t : Task) (d : Array (Option Nat)) (s : Nat) (hs : s < 2 ^ t.facts) (n : Nat) :
    RO (at_ (t.round d) s) n ↔ RO (at_ d s) n ∨ ∃ a, a ∈ t.acts ∧ a.may s = true ∧ RO ((at_ d (a.then_ s)).map fun c => a.cost + c) n := by
  unfold Task.round
  rw [at_map_range _ _ _ hs]
  exact ThVal.RO_foldl (fun a : Act => a.may s = true) (fun a => (at_ d (a.then_ s)).map fun c => a.cost + c) t.acts (at_ d s) n

def start (t : Task) : Array (Option Nat) := ((List.range (2 ^ t.facts)).map fun s => if t.done s = true then some 0 else none).toArray
def nth (t : Task) (i : Nat) : Array (Option Nat) := ThVal.iter t.round i (start t)

theorem settle_iter (f : Array (Option Nat) → Array (Option Nat)) : ∀ n v, settle f n v = ThVal.iter f n v
  | 0, _ => rfl
  | n + 1, v => by
    show (if f v = v then v else settle f n (f v)) = ThVal.iter f n (f v)
    by_cases c : f v = v
    · rw [if_pos c, c, ThVal.iter_fix c]
    · rw [if_neg c, settle_iter f n (f v)]

theorem costs_nth (t : Task) : t.costs = nth t (2 ^ t.facts + 1) := settle_iter _ _ _

def run (t : Task) (h : Good t) : Run (sys t h) where
  v i s := at_ (nth t i) s
  rd i s hs n := by
    have e : nth t (i + 1) = t.round (nth t i) := ThVal.iter_succ _ _ _
    rw [e, RO_round t _ s hs n]
    constructor
    · rintro (h | ⟨a, h1, h2, h3⟩)
      · exact .inl h
      · exact .inr ⟨(a, s), ⟨h1, h2, rfl, hs⟩, h3⟩
    · rintro (h | ⟨⟨a, s'⟩, ⟨h1, h2, h3, _⟩, h4⟩)
      · exact .inl h
      · subst h3
        exact .inr ⟨a, h1, h2, h4⟩

theorem settled (t : Task) (h : Good t) (i j s : Nat) (hi : 2 ^ t.facts ≤ i) (hj : 2 ^ t.facts ≤ j) (hs : s < 2 ^ t.facts) : at_ (nth t i) s = at_ (nth t j) s :=
  (run t h).settled 0 (fun _ => false) (fun _ _ h => nomatch h) (Nat.zero_le _) i j (by show 2 ^ t.facts - 0 ≤ i; omega) (by show 2 ^ t.facts - 0 ≤ j; omega) s hs

theorem start_at (t : Task) (s : Nat) (hs : s < 2 ^ t.facts) : at_ (start t) s = if t.done s = true then some 0 else none := at_map_range _ _ _ hs

/-- what it costs from a state -/
def D (t : Task) (s : Nat) : Option Nat := at_ t.costs s

/-- the equation: nothing if all is so; else the least over the acts -/
theorem D_iff (t : Task) (h : Good t) (s : Nat) (hs : s < 2 ^ t.facts) (n : Nat) :
    RO (D t s) n ↔ t.done s = true ∨ ∃ a, a ∈ t.acts ∧ a.may s = true ∧ ∃ m, D t (a.then_ s) = some m ∧ a.cost + m ≤ n := by
  unfold D
  rw [costs_nth]
  have eqAt : ∀ i s, 2 ^ t.facts ≤ i → s < 2 ^ t.facts → at_ (nth t i) s = at_ (nth t (2 ^ t.facts + 1)) s := fun i s hi hs => settled t h _ _ s hi (by omega) hs
  constructor
  · intro hr
    have hi : ∀ i, RO (at_ (nth t i) s) n → i ≤ 2 ^ t.facts + 1 → t.done s = true ∨ ∃ a, a ∈ t.acts ∧ a.may s = true ∧ ∃ m, at_ (nth t (2 ^ t.facts + 1)) (a.then_ s) = some m ∧ a.cost + m ≤ n := by
      intro i
      induction i with
      | zero =>
        intro h0 _
        have e : at_ (nth t 0) s = if t.done s = true then some 0 else none := start_at t s hs
        rw [e] at h0
        split at h0
        · exact .inl ‹_›
        · exact absurd h0 RO_none
      | succ i ih =>
        intro h1 hl
        have e : nth t (i + 1) = t.round (nth t i) := ThVal.iter_succ _ _ _
        rw [e, RO_round t _ s hs n] at h1
        rcases h1 with h1 | ⟨a, h2, h3, h4⟩
        · exact ih h1 (by omega)
        · rw [RO_map_addL] at h4
          obtain ⟨m, e, hm⟩ := h4
          obtain ⟨q, e2, hq⟩ := (run t h).desc (i := i) (j := 2 ^ t.facts + 1) (by omega) (a.then_ s) (then_lt (h a h2).1 hs) m (show RO (at_ (nth t i) (a.then_ s)) m by rw [e]; exact RO_some.2 (Nat.le_refl m))
          exact .inr ⟨a, h2, h3, q, e2, by omega⟩
    exact hi _ hr (Nat.le_refl _)
  · rintro (hd | ⟨a, h2, h3, m, e, hm⟩)
    · refine (run t h).desc (i := 0) (j := 2 ^ t.facts + 1) (by omega) s hs n ?_
      show RO (at_ (start t) s) n
      rw [start_at t s hs, if_pos hd]
      exact RO_some.2 (Nat.zero_le _)
    · rw [← eqAt (2 ^ t.facts + 1 + 1) s (by omega) hs]
      have e1 : nth t (2 ^ t.facts + 1 + 1) = t.round (nth t (2 ^ t.facts + 1)) := ThVal.iter_succ _ _ _
      rw [e1, RO_round t _ s hs n]
      exact .inr ⟨a, h2, h3, RO_map_addL.2 ⟨m, e, hm⟩⟩

/-- anything that obeys "no act leads to less", and is no more than 0 where all is so, lies below -/
theorem D_greatest (t : Task) (h : Good t) (u : Nat → Option Nat) (h0 : ∀ s, s < 2 ^ t.facts → t.done s = true → RO (u s) 0)
    (hu : ∀ s, s < 2 ^ t.facts → ∀ a, a ∈ t.acts → a.may s = true → ∀ m, u (a.then_ s) = some m → RO (u s) (a.cost + m)) : ∀ s, s < 2 ^ t.facts → LeO (u s) (D t s) := by
  intro s hs
  unfold D
  rw [costs_nth]
  refine (run t h).under (u := u) ?_ ?_ _ s hs
  · rintro s n ⟨a, s'⟩ ⟨h1, h2, h3, h4⟩ hv
    have e : s' = s := h3
    subst e
    have hv' : RO ((u (a.then_ s')).map fun c => a.cost + c) n := hv
    rw [RO_map_addL] at hv'
    obtain ⟨m, e, hm⟩ := hv'
    exact (hu s' h4 a h1 h2 m e).up hm
  · intro s hs n hn
    have e : at_ (nth t 0) s = if t.done s = true then some 0 else none := start_at t s hs
    have hn' : RO (at_ (nth t 0) s) n := hn
    rw [e] at hn'
    split at hn'
    · exact (h0 s hs ‹_›).up (Nat.zero_le _)
    · exact absurd hn' RO_none

/-! ## plans -/
def Ok (t : Task) : Nat → List Nat → Prop
  | s, [] => t.done s = true
  | s, k :: l => t.can s k = true ∧ Ok t ((t.act k).then_ s) l

theorem sum_acc : ∀ (l : List Nat) (a : Nat), l.foldl (fun a b => a + b) a = a + l.foldl (fun a b => a + b) 0
  | [], a => rfl
  | x :: l, a => by
    rw [List.foldl_cons, List.foldl_cons, sum_acc l (a + x), sum_acc l (0 + x)]
    omega
theorem sum_cons (x : Nat) (l : List Nat) : Pn.sum (x :: l) = x + Pn.sum l := by
  unfold Pn.sum
  rw [List.foldl_cons, sum_acc]
  omega
theorem sum_nil : Pn.sum [] = 0 := rfl
theorem price_nil (t : Task) : t.price [] = 0 := rfl
theorem price_cons (t : Task) (k : Nat) (l : List Nat) : t.price (k :: l) = (t.act k).cost + t.price l := by
  unfold Task.price
  rw [List.map_cons, sum_cons]

theorem act_mem {t : Task} {s k : Nat} (h : t.can s k = true) : t.act k ∈ t.acts ∧ (t.act k).may s = true ∧ k < t.acts.length := by
  unfold Task.can at h
  rw [Bool.and_eq_true, decide_eq_true_eq] at h
  refine ⟨?_, h.2, h.1⟩
  unfold Task.act
  rw [List.getD_eq_getElem?_getD, List.getElem?_eq_getElem h.1]
  exact List.getElem_mem h.1
theorem mem_can {t : Task} {s : Nat} {a : Act} (h : a ∈ t.acts) (hm : a.may s = true) : ∃ k, t.act k = a ∧ t.can s k = true ∧ k < t.acts.length := by
  obtain ⟨k, hk, e⟩ := List.getElem_of_mem h
  have ea : t.act k = a := by
    unfold Task.act
    rw [List.getD_eq_getElem?_getD, List.getElem?_eq_getElem hk, e]
    rfl
  refine ⟨k, ea, ?_, hk⟩
  unfold Task.can
  rw [ea, hm, Bool.and_true]
  exact decide_eq_true hk

/-- **it costs at most n from s just if some plan does** -/
theorem D_plan (t : Task) (h : Good t) : ∀ s, s < 2 ^ t.facts → ∀ n, RO (D t s) n ↔ ∃ l, Ok t s l ∧ t.price l ≤ n := by
  have one : ∀ n s, s < 2 ^ t.facts → RO (D t s) n → ∃ l, Ok t s l ∧ t.price l ≤ n := by
    intro n
    induction n using Nat.strongRecOn with
    | _ n ih =>
      intro s hs hr
      rcases (D_iff t h s hs n).1 hr with hd | ⟨a, h1, h2, m, e, hm⟩
      · exact ⟨[], hd, Nat.zero_le _⟩
      · obtain ⟨k, ek, hk, _⟩ := mem_can h1 h2
        have hc := (h a h1).2
        obtain ⟨l, hl, hp⟩ := ih m (by omega) (a.then_ s) (then_lt (h a h1).1 hs) (by rw [e]; exact RO_some.2 (Nat.le_refl m))
        refine ⟨k :: l, ⟨hk, by rw [ek]; exact hl⟩, ?_⟩
        rw [price_cons, ek]
        omega
  have two : ∀ l s, s < 2 ^ t.facts → Ok t s l → RO (D t s) (t.price l) := by
    intro l
    induction l with
    | nil => intro s hs hl; exact (D_iff t h s hs _).2 (.inl hl)
    | cons k l ih =>
      intro s hs hl
      obtain ⟨hk, hl⟩ := hl
      obtain ⟨h1, h2, _⟩ := act_mem hk
      obtain ⟨m, e, hm⟩ := ih _ (then_lt (h _ h1).1 hs) hl
      refine (D_iff t h s hs _).2 (.inr ⟨_, h1, h2, m, e, ?_⟩)
      rw [price_cons]
      omega
  exact fun s hs n => ⟨one n s hs, fun ⟨l, hl, hp⟩ => (two l s hs hl).up hp⟩

/-! ## the first of the cheapest -/
/-- an act that begins a cheapest plan -/
def Next (t : Task) (s k : Nat) : Prop := t.can s k = true ∧ ((D t ((t.act k).then_ s)).map fun c => (t.act k).cost + c) = D t s
inductive First (t : Task) : Nat → List Nat → Prop
  | nil {s : Nat} : t.done s = true → First t s []
  | cons {s k : Nat} {l : List Nat} : t.done s = false → Next t s k → (∀ j, j < k → ¬ Next t s j) → First t ((t.act k).then_ s) l → First t s (k :: l)

theorem First.unique {t : Task} {s : Nat} {l m : List Nat} (a : First t s l) (b : First t s m) : l = m := by
  induction a generalizing m with
  | nil h => cases b with
    | nil _ => rfl
    | cons g => rw [h] at g; cases g
  | @cons s0 k l0 h n f _ ih => cases b with
    | nil g => rw [h] at g; cases g
    | @cons _ j _ g n' f' r =>
      have : k = j := by
        rcases Nat.lt_trichotomy k j with c | c | c
        · exact absurd n (f' k c)
        · exact c
        · exact absurd n' (f j c)
      subst this
      rw [ih r]

theorem Next_exists (t : Task) (h : Good t) (s : Nat) (hs : s < 2 ^ t.facts) (hd : t.done s = false) (c : Nat) (e : D t s = some c) : ∃ k, k < t.acts.length ∧ Next t s k := by
  rcases (D_iff t h s hs c).1 (by rw [e]; exact RO_some.2 (Nat.le_refl c)) with hd' | ⟨a, h1, h2, m, e2, hm⟩
  · rw [hd] at hd'; cases hd'
  · obtain ⟨k, ek, hk, hl⟩ := mem_can h1 h2
    have := (D_iff t h s hs (a.cost + m)).2 (.inr ⟨a, h1, h2, m, e2, Nat.le_refl _⟩)
    rw [e] at this
    have := RO_some.1 this
    refine ⟨k, hl, hk, ?_⟩
    rw [ek, e2, e]
    show some (a.cost + m) = some c
    rw [show a.cost + m = c by omega]

/-- how many states cost no more than c -/
def upto (t : Task) (c : Nat) : Nat := count (fun s => match D t s with | some m => decide (m ≤ c) | none => false) (2 ^ t.facts)

theorem best_first (t : Task) (h : Good t) : ∀ (fuel s c : Nat), s < 2 ^ t.facts → D t s = some c → upto t c ≤ fuel → First t s (t.best t.costs fuel s) ∧ t.price (t.best t.costs fuel s) = c := by
  intro fuel
  induction fuel with
  | zero =>
    intro s c hs e hu
    exfalso
    have : count (fun _ => false) (2 ^ t.facts) < upto t c := by
      refine count_lt (2 ^ t.facts) (fun f _ h => nomatch h) s hs rfl ?_
      show (match D t s with | some m => decide (m ≤ c) | none => false) = true
      rw [e]
      exact decide_eq_true (Nat.le_refl c)
    omega
  | succ fuel ih =>
    intro s c hs e hu
    by_cases hd : t.done s = true
    · have eb : t.best t.costs (fuel + 1) s = [] := by
        show (if t.done s = true then [] else _) = []
        rw [if_pos hd]
      rw [eb]
      refine ⟨.nil hd, ?_⟩
      have := (D_iff t h s hs 0).2 (.inl hd)
      rw [e] at this
      have := RO_some.1 this
      rw [price_nil]
      omega
    · have hd' : t.done s = false := by simpa using hd
      have eb : t.best t.costs (fuel + 1) s = (match (List.range t.acts.length).find? fun k => t.can s k && ((at_ t.costs ((t.act k).then_ s)).map fun c => (t.act k).cost + c) == at_ t.costs s with
        | some k => k :: t.best t.costs fuel ((t.act k).then_ s)
        | none => []) := by
        show (if t.done s = true then [] else _) = _
        rw [if_neg hd]
        rfl
      have isN : ∀ k, (t.can s k && ((at_ t.costs ((t.act k).then_ s)).map fun c => (t.act k).cost + c) == at_ t.costs s) = true ↔ Next t s k := by
        intro k
        rw [Bool.and_eq_true, beq_iff_eq]
        exact Iff.rfl
      cases ef : (List.range t.acts.length).find? fun k => t.can s k && ((at_ t.costs ((t.act k).then_ s)).map fun c => (t.act k).cost + c) == at_ t.costs s with
      | none =>
        exfalso
        obtain ⟨k, hk, hn⟩ := Next_exists t h s hs hd' c e
        have := List.find?_eq_none.1 ef k (List.mem_range.2 hk)
        exact this ((isN k).2 hn)
      | some k =>
        rw [ef] at eb
        have hn0 := List.find?_some ef
        have hn : Next t s k := (isN k).1 hn0
        have hmin : ∀ j, j < k → ¬ Next t s j := by
          intro j hj hn'
          obtain ⟨_, as, bs, hl, hall⟩ := List.find?_eq_some_iff_append.1 ef
          have hjl : j < t.acts.length := (act_mem hn'.1).2.2
          -- j stands ahead of k in the row
          have kl : k = as.length := by
            have hk0 : (List.range t.acts.length)[as.length]? = some k := by rw [hl]; simp
            have hlen : as.length < t.acts.length := by
              have := congrArg List.length hl
              rw [List.length_range, List.length_append, List.length_cons] at this
              omega
            rw [List.getElem?_range hlen] at hk0
            exact (Option.some.inj hk0).symm
          have hjm : j ∈ as := by
            have : (List.range t.acts.length)[j]? = some j := List.getElem?_range hjl
            rw [hl, List.getElem?_append_left (by omega)] at this
            exact List.mem_of_getElem? this
          have := hall j hjm
          rw [(isN j).2 hn'] at this
          cases this
        obtain ⟨hk, he⟩ := hn
        obtain ⟨h1, h2, _⟩ := act_mem hk
        rw [e] at he
        cases e2 : D t ((t.act k).then_ s) with
        | none => rw [e2] at he; cases he
        | some m =>
          rw [e2] at he
          have hc : (t.act k).cost + m = c := Option.some.inj he
          have hc1 := (h _ h1).2
          have hlt : upto t m < upto t c := by
            refine count_lt (2 ^ t.facts) (fun f _ hf => ?_) s hs ?_ ?_
            · revert hf
              cases D t f with
              | none => exact id
              | some q => intro hf; have := of_decide_eq_true hf; exact decide_eq_true (by omega)
            · rw [e]; exact decide_eq_false (by omega)
            · rw [e]; exact decide_eq_true (Nat.le_refl c)
          obtain ⟨f1, f2⟩ := ih ((t.act k).then_ s) m (then_lt (h _ h1).1 hs) e2 (by omega)
          rw [eb]
          refine ⟨.cons hd' ⟨hk, by rw [e2, e]; exact congrArg some hc⟩ hmin f1, ?_⟩
          show t.price (k :: t.best t.costs fuel ((t.act k).then_ s)) = c
          rw [price_cons, f2, hc]

/-- **what kept tells**: none just where nothing is had; else the first of the cheapest -/
theorem first_spec (t : Task) (h : Good t) (s : Nat) (hs : s < 2 ^ t.facts) : match D t s with
    | none => t.first s = none
    | some c => ∃ l, t.first s = some l ∧ First t s l ∧ t.price l = c := by
  cases e : D t s with
  | none =>
    show (match at_ t.costs s with | none => none | some _ => some (t.best t.costs (2 ^ t.facts) s)) = none
    rw [show at_ t.costs s = none from e]
  | some c =>
    refine ⟨t.best t.costs (2 ^ t.facts) s, ?_, best_first t h (2 ^ t.facts) s c hs e (count_le _ _)⟩
    show (match at_ t.costs s with | none => none | some _ => some (t.best t.costs (2 ^ t.facts) s)) = _
    rw [show at_ t.costs s = some c from e]

end ThCost

/-! The specification's cuts: zone and before as least closed sets; no cut is empty or for nothing; there are enough rounds. -/
namespace ThCut
open ThFix ThVal Pn03

def mf (z : List Nat) (f : Nat) : Option Nat := if f ∈ z then some 0 else none
theorem RO_mf {z : List Nat} {f n : Nat} : RO (mf z f) n ↔ f ∈ z := by
  unfold mf
  split
  · exact ⟨fun _ => ‹_›, fun _ => RO_some.2 (Nat.zero_le _)⟩
  · exact ⟨fun h => absurd h RO_none, fun h => absurd h ‹_›⟩

theorem mem_dedup : ∀ (l m : List Nat) (f : Nat), f ∈ l.foldl (fun (m : List Nat) f => if m.contains f then m else m ++ [f]) m ↔ f ∈ m ∨ f ∈ l
  | [], m, f => by simp
  | x :: l, m, f => by
    rw [List.foldl_cons, mem_dedup l]
    by_cases c : m.contains x = true
    · rw [if_pos c]
      have : x ∈ m := by simpa using c
      constructor
      · rintro (h | h)
        · exact .inl h
        · exact .inr (List.mem_cons_of_mem _ h)
      · rintro (h | h)
        · exact .inl h
        · rcases List.mem_cons.1 h with e | h
          · subst e; exact .inl this
          · exact .inr h
    · rw [if_neg c]
      constructor
      · rintro (h | h)
        · rcases List.mem_append.1 h with h | h
          · exact .inl h
          · rw [List.mem_singleton] at h; subst h; exact .inr List.mem_cons_self
        · exact .inr (List.mem_cons_of_mem _ h)
      · rintro (h | h)
        · exact .inl (List.mem_append_left _ h)
        · rcases List.mem_cons.1 h with e | h
          · subst e; exact .inl (List.mem_append_right _ (List.mem_singleton.2 rfl))
          · exact .inr h

/-! ## the dear fact -/
theorem max_attained {u : Nat → Option Nat} {l : List Nat} {m : Nat} (hl : l ≠ []) (h : joinF false u l = some m) : ∃ f, f ∈ l ∧ u f = some m := by
  have all : ∀ p, p ∈ l → RO (u p) m := joinF_max.1 (by rw [h]; exact RO_some.2 (Nat.le_refl m))
  apply Classical.byContradiction
  intro no
  cases m with
  | zero =>
    cases l with
    | nil => exact hl rfl
    | cons p l =>
      obtain ⟨q, e, hq⟩ := all p List.mem_cons_self
      exact no ⟨p, List.mem_cons_self, by rw [e]; congr 1; omega⟩
  | succ m =>
    have : RO (joinF false u l) m := joinF_max.2 fun p hp => by
      obtain ⟨q, e, hq⟩ := all p hp
      have : q ≠ m + 1 := fun e2 => no ⟨p, hp, by rw [e, e2]⟩
      exact ⟨q, e, by omega⟩
    rw [h] at this
    have := RO_some.1 this
    omega

theorem dear_some {v : Values} {x : Step} {m : Nat} (hl : x.pre ≠ []) (h : joinF false (val v) x.pre = some m) : ∃ f, dear v x = some f ∧ f ∈ x.pre ∧ val v f = some m := by
  obtain ⟨g, hg, eg⟩ := max_attained hl h
  have e : dear v x = x.pre.find? fun f => val v f == some m := by
    show (match join false v x.pre with | none => none | some m => x.pre.find? fun f => val v f == some m) = _
    rw [join_eq, h]
  cases ef : x.pre.find? fun f => val v f == some m with
  | none =>
    exfalso
    have := List.find?_eq_none.1 ef g hg
    apply this
    rw [eg]
    exact beq_self_eq_true _
  | some f =>
    have h1 := List.find?_some ef
    exact ⟨f, by rw [e, ef], List.mem_of_find?_eq_some ef, by simpa using h1⟩
theorem dear_none {v : Values} {x : Step} (h : joinF false (val v) x.pre = none) : dear v x = none := by
  show (match join false v x.pre with | none => none | some m => x.pre.find? fun f => val v f == some m) = _
  rw [join_eq, h]
theorem dear_inv {v : Values} {x : Step} {f : Nat} (h : dear v x = some f) : ∃ m, joinF false (val v) x.pre = some m ∧ f ∈ x.pre ∧ val v f = some m := by
  cases e : joinF false (val v) x.pre with
  | none => rw [dear_none e] at h; cases h
  | some m =>
    have e1 : dear v x = x.pre.find? fun f => val v f == some m := by
      show (match join false v x.pre with | none => none | some m => x.pre.find? fun f => val v f == some m) = _
      rw [join_eq, e]
    rw [e1] at h
    have h1 := List.find?_some h
    exact ⟨m, rfl, List.mem_of_find?_eq_some h, by simpa using h1⟩

theorem needs_ne (n m : Nat) : needs n m ≠ [] := by
  unfold needs
  split
  · exact List.cons_ne_nil _ _
  · assumption
theorem pre_ne (t : Pn.Task) (k : Nat) (hk : k < (steps t).length) : (stepAt (steps t) k).pre ≠ [] := by
  rw [steps_length] at hk
  by_cases c : k < t.acts.length
  · rw [stepAt_act t k c]; exact needs_ne t.facts (t.acts[k]).pre
  · have : k = t.acts.length := by omega
    subst this
    rw [stepAt_goal]; exact needs_ne t.facts t.goal
theorem add_lt (t : Pn.Task) (k : Nat) (hk : k < (steps t).length) (g : Nat) (hg : g ∈ (stepAt (steps t) k).add) : g < t.facts + 2 := by
  rw [steps_length] at hk
  by_cases c : k < t.acts.length
  · rw [stepAt_act t k c] at hg
    have := (mem_facts (n := t.facts) (m := (t.acts[k]).add)).1 hg
    omega
  · have : k = t.acts.length := by omega
    subst this
    rw [stepAt_goal] at hg
    have : g = t.facts + 1 := by simpa using hg
    omega

/-! ## the zone -/
def Zs (l : List Step) (c : List Nat) (v : Values) (z : List Nat) : List Nat := z ++ ((List.range l.length).filterMap fun k => let x := l.getD k ⟨[], []⟩
    match dear v x with
    | some f => if c.getD k 0 = 0 ∧ (x.add.any z.contains) = true ∧ z.contains f = false then some f else none
    | none => none).foldl (fun (m : List Nat) f => if m.contains f then m else m ++ [f]) []
theorem zone_iter (l : List Step) (c : List Nat) (v : Values) (goal : Nat) : ∀ n z, zone l c v goal n z = iter (Zs l c v) n z
  | 0, _ => rfl
  | n + 1, z => zone_iter l c v goal n (Zs l c v z)
theorem mem_Zs {l : List Step} {c : List Nat} {v : Values} {z : List Nat} {f : Nat} : f ∈ Zs l c v z ↔ f ∈ z ∨ ∃ k g, k < l.length ∧ g ∈ (stepAt l k).add ∧ dear v (stepAt l k) = some f ∧ c.getD k 0 = 0 ∧ g ∈ z := by
  unfold Zs
  rw [List.mem_append, mem_dedup, List.mem_filterMap]
  constructor
  · rintro (h | h | ⟨k, hk, h⟩)
    · exact .inl h
    · cases h
    · have h' : (match dear v (stepAt l k) with
        | some f => if c.getD k 0 = 0 ∧ ((stepAt l k).add.any z.contains) = true ∧ z.contains f = false then some f else none
        | none => none) = some f := h
      cases e : dear v (stepAt l k) with
      | none => rw [e] at h'; cases h'
      | some f' =>
        rw [e] at h'
        have h2 : (if c.getD k 0 = 0 ∧ ((stepAt l k).add.any z.contains) = true ∧ z.contains f' = false then some f' else none) = some f := h'
        split at h2
        · rename_i hc
          cases h2
          obtain ⟨g, hg, hz⟩ := List.any_eq_true.1 hc.2.1
          exact .inr ⟨k, g, List.mem_range.1 hk, hg, e, hc.1, by simpa using hz⟩
        · cases h2
  · rintro (h | ⟨k, g, hk, hg, e, hc, hz⟩)
    · exact .inl h
    · by_cases d : f ∈ z
      · exact .inl d
      · refine .inr (.inr ⟨k, List.mem_range.2 hk, ?_⟩)
        show (match dear v (stepAt l k) with
          | some f => if c.getD k 0 = 0 ∧ ((stepAt l k).add.any z.contains) = true ∧ z.contains f = false then some f else none
          | none => none) = some f
        rw [e]
        refine if_pos ⟨hc, List.any_eq_true.2 ⟨g, hg, by simpa using hz⟩, by simpa using d⟩

def zsys (l : List Step) (c : List Nat) (v : Values) (N : Nat) : Sys (Nat × Nat) where
  N := N
  heads k f := (k.1 < l.length ∧ k.2 ∈ (stepAt l k.1).add ∧ dear v (stepAt l k.1) = some f ∧ c.getD k.1 0 = 0) ∧ f < N ∧ k.2 < N
  body k := [k.2]
  val k u := u k.2
  hN _ _ h := h.2.1
  bN _ _ h p hp := by rw [List.mem_singleton] at hp; rw [hp]; exact h.2.2
  mono k _ _ h := h k.2 (List.mem_singleton.2 rfl)
  infl k _ _ h p hp := by rw [List.mem_singleton] at hp; rw [hp]; exact h

section
variable (t : Pn.Task) (c : List Nat) (v : Values)

def zoneAt (i : Nat) : List Nat := iter (Zs (steps t) c v) i [t.facts + 1]
def theZone : List Nat := zone (steps t) c v (t.facts + 1) (t.facts + 2) [t.facts + 1]
theorem theZone_eq : theZone t c v = zoneAt t c v (t.facts + 2) := zone_iter _ _ _ _ _ _

theorem dear_lt {k f : Nat} (hk : k < (steps t).length) (h : dear v (stepAt (steps t) k) = some f) : f < t.facts + 1 := by
  obtain ⟨_, _, hp, _⟩ := dear_inv h
  exact pre_lt t k hk f hp

def zrun : Run (zsys (steps t) c v (t.facts + 2)) where
  v i f := mf (zoneAt t c v i) f
  rd i f hf n := by
    have e : zoneAt t c v (i + 1) = Zs (steps t) c v (zoneAt t c v i) := iter_succ _ _ _
    rw [e, RO_mf, RO_mf, mem_Zs]
    constructor
    · rintro (h | ⟨k, g, hk, hg, hd, hc, hz⟩)
      · exact .inl h
      · exact .inr ⟨(k, g), ⟨⟨hk, hg, hd, hc⟩, hf, add_lt t k hk g hg⟩, RO_mf.2 hz⟩
    · rintro (h | ⟨⟨k, g⟩, ⟨⟨hk, hg, hd, hc⟩, _, _⟩, hz⟩)
      · exact .inl h
      · exact .inr ⟨k, g, hk, hg, hd, hc, RO_mf.1 hz⟩

theorem zone_goal : t.facts + 1 ∈ theZone t c v := by
  rw [theZone_eq]
  refine RO_mf.1 ((zrun t c v).desc (Nat.zero_le (t.facts + 2)) (t.facts + 1) (Nat.lt_succ_self _) 0 ?_)
  exact RO_mf.2 (List.mem_singleton.2 rfl)
theorem zone_closed {k f g : Nat} (hk : k < (steps t).length) (hd : dear v (stepAt (steps t) k) = some f) (hc : c.getD k 0 = 0) (hg : g ∈ (stepAt (steps t) k).add) (hz : g ∈ theZone t c v) : f ∈ theZone t c v := by
  have h := (zrun t c v).fixUnder (K := t.facts + 2) fun i hi f hf =>
    (zrun t c v).settled 0 (fun _ => false) (fun _ _ h => nomatch h) (Nat.zero_le _) i (t.facts + 2) hi (Nat.le_refl _) f hf
  rw [theZone_eq] at hz ⊢
  have hf := dear_lt t v hk hd
  exact RO_mf.1 (h f 0 (k, g) ⟨⟨hk, hg, hd, hc⟩, by show f < t.facts + 2; omega, add_lt t k hk g hg⟩ (RO_mf.2 hz))
theorem zone_least {P : Nat → Prop} (h0 : P (t.facts + 1)) (hc : ∀ k f g, k < (steps t).length → dear v (stepAt (steps t) k) = some f → c.getD k 0 = 0 → g ∈ (stepAt (steps t) k).add → P g → P f) : ∀ f, f ∈ theZone t c v → P f := by
  rw [theZone_eq]
  generalize t.facts + 2 = i
  intro f hf
  induction i generalizing f with
  | zero =>
    have : f = t.facts + 1 := List.mem_singleton.1 hf
    rw [this]; exact h0
  | succ i ih =>
    have e : zoneAt t c v (i + 1) = Zs (steps t) c v (zoneAt t c v i) := iter_succ _ _ _
    rw [e, mem_Zs] at hf
    rcases hf with h | ⟨k, g, hk, hg, hd, hc1, hz⟩
    · exact ih f h
    · exact hc k f g hk hd hc1 hg (ih g hz)
end

/-! ## before the zone -/
def Bs (l : List Step) (v : Values) (z b : List Nat) : List Nat := b ++ ((List.range l.length).flatMap fun k => let x := l.getD k ⟨[], []⟩
    match dear v x with
    | some f => if b.contains f = true then x.add.filter fun g => !z.contains g && !b.contains g else []
    | none => []).foldl (fun (m : List Nat) f => if m.contains f then m else m ++ [f]) []
theorem before_iter (l : List Step) (v : Values) (z : List Nat) : ∀ n b, before l v z n b = iter (Bs l v z) n b
  | 0, _ => rfl
  | n + 1, b => before_iter l v z n (Bs l v z b)
theorem mem_Bs {l : List Step} {v : Values} {z b : List Nat} {g : Nat} : g ∈ Bs l v z b ↔ g ∈ b ∨ ∃ k f, k < l.length ∧ g ∈ (stepAt l k).add ∧ dear v (stepAt l k) = some f ∧ ¬ g ∈ z ∧ f ∈ b := by
  unfold Bs
  rw [List.mem_append, mem_dedup, List.mem_flatMap]
  constructor
  · rintro (h | h | ⟨k, hk, h⟩)
    · exact .inl h
    · cases h
    · have h' : g ∈ (match dear v (stepAt l k) with
        | some f => if b.contains f = true then (stepAt l k).add.filter fun g => !z.contains g && !b.contains g else []
        | none => []) := h
      cases e : dear v (stepAt l k) with
      | none => rw [e] at h'; cases h'
      | some f' =>
        rw [e] at h'
        have h2 : g ∈ (if b.contains f' = true then (stepAt l k).add.filter fun g => !z.contains g && !b.contains g else []) := h'
        split at h2
        · rename_i hc
          obtain ⟨h3, h4⟩ := List.mem_filter.1 h2
          rw [Bool.and_eq_true] at h4
          exact .inr ⟨k, f', List.mem_range.1 hk, h3, e, by simpa using h4.1, by simpa using hc⟩
        · cases h2
  · rintro (h | ⟨k, f, hk, hg, e, hz, hb⟩)
    · exact .inl h
    · by_cases d : g ∈ b
      · exact .inl d
      · refine .inr (.inr ⟨k, List.mem_range.2 hk, ?_⟩)
        show g ∈ (match dear v (stepAt l k) with
          | some f => if b.contains f = true then (stepAt l k).add.filter fun g => !z.contains g && !b.contains g else []
          | none => [])
        rw [e]
        show g ∈ (if b.contains f = true then (stepAt l k).add.filter fun g => !z.contains g && !b.contains g else [])
        rw [if_pos (by simpa using hb)]
        exact List.mem_filter.2 ⟨hg, by simp [hz, d]⟩

def bsys (l : List Step) (v : Values) (z : List Nat) (N : Nat) : Sys (Nat × Nat) where
  N := N
  heads k g := (k.1 < l.length ∧ g ∈ (stepAt l k.1).add ∧ dear v (stepAt l k.1) = some k.2 ∧ ¬ g ∈ z) ∧ g < N ∧ k.2 < N
  body k := [k.2]
  val k u := u k.2
  hN _ _ h := h.2.1
  bN _ _ h p hp := by rw [List.mem_singleton] at hp; rw [hp]; exact h.2.2
  mono k _ _ h := h k.2 (List.mem_singleton.2 rfl)
  infl k _ _ h p hp := by rw [List.mem_singleton] at hp; rw [hp]; exact h

section
variable (t : Pn.Task) (s : Nat) (v : Values) (z : List Nat)

def beforeAt (i : Nat) : List Nat := iter (Bs (steps t) v z) i (t.facts :: facts t.facts s)
def theBefore : List Nat := before (steps t) v z (t.facts + 2) (t.facts :: facts t.facts s)
theorem theBefore_eq : theBefore t s v z = beforeAt t s v z (t.facts + 2) := before_iter _ _ _ _ _

def brun : Run (bsys (steps t) v z (t.facts + 2)) where
  v i f := mf (beforeAt t s v z i) f
  rd i f hf n := by
    have e : beforeAt t s v z (i + 1) = Bs (steps t) v z (beforeAt t s v z i) := iter_succ _ _ _
    rw [e, RO_mf, RO_mf, mem_Bs]
    constructor
    · rintro (h | ⟨k, g, hk, hg, hd, hc, hz⟩)
      · exact .inl h
      · exact .inr ⟨(k, g), ⟨⟨hk, hg, hd, hc⟩, hf, by have := dear_lt t v hk hd; show g < t.facts + 2; omega⟩, RO_mf.2 hz⟩
    · rintro (h | ⟨⟨k, g⟩, ⟨⟨hk, hg, hd, hc⟩, _, _⟩, hz⟩)
      · exact .inl h
      · exact .inr ⟨k, g, hk, hg, hd, hc, RO_mf.1 hz⟩

theorem before_start {f : Nat} (h : f ∈ t.facts :: facts t.facts s) : f ∈ theBefore t s v z := by
  rw [theBefore_eq]
  have hf : f < t.facts + 2 := by
    rcases List.mem_cons.1 h with e | h
    · omega
    · have := (mem_facts.1 h).1; omega
  exact RO_mf.1 ((brun t s v z).desc (Nat.zero_le (t.facts + 2)) f hf 0 (RO_mf.2 h))
theorem before_closed {k f g : Nat} (hk : k < (steps t).length) (hd : dear v (stepAt (steps t) k) = some f) (hg : g ∈ (stepAt (steps t) k).add) (hz : ¬ g ∈ z) (hb : f ∈ theBefore t s v z) : g ∈ theBefore t s v z := by
  have h := (brun t s v z).fixUnder (K := t.facts + 2) fun i hi f hf =>
    (brun t s v z).settled 0 (fun _ => false) (fun _ _ h => nomatch h) (Nat.zero_le _) i (t.facts + 2) hi (Nat.le_refl _) f hf
  rw [theBefore_eq] at hb ⊢
  have hf := dear_lt t v hk hd
  exact RO_mf.1 (h g 0 (k, f) ⟨⟨hk, hg, hd, hz⟩, add_lt t k hk g hg, by show f < t.facts + 2; omega⟩ (RO_mf.2 hb))
theorem before_least {P : Nat → Prop} (h0 : ∀ f, f ∈ t.facts :: facts t.facts s → P f) (hc : ∀ k f g, k < (steps t).length → dear v (stepAt (steps t) k) = some f → g ∈ (stepAt (steps t) k).add → ¬ g ∈ z → P f → P g) : ∀ f, f ∈ theBefore t s v z → P f := by
  rw [theBefore_eq]
  generalize t.facts + 2 = i
  intro f hf
  induction i generalizing f with
  | zero => exact h0 f hf
  | succ i ih =>
    have e : beforeAt t s v z (i + 1) = Bs (steps t) v z (beforeAt t s v z i) := iter_succ _ _ _
    rw [e, mem_Bs] at hf
    rcases hf with h | ⟨k, g, hk, hg, hd, hc1, hz⟩
    · exact ih f h
    · exact hc k g f hk hd hg hc1 (ih g hz)
end

/-! ## the cut -/
section
variable (t : Pn.Task) (s : Nat) (c : List Nat)

abbrev V : Values := values false t c s
abbrev Z : List Nat := theZone t c (V t s c)
abbrev B : List Nat := theBefore t s (V t s c) (Z t s c)
abbrev K : List Nat := cut t s c (V t s c)

theorem mem_K {k : Nat} : k ∈ K t s c ↔ k < (steps t).length ∧ ∃ f g, dear (V t s c) (stepAt (steps t) k) = some f ∧ f ∈ B t s c ∧ g ∈ (stepAt (steps t) k).add ∧ g ∈ Z t s c := by
  show k ∈ (List.range (steps t).length).filter (fun k => match dear (V t s c) (stepAt (steps t) k) with
    | some f => (B t s c).contains f && (stepAt (steps t) k).add.any (Z t s c).contains
    | none => false) ↔ _
  rw [List.mem_filter, List.mem_range]
  refine and_congr_right fun hk => ?_
  cases e : dear (V t s c) (stepAt (steps t) k) with
  | none => exact ⟨fun h => (nomatch h), fun ⟨f, g, h, _⟩ => (nomatch h)⟩
  | some f =>
    show ((B t s c).contains f && (stepAt (steps t) k).add.any (Z t s c).contains) = true ↔ _
    rw [Bool.and_eq_true, List.any_eq_true]
    constructor
    · rintro ⟨h1, g, hg, hz⟩
      exact ⟨f, g, rfl, by simpa using h1, hg, by simpa using hz⟩
    · rintro ⟨f', g, e', h1, hg, hz⟩
      cases e'
      exact ⟨by simpa using h1, g, hg, by simpa using hz⟩

theorem K_sorted : (K t s c).Pairwise (· < ·) := List.Pairwise.filter _ List.pairwise_lt_range

theorem goal_pre : ∀ p, p ∈ (stepAt (steps t) t.acts.length).pre ↔ p ∈ needs t.facts t.goal := by
  intro p; rw [stepAt_goal]; exact Iff.rfl

variable (hc : c.getD t.acts.length 0 = 0)

/-- as W_under, over the goal's own fact too -/
theorem under2 : ∀ k f n, k < (steps t).length → f ∈ (stepAt (steps t) k).add → RO ((joinF false (W false t c s) (stepAt (steps t) k).pre).map fun p => p + c.getD k 0) n → RO (W false t c s f) n := by
  intro k f n hk hf hv
  have hf2 := add_lt t k hk f hf
  have h := (run2 false t c s).fixUnder (K := t.facts + 3) fun i hi f hf => settled2 false t c s i (t.facts + 3) (by omega) (by omega) f hf
  have e : ∀ g, (run2 false t c s).v (t.facts + 3) g = W false t c s g := fun g => by
    show val (nth false t c s (t.facts + 3)) g = val (values false t c s) g
    rw [values_nth]
  rw [← e]
  refine h f n k ⟨hk, by simpa using hf, hf2⟩ ?_
  show RO ((joinF false (fun g => (run2 false t c s).v (t.facts + 3) g) (stepAt (steps t) k).pre).map fun p => p + c.getD k 0) n
  rw [joinF_congr fun p _ => e p]
  exact hv

/-- what lies in the zone is worth no less than the goal -/
theorem zone_worth (h : Nat) (hg : W false t c s (t.facts + 1) = some h) : ∀ f, f ∈ Z t s c → ∀ n, RO (W false t c s f) n → h ≤ n := by
  refine zone_least t c (V t s c) (P := fun f => ∀ n, RO (W false t c s f) n → h ≤ n) ?_ ?_
  · intro n hn
    rw [hg] at hn
    exact RO_some.1 hn
  · intro k f g hk hd h0 hga ih n hn
    obtain ⟨m, ej, hp, ev⟩ := dear_inv hd
    have ev' : W false t c s f = some m := ev
    rw [ev'] at hn
    refine Nat.le_trans (ih m ?_) (RO_some.1 hn)
    refine under2 t s c k g m hk hga ?_
    rw [h0]
    exact RO_map_add.2 ⟨m, ej, Nat.le_refl _⟩

theorem W_so {f : Nat} (h : f ∈ t.facts :: facts t.facts s) : W false t c s f = some 0 := by
  unfold W
  rw [values_nth]
  refine always false t c s f ?_ _
  rcases List.mem_cons.1 h with e | h
  · exact .inl e
  · exact .inr (mem_facts.1 h)

/-- what's before the zone and in it is so -/
theorem before_zone : ∀ f, f ∈ B t s c → f ∈ Z t s c → f ∈ t.facts :: facts t.facts s := by
  refine before_least t s (V t s c) (Z t s c) (P := fun f => f ∈ Z t s c → f ∈ t.facts :: facts t.facts s) (fun f h _ => h) ?_
  intro k f g _ _ _ hz _ hz'
  exact absurd hz' hz

/-- no act of a cut is for nothing -/
theorem K_price (h : Nat) (hg : W false t c s (t.facts + 1) = some (h + 1)) : ∀ k, k ∈ K t s c → c.getD k 0 ≠ 0 := by
  intro k hk h0
  obtain ⟨hl, f, g, hd, hb, hga, hz⟩ := (mem_K t s c).1 hk
  have hfz := zone_closed t c (V t s c) hl hd h0 hga hz
  have so := W_so t s c (before_zone t s c f hb hfz)
  have := zone_worth t s c (h + 1) hg f hfz 0 (by rw [so]; exact RO_some.2 (Nat.le_refl 0))
  omega

/-- a cut has an act -/
theorem K_ne (h : Nat) (hg : W false t c s (t.facts + 1) = some (h + 1)) : K t s c ≠ [] := by
  intro empty
  have notK : ∀ k, ¬ k ∈ K t s c := fun k hk => by rw [empty] at hk; cases hk
  let u : Nat → Option Nat := fun f => if f ∈ B t s c then W false t c s f else none
  have uI : ∀ f, f ∈ B t s c → u f = W false t c s f := fun f h => if_pos h
  have uO : ∀ f, ¬ f ∈ B t s c → u f = none := fun f h => if_neg h
  have hu : ∀ k f n, k < (steps t).length → f ∈ (stepAt (steps t) k).add → RO ((joinF false u (stepAt (steps t) k).pre).map fun p => p + c.getD k 0) n → RO (u f) n := by
    intro k f n hk hf hv
    obtain ⟨m, ej, hm⟩ := RO_map_add.1 hv
    have allB : ∀ p, p ∈ (stepAt (steps t) k).pre → p ∈ B t s c := fun p hp => by
      apply Classical.byContradiction
      intro no
      have := joinF_infl (sum := false) (l := (stepAt (steps t) k).pre) (n := m) (by rw [ej]; exact RO_some.2 (Nat.le_refl m)) p hp
      rw [uO p no] at this
      exact RO_none this
    have ej' : joinF false (W false t c s) (stepAt (steps t) k).pre = some m := by
      rw [← ej]
      exact joinF_congr fun p hp => (uI p (allB p hp)).symm
    obtain ⟨d, hd, hdp, _⟩ := dear_some (v := V t s c) (pre_ne t k hk) ej'
    have hw := under2 t s c k f n hk hf (RO_map_add.2 ⟨m, ej', hm⟩)
    by_cases z : f ∈ Z t s c
    · exact absurd ((mem_K t s c).2 ⟨hk, d, f, hd, allB d hdp, hf, z⟩) (notK k)
    · have : f ∈ B t s c := before_closed t s (V t s c) (Z t s c) hk hd hf z (allB d hdp)
      rw [uI f this]
      exact hw
  have h1 := (run2 false t c s).under (u := u) (fun f n k hk hv => hu k f n hk.1 (by simpa using hk.2.1) hv) (fun f hf n hn => by
    have hn' : RO (val (first t s) f) n := hn
    have hf' : f < t.facts + 2 := hf
    rw [val_first t s f hf'] at hn'
    split at hn'
    · rename_i hc
      have hm : f ∈ t.facts :: facts t.facts s := by
        rcases hc with e | ⟨a, b⟩
        · rw [e]; exact List.mem_cons_self
        · exact List.mem_cons_of_mem _ (mem_facts.2 ⟨a, b⟩)
      rw [uI f (before_start t s _ _ hm), W_so t s c hm]
      exact RO_some.2 (Nat.zero_le _)
    · exact absurd hn' RO_none) (t.facts + 3) (t.facts + 1) (Nat.lt_succ_self _)
  have e : (run2 false t c s).v (t.facts + 3) (t.facts + 1) = W false t c s (t.facts + 1) := by
    show val (nth false t c s (t.facts + 3)) _ = val (values false t c s) _
    rw [values_nth]
  rw [e, hg] at h1
  have h2 := h1 (h + 1) (RO_some.2 (Nat.le_refl _))
  have nb : ¬ t.facts + 1 ∈ B t s c := fun hb => by
    have := before_zone t s c _ hb (zone_goal t c (V t s c))
    rcases List.mem_cons.1 this with e | h
    · omega
    · have := (mem_facts.1 h).1; omega
  rw [uO _ nb] at h2
  exact RO_none h2
end

/-! ## cut after cut -/
/-- the least of a cut's prices -/
def leastOf (c : List Nat) (k : List Nat) : Nat := (k.map fun i => c.getD i 0).foldl min (c.getD (k.headD 0) 0)
/-- the prices behind it -/
def less (c : List Nat) (k : List Nat) (m : Nat) : List Nat := (List.range c.length).map fun i => if k.contains i = true then c.getD i 0 - m else c.getD i 0

theorem foldl_min : ∀ (l : List Nat) (a : Nat), l.foldl min a ≤ a ∧ (∀ x, x ∈ l → l.foldl min a ≤ x) ∧ (l.foldl min a = a ∨ l.foldl min a ∈ l)
  | [], a => ⟨Nat.le_refl _, fun x h => (nomatch h), .inl rfl⟩
  | y :: l, a => by
    obtain ⟨h1, h2, h3⟩ := foldl_min l (min a y)
    rw [List.foldl_cons]
    refine ⟨by omega, fun x hx => ?_, ?_⟩
    · rcases List.mem_cons.1 hx with e | hx
      · subst e; omega
      · exact h2 x hx
    · rcases h3 with h3 | h3
      · by_cases c : a ≤ y
        · exact .inl (by rw [h3]; omega)
        · exact .inr (by rw [h3, show min a y = y by omega]; exact List.mem_cons_self)
      · exact .inr (List.mem_cons_of_mem _ h3)

theorem leastOf_le {c k : List Nat} {i : Nat} (h : i ∈ k) : leastOf c k ≤ c.getD i 0 := (foldl_min _ _).2.1 _ (List.mem_map_of_mem (f := fun i => c.getD i 0) h)
theorem leastOf_mem {c k : List Nat} (h : k ≠ []) : ∃ i, i ∈ k ∧ leastOf c k = c.getD i 0 := by
  rcases (foldl_min (k.map fun i => c.getD i 0) (c.getD (k.headD 0) 0)).2.2 with e | e
  · cases k with
    | nil => exact absurd rfl h
    | cons x r => exact ⟨x, List.mem_cons_self, e⟩
  · obtain ⟨i, hi, e⟩ := List.mem_map.1 e
    exact ⟨i, hi, e.symm⟩

theorem less_length (c k : List Nat) (m : Nat) : (less c k m).length = c.length := by
  unfold less
  rw [List.length_map, List.length_range]
theorem less_get {c k : List Nat} {m i : Nat} : (less c k m).getD i 0 = if i ∈ k then c.getD i 0 - m else c.getD i 0 := by
  unfold less
  by_cases h : i < c.length
  · rw [List.getD_eq_getElem?_getD, List.getElem?_map, List.getElem?_range h]
    show (if k.contains i = true then _ else _) = _
    by_cases d : i ∈ k
    · rw [if_pos d, if_pos (by simpa using d)]
    · rw [if_neg d, if_neg (by simpa using d)]
  · have e0 : c.getD i 0 = 0 := by rw [List.getD_eq_getElem?_getD, List.getElem?_eq_none (by omega)]; rfl
    rw [e0, List.getD_eq_getElem?_getD, List.getElem?_eq_none (by rw [List.length_map, List.length_range]; omega)]
    simp

/-- whether a fact can be had doesn't hang on the prices -/
theorem had (t : Pn.Task) (s : Nat) (c d : List Nat) (f : Nat) (hf : f < t.facts + 2) (h : W false t d s f = none) : W false t c s f = none := by
  let u : Nat → Option Nat := fun f => if W false t d s f = none then none else some 0
  have hu := (run2 false t c s).under (u := u) (fun f n k hk hv => by
    obtain ⟨m, ej, hm⟩ := RO_map_add.1 (show RO ((joinF false u (stepAt (steps t) k).pre).map fun p => p + c.getD k 0) n from hv)
    have hp : ∀ p, p ∈ (stepAt (steps t) k).pre → ∃ q, W false t d s p = some q := fun p hp => by
      have := joinF_infl (sum := false) (l := (stepAt (steps t) k).pre) (n := m) (by rw [ej]; exact RO_some.2 (Nat.le_refl m)) p hp
      cases e : W false t d s p with
      | some q => exact ⟨q, rfl⟩
      | none =>
        have eu : u p = none := if_pos e
        rw [eu] at this
        exact absurd this RO_none
    -- so the row can be had there too
    have hj : ∀ l : List Nat, (∀ p, p ∈ l → ∃ q, W false t d s p = some q) → ∃ x, RO (joinF false (W false t d s) l) x := by
      intro l hl
      have : ∀ l : List Nat, (∀ p, p ∈ l → ∃ q, W false t d s p = some q) → ∃ x, ∀ p, p ∈ l → RO (W false t d s p) x := by
        intro l
        induction l with
        | nil => intro _; exact ⟨0, fun p hp => nomatch hp⟩
        | cons y l ih =>
          intro h
          obtain ⟨x, hx⟩ := ih fun p hp => h p (List.mem_cons_of_mem _ hp)
          obtain ⟨q, hq⟩ := h y List.mem_cons_self
          refine ⟨max x q, fun p hp => ?_⟩
          rcases List.mem_cons.1 hp with e | hp
          · subst e; rw [hq]; exact RO_some.2 (by omega)
          · exact (hx p hp).up (by omega)
      obtain ⟨x, hx⟩ := this l hl
      exact ⟨x, joinF_max.2 hx⟩
    obtain ⟨x, q, eq, hq⟩ := hj _ hp
    have hw := under2 t s d k f (q + d.getD k 0) hk.1 (by simpa using hk.2.1) (RO_map_add.2 ⟨q, eq, Nat.le_refl _⟩)
    obtain ⟨y, ey, _⟩ := hw
    show RO (if W false t d s f = none then none else some 0) n
    rw [if_neg (by rw [ey]; exact Option.some_ne_none _)]
    exact RO_some.2 (Nat.zero_le _)) (fun f hf n hn => by
    have hn' : RO (val (first t s) f) n := hn
    have hf' : f < t.facts + 2 := hf
    rw [val_first t s f hf'] at hn'
    split at hn'
    · rename_i hc
      have hm : f ∈ t.facts :: facts t.facts s := by
        rcases hc with e | ⟨a, b⟩
        · rw [e]; exact List.mem_cons_self
        · exact List.mem_cons_of_mem _ (mem_facts.2 ⟨a, b⟩)
      show RO (if W false t d s f = none then none else some 0) n
      rw [if_neg (by rw [W_so t s d hm]; exact Option.some_ne_none _)]
      exact RO_some.2 (Nat.zero_le _)
    · exact absurd hn' RO_none) (t.facts + 3) f hf
  have e : (run2 false t c s).v (t.facts + 3) f = W false t c s f := by
    show val (nth false t c s (t.facts + 3)) _ = val (values false t c s) _
    rw [values_nth]
  rw [e, show u f = none from if_pos h] at hu
  cases ew : W false t c s f with
  | none => rfl
  | some n =>
    rw [ew] at hu
    exact absurd (hu n (RO_some.2 (Nat.le_refl n))) RO_none

/-- cut after cut, to where what's wanted is worth nothing -/
inductive Cuts (t : Pn.Task) (s : Nat) : List Nat → List (Nat × List Nat) → Prop
  | nil {c : List Nat} : W false t c s (t.facts + 1) = some 0 → Cuts t s c []
  | cons {c : List Nat} {h : Nat} {r : List (Nat × List Nat)} : W false t c s (t.facts + 1) = some (h + 1) → Cuts t s (less c (K t s c) (leastOf c (K t s c))) r → Cuts t s c ((leastOf c (K t s c), K t s c) :: r)

/-- how many prices are not 0 -/
def dearOnes (c : List Nat) (n : Nat) : Nat := count (fun i => c.getD i 0 != 0) n

theorem K_lt (t : Pn.Task) (s : Nat) (c : List Nat) (hc : c.getD t.acts.length 0 = 0) (h : Nat) (hg : W false t c s (t.facts + 1) = some (h + 1)) : ∀ k, k ∈ K t s c → k < t.acts.length := by
  intro k hk
  have h1 := ((mem_K t s c).1 hk).1
  rw [steps_length] at h1
  have h2 := K_price t s c h hg k hk
  by_cases e : k = t.acts.length
  · subst e; exact absurd hc h2
  · omega

theorem least_pos (t : Pn.Task) (s : Nat) (c : List Nat) (h : Nat) (hg : W false t c s (t.facts + 1) = some (h + 1)) : leastOf c (K t s c) ≠ 0 := by
  obtain ⟨i, hi, e⟩ := leastOf_mem (c := c) (K_ne t s c h hg)
  rw [e]
  exact K_price t s c h hg i hi

theorem less_fewer (t : Pn.Task) (s : Nat) (c : List Nat) (hc : c.getD t.acts.length 0 = 0) (h : Nat) (hg : W false t c s (t.facts + 1) = some (h + 1)) :
    dearOnes (less c (K t s c) (leastOf c (K t s c))) t.acts.length < dearOnes c t.acts.length := by
  obtain ⟨i, hi, e⟩ := leastOf_mem (c := c) (K_ne t s c h hg)
  refine count_lt _ (fun f _ hf => ?_) i (K_lt t s c hc h hg i hi) ?_ ?_
  · rw [less_get] at hf
    simp only [bne_iff_ne, ne_eq] at hf ⊢
    intro e0
    apply hf
    rw [e0]
    split <;> omega
  · rw [less_get, if_pos hi, e, Nat.sub_self]
    rfl
  · have := K_price t s c h hg i hi
    simpa using this

theorem cuts_enough (t : Pn.Task) (s : Nat) : ∀ (n : Nat) (c : List Nat), c.getD t.acts.length 0 = 0 → dearOnes c t.acts.length < n → W false t c s (t.facts + 1) ≠ none → ∃ r, cuts t s n c = some r ∧ Cuts t s c r := by
  intro n
  induction n with
  | zero => intro c _ h; omega
  | succ n ih =>
    intro c hc hn hw
    have e : cuts t s (n + 1) c = (match W false t c s (t.facts + 1) with
      | none => none
      | some 0 => some []
      | some _ => if leastOf c (K t s c) = 0 then some [] else (cuts t s n (less c (K t s c) (leastOf c (K t s c)))).map fun r => (leastOf c (K t s c), K t s c) :: r) := rfl
    cases eg : W false t c s (t.facts + 1) with
    | none => exact absurd eg hw
    | some h => cases h with
      | zero =>
        rw [eg] at e
        exact ⟨[], e, .nil eg⟩
      | succ h =>
        rw [eg] at e
        have e2 : cuts t s (n + 1) c = if leastOf c (K t s c) = 0 then some [] else (cuts t s n (less c (K t s c) (leastOf c (K t s c)))).map fun r => (leastOf c (K t s c), K t s c) :: r := e
        rw [if_neg (least_pos t s c h eg)] at e2
        have hc' : (less c (K t s c) (leastOf c (K t s c))).getD t.acts.length 0 = 0 := by
          rw [less_get, hc]
          split <;> omega
        obtain ⟨r, er, hr⟩ := ih (less c (K t s c) (leastOf c (K t s c))) hc' (by have := less_fewer t s c hc h eg; omega) (fun hn => hw (had t s c _ (t.facts + 1) (by omega) hn))
        rw [er] at e2
        exact ⟨_, e2, .cons eg hr⟩

theorem prices_goal (t : Pn.Task) : (prices t).getD t.acts.length 0 = 0 := by
  unfold prices
  rw [List.getD_eq_getElem?_getD, List.getElem?_append_right (by rw [List.length_map]; exact Nat.le_refl _), List.length_map, Nat.sub_self]
  rfl

/-- **what cuts tells** -/
theorem cutsOf_spec (t : Pn.Task) (s : Nat) : match W false t (prices t) s (t.facts + 1) with
    | none => cutsOf t s = none
    | some _ => ∃ r, cutsOf t s = some r ∧ Cuts t s (prices t) r := by
  cases eg : W false t (prices t) s (t.facts + 1) with
  | none =>
    have e : cutsOf t s = (match W false t (prices t) s (t.facts + 1) with
      | none => none
      | some 0 => some []
      | some _ => if leastOf (prices t) (K t s (prices t)) = 0 then some [] else (cuts t s (t.acts.length + 1) (less (prices t) (K t s (prices t)) (leastOf (prices t) (K t s (prices t))))).map fun r => (leastOf (prices t) (K t s (prices t)), K t s (prices t)) :: r) := rfl
    rw [eg] at e
    exact e
  | some h =>
    refine cuts_enough t s (t.acts.length + 2) (prices t) (prices_goal t) ?_ (by rw [eg]; exact Option.some_ne_none _)
    have := count_le (fun i => (prices t).getD i 0 != 0) t.acts.length
    show count _ _ < _
    omega

end ThCut

/-! The flat list of calls, call by call. -/
namespace ThDecode
open PyPn03

theorem shape0 : shape 0 = some (2, 0) := rfl
theorem shape1 : shape 1 = some (0, 1) := rfl
theorem shape2 {p : Int} (h : 2 ≤ p) (g : p ≤ 8) : shape p = some (1, 0) := by
  have : p = 2 ∨ p = 3 ∨ p = 4 ∨ p = 5 ∨ p = 6 ∨ p = 7 ∨ p = 8 := by omega
  rcases this with rfl | rfl | rfl | rfl | rfl | rfl | rfl <;> rfl
theorem shape_none {p : Int} (h : p < 0 ∨ 8 < p) : shape p = none := by
  unfold shape
  rw [if_neg (by omega), if_neg (by omega), if_neg (by omega), if_neg (by omega), if_neg (by omega), if_neg (by omega), if_neg (by omega), if_neg (by omega), if_neg (by omega)]

/-- how a call lies ahead of the rest t -/
inductive Lies : Int → List Int → List (List Int) → List Int → Prop
  | begins (a b : Int) (t : List Int) : Lies 0 (a :: b :: t) [[0, a, b]] t
  | act (x t : List Int) : Lies 1 ((x.length : Int) :: (x ++ t)) [[1], x] t
  | one (p s : Int) (t : List Int) (h : 2 ≤ p) (g : p ≤ 8) : Lies p (s :: t) [[p, s]] t

theorem call_lies {p : Int} {r t : List Int} {c : List (List Int)} (h : PyFlat.call shape (p :: r) = some (c, t)) : Lies p r c t := by
  have h' : (match shape p with
    | none => none
    | some (n, k) => if r.length < n then none else match PyFlat.rows k (r.drop n) with
      | none => none
      | some (xs, t) => some ((p :: r.take n) :: xs, t)) = some (c, t) := h
  by_cases c0 : p = 0
  · subst c0
    rw [shape0] at h'
    have h2 : (if r.length < 2 then none else some ((0 :: r.take 2) :: ([] : List (List Int)), r.drop 2)) = some (c, t) := h'
    split at h2
    · cases h2
    · cases r with
      | nil => simp at *
      | cons a r => cases r with
        | nil => simp at *
        | cons b r =>
          cases h2
          exact .begins a b _
  · by_cases c1 : p = 1
    · subst c1
      rw [shape1] at h'
      have h2 : (match PyFlat.rows 1 r with
        | none => none
        | some (xs, t) => some (((1 : Int) :: []) :: xs, t)) = some (c, t) := h'
      cases r with
      | nil => cases h2
      | cons n r =>
        have e : PyFlat.rows 1 (n :: r) = if 0 ≤ n ∧ n.toNat ≤ r.length then some ([r.take n.toNat], r.drop n.toNat) else none := by
          show (match (if 0 ≤ n ∧ n.toNat ≤ r.length then some (r.take n.toNat, r.drop n.toNat) else none) with
            | none => none
            | some (x, s) => some ([x], s)) = _
          split
          · rename_i e
            split at e
            · cases e
            · rw [if_neg ‹_›]
          · rename_i x s e
            split at e
            · rw [if_pos ‹_›]; cases e; rfl
            · cases e
        rw [e] at h2
        by_cases k : 0 ≤ n ∧ n.toNat ≤ r.length
        · rw [if_pos k] at h2
          have h3 : some (((1 : Int) :: []) :: [r.take n.toNat], r.drop n.toNat) = some (c, t) := h2
          cases h3
          have en : n = ((r.take n.toNat).length : Int) := by rw [List.length_take]; omega
          have er : r = r.take n.toNat ++ r.drop n.toNat := (List.take_append_drop _ _).symm
          have := Lies.act (r.take n.toNat) (r.drop n.toNat)
          rw [← en, ← er] at this
          exact this
        · rw [if_neg k] at h2; cases h2
    · by_cases c2 : 2 ≤ p ∧ p ≤ 8
      · rw [shape2 c2.1 c2.2] at h'
        have h2 : (if r.length < 1 then none else some ((p :: r.take 1) :: ([] : List (List Int)), r.drop 1)) = some (c, t) := h'
        split at h2
        · cases h2
        · cases r with
          | nil => simp at *
          | cons a r =>
            cases h2
            exact .one p a _ c2.1 c2.2
      · rw [shape_none (by omega)] at h'
        cases h'

/-- the calls of a list that isn't empty: the first, and those of the rest -/
theorem calls_cons {f : Nat} {p : Int} {r : List Int} {cs : List (List (List Int))} (h : PyFlat.calls shape f (p :: r) = some cs) :
    ∃ f' c t cs', cs = c :: cs' ∧ PyFlat.calls shape f' t = some cs' ∧ Lies p r c t := by
  cases f with
  | zero => cases h
  | succ f =>
    have h' : (match PyFlat.call shape (p :: r) with
      | none => none
      | some (c, t) => match PyFlat.calls shape f t with
        | none => none
        | some cs => some (c :: cs)) = some cs := h
    cases e : PyFlat.call shape (p :: r) with
    | none => rw [e] at h'; cases h'
    | some q =>
      obtain ⟨c, t⟩ := q
      rw [e] at h'
      have h2 : (match PyFlat.calls shape f t with
        | none => none
        | some cs => some (c :: cs)) = some cs := h'
      cases e2 : PyFlat.calls shape f t with
      | none => rw [e2] at h2; cases h2
      | some cs' =>
        rw [e2] at h2
        cases h2
        exact ⟨f, c, t, cs', rfl, e2, call_lies e⟩

theorem calls_nil {f : Nat} {cs : List (List (List Int))} (h : PyFlat.calls shape f [] = some cs) : cs = [] := by
  cases f <;> · cases h; rfl

theorem whole_lies {p : Int} {r t : List Int} {c : List (List Int)} (h : Lies p r c t) : whole c = c := by
  cases h with
  | begins => rfl
  | act => rfl
  | one p s _ h g =>
    have : p = 2 ∨ p = 3 ∨ p = 4 ∨ p = 5 ∨ p = 6 ∨ p = 7 ∨ p = 8 := by omega
    rcases this with rfl | rfl | rfl | rfl | rfl | rfl | rfl <;> rfl

/-- what's due, from a state on -/
def due (s : Pn03Neutral.S) (cs : List (List (List Int))) : List Int := PyFlat.told (PyFlat.played Pn03Neutral.step s cs)
theorem due_nil (s : Pn03Neutral.S) : due s [] = [] := rfl
theorem due_cons (s : Pn03Neutral.S) (c : List (List Int)) (cs : List (List (List Int))) : due s (c :: cs) = (((Pn03Neutral.step s c).2.length : Int) :: (Pn03Neutral.step s c).2) ++ due (Pn03Neutral.step s c).1 cs := rfl

theorem map_whole : ∀ (cs : List (List (List Int))) {f : Nat} {l : List Int}, PyFlat.calls shape f l = some cs → cs.map whole = cs := by
  intro cs
  induction cs with
  | nil => intros; rfl
  | cons c cs ih =>
    intro f l h
    cases l with
    | nil => exact absurd (calls_nil h) (List.cons_ne_nil _ _)
    | cons p r =>
      obtain ⟨f', c', t, cs', e, h', hl⟩ := calls_cons h
      cases e
      rw [List.map_cons, whole_lies hl, ih h']

/-- what is asked of a list: its calls, each with numbers in their bounds; how many are answered -/
theorem asked_calls {l : List Int} (h : answers_asked l = true) : ∃ cs, PyFlat.calls shape l.length l = some cs ∧ cs ≠ [] ∧ cs.length ≤ 60 ∧ (∀ c, c ∈ cs → Pn03Neutral.asked1 c = true) ∧ Pn03Neutral.many Pn03Neutral.start cs ≤ 1000000 ∧ answers l = due Pn03Neutral.start cs := by
  unfold answers_asked at h
  cases e : PyFlat.calls shape l.length l with
  | none => rw [e] at h; cases h
  | some cs =>
    rw [e] at h
    have h' : (!cs.isEmpty && PyFlat.atMost 60 cs && PyInside.calls bound cs && Pn03Neutral.asked (cs.map whole) && PyFlat.short 10000000 (answers l)) = true := h
    rw [map_whole cs e] at h'
    simp only [Bool.and_eq_true] at h'
    obtain ⟨⟨⟨⟨h1, h2⟩, _⟩, h4⟩, _⟩ := h'
    have h4' : (cs.all Pn03Neutral.asked1 && (decide (1 ≤ cs.length) && (decide (cs.length ≤ 60) && decide ((cs.filter Pn03Neutral.isReal).length ≤ 12) && decide (Pn03Neutral.many Pn03Neutral.start cs ≤ 1000000)))) = true := h4
    simp only [Bool.and_eq_true, decide_eq_true_eq] at h4'
    obtain ⟨g1, _, ⟨g3, _⟩, g5⟩ := h4'
    refine ⟨cs, rfl, ?_, g3, List.all_eq_true.1 g1, g5, ?_⟩
    · intro e0
      subst e0
      cases h1
    · have ea : answers l = (match calls l with | none => [] | some cs => PyFlat.told (PyFlat.played Pn03Neutral.step Pn03Neutral.start cs)) := rfl
      have ec : calls l = some cs := by
        have : calls l = (match PyFlat.calls shape l.length l with | none => none | some cs => some (cs.map whole)) := rfl
        rw [this, e]
        show some (cs.map whole) = some cs
        rw [map_whole cs e]
      rw [ea, ec]
      rfl

theorem many_nil (s : Pn03Neutral.S) : Pn03Neutral.many s [] = 0 := rfl
theorem many_cons (s : Pn03Neutral.S) (c : List (List Int)) (cs : List (List (List Int))) : Pn03Neutral.many s (c :: cs) = (Pn03Neutral.step s c).2.length + Pn03Neutral.many (Pn03Neutral.step s c).1 cs := rfl
/-- how long all that's due is -/
theorem due_length : ∀ (cs : List (List (List Int))) (s : Pn03Neutral.S), (due s cs).length = Pn03Neutral.many s cs + cs.length
  | [], _ => rfl
  | c :: cs, s => by
    rw [due_cons, many_cons, List.length_append, due_length cs, List.length_cons, List.length_cons]
    omega

end ThDecode

/-! Worths reckoned in place, act by act, as many turns as there are facts: what the specification says. -/
namespace ThGS
open ThFix ThVal Pn03

theorem val_range (n : Nat) (g : Nat → Option Nat) (f : Nat) : val ((List.range n).map g) f = if f < n then g f else none := by
  by_cases h : f < n
  · rw [if_pos h]; exact val_map_range n g f h
  · rw [if_neg h]
    unfold val
    rw [List.getD_eq_getElem?_getD, List.getElem?_eq_none (by rw [List.length_map, List.length_range]; omega)]
    rfl
theorem val_set {l : List (Option Nat)} {f : Nat} (h : f < l.length) (x : Option Nat) (g : Nat) : val (l.set f x) g = if g = f then x else val l g := by
  unfold val
  rw [List.getD_eq_getElem?_getD, List.getElem?_set, List.getD_eq_getElem?_getD]
  by_cases c : g = f
  · subst c
    rw [if_pos rfl, if_pos h, if_pos rfl]
    rfl
  · rw [if_neg (fun e => c e.symm), if_neg c]
theorem ext_val {l m : List (Option Nat)} (hl : l.length = m.length) (h : ∀ f, f < l.length → val l f = val m f) : l = m := by
  refine List.ext_getElem hl fun i h1 h2 => ?_
  have := h i h1
  unfold val at this
  rw [List.getD_eq_getElem?_getD, List.getD_eq_getElem?_getD, List.getElem?_eq_getElem h1, List.getElem?_eq_getElem h2] at this
  exact this

/-- one fact offered at a price -/
def offer1 (l : List (Option Nat)) (f c : Nat) : List (Option Nat) := match val l f with
  | none => l.set f (some c)
  | some x => if c < x then l.set f (some c) else l
theorem offer1_length (l : List (Option Nat)) (f c : Nat) : (offer1 l f c).length = l.length := by
  unfold offer1
  split
  · exact List.length_set
  · split
    · exact List.length_set
    · rfl
theorem RO_offer1 {l : List (Option Nat)} {f c : Nat} (h : f < l.length) (g m : Nat) : RO (val (offer1 l f c) g) m ↔ RO (val l g) m ∨ (g = f ∧ c ≤ m) := by
  unfold offer1
  cases e : val l f with
  | none =>
    show RO (val (l.set f (some c)) g) m ↔ _
    rw [val_set h]
    by_cases d : g = f
    · subst d
      rw [if_pos rfl, e, RO_some]
      exact ⟨fun h => .inr ⟨rfl, h⟩, fun h => h.elim (fun h => absurd h RO_none) fun h => h.2⟩
    · rw [if_neg d]
      exact ⟨.inl, fun h => h.elim id fun h => absurd h.1 d⟩
  | some x =>
    show RO (val (if c < x then l.set f (some c) else l) g) m ↔ _
    by_cases k : c < x
    · rw [if_pos k, val_set h]
      by_cases d : g = f
      · subst d
        rw [if_pos rfl, e, RO_some, RO_some]
        constructor
        · exact fun h => .inr ⟨rfl, h⟩
        · rintro (h | h)
          · omega
          · exact h.2
      · rw [if_neg d]
        exact ⟨.inl, fun h => h.elim id fun h => absurd h.1 d⟩
    · rw [if_neg k]
      refine ⟨.inl, fun h => h.elim id fun ⟨d, hc⟩ => ?_⟩
      subst d
      rw [e, RO_some]
      omega

/-- a row of facts offered at a price -/
def offer (l : List (Option Nat)) (fs : List Nat) (c : Nat) : List (Option Nat) := fs.foldl (fun l f => offer1 l f c) l
theorem offer_length : ∀ (fs : List Nat) (l : List (Option Nat)) (c : Nat), (offer l fs c).length = l.length
  | [], _, _ => rfl
  | f :: fs, l, c => by
    show (offer (offer1 l f c) fs c).length = _
    rw [offer_length fs, offer1_length]
theorem RO_offer : ∀ (fs : List Nat) (l : List (Option Nat)) (c : Nat), (∀ f, f ∈ fs → f < l.length) → ∀ g m, RO (val (offer l fs c) g) m ↔ RO (val l g) m ∨ (g ∈ fs ∧ c ≤ m)
  | [], l, c, _, g, m => ⟨.inl, fun h => h.elim id fun h => by cases h.1⟩
  | f :: fs, l, c, h, g, m => by
    show RO (val (offer (offer1 l f c) fs c) g) m ↔ _
    rw [RO_offer fs (offer1 l f c) c (fun f' hf' => by rw [offer1_length]; exact h f' (List.mem_cons_of_mem _ hf')), RO_offer1 (h f List.mem_cons_self)]
    constructor
    · rintro ((h1 | ⟨e, h2⟩) | ⟨h1, h2⟩)
      · exact .inl h1
      · subst e; exact .inr ⟨List.mem_cons_self, h2⟩
      · exact .inr ⟨List.mem_cons_of_mem _ h1, h2⟩
    · rintro (h1 | ⟨h1, h2⟩)
      · exact .inl (.inl h1)
      · rcases List.mem_cons.1 h1 with e | h1
        · subst e; exact .inl (.inr ⟨rfl, h2⟩)
        · exact .inr ⟨h1, h2⟩

section
variable (sum : Bool) (t : Pn.Task) (c : List Nat) (s : Nat)

/-- one act, at its price -/
def act1 (n : Nat) (l : List (Option Nat)) (a : Pn.Act) (c : Nat) : List (Option Nat) := match joinF sum (val l) (facts n a.pre) with
  | none => l
  | some p => offer l (facts n a.add) (p + c)
theorem act1_length (n : Nat) (l : List (Option Nat)) (a : Pn.Act) (c : Nat) : (act1 sum n l a c).length = l.length := by
  unfold act1
  split
  · rfl
  · exact offer_length _ _ _
theorem RO_act1 {n : Nat} {l : List (Option Nat)} (h : l.length = n) (a : Pn.Act) (c g m : Nat) : RO (val (act1 sum n l a c) g) m ↔ RO (val l g) m ∨ (g ∈ facts n a.add ∧ RO ((joinF sum (val l) (facts n a.pre)).map fun p => p + c) m) := by
  unfold act1
  cases e : joinF sum (val l) (facts n a.pre) with
  | none =>
    show RO (val l g) m ↔ _
    exact ⟨.inl, fun h => h.elim id fun h => absurd h.2 RO_none⟩
  | some p =>
    show RO (val (offer l (facts n a.add) (p + c)) g) m ↔ _
    rw [RO_offer _ _ _ (fun f hf => by rw [h]; exact (mem_facts.1 hf).1)]
    show _ ↔ _ ∨ (_ ∧ RO (some (p + c)) m)
    rw [RO_some]

/-- the acts one behind another -/
def turn (n : Nat) (l : List (Option Nat)) : List (Pn.Act × Nat) → List (Option Nat)
  | [] => l
  | (a, c) :: r => turn n (act1 sum n l a c) r
theorem turn_length (n : Nat) : ∀ (r : List (Pn.Act × Nat)) (l : List (Option Nat)), (turn sum n l r).length = l.length
  | [], _ => rfl
  | (a, c) :: r, l => by
    show (turn sum n (act1 sum n l a c) r).length = _
    rw [turn_length n r, act1_length]
theorem turn_append (n : Nat) : ∀ (r q : List (Pn.Act × Nat)) (l : List (Option Nat)), turn sum n l (r ++ q) = turn sum n (turn sum n l r) q
  | [], _, _ => rfl
  | (a, c) :: r, q, l => turn_append n r q (act1 sum n l a c)
theorem turn_desc (n : Nat) : ∀ (r : List (Pn.Act × Nat)) (l : List (Option Nat)), l.length = n → ∀ g, LeO (val (turn sum n l r) g) (val l g)
  | [], _, _, _ => LeO.refl _
  | (a, c) :: r, l, h, g => (turn_desc n r (act1 sum n l a c) (by rw [act1_length, h]) g).trans fun m hm => (RO_act1 sum h a c g m).2 (.inl hm)
/-- what's offered by some act of the row is taken -/
theorem turn_took (n : Nat) : ∀ (r : List (Pn.Act × Nat)) (l : List (Option Nat)) (u : Nat → Option Nat), l.length = n → (∀ g, g < n → LeO (val l g) (u g)) →
    ∀ a c, (a, c) ∈ r → ∀ g, g ∈ facts n a.add → ∀ m, RO ((joinF sum u (facts n a.pre)).map fun p => p + c) m → RO (val (turn sum n l r) g) m
  | [], _, _, _, _, a, c, h, _, _, _, _ => by cases h
  | (b, d) :: r, l, u, hl, hu, a, c, h, g, hg, m, hm => by
    show RO (val (turn sum n (act1 sum n l b d) r) g) m
    rcases List.mem_cons.1 h with e | h
    · cases e
      refine turn_desc sum n r _ (by rw [act1_length, hl]) g m ((RO_act1 sum hl b d g m).2 (.inr ⟨hg, ?_⟩))
      rw [RO_map_add] at hm ⊢
      obtain ⟨p, e, hp⟩ := hm
      obtain ⟨q, e2, hq⟩ := joinF_mono (sum := sum) (u := val l) (w := u) (l := facts n b.pre) (fun f hf => hu f (mem_facts.1 hf).1) p (by rw [e]; exact RO_some.2 (Nat.le_refl p))
      exact ⟨q, e2, by omega⟩
    · refine turn_took n r (act1 sum n l b d) u (by rw [act1_length, hl]) (fun f hf => ?_) a c h g hg m hm
      exact LeO.trans (fun m hm => (RO_act1 sum hl b d f m).2 (.inl hm)) (hu f hf)

/-- acts with their prices -/
def priced : List (Pn.Act × Nat) := t.acts.zip c

theorem priced_get (hc : t.acts.length ≤ c.length) {k : Nat} (h : k < t.acts.length) : (t.acts[k], c.getD k 0) ∈ priced t c := by
  unfold priced
  have hk : k < c.length := by omega
  have : (t.acts.zip c)[k]? = some (t.acts[k], c.getD k 0) := by
    rw [List.getElem?_zip_eq_some]
    refine ⟨List.getElem?_eq_getElem h, ?_⟩
    rw [List.getD_eq_getElem?_getD, List.getElem?_eq_getElem hk]
    rfl
  exact List.mem_of_getElem? this
theorem priced_mem {a : Pn.Act} {x : Nat} (h : (a, x) ∈ priced t c) : ∃ k, ∃ hk : k < t.acts.length, t.acts[k] = a ∧ c.getD k 0 = x := by
  unfold priced at h
  obtain ⟨k, hk⟩ := List.getElem?_of_mem h
  rw [List.getElem?_zip_eq_some] at hk
  obtain ⟨h1, h2⟩ := hk
  obtain ⟨h3, h4⟩ := List.getElem?_eq_some_iff.1 h1
  refine ⟨k, h3, h4, ?_⟩
  rw [List.getD_eq_getElem?_getD, h2]
  rfl

/-- over a row that is empty the one that's always so is worth nothing -/
theorem join_needs {u : Nat → Option Nat} {n m : Nat} (h : u n = some 0) : joinF sum u (needs n m) = joinF sum u (facts n m) := by
  unfold needs
  split
  · rename_i e
    rw [e]
    show op sum (some 0) (u n) = some 0
    rw [h]
    cases sum <;> rfl
  · rfl
theorem stepAt_pre {k : Nat} (h : k < t.acts.length) : (stepAt (steps t) k).pre = needs t.facts (t.acts[k]).pre := by
  rw [stepAt_act t k h]
  rfl
theorem stepAt_add {k : Nat} (h : k < t.acts.length) : (stepAt (steps t) k).add = facts t.facts (t.acts[k]).add := by
  rw [stepAt_act t k h]
  rfl
theorem W_always : W sum t c s t.facts = some 0 := by
  rw [W_nth sum t c s t.facts t.facts (by omega) (Nat.le_refl _)]
  exact always sum t c s t.facts (.inl rfl) _

/-- no act brings a fact for less than it's worth -/
theorem W_act {a : Pn.Act} {x : Nat} (h : (a, x) ∈ priced t c) {f m : Nat} (hf : f ∈ facts t.facts a.add) (hm : RO ((joinF sum (W sum t c s) (facts t.facts a.pre)).map fun p => p + x) m) : RO (W sum t c s f) m := by
  obtain ⟨k, hk, rfl, rfl⟩ := priced_mem t c h
  refine W_under sum t c s f m k ⟨by rw [steps_length]; omega, by rw [stepAt_add t hk]; simpa using hf, by have := (mem_facts.1 hf).1; show f < t.facts + 1; omega⟩ ?_
  show RO ((joinF sum (W sum t c s) (stepAt (steps t) k).pre).map fun p => p + c.getD k 0) m
  rw [stepAt_pre t hk, join_needs sum (W_always sum t c s)]
  exact hm

/-- a round, fact by fact -/
theorem nth_act (hc : t.acts.length ≤ c.length) {i f m : Nat} (hf : f < t.facts) (h : RO (val (nth sum t c s (i + 1)) f) m) :
    RO (val (nth sum t c s i) f) m ∨ ∃ a x, (a, x) ∈ priced t c ∧ f ∈ facts t.facts a.add ∧ RO ((joinF sum (val (nth sum t c s i)) (facts t.facts a.pre)).map fun p => p + x) m := by
  have e : nth sum t c s (i + 1) = round sum (steps t) c (nth sum t c s i) := iter_succ _ _ _
  rw [e, RO_round (by unfold nth; rw [iter_length, first_length]; omega)] at h
  rcases h with h | ⟨k, hk, ha, h⟩
  · exact .inl h
  · rw [steps_length] at hk
    by_cases d : k < t.acts.length
    · refine .inr ⟨t.acts[k], c.getD k 0, priced_get t c hc d, by rw [stepAt_add t d] at ha; simpa using ha, ?_⟩
      rw [stepAt_pre t d, join_needs sum (always sum t c s t.facts (.inl rfl) i)] at h
      exact h
    · have : k = t.acts.length := by omega
      subst this
      rw [stepAt_goal] at ha
      have : f = t.facts + 1 := by simpa using ha
      omega

/-- at first -/
def from_ : List (Option Nat) := (List.range t.facts).map fun f => if Pn.bit s f = true then some 0 else none
def turns : Nat → List (Option Nat)
  | 0 => from_ t s
  | i + 1 => turn sum t.facts (turns i) (priced t c)
theorem turns_length : ∀ i, (turns sum t c s i).length = t.facts
  | 0 => by
    show (from_ t s).length = _
    unfold from_
    rw [List.length_map, List.length_range]
  | i + 1 => by
    show (turn sum t.facts (turns sum t c s i) (priced t c)).length = _
    rw [turn_length, turns_length i]
theorem from_val {f : Nat} (hf : f < t.facts) : val (from_ t s) f = val (first t s) f := by
  unfold from_
  rw [val_map_range _ _ _ hf, val_first t s f (by omega)]
  by_cases b : Pn.bit s f = true
  · rw [if_pos b, if_pos (.inr ⟨hf, b⟩)]
  · rw [if_neg b, if_neg (fun h => h.elim (fun e => by omega) fun h => b h.2)]

theorem turns_upper (hc : t.acts.length ≤ c.length) : ∀ i f, f < t.facts → LeO (val (turns sum t c s i) f) (val (nth sum t c s i) f)
  | 0, f, hf => by
    show LeO (val (from_ t s) f) (val (first t s) f)
    rw [from_val t s hf]
    exact LeO.refl _
  | i + 1, f, hf => fun m hm => by
    show RO (val (turn sum t.facts (turns sum t c s i) (priced t c)) f) m
    rcases nth_act sum t c s hc hf hm with h | ⟨a, x, hp, ha, h⟩
    · exact turn_desc sum t.facts _ _ (turns_length sum t c s i) f m (turns_upper hc i f hf m h)
    · exact turn_took sum t.facts _ _ _ (turns_length sum t c s i) (fun g hg => turns_upper hc i g hg) a x hp f ha m h

theorem turn_lower : ∀ (r : List (Pn.Act × Nat)) (l : List (Option Nat)), (∀ q, q ∈ r → q ∈ priced t c) → l.length = t.facts → (∀ f, f < t.facts → LeO (W sum t c s f) (val l f)) → ∀ f, f < t.facts → LeO (W sum t c s f) (val (turn sum t.facts l r) f)
  | [], _, _, _, h, f, hf => h f hf
  | (a, x) :: r, l, hr, hl, h, f, hf => by
    refine turn_lower r (act1 sum t.facts l a x) (fun q hq => hr q (List.mem_cons_of_mem _ hq)) (by rw [act1_length, hl]) (fun g hg m hm => ?_) f hf
    rcases (RO_act1 sum hl a x g m).1 hm with hm | ⟨hga, hm⟩
    · exact h g hg m hm
    · refine W_act sum t c s (hr _ List.mem_cons_self) hga ?_
      rw [RO_map_add] at hm ⊢
      obtain ⟨p, e, hp⟩ := hm
      obtain ⟨q, e2, hq⟩ := joinF_mono (sum := sum) (u := W sum t c s) (w := val l) (l := facts t.facts a.pre) (fun f hf => h f (mem_facts.1 hf).1) p (by rw [e]; exact RO_some.2 (Nat.le_refl p))
      exact ⟨q, e2, by omega⟩
theorem turns_lower : ∀ i f, f < t.facts → LeO (W sum t c s f) (val (turns sum t c s i) f)
  | 0, f, hf => by
    show LeO _ (val (from_ t s) f)
    rw [from_val t s hf]
    exact W_first sum t c s f (by omega)
  | i + 1, f, hf => turn_lower sum t c s (priced t c) (turns sum t c s i) (fun _ h => h) (turns_length sum t c s i) (turns_lower i) f hf

/-- **as many turns as there are facts: what each fact is worth** -/
theorem turns_W (hc : t.acts.length ≤ c.length) (i : Nat) (hi : t.facts ≤ i) : turns sum t c s i = (List.range t.facts).map (W sum t c s) := by
  refine ext_val (by rw [turns_length, List.length_map, List.length_range]) fun f hf => ?_
  rw [turns_length] at hf
  rw [val_map_range _ _ _ hf]
  refine LeO.antisymm ?_ (turns_lower sum t c s i f hf)
  rw [W_nth sum t c s f i (by omega) hi]
  exact turns_upper sum t c s hc i f hf

/-- a turn that changes nothing: it is had already -/
theorem turn_fix (l : List (Option Nat)) (hc : t.acts.length ≤ c.length) (hl : l.length = t.facts) (h0 : ∀ f, f < t.facts → LeO (val l f) (val (first t s) f)) (hW : ∀ f, f < t.facts → LeO (W sum t c s f) (val l f)) (hfix : turn sum t.facts l (priced t c) = l) : l = (List.range t.facts).map (W sum t c s) := by
  refine ext_val (by rw [hl, List.length_map, List.length_range]) fun f hf => ?_
  rw [hl] at hf
  rw [val_map_range _ _ _ hf]
  refine LeO.antisymm ?_ (hW f hf)
  let u : Nat → Option Nat := fun f => if f < t.facts then val l f else if f = t.facts then some 0 else none
  have uI : ∀ f, f < t.facts → u f = val l f := fun f h => if_pos h
  have uA : u t.facts = some 0 := by show (if t.facts < t.facts then _ else if t.facts = t.facts then some 0 else none) = some 0; rw [if_neg (Nat.lt_irrefl _), if_pos rfl]
  have h1 := W_greatest sum t c s u (fun f m k hk hv => by
    obtain ⟨hk1, hk2, hk3⟩ := hk
    rw [steps_length] at hk1
    have hv' : RO ((joinF sum u (stepAt (steps t) k).pre).map fun p => p + c.getD k 0) m := hv
    by_cases d : k < t.acts.length
    · rw [stepAt_pre t d, join_needs sum uA] at hv'
      have hfa : f ∈ facts t.facts (t.acts[k]).add := by rw [stepAt_add t d] at hk2; simpa using hk2
      have hfn := (mem_facts.1 hfa).1
      rw [uI f hfn]
      have := turn_took sum t.facts (priced t c) l u hl (fun g hg => by rw [uI g hg]; exact LeO.refl _) _ _ (priced_get t c hc d) f hfa m hv'
      rwa [hfix] at this
    · have e : k = t.acts.length := by omega
      subst e
      rw [stepAt_goal] at hk2
      have : f = t.facts + 1 := by simpa using hk2
      have hk3' : f < t.facts + 1 := hk3
      omega) (fun f hf' => by
    by_cases d : f < t.facts
    · rw [uI f d]; exact h0 f d
    · have e : f = t.facts := by omega
      subst e
      rw [uA]
      intro m _
      exact RO_some.2 (Nat.zero_le _)) f (by omega)
  rw [uI f hf] at h1
  exact h1
end

end ThGS

/-! What is answered to each call that hands over a state, in the words of the other texts. -/
namespace ThCalls
open ThFix

theorem good_of (t : Pn.Task) (h : ∀ a, a ∈ t.acts → a.add < 2 ^ t.facts ∧ 1 ≤ a.cost) : ThCost.Good t := h
theorem good_kept (t : Pn.Task) (h : ThCost.Good t) : ThCost.Good (Pn03.kept t) := by
  intro a ha
  obtain ⟨b, hb, e⟩ := List.mem_map.1 (show a ∈ t.acts.map (fun a => { a with del := 0 }) from ha)
  subst e
  exact h b hb

theorem kept_act (t : Pn.Task) (k : Nat) : (Pn03.kept t).act k = { t.act k with del := 0 } := by
  show (t.acts.map (fun a => { a with del := 0 })).getD k ⟨0, 0, 0, 0, 1⟩ = _
  unfold Pn.Task.act
  rw [List.getD_eq_getElem?_getD, List.getD_eq_getElem?_getD, List.getElem?_map]
  cases t.acts[k]? <;> rfl
theorem kept_cost (t : Pn.Task) (k : Nat) : ((Pn03.kept t).act k).cost = (t.act k).cost := by rw [kept_act]
theorem kept_price (t : Pn.Task) (l : List Nat) : (Pn03.kept t).price l = t.price l := by
  unfold Pn.Task.price
  congr 1
  exact List.map_congr_left fun k _ => kept_cost t k
theorem kept_length (t : Pn.Task) : (Pn03.kept t).acts.length = t.acts.length := List.length_map _

/-- values, fact by fact -/
theorem values_take (t : Pn.Task) (s : Nat) : (Pn03.values false t (Pn03.prices t) s).take t.facts = (List.range t.facts).map (ThVal.W false t (Pn03.prices t) s) := by
  have hl : (Pn03.values false t (Pn03.prices t) s).length = t.facts + 2 := by
    rw [ThVal.values_nth]
    unfold ThVal.nth
    rw [ThVal.iter_length, ThVal.first_length]
  refine ThGS.ext_val (by rw [List.length_take, hl, List.length_map, List.length_range]; omega) fun f hf => ?_
  rw [List.length_take, hl] at hf
  have hf' : f < t.facts := by omega
  rw [ThVal.val_map_range _ _ _ hf']
  show ((Pn03.values false t (Pn03.prices t) s).take t.facts).getD f none = (Pn03.values false t (Pn03.prices t) s).getD f none
  rw [List.getD_eq_getElem?_getD, List.getD_eq_getElem?_getD, List.getElem?_take, if_pos hf']

def numbers (x : Int) (l : List Nat) : List Int := x :: l.map fun (n : Nat) => (n : Int)
def toldL (x : Option Nat) : List Int := match x with
  | some n => [(n : Int)]
  | none => [-6]
def valuesL (n : Nat) (W : Nat → Option Nat) : List Int := numbers n (((List.range n).map W).flatMap fun x => match x with
  | some n => [1, n]
  | none => [0])
def cutsL (l : List (Nat × List Nat)) : List Int := numbers (Pn03.worth l : Nat) (l.length :: l.flatMap fun x => x.1 :: x.2.length :: x.2)

section
variable (t : Pn.Task) (st : Nat)
theorem bad {q : Int} (h3 : 3 ≤ q) (h8 : q ≤ 8) (h : 2 ^ t.facts ≤ st) : Pn03Neutral.step ⟨t⟩ [[q, (st : Int)]] = (⟨t⟩, [-1]) := by
  have h37 : q = 3 ∨ q = 4 ∨ q = 5 ∨ q = 6 ∨ q = 7 ∨ q = 8 := by omega
  have e : ∀ c : Pn03.Call, Pn03.step ⟨t⟩ c = (⟨t⟩, Pn03.ok (-1)) → ((Pn03.step ⟨t⟩ c).1, Pn03Neutral.out (Pn03.step ⟨t⟩ c).2) = ((⟨t⟩ : Pn03.House), ([-1] : List Int)) := fun c e => by rw [e]; rfl
  rcases h37 with rfl | rfl | rfl | rfl | rfl | rfl
  · exact e (.dearest st) (if_pos h)
  · exact e (.together st) (if_pos h)
  · exact e (.kept st) (if_pos h)
  · exact e (.cuts st) (if_pos h)
  · exact e (.real st) (if_pos h)
  · exact e (.values st) (if_pos h)
variable (h : st < 2 ^ t.facts)
theorem out_told (x : Option Nat) : Pn03Neutral.out (Pn03.told x) = toldL x := by cases x <;> rfl
include h in
theorem dearest : Pn03Neutral.step ⟨t⟩ [[3, (st : Int)]] = (⟨t⟩, toldL (ThVal.W false t (Pn03.prices t) st (t.facts + 1))) := by
  have e : Pn03.step ⟨t⟩ (.dearest st) = (⟨t⟩, Pn03.told (Pn03.dearest t st)) := if_neg (by show ¬ 2 ^ t.facts ≤ st; omega)
  show ((Pn03.step ⟨t⟩ (.dearest st)).1, Pn03Neutral.out (Pn03.step ⟨t⟩ (.dearest st)).2) = _
  rw [e]
  show (_, Pn03Neutral.out (Pn03.told (Pn03.dearest t st))) = _
  rw [out_told]
  rfl
include h in
theorem together : Pn03Neutral.step ⟨t⟩ [[4, (st : Int)]] = (⟨t⟩, toldL (ThVal.W true t (Pn03.prices t) st (t.facts + 1))) := by
  have e : Pn03.step ⟨t⟩ (.together st) = (⟨t⟩, Pn03.told (Pn03.together t st)) := if_neg (by show ¬ 2 ^ t.facts ≤ st; omega)
  show ((Pn03.step ⟨t⟩ (.together st)).1, Pn03Neutral.out (Pn03.step ⟨t⟩ (.together st)).2) = _
  rw [e]
  show (_, Pn03Neutral.out (Pn03.told (Pn03.together t st))) = _
  rw [out_told]
  rfl
include h in
theorem real : Pn03Neutral.step ⟨t⟩ [[7, (st : Int)]] = (⟨t⟩, toldL (ThCost.D t st)) := by
  have e : Pn03.step ⟨t⟩ (.real st) = (⟨t⟩, Pn03.told (ThCost.D t st)) := if_neg (by show ¬ 2 ^ t.facts ≤ st; omega)
  show ((Pn03.step ⟨t⟩ (.real st)).1, Pn03Neutral.out (Pn03.step ⟨t⟩ (.real st)).2) = _
  rw [e]
  show (_, Pn03Neutral.out (Pn03.told (ThCost.D t st))) = _
  rw [out_told]
include h in
/-- kept: the cost as if nothing were taken away, the first of the cheapest plans -/
theorem kept (hg : ThCost.Good t) : match ThCost.D (Pn03.kept t) st with
    | none => Pn03Neutral.step ⟨t⟩ [[5, (st : Int)]] = (⟨t⟩, [-6])
    | some c => ∃ l, ThCost.First (Pn03.kept t) st l ∧ Pn03Neutral.step ⟨t⟩ [[5, (st : Int)]] = (⟨t⟩, numbers c l) := by
  have e : Pn03.step ⟨t⟩ (.kept st) = (⟨t⟩, match (Pn03.kept t).first st with
    | none => Pn03.ok (-6)
    | some l => ⟨(t.price l : Nat), l⟩) := if_neg (by show ¬ 2 ^ t.facts ≤ st; omega)
  have f := ThCost.first_spec (Pn03.kept t) (good_kept t hg) st h
  have es : Pn03Neutral.step ⟨t⟩ [[5, (st : Int)]] = ((Pn03.step ⟨t⟩ (.kept st)).1, Pn03Neutral.out (Pn03.step ⟨t⟩ (.kept st)).2) := rfl
  cases ed : ThCost.D (Pn03.kept t) st with
  | none =>
    rw [ed] at f
    have f' : (Pn03.kept t).first st = none := f
    rw [f'] at e
    show Pn03Neutral.step ⟨t⟩ [[5, (st : Int)]] = (⟨t⟩, [-6])
    rw [es, e]
    rfl
  | some c =>
    rw [ed] at f
    obtain ⟨l, f1, f2, f3⟩ := (show ∃ l, (Pn03.kept t).first st = some l ∧ ThCost.First (Pn03.kept t) st l ∧ (Pn03.kept t).price l = c from f)
    rw [f1] at e
    refine ⟨l, f2, ?_⟩
    rw [es, e]
    rw [kept_price] at f3
    subst f3
    rfl
include h in
theorem cuts : match ThVal.W false t (Pn03.prices t) st (t.facts + 1) with
    | none => Pn03Neutral.step ⟨t⟩ [[6, (st : Int)]] = (⟨t⟩, [-6])
    | some _ => ∃ r, ThCut.Cuts t st (Pn03.prices t) r ∧ Pn03Neutral.step ⟨t⟩ [[6, (st : Int)]] = (⟨t⟩, cutsL r) := by
  have e : Pn03.step ⟨t⟩ (.cuts st) = (⟨t⟩, match Pn03.cutsOf t st with
    | none => Pn03.ok (-6)
    | some l => ⟨(Pn03.worth l : Nat), l.length :: l.flatMap fun x => x.1 :: x.2.length :: x.2⟩) := if_neg (by show ¬ 2 ^ t.facts ≤ st; omega)
  have f := ThCut.cutsOf_spec t st
  have es : Pn03Neutral.step ⟨t⟩ [[6, (st : Int)]] = ((Pn03.step ⟨t⟩ (.cuts st)).1, Pn03Neutral.out (Pn03.step ⟨t⟩ (.cuts st)).2) := rfl
  cases ed : ThVal.W false t (Pn03.prices t) st (t.facts + 1) with
  | none =>
    rw [ed] at f
    have f' : Pn03.cutsOf t st = none := f
    rw [f'] at e
    show Pn03Neutral.step ⟨t⟩ [[6, (st : Int)]] = (⟨t⟩, [-6])
    rw [es, e]
    rfl
  | some c =>
    rw [ed] at f
    obtain ⟨r, f1, f2⟩ := (show ∃ r, Pn03.cutsOf t st = some r ∧ ThCut.Cuts t st (Pn03.prices t) r from f)
    rw [f1] at e
    refine ⟨r, f2, ?_⟩
    rw [es, e]
    rfl
include h in
theorem values : Pn03Neutral.step ⟨t⟩ [[8, (st : Int)]] = (⟨t⟩, valuesL t.facts (ThVal.W false t (Pn03.prices t) st)) := by
  have e : Pn03.step ⟨t⟩ (.values st) = (⟨t⟩, ⟨(t.facts : Nat), ((Pn03.values false t (Pn03.prices t) st).take t.facts).flatMap fun x => match x with
    | some n => [1, n]
    | none => [0]⟩) := if_neg (by show ¬ 2 ^ t.facts ≤ st; omega)
  have es : Pn03Neutral.step ⟨t⟩ [[8, (st : Int)]] = ((Pn03.step ⟨t⟩ (.values st)).1, Pn03Neutral.out (Pn03.step ⟨t⟩ (.values st)).2) := rfl
  rw [es, e, values_take]
  rfl
end

/-! ## acts one behind another, from a state to a state -/
def Goes (t : Pn.Task) : Nat → List Nat → Nat → Prop
  | s, [], u => s = u
  | s, k :: l, u => t.can s k = true ∧ Goes t ((t.act k).then_ s) l u
theorem ok_goes (t : Pn.Task) : ∀ l s, ThCost.Ok t s l ↔ ∃ u, Goes t s l u ∧ t.done u = true
  | [], s => ⟨fun h => ⟨s, rfl, h⟩, fun ⟨u, e, h⟩ => by cases e; exact h⟩
  | k :: l, s => by
    constructor
    · rintro ⟨h1, h2⟩
      obtain ⟨u, h3, h4⟩ := (ok_goes t l _).1 h2
      exact ⟨u, ⟨h1, h3⟩, h4⟩
    · rintro ⟨u, ⟨h1, h2⟩, h3⟩
      exact ⟨h1, (ok_goes t l _).2 ⟨u, h2, h3⟩⟩
theorem goes_snoc (t : Pn.Task) : ∀ l s u k, Goes t s l u → t.can u k = true → Goes t s (l ++ [k]) ((t.act k).then_ u)
  | [], s, u, k, h, hk => by cases h; exact ⟨hk, rfl⟩
  | j :: l, s, u, k, h, hk => ⟨h.1, goes_snoc t l _ u k h.2 hk⟩
theorem price_append (t : Pn.Task) : ∀ l m, t.price (l ++ m) = t.price l + t.price m
  | [], m => by rw [ThCost.price_nil, List.nil_append, Nat.zero_add]
  | k :: l, m => by
    rw [List.cons_append, ThCost.price_cons, ThCost.price_cons, price_append t l m, Nat.add_assoc]
theorem goes_lt (t : Pn.Task) (h : ThCost.Good t) : ∀ l s u, s < 2 ^ t.facts → Goes t s l u → u < 2 ^ t.facts
  | [], s, u, hs, e => by cases e; exact hs
  | k :: l, s, u, hs, ⟨h1, h2⟩ => goes_lt t h l _ u (ThCost.then_lt (h _ (ThCost.act_mem h1).1).1 hs) h2
end ThCalls

/-! The same over the facts, the one that's always so and the end: what cuts reckons with. -/
namespace ThExt
open ThFix ThVal ThGS Pn03

theorem bit_above {m n f : Nat} (h : m < 2 ^ n) (hf : n ≤ f) : Pn.bit m f = false := by
  unfold Pn.bit
  rw [Nat.div_eq_of_lt (Nat.lt_of_lt_of_le h (Nat.pow_le_pow_right (by decide) hf))]
  rfl
theorem facts_grow {m n : Nat} : ∀ d, m < 2 ^ n → facts (n + d) m = facts n m
  | 0, _ => rfl
  | d + 1, h => by
    show (List.range (n + d + 1)).filter (Pn.bit m) = _
    rw [List.range_succ, List.filter_append]
    have : List.filter (Pn.bit m) [n + d] = [] := by simp [bit_above h (show n ≤ n + d by omega)]
    rw [this, List.append_nil]
    exact facts_grow d h
theorem bit_eq (m f : Nat) : Pn.bit m f = m.testBit f := by
  unfold Pn.bit
  rw [Nat.testBit_eq_decide_div_mod_eq]
  rfl
theorem facts_pow {j N : Nat} (h : j < N) : facts N (2 ^ j) = [j] := by
  have e0 : facts j (2 ^ j) = [] := by
    unfold facts
    refine List.filter_eq_nil_iff.2 fun f hf => ?_
    rw [bit_eq, Nat.testBit_two_pow]
    have := List.mem_range.1 hf
    simp; omega
  have e1 : facts (j + 1) (2 ^ j) = [j] := by
    show (List.range (j + 1)).filter (Pn.bit (2 ^ j)) = _
    rw [List.range_succ, List.filter_append]
    have : List.filter (Pn.bit (2 ^ j)) [j] = [j] := by simp [bit_eq]
    rw [this]
    show facts j (2 ^ j) ++ [j] = [j]
    rw [e0]; rfl
  have e2 := facts_grow (n := j + 1) (m := 2 ^ j) (N - (j + 1)) (Nat.pow_lt_pow_right (by decide) (by omega))
  rw [Nat.add_sub_cancel' (by omega : j + 1 ≤ N)] at e2
  rw [e2, e1]
theorem facts_nil {n m : Nat} (h : m < 2 ^ n) : facts n m = [] ↔ m = 0 := by
  constructor
  · intro e
    refine Nat.eq_of_testBit_eq fun i => ?_
    rw [Nat.zero_testBit]
    by_cases c : i < n
    · have : ¬ i ∈ facts n m := by rw [e]; exact List.not_mem_nil
      rw [mem_facts] at this
      rw [← bit_eq]
      cases hb : Pn.bit m i with
      | false => rfl
      | true => exact absurd ⟨c, hb⟩ this
    · rw [← bit_eq]; exact bit_above h (by omega)
  · intro e
    subst e
    unfold facts
    refine List.filter_eq_nil_iff.2 fun f _ => ?_
    rw [bit_eq, Nat.zero_testBit]; decide

/-! ## in place, over any acts -/
def gfrom (N st : Nat) : List (Option Nat) := (List.range N).map fun f => if Pn.bit st f = true then some 0 else none
def withCost (as : List Pn.Act) : List (Pn.Act × Nat) := as.map fun a => (a, a.cost)
def gturns (sum : Bool) (N : Nat) (as : List Pn.Act) (st : Nat) : Nat → List (Option Nat)
  | 0 => gfrom N st
  | i + 1 => turn sum N (gturns sum N as st i) (withCost as)
theorem gturns_length (sum : Bool) (N : Nat) (as : List Pn.Act) (st : Nat) : ∀ i, (gturns sum N as st i).length = N
  | 0 => by
    show ((List.range N).map _).length = N
    rw [List.length_map, List.length_range]
  | i + 1 => by
    show (turn sum N (gturns sum N as st i) (withCost as)).length = N
    rw [turn_length, gturns_length sum N as st i]
theorem priced_cost (t : Pn.Task) : priced t (prices t) = withCost t.acts := by
  unfold priced prices withCost
  generalize t.acts = l
  induction l with
  | nil => rfl
  | cons a l ih =>
    show (a, a.cost) :: (l.zip (l.map (fun a => a.cost) ++ [0])) = _
    rw [ih]
    rfl
theorem gturns_task (sum : Bool) (t : Pn.Task) (s : Nat) : ∀ i, gturns sum t.facts t.acts s i = turns sum t (prices t) s i
  | 0 => rfl
  | i + 1 => by
    show turn sum t.facts (gturns sum t.facts t.acts s i) (withCost t.acts) = turn sum t.facts (turns sum t (prices t) s i) (priced t (prices t))
    rw [gturns_task sum t s i, priced_cost]
theorem gturns_W (sum : Bool) (t : Pn.Task) (s : Nat) : gturns sum t.facts t.acts s t.facts = (List.range t.facts).map (W sum t (prices t) s) := by
  rw [gturns_task]
  exact turns_W sum t (prices t) s (by unfold prices; rw [List.length_append, List.length_map]; omega) t.facts (Nat.le_refl _)

/-! ## with the two more facts -/
def xact (t : Pn.Task) (a : Pn.Act) (c : Nat) : Pn.Act := ⟨if a.pre = 0 then 2 ^ t.facts else a.pre, 0, a.add, 0, c⟩
def xgoal (t : Pn.Task) (c : Nat) : Pn.Act := ⟨t.goal, 0, 2 ^ (t.facts + 1), 0, c⟩
def xat (t : Pn.Task) (c : List Nat) (k : Nat) : Pn.Act := if k < t.acts.length then xact t (t.act k) (c.getD k 0) else xgoal t (c.getD k 0)
def xacts (t : Pn.Task) (c : List Nat) : List Pn.Act := (List.range (t.acts.length + 1)).map (xat t c)
theorem xacts_length (t : Pn.Task) (c : List Nat) : (xacts t c).length = t.acts.length + 1 := by
  unfold xacts
  rw [List.length_map, List.length_range]
theorem xacts_get {t : Pn.Task} {c : List Nat} {k : Nat} (h : k < t.acts.length + 1) : (xacts t c)[k]? = some (xat t c k) := by
  unfold xacts
  rw [List.getElem?_map, List.getElem?_range h]
  rfl
theorem xacts_mem {t : Pn.Task} {c : List Nat} {a : Pn.Act} (h : a ∈ xacts t c) : ∃ k, k < t.acts.length + 1 ∧ a = xat t c k := by
  unfold xacts at h
  obtain ⟨k, hk, e⟩ := List.mem_map.1 h
  exact ⟨k, List.mem_range.1 hk, e.symm⟩
theorem xat_cost (t : Pn.Task) (c : List Nat) (k : Nat) : (xat t c k).cost = c.getD k 0 := by
  unfold xat
  split <;> rfl
/-- the facts of acts and of what's wanted are among the facts -/
structure In (t : Pn.Task) : Prop where
  pre : ∀ a, a ∈ t.acts → a.pre < 2 ^ t.facts
  add : ∀ a, a ∈ t.acts → a.add < 2 ^ t.facts
  goal : t.goal < 2 ^ t.facts
section
variable {t : Pn.Task} (hi : In t) (c : List Nat)
theorem act_get {k : Nat} (h : k < t.acts.length) : t.act k = t.acts[k] := by
  unfold Pn.Task.act
  rw [List.getD_eq_getElem?_getD, List.getElem?_eq_getElem h]
  rfl
theorem act_in {k : Nat} (h : k < t.acts.length) : t.act k ∈ t.acts := by
  rw [act_get h]
  exact List.getElem_mem h
include hi
theorem xat_add {k : Nat} (h : k < t.acts.length + 1) : facts (t.facts + 2) (xat t c k).add = (stepAt (steps t) k).add := by
  unfold xat
  by_cases d : k < t.acts.length
  · rw [if_pos d, stepAt_act t k d, ← act_get d]
    exact facts_grow (m := (t.act k).add) 2 (hi.add (t.act k) (act_in d))
  · have e : k = t.acts.length := by omega
    subst e
    rw [if_neg d, stepAt_goal]
    exact facts_pow (by omega)
theorem xat_pre {k : Nat} (h : k < t.acts.length) : facts (t.facts + 2) (xat t c k).pre = (stepAt (steps t) k).pre := by
  unfold xat
  rw [if_pos h, stepAt_act t k h, ← act_get h]
  show facts (t.facts + 2) (if (t.act k).pre = 0 then 2 ^ t.facts else (t.act k).pre) = (if facts t.facts (t.act k).pre = [] then [t.facts] else facts t.facts (t.act k).pre)
  have hp := hi.pre _ (act_in h)
  by_cases d : (t.act k).pre = 0
  · rw [if_pos d, if_pos ((facts_nil hp).2 d)]
    exact facts_pow (by omega)
  · rw [if_neg d, if_neg (fun e => d ((facts_nil hp).1 e))]
    exact facts_grow 2 hp
theorem xat_pre_goal : facts (t.facts + 2) (xat t c t.acts.length).pre = facts t.facts t.goal := by
  unfold xat
  rw [if_neg (Nat.lt_irrefl _)]
  exact facts_grow 2 hi.goal
theorem xat_join {u : Nat → Option Nat} (h0 : u t.facts = some 0) {k : Nat} (h : k < t.acts.length + 1) : joinF false u (facts (t.facts + 2) (xat t c k).pre) = joinF false u (stepAt (steps t) k).pre := by
  by_cases d : k < t.acts.length
  · rw [xat_pre hi c d]
  · have e : k = t.acts.length := by omega
    subst e
    rw [xat_pre_goal hi c, stepAt_goal]
    exact (join_needs false (n := t.facts) (m := t.goal) h0).symm
theorem xat_lt {k : Nat} : (xat t c k).pre < 2 ^ (t.facts + 2) ∧ (xat t c k).add < 2 ^ (t.facts + 2) := by
  have p1 : 2 ^ t.facts < 2 ^ (t.facts + 2) := Nat.pow_lt_pow_right (by decide) (by omega)
  have p2 : 2 ^ (t.facts + 1) < 2 ^ (t.facts + 2) := Nat.pow_lt_pow_right (by decide) (by omega)
  unfold xat
  split
  · rename_i d
    have h1 := hi.pre _ (act_in d)
    have h2 := hi.add _ (act_in d)
    refine ⟨?_, Nat.lt_trans h2 p1⟩
    show (if (t.act k).pre = 0 then 2 ^ t.facts else (t.act k).pre) < _
    split
    · exact p1
    · exact Nat.lt_trans h1 p1
  · exact ⟨Nat.lt_trans hi.goal p1, p2⟩
end
theorem bit_or_pow (s n f : Nat) : Pn.bit (s ||| 2 ^ n) f = (Pn.bit s f || decide (f = n)) := by
  rw [bit_eq, bit_eq, Nat.testBit_or, Nat.testBit_two_pow]
  congr 1
  exact decide_eq_decide.2 ⟨fun h => h.symm, fun h => h.symm⟩
theorem gfrom_first {t : Pn.Task} {s : Nat} (hs : s < 2 ^ t.facts) {f : Nat} (hf : f < t.facts + 2) : val (gfrom (t.facts + 2) (s ||| 2 ^ t.facts)) f = val (first t s) f := by
  unfold gfrom
  rw [val_map_range _ _ _ hf, val_first t s f hf, bit_or_pow]
  by_cases e : f = t.facts
  · subst e
    rw [if_pos (by simp), if_pos (.inl rfl)]
  · by_cases b : Pn.bit s f = true
    · have : f < t.facts := by
        apply Classical.byContradiction
        intro n
        rw [bit_above hs (by omega)] at b
        cases b
      rw [if_pos (by simp [b]), if_pos (.inr ⟨this, b⟩)]
    · rw [if_neg (by simp [b, e]), if_neg (fun h => h.elim e fun h => b h.2)]
section
variable {t : Pn.Task} (hi : In t) (c : List Nat) {s : Nat} (hs : s < 2 ^ t.facts)
include hi hs
theorem x_upper : ∀ i f, f < t.facts + 2 → LeO (val (gturns false (t.facts + 2) (xacts t c) (s ||| 2 ^ t.facts) i) f) (val (nth false t c s i) f)
  | 0, f, hf => by
    show LeO (val (gfrom (t.facts + 2) (s ||| 2 ^ t.facts)) f) (val (first t s) f)
    rw [gfrom_first hs hf]
    exact LeO.refl _
  | i + 1, f, hf => fun m hm => by
    show RO (val (turn false (t.facts + 2) (gturns false (t.facts + 2) (xacts t c) (s ||| 2 ^ t.facts) i) (withCost (xacts t c))) f) m
    have e : nth false t c s (i + 1) = round false (steps t) c (nth false t c s i) := iter_succ _ _ _
    rw [e, RO_round (by unfold nth; rw [iter_length, first_length]; omega)] at hm
    rcases hm with h | ⟨k, hk, ha, h⟩
    · exact turn_desc false (t.facts + 2) _ _ (gturns_length _ _ _ _ i) f m (x_upper i f hf m h)
    · rw [steps_length] at hk
      refine turn_took false (t.facts + 2) _ _ _ (gturns_length _ _ _ _ i) (fun g hg => x_upper i g hg) (xat t c k) (c.getD k 0) ?_ f ?_ m ?_
      · unfold withCost
        refine List.mem_map.2 ⟨xat t c k, List.mem_of_getElem? (xacts_get hk), ?_⟩
        rw [xat_cost]
      · rw [xat_add hi c hk]
        simpa using ha
      · rw [xat_join hi c (always false t c s t.facts (.inl rfl) i) hk]
        exact h
omit hs in
theorem x_lower1 : ∀ (r : List Pn.Act) (l : List (Option Nat)), (∀ q, q ∈ r → q ∈ xacts t c) → l.length = t.facts + 2 → (∀ f, f < t.facts + 2 → LeO (W false t c s f) (val l f)) → ∀ f, f < t.facts + 2 → LeO (W false t c s f) (val (turn false (t.facts + 2) l (withCost r)) f)
  | [], _, _, _, h, f, hf => h f hf
  | a :: r, l, hr, hl, h, f, hf => by
    refine x_lower1 r (act1 false (t.facts + 2) l a a.cost) (fun q hq => hr q (List.mem_cons_of_mem _ hq)) (by rw [act1_length, hl]) (fun g hg m hm => ?_) f hf
    rcases (RO_act1 false hl a a.cost g m).1 hm with hm | ⟨hga, hm⟩
    · exact h g hg m hm
    · obtain ⟨k, hk, rfl⟩ := xacts_mem (hr a List.mem_cons_self)
      rw [xat_cost] at hm
      rw [xat_add hi c hk] at hga
      refine ThCut.under2 t s c k g m (by rw [steps_length]; exact hk) hga ?_
      rw [← xat_join hi c (W_always false t c s) hk]
      rw [RO_map_add] at hm ⊢
      obtain ⟨p, e, hp⟩ := hm
      obtain ⟨q, e2, hq⟩ := joinF_mono (sum := false) (u := W false t c s) (w := val l) (l := facts (t.facts + 2) (xat t c k).pre) (fun f hf => h f (mem_facts.1 hf).1) p (by rw [e]; exact RO_some.2 (Nat.le_refl p))
      exact ⟨q, e2, by omega⟩
theorem x_lower : ∀ i f, f < t.facts + 2 → LeO (W false t c s f) (val (gturns false (t.facts + 2) (xacts t c) (s ||| 2 ^ t.facts) i) f)
  | 0, f, hf => by
    show LeO _ (val (gfrom (t.facts + 2) (s ||| 2 ^ t.facts)) f)
    rw [gfrom_first hs hf]
    have e : W false t c s f = val (nth false t c s (t.facts + 3)) f := by
      unfold W
      rw [values_nth]
    rw [e]
    exact (run2 false t c s).desc (Nat.zero_le _) f hf
  | i + 1, f, hf => x_lower1 hi c (xacts t c) _ (fun _ h => h) (gturns_length _ _ _ _ i) (x_lower i) f hf
theorem x_turns_W : gturns false (t.facts + 2) (xacts t c) (s ||| 2 ^ t.facts) (t.facts + 2) = (List.range (t.facts + 2)).map (W false t c s) := by
  refine ext_val (by rw [gturns_length, List.length_map, List.length_range]) fun f hf => ?_
  rw [gturns_length] at hf
  rw [val_map_range _ _ _ hf]
  refine LeO.antisymm ?_ (x_lower hi c hs (t.facts + 2) f hf)
  have e : W false t c s f = val (nth false t c s (t.facts + 2)) f := by
    unfold W
    rw [values_nth]
    exact settled2 false t c s _ _ (by omega) (by omega) f hf
  rw [e]
  exact x_upper hi c hs (t.facts + 2) f hf
end
end ThExt

/-! As if nothing were taken away: the states one behind another, from the greatest down. -/
namespace ThKept
open Pn ThFix ThCost

theorem and_zero (s : Nat) : s.land 0 = 0 := Nat.and_zero s
theorem kept_then (t : Task) (k s : Nat) : ((Pn03.kept t).act k).then_ s = s ||| (t.act k).add := by
  rw [ThCalls.kept_act]
  show (s - s.land 0).lor (t.act k).add = _
  rw [and_zero, Nat.sub_zero]
  rfl
theorem kept_may (t : Task) (k s : Nat) : ((Pn03.kept t).act k).may s = (t.act k).may s := by
  rw [ThCalls.kept_act]
  rfl
theorem kept_facts (t : Task) : (Pn03.kept t).facts = t.facts := rfl
theorem kept_done (t : Task) (s : Nat) : (Pn03.kept t).done s = t.done s := rfl

section
variable (u : Task)
/-- what's known of the state behind, while s is looked at: nothing of s itself -/
def seen (s v : Nat) : Option Nat := if v = s then none else D u v
/-- an act that leads on, and what it costs in all -/
def cand1 (s k : Nat) : Option (Nat × Nat) := if (u.act k).may s = true then (seen u s ((u.act k).then_ s)).map fun m => ((u.act k).cost + m, k) else none
def cand (s n : Nat) : List (Nat × Nat) := (List.range n).filterMap (cand1 u s)
theorem cand_succ (s n : Nat) : cand u s (n + 1) = cand u s n ++ (match cand1 u s n with | none => [] | some p => [p]) := by
  unfold cand
  rw [List.range_succ, List.filterMap_append]
  congr 1
  show (List.filterMap (cand1 u s) [n]) = _
  rw [List.filterMap_cons]
  cases cand1 u s n <;> rfl
theorem mem_cand {s n c k : Nat} : (c, k) ∈ cand u s n ↔ k < n ∧ (u.act k).may s = true ∧ (u.act k).then_ s ≠ s ∧ ∃ m, D u ((u.act k).then_ s) = some m ∧ (u.act k).cost + m = c := by
  unfold cand
  rw [List.mem_filterMap]
  constructor
  · rintro ⟨j, hj, e⟩
    unfold cand1 at e
    split at e
    · rename_i hm
      obtain ⟨m, e1, e2⟩ := Option.map_eq_some_iff.1 e
      have e3 : j = k := congrArg Prod.snd e2
      subst e3
      unfold seen at e1
      split at e1
      · cases e1
      · exact ⟨List.mem_range.1 hj, hm, ‹_›, m, e1, congrArg Prod.fst e2⟩
    · cases e
  · rintro ⟨h1, h2, h3, m, h4, h5⟩
    refine ⟨k, List.mem_range.2 h1, ?_⟩
    unfold cand1 seen
    rw [if_pos h2, if_neg h3, h4]
    show some ((u.act k).cost + m, k) = _
    rw [h5]
variable (h : Good u) {s : Nat} (hs : s < 2 ^ u.facts) (hd : u.done s = false)
include h hs hd
theorem some_cand {c : Nat} (e : D u s = some c) : ∃ c' k, c' ≤ c ∧ (c', k) ∈ cand u s u.acts.length := by
  rcases (D_iff u h s hs c).1 (by rw [e]; exact RO_some.2 (Nat.le_refl c)) with hd' | ⟨a, h1, h2, m, e2, hm⟩
  · rw [hd] at hd'; cases hd'
  · obtain ⟨k, ek, hk, hl⟩ := mem_can h1 h2
    subst ek
    refine ⟨_, k, hm, (mem_cand u).2 ⟨hl, h2, fun q => ?_, m, e2, rfl⟩⟩
    rw [q, e] at e2
    cases e2
    have := (h _ h1).2
    omega
theorem no_cand (e : cand u s u.acts.length = []) : D u s = none := by
  cases e2 : D u s with
  | none => rfl
  | some c =>
    obtain ⟨c', k, _, hm⟩ := some_cand u h hs hd e2
    rw [e] at hm
    cases hm
theorem best_cand {c k : Nat} (hm : (c, k) ∈ cand u s u.acts.length) (hb : ∀ c' k', (c', k') ∈ cand u s u.acts.length → c < c' ∨ (c = c' ∧ k ≤ k')) : D u s = some c ∧ Next u s k ∧ ∀ j, j < k → ¬ Next u s j := by
  obtain ⟨h1, h2, h3, m, h4, h5⟩ := (mem_cand u).1 hm
  have hk : u.can s k = true := by
    unfold Task.can
    rw [h2, decide_eq_true h1]
    rfl
  obtain ⟨c2, e2, hc2⟩ : RO (D u s) c := (D_iff u h s hs c).2 (.inr ⟨u.act k, (act_mem hk).1, h2, m, h4, by omega⟩)
  obtain ⟨c3, k3, hc3, hm3⟩ := some_cand u h hs hd e2
  have e : D u s = some c := by
    rw [e2]
    have := hb c3 k3 hm3
    congr 1
    omega
  refine ⟨e, ⟨hk, by rw [h4, e]; exact congrArg some h5⟩, fun j hj hn => ?_⟩
  obtain ⟨n1, n2⟩ := hn
  rw [e] at n2
  obtain ⟨m2, e4, e5⟩ := Option.map_eq_some_iff.1 n2
  obtain ⟨a1, a2, a3⟩ := act_mem n1
  have := hb c j ((mem_cand u).2 ⟨a3, a2, fun q => by
    rw [q, e] at e4
    cases e4
    have := (h _ a1).2
    omega, m2, e4, e5⟩)
  omega
end
/-- it costs nothing just where all is so -/
theorem D_zero (u : Task) (h : Good u) {s : Nat} (hs : s < 2 ^ u.facts) : D u s = some 0 ↔ u.done s = true := by
  constructor
  · intro e
    rcases (D_iff u h s hs 0).1 (by rw [e]; exact RO_some.2 (Nat.le_refl 0)) with hd' | ⟨a, h1, _, m, _, hm⟩
    · exact hd'
    · have := (h _ h1).2
      omega
  · intro hd
    obtain ⟨m, e, hm⟩ := (D_iff u h s hs 0).2 (.inl hd)
    have : m = 0 := by omega
    subst this
    exact e
end ThKept

/-! The cheapest waiting state first: what comes out is the cheapest plan's cost. -/
namespace ThReal
open Pn ThFix ThCost ThCalls

def getN (l : List (Nat × Nat)) (s : Nat) : Option Nat := (l.find? fun p => decide (p.1 = s)).map (·.2)
def putN (l : List (Nat × Nat)) (s c : Nat) : List (Nat × Nat) := if (l.any fun p => decide (p.1 = s)) = true then l.map (fun p => if p.1 = s then (p.1, c) else p) else l ++ [(s, c)]
def dropN (l : List (Nat × Nat)) (s : Nat) : List (Nat × Nat) := l.filter fun p => decide (p.1 ≠ s)

theorem getN_mem {l : List (Nat × Nat)} {s c : Nat} (h : getN l s = some c) : (s, c) ∈ l := by
  unfold getN at h
  obtain ⟨⟨a, b⟩, h1, h2⟩ := Option.map_eq_some_iff.1 h
  have := List.find?_some h1
  have e : a = s := of_decide_eq_true this
  subst e
  have e2 : b = c := h2
  subst e2
  exact List.mem_of_find?_eq_some h1
theorem getN_none {l : List (Nat × Nat)} {s : Nat} (h : getN l s = none) : ∀ p, p ∈ l → p.1 ≠ s := by
  unfold getN at h
  rw [Option.map_eq_none_iff, List.find?_eq_none] at h
  intro p hp e
  exact h p hp (decide_eq_true e)
theorem mem_dropN {l : List (Nat × Nat)} {s : Nat} {p : Nat × Nat} : p ∈ dropN l s ↔ p ∈ l ∧ p.1 ≠ s := by
  unfold dropN
  rw [List.mem_filter, decide_eq_true_eq]
theorem mem_putN {l : List (Nat × Nat)} {s c : Nat} {p : Nat × Nat} (h : p ∈ putN l s c) : p = (s, c) ∨ (p ∈ l ∧ p.1 ≠ s) := by
  unfold putN at h
  split at h
  · obtain ⟨q, hq, e⟩ := List.mem_map.1 h
    by_cases d : q.1 = s
    · rw [if_pos d] at e
      rw [← e, d]
      exact .inl rfl
    · rw [if_neg d] at e
      subst e
      exact .inr ⟨hq, d⟩
  · rename_i hn
    rcases List.mem_append.1 h with h | h
    · refine .inr ⟨h, fun e => hn (List.any_eq_true.2 ⟨p, h, decide_eq_true e⟩)⟩
    · exact .inl (List.mem_singleton.1 h)
theorem putN_has (l : List (Nat × Nat)) (s c : Nat) : (s, c) ∈ putN l s c := by
  unfold putN
  split
  · rename_i hn
    obtain ⟨q, hq, e⟩ := List.any_eq_true.1 hn
    have e : q.1 = s := of_decide_eq_true e
    exact List.mem_map.2 ⟨q, hq, by rw [if_pos e, e]⟩
  · exact List.mem_append_right _ (List.mem_singleton.2 rfl)
theorem putN_keeps {l : List (Nat × Nat)} {s c : Nat} {p : Nat × Nat} (h : p ∈ l) (d : p.1 ≠ s) : p ∈ putN l s c := by
  unfold putN
  split
  · exact List.mem_map.2 ⟨p, h, if_neg d⟩
  · exact List.mem_append_left _ h
theorem putN_keys {l : List (Nat × Nat)} {s c : Nat} : (putN l s c).map (·.1) = if (l.any fun p => decide (p.1 = s)) = true then l.map (·.1) else l.map (·.1) ++ [s] := by
  unfold putN
  split
  · rw [List.map_map]
    refine List.map_congr_left fun p _ => ?_
    show (if p.1 = s then (p.1, c) else p).1 = p.1
    split <;> rfl
  · rw [List.map_append]
    rfl
theorem nodup_lt : ∀ (N : Nat) (l : List Nat), l.Nodup → (∀ x, x ∈ l → x < N) → l.length ≤ N
  | 0, [], _, _ => Nat.le_refl _
  | 0, x :: _, _, h => absurd (h x List.mem_cons_self) (Nat.not_lt_zero x)
  | N + 1, l, nd, h => by
    by_cases c : N ∈ l
    · have := nodup_lt N (l.erase N) (nd.erase N) fun x hx => by
        have h1 := (nd.mem_erase_iff).1 hx
        have := h x h1.2
        omega
      rw [List.length_erase_of_mem c] at this
      omega
    · have := nodup_lt N l nd fun x hx => by
        have := h x hx
        have : x ≠ N := fun e => c (e ▸ hx)
        omega
      omega

/-- how things stand: dn what's done with, at what cost; wt what waits; E: edges not looked at yet -/
structure DI (t : Task) (st : Nat) (dn wt : List (Nat × Nat)) (E : Nat → Nat → Prop) : Prop where
  nd : (dn.map (·.1) ++ wt.map (·.1)).Nodup
  lt : ∀ p, p ∈ dn ++ wt → p.1 < 2 ^ t.facts
  path : ∀ p, p ∈ dn ++ wt → ∃ l, Goes t st l p.1 ∧ t.price l = p.2
  best : ∀ p, p ∈ dn → ∀ l, Goes t st l p.1 → p.2 ≤ t.price l
  edge : ∀ p, p ∈ dn → ∀ k, t.can p.1 k = true → E p.1 k ∨ ∃ q, q ∈ dn ++ wt ∧ q.1 = (t.act k).then_ p.1 ∧ q.2 ≤ p.2 + (t.act k).cost
  init : ∃ q, q ∈ dn ++ wt ∧ q.1 = st ∧ q.2 = 0
  open_ : ∀ p, p ∈ dn → t.done p.1 = false

def Never : Nat → Nat → Prop := fun _ _ => False
section
variable {t : Task} {st : Nat} {dn wt : List (Nat × Nat)} {E : Nat → Nat → Prop}
theorem start (hs : st < 2 ^ t.facts) : DI t st [] [(st, 0)] Never where
  nd := by simp
  lt p hp := by rw [List.nil_append, List.mem_singleton] at hp; subst hp; exact hs
  path p hp := by rw [List.nil_append, List.mem_singleton] at hp; subst hp; exact ⟨[], rfl, rfl⟩
  best p hp := by cases hp
  edge p hp := by cases hp
  init := ⟨(st, 0), List.mem_singleton.2 rfl, rfl, rfl⟩
  open_ p hp := by cases hp
theorem DI.few (d : DI t st dn wt E) : dn.length ≤ 2 ^ t.facts := by
  have := nodup_lt (2 ^ t.facts) (dn.map (·.1)) ((List.nodup_append.1 d.nd).1) fun x hx => by
    obtain ⟨p, hp, e⟩ := List.mem_map.1 hx
    subst e
    exact d.lt p (List.mem_append_left _ hp)
  rwa [List.length_map] at this
theorem DI.fewW (d : DI t st dn wt E) : wt.length ≤ 2 ^ t.facts := by
  have := nodup_lt (2 ^ t.facts) (wt.map (·.1)) ((List.nodup_append.1 d.nd).2.1) fun x hx => by
    obtain ⟨p, hp, e⟩ := List.mem_map.1 hx
    subst e
    exact d.lt p (List.mem_append_right _ hp)
  rwa [List.length_map] at this
theorem front1 (d : DI t st dn wt Never) : ∀ (l : List Nat) (p : Nat × Nat) (v : Nat), p ∈ dn → Goes t p.1 l v → (∀ q, q ∈ dn → q.1 ≠ v) → ∃ q, q ∈ wt ∧ q.2 ≤ p.2 + t.price l
  | [], p, v, hp, hg, hv => absurd hg (hv p hp)
  | k :: l, p, v, hp, hg, hv => by
    rcases d.edge p hp k hg.1 with z | ⟨q, hq, e, hle⟩
    · exact z.elim
    · rw [price_cons]
      rcases List.mem_append.1 hq with h | h
      · have hg2 := hg.2
        rw [← e] at hg2
        obtain ⟨r, hr, hle2⟩ := front1 d l q v h hg2 hv
        exact ⟨r, hr, by omega⟩
      · exact ⟨q, h, by omega⟩
theorem front (d : DI t st dn wt Never) {l : List Nat} {v : Nat} (hg : Goes t st l v) (hv : ∀ q, q ∈ dn → q.1 ≠ v) : ∃ q, q ∈ wt ∧ q.2 ≤ t.price l := by
  obtain ⟨q, hq, e1, e2⟩ := d.init
  rcases List.mem_append.1 hq with h | h
  · rw [← e1] at hg
    obtain ⟨r, hr, hle⟩ := front1 d l q v h hg hv
    exact ⟨r, hr, by omega⟩
  · exact ⟨q, h, by omega⟩
variable (g : Good t) (hs : st < 2 ^ t.facts)
include g hs
/-- nothing waits: there is no plan -/
theorem over (d : DI t st dn [] Never) : D t st = none := by
  cases e : D t st with
  | none => rfl
  | some c =>
    obtain ⟨l, hl, _⟩ := (D_plan t g st hs c).1 (by rw [e]; exact RO_some.2 (Nat.le_refl c))
    obtain ⟨u, hu, hd⟩ := (ok_goes t l st).1 hl
    obtain ⟨q, hq, _⟩ := front d hu fun q hq e => by
      have := d.open_ q hq
      rw [e, hd] at this
      cases this
    cases hq
/-- the cheapest that waits is a wanted one: that's the cost -/
theorem found (d : DI t st dn wt Never) {p : Nat × Nat} (hp : p ∈ wt) (hmin : ∀ q, q ∈ wt → p.2 ≤ q.2) (hd : t.done p.1 = true) : D t st = some p.2 := by
  obtain ⟨l, hl, hpr⟩ := d.path p (List.mem_append_right _ hp)
  obtain ⟨c, e, hc⟩ := (D_plan t g st hs p.2).2 ⟨l, (ok_goes t l st).2 ⟨p.1, hl, hd⟩, by omega⟩
  obtain ⟨l2, hl2, hp2⟩ := (D_plan t g st hs c).1 (by rw [e]; exact RO_some.2 (Nat.le_refl c))
  obtain ⟨u, hu, hd2⟩ := (ok_goes t l2 st).1 hl2
  obtain ⟨q, hq, hle⟩ := front d hu fun q hq e => by
    have := d.open_ q hq
    rw [e, hd2] at this
    cases this
  have := hmin q hq
  rw [e]
  congr 1
  omega
omit g hs in
/-- it is done with -/
theorem take (d : DI t st dn wt Never) {p : Nat × Nat} (hp : p ∈ wt) (hmin : ∀ q, q ∈ wt → p.2 ≤ q.2) (hd : t.done p.1 = false) : DI t st (dn ++ [p]) (dropN wt p.1) (fun u _ => u = p.1) := by
  have hnd := List.nodup_append.1 d.nd
  have pin : p.1 ∈ wt.map (·.1) := List.mem_map_of_mem (f := (·.1)) hp
  have pnot : ∀ q, q ∈ dn → q.1 ≠ p.1 := fun q hq e => hnd.2.2 q.1 (List.mem_map_of_mem (f := (·.1)) hq) p.1 pin e
  have uniq : ∀ q, q ∈ wt → q.1 = p.1 → q = p := fun q hq e => by
    obtain ⟨i, hi, e1⟩ := List.mem_iff_getElem.1 hq
    obtain ⟨j, hj, e2⟩ := List.mem_iff_getElem.1 hp
    have nd2 := hnd.2.1
    have : i = j := by
      have hi' : i < (wt.map (·.1)).length := by rw [List.length_map]; exact hi
      have hj' : j < (wt.map (·.1)).length := by rw [List.length_map]; exact hj
      refine (List.getElem_inj (xs := wt.map (·.1)) (h₀ := hi') (h₁ := hj') nd2).1 ?_
      rw [List.getElem_map, List.getElem_map, e1, e2]
      exact e
    subst this
    rw [← e1, ← e2]
  have sub : ∀ q, q ∈ (dn ++ [p]) ++ dropN wt p.1 → q ∈ dn ++ wt := fun q hq => by
    rcases List.mem_append.1 hq with h | h
    · rcases List.mem_append.1 h with h | h
      · exact List.mem_append_left _ h
      · rw [List.mem_singleton.1 h]
        exact List.mem_append_right _ hp
    · exact List.mem_append_right _ (mem_dropN.1 h).1
  have sup : ∀ q, q ∈ dn ++ wt → q ∈ (dn ++ [p]) ++ dropN wt p.1 := fun q hq => by
    rcases List.mem_append.1 hq with h | h
    · exact List.mem_append_left _ (List.mem_append_left _ h)
    · by_cases e : q.1 = p.1
      · rw [uniq q h e]
        exact List.mem_append_left _ (List.mem_append_right _ (List.mem_singleton.2 rfl))
      · exact List.mem_append_right _ (mem_dropN.2 ⟨h, e⟩)
  refine ⟨?_, fun q hq => d.lt q (sub q hq), fun q hq => d.path q (sub q hq), fun q hq l hl => ?_, fun q hq k hk => ?_, ?_, fun q hq => ?_⟩
  · rw [List.map_append, List.append_assoc]
    refine List.nodup_append.2 ⟨hnd.1, ?_, fun x hx y hy e => ?_⟩
    · show (p.1 :: (dropN wt p.1).map (·.1)).Nodup
      refine List.nodup_cons.2 ⟨fun h => ?_, ?_⟩
      · obtain ⟨q, hq, e⟩ := List.mem_map.1 h
        exact (mem_dropN.1 hq).2 e
      · exact hnd.2.1.sublist (List.Sublist.map _ List.filter_sublist)
    · subst e
      rcases List.mem_cons.1 (show x ∈ p.1 :: (dropN wt p.1).map (·.1) from hy) with e | hy
      · obtain ⟨q, hq, e2⟩ := List.mem_map.1 hx
        exact pnot q hq (e2.trans e)
      · obtain ⟨q, hq, e2⟩ := List.mem_map.1 hy
        exact hnd.2.2 x hx q.1 (List.mem_map_of_mem (f := (·.1)) (mem_dropN.1 hq).1) e2.symm
  · rcases List.mem_append.1 hq with h | h
    · exact d.best q h l hl
    · rw [List.mem_singleton.1 h] at hl ⊢
      obtain ⟨r, hr, hle⟩ := front d hl pnot
      exact Nat.le_trans (hmin r hr) hle
  · rcases List.mem_append.1 hq with h | h
    · rcases d.edge q h k hk with z | ⟨r, hr, h2⟩
      · exact z.elim
      · exact .inr ⟨r, sup r hr, h2⟩
    · rw [List.mem_singleton.1 h]
      exact .inl rfl
  · obtain ⟨q, hq, h2⟩ := d.init
    exact ⟨q, sup q hq, h2⟩
  · rcases List.mem_append.1 hq with h | h
    · exact d.open_ q h
    · rw [List.mem_singleton.1 h]
      exact hd
omit g hs in
theorem DI.weaken {E' : Nat → Nat → Prop} (d : DI t st dn wt E) (h : ∀ p, p ∈ dn → ∀ k, t.can p.1 k = true → E p.1 k → E' p.1 k ∨ ∃ q, q ∈ dn ++ wt ∧ q.1 = (t.act k).then_ p.1 ∧ q.2 ≤ p.2 + (t.act k).cost) : DI t st dn wt E' :=
  ⟨d.nd, d.lt, d.path, d.best, fun p hp k hk => (d.edge p hp k hk).elim (h p hp k hk) .inr, d.init, d.open_⟩
omit hs in
/-- an act at the state that was just done with leads to one that's not done with -/
theorem relax (d : DI t st dn wt E) {p : Nat × Nat} (hp : p ∈ dn) {k : Nat} (hk : t.can p.1 k = true) (hv : ∀ q, q ∈ dn → q.1 ≠ (t.act k).then_ p.1) :
    DI t st dn (putN wt ((t.act k).then_ p.1) (min ((getN wt ((t.act k).then_ p.1)).getD (p.2 + (t.act k).cost)) (p.2 + (t.act k).cost))) E := by
  generalize hvv : (t.act k).then_ p.1 = v at hv
  generalize hc : min ((getN wt v).getD (p.2 + (t.act k).cost)) (p.2 + (t.act k).cost) = c
  have hvlt : v < 2 ^ t.facts := by
    rw [← hvv]
    exact then_lt (g _ (act_mem hk).1).1 (d.lt p (List.mem_append_left _ hp))
  have hle : c ≤ p.2 + (t.act k).cost := by omega
  have hnd := List.nodup_append.1 d.nd
  have old : ∀ q, q ∈ wt → q.1 = v → c ≤ q.2 := fun q hq e => by
    cases eg : getN wt v with
    | none => exact absurd e (getN_none eg q hq)
    | some c2 =>
      have hm := getN_mem eg
      have : q.2 = c2 := by
        obtain ⟨i, hi, e1⟩ := List.mem_iff_getElem.1 hq
        obtain ⟨j, hj, e2⟩ := List.mem_iff_getElem.1 hm
        have : i = j := by
          refine (List.getElem_inj (xs := wt.map (·.1)) (h₀ := by rw [List.length_map]; exact hi) (h₁ := by rw [List.length_map]; exact hj) hnd.2.1).1 ?_
          rw [List.getElem_map, List.getElem_map, e1, e2]
          exact e
        subst this
        rw [← e1, e2]
      rw [eg] at hc
      have hc : min c2 (p.2 + (t.act k).cost) = c := hc
      omega
  have sup : ∀ q, q ∈ dn ++ wt → ∃ r, r ∈ dn ++ putN wt v c ∧ r.1 = q.1 ∧ r.2 ≤ q.2 := fun q hq => by
    rcases List.mem_append.1 hq with h | h
    · exact ⟨q, List.mem_append_left _ h, rfl, Nat.le_refl _⟩
    · by_cases e : q.1 = v
      · exact ⟨(v, c), List.mem_append_right _ (putN_has _ _ _), e.symm, old q h e⟩
      · exact ⟨q, List.mem_append_right _ (putN_keeps h e), rfl, Nat.le_refl _⟩
  have isnew : ∀ q, q ∈ dn ++ putN wt v c → q = (v, c) ∨ q ∈ dn ++ wt := fun q hq => by
    rcases List.mem_append.1 hq with h | h
    · exact .inr (List.mem_append_left _ h)
    · rcases mem_putN h with e | ⟨h, _⟩
      · exact .inl e
      · exact .inr (List.mem_append_right _ h)
  refine ⟨?_, fun q hq => ?_, fun q hq => ?_, d.best, fun q hq j hj => ?_, ?_, d.open_⟩
  · rw [putN_keys]
    split
    · exact d.nd
    · rename_i hn
      rw [← List.append_assoc]
      refine List.nodup_append.2 ⟨d.nd, List.nodup_cons.2 ⟨List.not_mem_nil, List.nodup_nil⟩, fun x hx y hy e => ?_⟩
      rw [List.mem_singleton] at hy
      subst hy
      subst e
      rcases List.mem_append.1 hx with h | h
      · obtain ⟨q, hq, e⟩ := List.mem_map.1 h
        exact hv q hq e
      · obtain ⟨q, hq, e⟩ := List.mem_map.1 h
        exact hn (List.any_eq_true.2 ⟨q, hq, decide_eq_true e⟩)
  · rcases isnew q hq with e | h
    · rw [e]
      exact hvlt
    · exact d.lt q h
  · rcases isnew q hq with e | h
    · subst e
      obtain ⟨l, hl, hpr⟩ := d.path p (List.mem_append_left _ hp)
      by_cases e : c = p.2 + (t.act k).cost
      · refine ⟨l ++ [k], ?_, ?_⟩
        · have := goes_snoc t l st p.1 k hl hk
          rw [hvv] at this
          exact this
        · rw [price_append, price_cons, price_nil, hpr]
          show p.2 + ((t.act k).cost + 0) = c
          omega
      · cases eg : getN wt v with
        | none =>
          rw [eg] at hc
          have hc : min (p.2 + (t.act k).cost) (p.2 + (t.act k).cost) = c := hc
          omega
        | some c2 =>
          rw [eg] at hc
          have hc : min c2 (p.2 + (t.act k).cost) = c := hc
          obtain ⟨l2, hl2, hp2⟩ := d.path (v, c2) (List.mem_append_right _ (getN_mem eg))
          exact ⟨l2, hl2, by rw [hp2]; show c2 = c; omega⟩
    · exact d.path q h
  · rcases d.edge q hq j hj with z | ⟨r, hr, h1, h2⟩
    · exact .inl z
    · obtain ⟨r2, hr2, e1, e2⟩ := sup r hr
      exact .inr ⟨r2, hr2, e1.trans h1, Nat.le_trans e2 h2⟩
  · obtain ⟨q, hq, h1, h2⟩ := d.init
    obtain ⟨r, hr, e1, e2⟩ := sup q hq
    exact ⟨r, hr, e1.trans h1, by omega⟩
end
end ThReal

/-! Sets of facts as numbers: the zone, and what's before it. -/
namespace ThZone
open ThFix ThVal Pn03

theorem diff_bit : ∀ (i a b : Nat), (a - (a &&& b)).testBit i = (a.testBit i && !b.testBit i)
  | 0, a, b => by
    have h1 : (a &&& b) % 2 = if a % 2 = 1 ∧ b % 2 = 1 then 1 else 0 := by
      have := Nat.testBit_and a b 0
      rw [Nat.testBit_zero, Nat.testBit_zero, Nat.testBit_zero] at this
      by_cases c : a % 2 = 1 ∧ b % 2 = 1
      · rw [if_pos c]
        rw [decide_eq_true c.1, decide_eq_true c.2] at this
        exact of_decide_eq_true this
      · rw [if_neg c]
        have : ¬ (a &&& b) % 2 = 1 := fun e => by
          rw [decide_eq_true e] at this
          simp at this
          exact c this
        omega
    have h2 : a &&& b ≤ a := Nat.and_le_left
    rw [Nat.testBit_zero, Nat.testBit_zero, Nat.testBit_zero]
    by_cases ha : a % 2 = 1
    · by_cases hb : b % 2 = 1
      · rw [if_pos ⟨ha, hb⟩] at h1
        rw [decide_eq_true ha, decide_eq_true hb, decide_eq_false (by omega)]
        rfl
      · rw [if_neg (fun h => hb h.2)] at h1
        rw [decide_eq_true ha, decide_eq_false hb, decide_eq_true (by omega)]
        rfl
    · rw [if_neg (fun h => ha h.1)] at h1
      rw [decide_eq_false ha, decide_eq_false (by omega)]
      rfl
  | i + 1, a, b => by
    have h1 : (a &&& b) / 2 = a / 2 &&& b / 2 := Nat.and_div_two ..
    have h2 : a &&& b ≤ a := Nat.and_le_left
    have h3 : (a &&& b) % 2 ≤ a % 2 := by
      have := Nat.testBit_and a b 0
      rw [Nat.testBit_zero, Nat.testBit_zero, Nat.testBit_zero] at this
      by_cases e : (a &&& b) % 2 = 1
      · rw [decide_eq_true e] at this
        have : a % 2 = 1 := by
          have h := (Bool.and_eq_true_iff.1 this.symm).1
          exact of_decide_eq_true h
        omega
      · omega
    have e : (a - (a &&& b)) / 2 = a / 2 - (a / 2 &&& b / 2) := by omega
    rw [Nat.testBit_succ, Nat.testBit_succ, Nat.testBit_succ, e]
    exact diff_bit i (a / 2) (b / 2)
theorem and_ne {a b : Nat} : a &&& b ≠ 0 ↔ ∃ f, a.testBit f = true ∧ b.testBit f = true := by
  constructor
  · intro h
    apply Classical.byContradiction
    intro n
    refine h (Nat.eq_of_testBit_eq fun i => ?_)
    rw [Nat.testBit_and, Nat.zero_testBit]
    cases ha : a.testBit i with
    | false => rfl
    | true =>
      cases hb : b.testBit i with
      | false => rfl
      | true => exact absurd ⟨i, ha, hb⟩ n
  · rintro ⟨f, h1, h2⟩ e
    have := Nat.testBit_and a b f
    rw [e, h1, h2, Nat.zero_testBit] at this
    cases this
theorem or_bit (a b f : Nat) : (a ||| b).testBit f = true ↔ a.testBit f = true ∨ b.testBit f = true := by
  rw [Nat.testBit_or, Bool.or_eq_true]

/-- a set closed under acts for nothing, looked at from behind -/
def ZClosed (as : List Pn.Act) (ds : List Nat) (S : Nat → Prop) : Prop := ∀ (k : Nat) (a : Pn.Act) (d : Nat), as[k]? = some a → ds[k]? = some d → a.cost = 0 → (∃ g, a.add.testBit g = true ∧ S g) → ∀ f, d.testBit f = true → S f
structure IsZone (as : List Pn.Act) (ds : List Nat) (e z : Nat) : Prop where
  start : ∀ f, e.testBit f = true → z.testBit f = true
  closed : ZClosed as ds fun f => z.testBit f = true
  least : ∀ S : Nat → Prop, (∀ f, e.testBit f = true → S f) → ZClosed as ds S → ∀ f, z.testBit f = true → S f
def BClosed (as : List Pn.Act) (ds : List Nat) (z : Nat) (S : Nat → Prop) : Prop := ∀ (k : Nat) (a : Pn.Act) (d : Nat), as[k]? = some a → ds[k]? = some d → (∃ f, d.testBit f = true ∧ S f) → ∀ g, a.add.testBit g = true → z.testBit g = false → S g
structure IsBefore (as : List Pn.Act) (ds : List Nat) (so z b : Nat) : Prop where
  start : ∀ f, so.testBit f = true → b.testBit f = true
  closed : BClosed as ds z fun f => b.testBit f = true
  least : ∀ S : Nat → Prop, (∀ f, so.testBit f = true → S f) → BClosed as ds z S → ∀ f, b.testBit f = true → S f

/-- the dear fact of a row, as a set; an empty one where the row can't be had -/
def dearBit (N : Nat) (l : List (Option Nat)) (m : Nat) : Nat := match joinF false (val l) (facts N m) with
  | none => 0
  | some x => 2 ^ ((facts N m).find? fun f => val l f == some x).getD 0
theorem dearBit_lt {N : Nat} {l : List (Option Nat)} {m : Nat} (hm : m < 2 ^ N) (h0 : m ≠ 0) : dearBit N l m < 2 ^ N := by
  unfold dearBit
  split
  · exact Nat.two_pow_pos _
  · rename_i x e
    refine Nat.pow_lt_pow_right (by decide) ?_
    have hne : facts N m ≠ [] := fun z => h0 ((ThExt.facts_nil hm).1 z)
    cases ef : (facts N m).find? fun f => val l f == some x with
    | none =>
      obtain ⟨f, hf⟩ := List.exists_mem_of_ne_nil _ hne
      have := (mem_facts.1 hf).1
      show 0 < N
      omega
    | some f => exact (mem_facts.1 (List.mem_of_find?_eq_some ef)).1

section
variable {t : Pn.Task} (hi : ThExt.In t) (c : List Nat) {s : Nat} (hg0 : t.goal ≠ 0)
/-- the list of worths -/
def wv (t : Pn.Task) (c : List Nat) (s : Nat) : List (Option Nat) := (List.range (t.facts + 2)).map (W false t c s)
theorem wv_eq (t : Pn.Task) (c : List Nat) (s : Nat) : wv t c s = values false t c s := by
  refine ThGS.ext_val ?_ fun f hf => ?_
  · unfold wv
    rw [List.length_map, List.length_range, values_nth]
    unfold nth
    rw [iter_length, first_length]
  · unfold wv at hf ⊢
    rw [List.length_map, List.length_range] at hf
    rw [val_map_range _ _ _ hf]
    rfl
include hi hg0
theorem xpre {k : Nat} (h : k < t.acts.length + 1) : facts (t.facts + 2) (ThExt.xat t c k).pre = (stepAt (steps t) k).pre := by
  by_cases d : k < t.acts.length
  · exact ThExt.xat_pre hi c d
  · have e : k = t.acts.length := by omega
    subst e
    rw [ThExt.xat_pre_goal hi c, stepAt_goal, if_neg (fun z => hg0 ((ThExt.facts_nil hi.goal).1 z))]
theorem xpre_ne {k : Nat} (h : k < t.acts.length + 1) : (ThExt.xat t c k).pre ≠ 0 := fun z => by
  have e := xpre hi c hg0 h
  rw [z, (ThExt.facts_nil (n := t.facts + 2) (Nat.two_pow_pos _)).2 rfl] at e
  exact ThCut.pre_ne t k (by rw [steps_length]; exact h) e.symm
/-- what dear tells, as a set -/
theorem dear_bit {k : Nat} (h : k < t.acts.length + 1) (f : Nat) : (dearBit (t.facts + 2) (wv t c s) (ThExt.xat t c k).pre).testBit f = true ↔ dear (values false t c s) (stepAt (steps t) k) = some f := by
  have hk : k < (steps t).length := by rw [steps_length]; exact h
  unfold dearBit
  rw [xpre hi c hg0 h, wv_eq]
  cases e : joinF false (val (values false t c s)) (stepAt (steps t) k).pre with
  | none =>
    rw [ThCut.dear_none e]
    show (0 : Nat).testBit f = true ↔ _
    rw [Nat.zero_testBit]
    simp
  | some m =>
    have e1 : dear (values false t c s) (stepAt (steps t) k) = (stepAt (steps t) k).pre.find? fun f => val (values false t c s) f == some m := by
      show (match join false (values false t c s) (stepAt (steps t) k).pre with | none => none | some m => (stepAt (steps t) k).pre.find? fun f => val (values false t c s) f == some m) = _
      rw [join_eq, e]
    obtain ⟨g, hg, _, _⟩ := ThCut.dear_some (ThCut.pre_ne t k hk) e
    rw [e1] at hg
    show (2 ^ ((stepAt (steps t) k).pre.find? fun f => val (values false t c s) f == some m).getD 0).testBit f = true ↔ _
    rw [e1, hg]
    show (2 ^ g).testBit f = true ↔ some g = some f
    rw [Nat.testBit_two_pow, decide_eq_true_eq]
    exact ⟨fun z => by rw [z], fun z => Option.some.inj z⟩
/-- the dear facts of all -/
def dears (t : Pn.Task) (c : List Nat) (s : Nat) : List Nat := (ThExt.xacts t c).map fun a => dearBit (t.facts + 2) (wv t c s) a.pre
omit hi hg0 in
theorem dears_get {k : Nat} (h : k < t.acts.length + 1) : (dears t c s)[k]? = some (dearBit (t.facts + 2) (wv t c s) (ThExt.xat t c k).pre) := by
  unfold dears
  rw [List.getElem?_map, ThExt.xacts_get h]
  rfl
omit hi hg0 in
theorem xget {k : Nat} {a : Pn.Act} (h : (ThExt.xacts t c)[k]? = some a) : k < t.acts.length + 1 ∧ a = ThExt.xat t c k := by
  have hl : k < t.acts.length + 1 := by
    have := (List.getElem?_eq_some_iff.1 h).1
    rw [ThExt.xacts_length] at this
    exact this
  rw [ThExt.xacts_get hl] at h
  exact ⟨hl, (Option.some.inj h).symm⟩
omit hg0 in
theorem add_bit {k : Nat} (h : k < t.acts.length + 1) (g : Nat) : (ThExt.xat t c k).add.testBit g = true ↔ g ∈ (stepAt (steps t) k).add := by
  rw [← ThExt.xat_add hi c h, mem_facts, ThExt.bit_eq]
  refine ⟨fun e => ⟨?_, e⟩, fun e => e.2⟩
  apply Classical.byContradiction
  intro n
  have := (ThExt.xat_lt hi c (k := k)).2
  rw [← ThExt.bit_eq, ThExt.bit_above this (by omega)] at e
  cases e
theorem zone_is {z : Nat} (hz : IsZone (ThExt.xacts t c) (dears t c s) (2 ^ (t.facts + 1)) z) (f : Nat) : z.testBit f = true ↔ f ∈ ThCut.theZone t c (values false t c s) := by
  constructor
  · refine hz.least (fun f => f ∈ ThCut.theZone t c (values false t c s)) (fun g hg => ?_) (fun k a d ha hd h0 ⟨g, hg1, hg2⟩ f' hf => ?_) f
    · rw [Nat.testBit_two_pow, decide_eq_true_eq] at hg
      rw [← hg]
      exact ThCut.zone_goal t c _
    · obtain ⟨hk, rfl⟩ := xget c ha
      rw [dears_get c hk] at hd
      cases hd
      refine ThCut.zone_closed t c _ (by rw [steps_length]; exact hk) ((dear_bit hi c hg0 hk f').1 hf) ?_ ((add_bit hi c hk g).1 hg1) hg2
      rw [ThExt.xat_cost] at h0
      exact h0
  · refine ThCut.zone_least t c _ (P := fun f => z.testBit f = true) (hz.start _ (by rw [Nat.testBit_two_pow]; simp)) (fun k f g hk hd h0 hga hg => ?_) f
    rw [steps_length] at hk
    exact hz.closed k _ _ (ThExt.xacts_get hk) (dears_get c hk) (by rw [ThExt.xat_cost]; exact h0) ⟨g, (add_bit hi c hk g).2 hga, hg⟩ f ((dear_bit hi c hg0 hk f).2 hd)
theorem before_is {z b : Nat} {Z : List Nat} (hs : s < 2 ^ t.facts) (hZ : ∀ f, z.testBit f = true ↔ f ∈ Z) (hb : IsBefore (ThExt.xacts t c) (dears t c s) (s ||| 2 ^ t.facts) z b) (f : Nat) : b.testBit f = true ↔ f ∈ ThCut.theBefore t s (values false t c s) Z := by
  have so : ∀ f, (s ||| 2 ^ t.facts).testBit f = true ↔ f ∈ t.facts :: facts t.facts s := fun f => by
    rw [or_bit, Nat.testBit_two_pow, decide_eq_true_eq, List.mem_cons, mem_facts, ThExt.bit_eq]
    constructor
    · rintro (h | h)
      · refine .inr ⟨?_, h⟩
        apply Classical.byContradiction
        intro n
        rw [← ThExt.bit_eq, ThExt.bit_above hs (by omega)] at h
        cases h
      · exact .inl h.symm
    · rintro (h | h)
      · exact .inr h.symm
      · exact .inl h.2
  constructor
  · refine hb.least (fun f => f ∈ ThCut.theBefore t s (values false t c s) Z) (fun g hg => ThCut.before_start t s _ Z ((so g).1 hg)) (fun k a d ha hd ⟨f', hf1, hf2⟩ g hg hz => ?_) f
    obtain ⟨hk, rfl⟩ := xget c ha
    rw [dears_get c hk] at hd
    cases hd
    refine ThCut.before_closed t s _ Z (by rw [steps_length]; exact hk) ((dear_bit hi c hg0 hk f').1 hf1) ((add_bit hi c hk g).1 hg) (fun h => ?_) hf2
    rw [(hZ g).2 h] at hz
    cases hz
  · refine ThCut.before_least t s _ Z (P := fun f => b.testBit f = true) (fun g hg => hb.start g ((so g).2 hg)) (fun k f g hk hd hga hgz hf => ?_) f
    rw [steps_length] at hk
    refine hb.closed k _ _ (ThExt.xacts_get hk) (dears_get c hk) ⟨f, (dear_bit hi c hg0 hk f).2 hd, hf⟩ g ((add_bit hi c hk g).2 hga) ?_
    cases e : z.testBit g with
    | false => rfl
    | true => exact absurd ((hZ g).1 e) hgz
/-- the cut, as the program asks for it -/
theorem cut_is {z b : Nat} (hs : s < 2 ^ t.facts) (hz : IsZone (ThExt.xacts t c) (dears t c s) (2 ^ (t.facts + 1)) z) (hb : IsBefore (ThExt.xacts t c) (dears t c s) (s ||| 2 ^ t.facts) z b) {k : Nat} (hk : k < t.acts.length + 1) :
    k ∈ ThCut.K t s c ↔ dearBit (t.facts + 2) (wv t c s) (ThExt.xat t c k).pre &&& b ≠ 0 ∧ (ThExt.xat t c k).add &&& z ≠ 0 := by
  have hZ := zone_is hi c hg0 hz
  have hB := before_is hi c hg0 hs hZ hb
  rw [ThCut.mem_K, steps_length, and_ne, and_ne]
  constructor
  · rintro ⟨_, f, g, h1, h2, h3, h4⟩
    exact ⟨⟨f, (dear_bit hi c hg0 hk f).2 h1, (hB f).2 h2⟩, ⟨g, (add_bit hi c hk g).2 h3, (hZ g).2 h4⟩⟩
  · rintro ⟨⟨f, h1, h2⟩, ⟨g, h3, h4⟩⟩
    exact ⟨hk, f, g, (dear_bit hi c hg0 hk f).1 h1, (hB f).1 h2, (add_bit hi c hk g).1 h3, (hZ g).1 h4⟩
end
end ThZone

set_option Elab.async false
set_option maxRecDepth 100000
set_option maxHeartbeats 4000000
namespace My
open PySem PySem.Spec PyProof.Rows L2
def top (i : Nat) : Stmt := PySem.Challenge.pw_planestimates_s01_answers.main.body.getD i (.Pass ⟨0, 0, 0, 0⟩)
abbrev sMembers : Stmt := top 13
/-- a row of facts as values -/
def natsV (l : List Nat) : List V := l.map fun (f : Nat) => V.int (f : Int)
def rAnd : R2 := rI0 fun i j => .int (Builtin.bitAnd i j)
def rShr : R2 := rI (fun _ j => 0 ≤ j) fun i j => .int (i / 2 ^ j.toNat)
/-- a value's truth -/
def tTru (K : PySem.W.Frag) (t : TE) : TT := fun σ H Q => t σ H fun x H' => ∃ k, TruV K x H' k ∧ Q k H'
/-- (row >> fact) & 1 -/
def tBit (i j : Nat) : TE := tOp rAnd (tOp rShr (tVar i) (tVar j)) (tC (.int 1))
theorem bits_le {m n : Nat} (h : m < 2 ^ n) : Builtin.Int.intBits (m : Int) ≤ n := PyProof.Rows.intBits_le (by simpa using h)
theorem lt_bits (m : Nat) : m < 2 ^ Builtin.Int.intBits (m : Int) := by
  unfold Builtin.Int.intBits
  split
  · rename_i h
    have : (m : Int) = 0 := by simpa using h
    have : m = 0 := by omega
    subst this; decide
  · rename_i h
    have h0 : m ≠ 0 := fun e => h (by subst e; rfl)
    have := Nat.lt_log2_self (n := m)
    simpa using this
theorem bit_high {m n f : Nat} (h : m < 2 ^ n) (hf : n ≤ f) : Pn.bit m f = false := by
  unfold Pn.bit
  have : m < 2 ^ f := Nat.lt_of_lt_of_le h (Nat.pow_le_pow_right (by decide) hf)
  rw [Nat.div_eq_of_lt this]
  rfl
theorem facts_more {m n : Nat} : ∀ d, m < 2 ^ n → Pn03.facts (n + d) m = Pn03.facts n m
  | 0, _ => rfl
  | d + 1, h => by
    show Pn03.facts (n + d + 1) m = _
    unfold Pn03.facts
    rw [List.range_succ, List.filter_append]
    have : Pn.bit m (n + d) = false := bit_high h (by omega)
    have e : List.filter (Pn.bit m) [n + d] = [] := by simp [this]
    rw [e, List.append_nil]
    exact facts_more d h
theorem facts_bits {m n : Nat} (h : m < 2 ^ n) : Pn03.facts (Builtin.Int.intBits (m : Int)) m = Pn03.facts n m := by
  have := bits_le h
  have e := facts_more (n := Builtin.Int.intBits (m : Int)) (n - Builtin.Int.intBits (m : Int)) (lt_bits m)
  rw [Nat.add_sub_cancel' this] at e
  exact e.symm
theorem facts_succ (n m : Nat) : Pn03.facts (n + 1) m = Pn03.facts n m ++ (if Pn.bit m n = true then [n] else []) := by
  unfold Pn03.facts
  rw [List.range_succ, List.filter_append]
  congr 1
  by_cases c : Pn.bit m n = true
  · simp [c]
  · simp [c]
theorem facts_length (n m : Nat) : (Pn03.facts n m).length ≤ n := by
  unfold Pn03.facts
  exact Nat.le_trans (List.length_filter_le _ _) (by rw [List.length_range]; exact Nat.le_refl _)
/-- the bit, as Python asks it -/
theorem bit_py (m f : Nat) : Builtin.bitAnd ((m : Int) / 2 ^ ((0 : Int) + (f : Int)).toNat) 1 = (if Pn.bit m f = true then 1 else 0) := by
  rw [show ((0 : Int) + (f : Int)).toNat = f by omega, bitAnd_m1]
  have : (m : Int) / 2 ^ f = ((m / 2 ^ f : Nat) : Int) := by norm_cast
  rw [this]
  unfold Pn.bit
  have h2 : m / 2 ^ f % 2 = 0 ∨ m / 2 ^ f % 2 = 1 := by omega
  rcases h2 with e | e
  · rw [e]; simp; omega
  · rw [e]; simp; omega
theorem same_new {H : Hp} {p : Addr} {o : HO} (h : H p = Option.none) : Same H (upd H p o) := fun b u e => by
  rw [upd_ne (ne_of_none e h)]
  exact e
section
variable {P : Program} {w : World} {K : PySem.W.Frag} {mg : Str → Option Value} {base : Heap}
def spMembers : Sp := fun vs H Q _ => ∃ (n m : Nat), vs = [.int m] ∧ m < 2 ^ n ∧ n ≤ 10 ∧
  ∀ (H' : Hp) (p : Addr), Same H H' → H p = none → H' p = some (.lst (natsV (Pn03.facts n m))) → Q (.ref p) H'
theorem scMembers : FnScope ["row", "fact"] ["row"] (defScope sMembers) := ⟨rfl, rfl, rfl, by decide +kernel, rfl, by decide +kernel, by decide +kernel⟩
theorem ok_members {f : Addr} {fd : FuncData} (F : Fun K "members" "members" sMembers f fd) (mR : mg "range" = none) : FnOk P w K mg base CX0 1 f fd ["row"] spMembers := by
  refine F.ok scMembers (fun vs H Q E h => ?_) (fun cdv A outer s H vs Q E hr h => ?_)
  · obtain ⟨n, m, rfl, _⟩ := h
    rfl
  · obtain ⟨n, m, rfl, hm, hn, k⟩ := h
    refine ⟨_, pss_one (ps_ret (pe_lc (own := [("fact", 1)]) (g := gName 1) (tt := tTru K (tBit 0 1)) (te := tVar 1) rfl scMembers.nd (pi_range1 rfl mR (pa_cons (pe_bits (pv 0)) pa_nil)) (blkOk_by (N := ["row", "fact"]) (sc := defScope sMembers) (by decide +kernel))
      (fun _ _ _ _ _ => pg_name (i := 1) scMembers.nd rfl (Or.inl rfl)) (fun _ _ _ _ _ => pts_one (pt_truth (pe_op op_and (pe_op op_shr (pv 0) (pv 1)) pe_int) (by intro _; rfl))) (fun _ _ _ _ _ => pv 1))), ?_⟩
    have hb := bits_le hm
    refine ⟨_, rfl, _, rfl, _, rfl, by omega, by omega, fun D hD => ?_⟩
    refine lc_range (lo := 0) (n := Builtin.Int.intBits (m : Int)) (fun i H' => H' = upd H D (.lst (natsV (Pn03.facts i m))) ∧ i ≤ Builtin.Int.intBits (m : Int)) ⟨rfl, Nat.zero_le _⟩ (fun i H' hi hP => ?_) (fun H' hP => ?_)
    · obtain ⟨rfl, _⟩ := hP
      refine ⟨rfl, _, rfl, _, rfl, _, _, rfl, rfl, by omega, _, _, rfl, rfl, _, rfl, ?_⟩
      rw [bit_py]
      by_cases c : Pn.bit m i = true
      · rw [if_pos c]
        refine iteT ⟨_, rfl, _, upd_same, ?_, ?_, hi⟩
        · have := facts_length i m
          unfold natsV
          rw [List.length_map]
          exact small1000 (by omega)
        · rw [upd_upd, facts_succ, if_pos c]
          unfold natsV
          rw [List.map_append]
          simp
      · rw [if_neg c]
        refine iteF ⟨?_, hi⟩
        rw [facts_succ, if_neg c, List.append_nil]
    · obtain ⟨rfl, _⟩ := hP
      rw [facts_bits hm]
      exact k _ D (same_new hD) hD upd_same
end
end My

set_option Elab.async false
set_option maxRecDepth 100000
set_option maxHeartbeats 4000000
namespace My
open PySem PySem.Spec PyProof.Rows L2
/-! ## max(xs, default=d) -/
theorem maxOf_max : ∀ (ys : List Int) (y : Int), (PySem.W.maxOf y ys) ∈ y :: ys ∧ ∀ z, z ∈ y :: ys → z ≤ PySem.W.maxOf y ys := by
  intro ys
  induction ys with
  | nil =>
    intro y
    exact ⟨List.mem_singleton.2 rfl, fun z hz => by rw [List.mem_singleton.1 hz]; exact Int.le_refl _⟩
  | cons x ys ih =>
    intro y
    have e : PySem.W.maxOf y (x :: ys) = PySem.W.maxOf (if decide (y < x) = true then x else y) ys := rfl
    rw [e]
    by_cases c : y < x
    · rw [if_pos (decide_eq_true c)]
      obtain ⟨h1, h2⟩ := ih x
      refine ⟨List.mem_cons_of_mem _ h1, fun z hz => ?_⟩
      rcases List.mem_cons.1 hz with e | hz
      · subst e
        have := h2 x List.mem_cons_self
        omega
      · exact h2 z hz
    · rw [if_neg (by simpa using c)]
      obtain ⟨h1, h2⟩ := ih y
      refine ⟨?_, fun z hz => ?_⟩
      · rcases List.mem_cons.1 h1 with e | h1
        · rw [e]; exact List.mem_cons_self
        · exact List.mem_cons_of_mem _ (List.mem_cons_of_mem _ h1)
      · rcases List.mem_cons.1 hz with e | hz
        · subst e; exact h2 _ List.mem_cons_self
        · rcases List.mem_cons.1 hz with e | hz
          · subst e
            have := h2 y List.mem_cons_self
            omega
          · exact h2 z (List.mem_cons_of_mem _ hz)
section
variable {X : Cx}
def rMaxD (K : PySem.W.Frag) : List V → List V → Hp → VK → Prop := fun vs zs H Q => ∃ (a : Addr) (ns : List Int) (d : Int), vs = [V.ref a] ∧ zs = [V.int d] ∧ SqL K H a (ns.map V.int) ∧ (ns = [] → Q (.int d) H) ∧ ∀ m, m ∈ ns → (∀ y, y ∈ ns → y ≤ m) → Q (.int m) H
theorem cr_maxD (hc : X.calm = true) (hu : X.A.units + 1 < cLine) : CallRK X (.builtin "max") [Str.ofString "default"] (rMaxD X.K) := by
  intro pins s σ H vs zs us ws Q I r rz h
  obtain ⟨a, ns, d, rfl, rfl, hs, q0, q⟩ := h
  obtain ⟨its, rv, hl, _⟩ := I.list hs
  obtain rfl := Vals.ref1 r
  obtain ⟨w1, rfl, t1, rfl⟩ := vals1 rz
  refine PySem.W.max_list_datum_default (α := Int) (xs := ns) (I.ok.hd hc) hl.isList (.of_ints rv.ints) (by show X.A.units + 1 + 0 < cLine; omega) (fun e h' tk hk => ?_) (fun y ys i v h' tk e hi hh hk => ?_)
  · exact ⟨.int d, H, I.kept hk, ⟨_, rfl⟩, q0 e⟩
  · subst e
    obtain ⟨as, rd⟩ := hh
    have hm := maxOf_max ys y
    cases rd with
    | int n t => exact ⟨.int _, H, I.kept hk, ⟨_, rfl⟩, q _ hm.1 hm.2⟩
end
end My

set_option Elab.async false
set_option maxRecDepth 100000
set_option maxHeartbeats 4000000
namespace My
open PySem PySem.Spec PyProof.Rows L2
/-! ## rows of worths, as the program reckons them -/
def optV : Option Nat → V
  | none => .non
  | some n => .int (n : Int)
def jn (sum : Bool) (os : List (Option Nat)) : Option Nat := os.foldl (ThVal.op sum) (some 0)
theorem joinF_jn (sum : Bool) (u : Nat → Option Nat) (l : List Nat) : ThVal.joinF sum u l = jn sum (l.map u) := by
  unfold ThVal.joinF jn
  rw [List.foldl_map]
theorem foldl_none (sum : Bool) : ∀ os : List (Option Nat), os.foldl (ThVal.op sum) none = none
  | [] => rfl
  | o :: os => by
    rw [List.foldl_cons]
    have e : ThVal.op sum none o = none := by cases o <;> rfl
    rw [e]
    exact foldl_none sum os
theorem jn_none (sum : Bool) : ∀ (os : List (Option Nat)) (a : Option Nat), none ∈ os → os.foldl (ThVal.op sum) a = none
  | [], _, h => by cases h
  | o :: os, a, h => by
    rw [List.foldl_cons]
    rcases List.mem_cons.1 h with e | h
    · subst e
      have e : ThVal.op sum a none = none := by cases a <;> rfl
      rw [e]
      exact foldl_none sum os
    · exact jn_none sum os _ h
theorem jn_sum : ∀ (ns : List Nat) (a : Nat), (ns.map some).foldl (ThVal.op true) (some a) = some (a + ns.sum)
  | [], a => rfl
  | n :: ns, a => by
    rw [List.map_cons, List.foldl_cons]
    show (ns.map some).foldl (ThVal.op true) (some (a + n)) = _
    rw [jn_sum ns, List.sum_cons, Nat.add_assoc]
theorem jn_max : ∀ (ns : List Nat) (a : Nat), (ns.map some).foldl (ThVal.op false) (some a) = some (ns.foldl max a)
  | [], a => rfl
  | n :: ns, a => by
    rw [List.map_cons, List.foldl_cons]
    show (ns.map some).foldl (ThVal.op false) (some (max a n)) = _
    rw [jn_max ns]
    rfl
theorem foldl_max_le : ∀ (ns : List Nat) (a b : Nat), a ≤ b → (∀ y, y ∈ ns → y ≤ b) → ns.foldl max a ≤ b
  | [], _, _, h, _ => h
  | n :: ns, a, b, h, g => foldl_max_le ns _ b (Nat.max_le.2 ⟨h, g n List.mem_cons_self⟩) fun y hy => g y (List.mem_cons_of_mem _ hy)
theorem le_foldl_max : ∀ (ns : List Nat) (a : Nat), a ≤ ns.foldl max a ∧ ∀ y, y ∈ ns → y ≤ ns.foldl max a
  | [], a => ⟨Nat.le_refl _, fun _ h => by cases h⟩
  | n :: ns, a => by
    obtain ⟨h1, h2⟩ := le_foldl_max ns (max a n)
    refine ⟨Nat.le_trans (Nat.le_max_left _ _) h1, fun y hy => ?_⟩
    rcases List.mem_cons.1 hy with e | hy
    · subst e; exact Nat.le_trans (Nat.le_max_right _ _) h1
    · exact h2 y hy
theorem all_some : ∀ os : List (Option Nat), ¬ none ∈ os → ∃ ns : List Nat, os = ns.map some
  | [], _ => ⟨[], rfl⟩
  | none :: os, h => absurd List.mem_cons_self h
  | some n :: os, h => by
    obtain ⟨ns, e⟩ := all_some os fun g => h (List.mem_cons_of_mem _ g)
    exact ⟨n :: ns, by rw [e]; rfl⟩
theorem inV_none : ∀ os : List (Option Nat), inV .non (os.map optV) = decide (none ∈ os)
  | [] => rfl
  | none :: os => by
    show (true || inV .non (os.map optV)) = _
    simp
  | some n :: os => by
    show (false || inV .non (os.map optV)) = _
    rw [inV_none os]
    simp
theorem flat_opt (os : List (Option Nat)) : (os.map optV).all flatV = true := by
  rw [List.all_eq_true]
  intro x hx
  obtain ⟨o, _, rfl⟩ := List.mem_map.1 hx
  cases o <;> rfl
theorem map_some_V (ns : List Nat) : (ns.map some).map optV = (ns.map fun n : Nat => (n : Int)).map V.int := by
  rw [List.map_map, List.map_map]
  rfl
theorem sum_cast : ∀ ns : List Nat, (ns.map fun n : Nat => (n : Int)).sum = ((ns.sum : Nat) : Int)
  | [] => rfl
  | n :: ns => by
    rw [List.map_cons, List.sum_cons, List.sum_cons, sum_cast ns]
    omega
theorem natsV_get {l : List Nat} {i : Nat} {x : V} (h : (natsV l)[i]? = some x) : ∃ f : Nat, l[i]? = some f ∧ x = V.int (f : Int) := by
  unfold natsV at h
  rw [List.getElem?_map] at h
  cases e : l[i]? with
  | none => rw [e] at h; cases h
  | some f => rw [e] at h; exact ⟨f, rfl, (Option.some.inj h).symm⟩
theorem opt_get {l : List (Option Nat)} {f : Nat} (h : f < l.length) : (l.map optV)[f]? = some (optV (Pn03.val l f)) := by
  rw [List.getElem?_map]
  unfold Pn03.val
  rw [List.getD_eq_getElem?_getD, List.getElem?_eq_getElem h]
  rfl
theorem tYes_of {σ : L2.St} {H : Hp} {f g : Hp → Prop} (h : f H) : tYes σ H (fun b H3 => if b = true then f H3 else g H3) := by
  show (if true = true then f H else g H)
  rw [if_pos rfl]
  exact h
theorem if_true_of {c : Bool} {A B : Prop} (hc : c = true) (h : A) : if c = true then A else B := by
  rw [if_pos hc]
  exact h
theorem if_false_of {c : Bool} {A B : Prop} (hc : c = false) (h : B) : if c = true then A else B := by
  rw [hc, if_neg Bool.false_ne_true]
  exact h
theorem take_more {α : Type} {l : List α} {i : Nat} {x : α} (h : l[i]? = some x) : l.take (i + 1) = l.take i ++ [x] := by
  rw [List.take_add_one, h]
  rfl
abbrev sDearest : Stmt := top 14
abbrev sTogether : Stmt := top 15
section
variable {P : Program} {w : World} {K : PySem.W.Frag} {mg : Str → Option Value} {base : Heap}
def spRow (K : PySem.W.Frag) (sum : Bool) : Sp := fun vs H Q _ => ∃ (a : Addr) (n m : Nat) (l : List (Option Nat)), vs = [.ref a, .int m] ∧ SqL K H a (l.map optV) ∧ l.length = n ∧ m < 2 ^ n ∧ n ≤ 10 ∧
  ∀ H' : Hp, Same H H' → Q (optV (ThVal.joinF sum (Pn03.val l) (Pn03.facts n m))) H'
theorem scDearest : FnScope ["worths", "row", "prices", "fact"] ["worths", "row"] (defScope sDearest) := ⟨rfl, rfl, rfl, by decide +kernel, rfl, by decide +kernel, by decide +kernel⟩
theorem ok_dearest {f fM : Addr} {fd fdM : FuncData} (F : Fun K "dearest_of" "dearest_of" sDearest f fd) (FM : Fun K "members" "members" sMembers fM fdM) (mM : mg "members" = some (.ref fM)) (bM : Binds K fdM ["row"] []) (mR : mg "range" = none) (mX : mg "max" = none) :
    FnOk P w K mg base CX0 2 f fd ["worths", "row"] (spRow K false) := by
  have GM : FnOk P w K mg base CX0 1 fM fdM ["row"] spMembers := ok_members FM mR
  refine F.ok scDearest (fun vs H Q E h => ?_) (fun cdv A outer s H vs Q E hr h => ?_)
  · obtain ⟨a, n, m, l, rfl, _⟩ := h
    rfl
  · obtain ⟨a, n, m, l, rfl, hS, hl, hm, hn, k⟩ := h
    refine ⟨_, pss_cons (ps_setLc (i := 2) (own := [("fact", 3)]) (g := gName 3) (tt := tYes) (te := tOp (rIxL K) (tVar 0) (tVar 3)) rfl scDearest.nd rfl rfl (sw_true rfl rfl rfl (by decide +kernel)) (pi_list (pe_call GM hr rfl mM FM.kp bM .nil pass0 (pa_cons (pv 1) pa_nil)))
        (blkOk_by (N := ["worths", "row", "prices", "fact"]) (sc := defScope sDearest) (by decide +kernel)) (fun _ _ _ _ _ => pg_name (i := 3) scDearest.nd rfl (Or.inl rfl)) (fun _ _ _ _ _ => pts_nil) (fun _ _ _ _ _ => pe_ix ix_list (pv 0) (pv 3) (fun _ _ => rfl)))
      (pss_cons (ps_if (pt_cmpR op_in_seq pe_non (pv 2) (by rfl)) (pss_one (ps_ret pe_non)) pss_nil)
      (pss_one (ps_ret (pe_callBK (cr_maxD rfl (hu_of hr)) rfl mX (by decide +kernel) (pa_cons (pv 2) pa_nil) (pk_cons pe_int pk_nil))))), ?_⟩
    refine ⟨_, rfl, n, m, rfl, hm, hn, fun H1 p s1 np hp => ⟨p, rfl, ⟨_, SqL.of hp⟩, fun D hD => ?_⟩⟩
    have pD : p ≠ D := ne_of_none hp hD
    refine lc_list (K := K) (a := p) (xs := natsV (Pn03.facts n m)) (fun i H' => H' = upd H1 D (.lst (((Pn03.facts n m).take i).map fun f => optV (Pn03.val l f)))) rfl (fun i H' _ hP => ?_) (fun i x H' hi hP => ?_) (fun H' hP => ?_)
    · rw [hP]
      exact SqL.of (by rw [upd_ne pD]; exact hp)
    · subst hP
      obtain ⟨f0, hf, rfl⟩ := natsV_get hi
      have hfn : f0 < l.length := by
        have := (ThVal.mem_facts.1 (List.mem_of_getElem? hf)).1
        omega
      refine ⟨rfl, tYes_of ?_⟩
      refine ⟨_, rfl, _, rfl, a, _, _, _, rfl, rfl, (s1.trans (same_new hD)).seq hS, atI_nat (opt_get hfn), _, upd_same, ?_, ?_⟩
      · have := facts_length n m
        rw [List.length_map, List.length_take]
        exact small1000 (by omega)
      · rw [upd_upd, take_more hf, List.map_append]
        rfl
    · subst hP
      have sE : Same H (upd H1 D (.lst (((Pn03.facts n m).map (Pn03.val l)).map optV))) := s1.trans (same_new hD)
      have eL : natsV (Pn03.facts n m) = natsV (Pn03.facts n m) := rfl
      have e1 : ((Pn03.facts n m).take (natsV (Pn03.facts n m)).length).map (fun f => optV (Pn03.val l f)) = ((Pn03.facts n m).map (Pn03.val l)).map optV := by
        unfold natsV
        rw [List.length_map, List.take_length, List.map_map]
        rfl
      rw [e1]
      rw [joinF_jn] at k
      generalize (Pn03.facts n m).map (Pn03.val l) = os at k sE
      refine ⟨_, rfl, D, _, rfl, .inl (SqL.of upd_same), rfl, flat_opt os, _, rfl, ?_⟩
      show if inV .non (os.map optV) = true then _ else _
      rw [inV_none]
      by_cases c : none ∈ os
      · refine if_true_of (decide_eq_true c) ?_
        have := k _ sE
        unfold jn at this
        rw [jn_none false os _ c] at this
        exact this
      · refine if_false_of (decide_eq_false c) ?_
        obtain ⟨ns, rfl⟩ := all_some os c
        refine ⟨_, rfl, D, ns.map (fun n : Nat => (n : Int)), 0, rfl, rfl, SqL.of (by rw [map_some_V]; exact upd_same), fun e => ?_, fun x hx hy => ?_⟩
        · have := k _ sE
          have e' : ns = [] := List.map_eq_nil_iff.1 e
          subst e'
          exact this
        · have := k _ sE
          unfold jn at this
          rw [jn_max] at this
          obtain ⟨q, hq, rfl⟩ := List.mem_map.1 hx
          have em : ns.foldl max 0 = q := by
            refine Nat.le_antisymm (foldl_max_le ns 0 q (Nat.zero_le _) fun y hyn => ?_) ((le_foldl_max ns 0).2 q hq)
            have := hy _ (List.mem_map_of_mem (f := fun n : Nat => (n : Int)) hyn)
            omega
          rw [em] at this
          exact this
theorem scTogether : FnScope ["worths", "row", "prices", "fact"] ["worths", "row"] (defScope sTogether) := ⟨rfl, rfl, rfl, by decide +kernel, rfl, by decide +kernel, by decide +kernel⟩
theorem ok_together {f fM : Addr} {fd fdM : FuncData} (F : Fun K "together_of" "together_of" sTogether f fd) (FM : Fun K "members" "members" sMembers fM fdM) (mM : mg "members" = some (.ref fM)) (bM : Binds K fdM ["row"] []) (mR : mg "range" = none) (mX : mg "sum" = none) :
    FnOk P w K mg base CX0 2 f fd ["worths", "row"] (spRow K true) := by
  have GM : FnOk P w K mg base CX0 1 fM fdM ["row"] spMembers := ok_members FM mR
  refine F.ok scTogether (fun vs H Q E h => ?_) (fun cdv A outer s H vs Q E hr h => ?_)
  · obtain ⟨a, n, m, l, rfl, _⟩ := h
    rfl
  · obtain ⟨a, n, m, l, rfl, hS, hl, hm, hn, k⟩ := h
    refine ⟨_, pss_cons (ps_setLc (i := 2) (own := [("fact", 3)]) (g := gName 3) (tt := tYes) (te := tOp (rIxL K) (tVar 0) (tVar 3)) rfl scTogether.nd rfl rfl (sw_true rfl rfl rfl (by decide +kernel)) (pi_list (pe_call GM hr rfl mM FM.kp bM .nil pass0 (pa_cons (pv 1) pa_nil)))
        (blkOk_by (N := ["worths", "row", "prices", "fact"]) (sc := defScope sTogether) (by decide +kernel)) (fun _ _ _ _ _ => pg_name (i := 3) scTogether.nd rfl (Or.inl rfl)) (fun _ _ _ _ _ => pts_nil) (fun _ _ _ _ _ => pe_ix ix_list (pv 0) (pv 3) (fun _ _ => rfl)))
      (pss_cons (ps_if (pt_cmpR op_in_seq pe_non (pv 2) (by rfl)) (pss_one (ps_ret pe_non)) pss_nil)
      (pss_one (ps_ret (pe_callB (cr_sum rfl) rfl mX (by decide +kernel) (pa_cons (pv 2) pa_nil))))), ?_⟩
    refine ⟨_, rfl, n, m, rfl, hm, hn, fun H1 p s1 np hp => ⟨p, rfl, ⟨_, SqL.of hp⟩, fun D hD => ?_⟩⟩
    have pD : p ≠ D := ne_of_none hp hD
    refine lc_list (K := K) (a := p) (xs := natsV (Pn03.facts n m)) (fun i H' => H' = upd H1 D (.lst (((Pn03.facts n m).take i).map fun f => optV (Pn03.val l f)))) rfl (fun i H' _ hP => ?_) (fun i x H' hi hP => ?_) (fun H' hP => ?_)
    · rw [hP]
      exact SqL.of (by rw [upd_ne pD]; exact hp)
    · subst hP
      obtain ⟨f0, hf, rfl⟩ := natsV_get hi
      have hfn : f0 < l.length := by
        have := (ThVal.mem_facts.1 (List.mem_of_getElem? hf)).1
        omega
      refine ⟨rfl, tYes_of ?_⟩
      refine ⟨_, rfl, _, rfl, a, _, _, _, rfl, rfl, (s1.trans (same_new hD)).seq hS, atI_nat (opt_get hfn), _, upd_same, ?_, ?_⟩
      · have := facts_length n m
        rw [List.length_map, List.length_take]
        exact small1000 (by omega)
      · rw [upd_upd, take_more hf, List.map_append]
        rfl
    · subst hP
      have sE : Same H (upd H1 D (.lst (((Pn03.facts n m).map (Pn03.val l)).map optV))) := s1.trans (same_new hD)
      have eL : natsV (Pn03.facts n m) = natsV (Pn03.facts n m) := rfl
      have e1 : ((Pn03.facts n m).take (natsV (Pn03.facts n m)).length).map (fun f => optV (Pn03.val l f)) = ((Pn03.facts n m).map (Pn03.val l)).map optV := by
        unfold natsV
        rw [List.length_map, List.take_length, List.map_map]
        rfl
      rw [e1]
      rw [joinF_jn] at k
      generalize (Pn03.facts n m).map (Pn03.val l) = os at k sE
      refine ⟨_, rfl, D, _, rfl, .inl (SqL.of upd_same), rfl, flat_opt os, _, rfl, ?_⟩
      show if inV .non (os.map optV) = true then _ else _
      rw [inV_none]
      by_cases c : none ∈ os
      · refine if_true_of (decide_eq_true c) ?_
        have := k _ sE
        unfold jn at this
        rw [jn_none true os _ c] at this
        exact this
      · refine if_false_of (decide_eq_false c) ?_
        obtain ⟨ns, rfl⟩ := all_some os c
        refine ⟨_, rfl, D, ns.map (fun n : Nat => (n : Int)), rfl, SqL.of (by rw [map_some_V]; exact upd_same), ?_⟩
        have := k _ sE
        unfold jn at this
        rw [jn_sum, Nat.zero_add] at this
        rw [sum_cast]
        exact this
end
end My

set_option Elab.async false
set_option maxRecDepth 100000
set_option maxHeartbeats 4000000
namespace My
open PySem PySem.Spec PyProof.Rows L2
/-! ## the house on the heap -/
theorem lk_here {k : Str} {v : V} {r : List (Str × V)} : List.lookup k ((k, v) :: r) = some v := by
  have e : (k == k) = true := beq_self_eq_true k
  simp only [List.lookup, e]
theorem lk_past {k g : Str} {v : V} {r : List (Str × V)} (h : (k == g) = false) : List.lookup k ((g, v) :: r) = List.lookup k r := by
  simp only [List.lookup, h]
theorem put_here {f : Str} {v x : V} {r : List (Str × V)} : putF f v ((f, x) :: r) = (f, v) :: r := if_pos rfl
theorem put_past {f g : Str} {v x : V} {r : List (Str × V)} (h : ¬ g = f) : putF f v ((g, x) :: r) = (g, x) :: putF f v r := if_neg h
def aF (a : Pn.Act) : List (Str × V) := [("needs", .int a.pre), ("brings", .int a.add), ("takes", .int a.del), ("cost", .int a.cost)]
theorem aF_needs (a : Pn.Act) : (aF a).lookup ("needs" : Str) = some (V.int a.pre) := lk_here
theorem aF_brings (a : Pn.Act) : (aF a).lookup ("brings" : Str) = some (V.int a.add) := (lk_past (by decide +kernel)).trans lk_here
theorem aF_takes (a : Pn.Act) : (aF a).lookup ("takes" : Str) = some (V.int a.del) := (lk_past (by decide +kernel)).trans ((lk_past (by decide +kernel)).trans lk_here)
theorem aF_cost (a : Pn.Act) : (aF a).lookup ("cost" : Str) = some (V.int a.cost) := (lk_past (by decide +kernel)).trans ((lk_past (by decide +kernel)).trans ((lk_past (by decide +kernel)).trans lk_here))
def hF (n g : Nat) (la : Addr) : List (Str × V) := [("facts", .int n), ("wanted", .int g), ("acts", .ref la)]
theorem hF_facts (n g : Nat) (la : Addr) : (hF n g la).lookup ("facts" : Str) = some (V.int n) := lk_here
theorem hF_wanted (n g : Nat) (la : Addr) : (hF n g la).lookup ("wanted" : Str) = some (V.int g) := (lk_past (by decide +kernel)).trans lk_here
theorem hF_acts (n g : Nat) (la : Addr) : (hF n g la).lookup ("acts" : Str) = some (V.ref la) := (lk_past (by decide +kernel)).trans ((lk_past (by decide +kernel)).trans lk_here)
theorem hF_no (n g : Nat) (la : Addr) {m : Str} (h1 : (m == "facts") = false) (h2 : (m == "wanted") = false) (h3 : (m == "acts") = false) : (hF n g la).lookup m = none :=
  (lk_past h1).trans ((lk_past h2).trans ((lk_past h3).trans rfl))
theorem hF_putFacts (n n' g : Nat) (la : Addr) : putF "facts" (.int n') (hF n g la) = hF n' g la := put_here
theorem hF_putWanted (n g g' : Nat) (la : Addr) : putF "wanted" (.int g') (hF n g la) = hF n g' la := (put_past (by decide +kernel)).trans (congrArg _ put_here)
theorem hF_putActs (n g : Nat) (la lb : Addr) : putF "acts" (.ref lb) (hF n g la) = hF n g lb := (put_past (by decide +kernel)).trans (congrArg _ ((put_past (by decide +kernel)).trans (congrArg _ put_here)))
/-- an act's object, new since H0 -/
def ActAt (CA : Addr) (H0 H : Hp) (x : Addr) (a : Pn.Act) : Prop := H0 x = none ∧ ∃ dx, H x = some (.ins CA dx (aF a))
inductive ActsAt (CA : Addr) (H0 H : Hp) : List Addr → List Pn.Act → Prop
  | nil : ActsAt CA H0 H [] []
  | cons {x : Addr} {a : Pn.Act} {xs : List Addr} {as : List Pn.Act} : ActAt CA H0 H x a → ActsAt CA H0 H xs as → ActsAt CA H0 H (x :: xs) (a :: as)
theorem ActsAt.length {CA : Addr} {H0 H : Hp} {xs : List Addr} {as : List Pn.Act} (h : ActsAt CA H0 H xs as) : xs.length = as.length := by
  induction h with
  | nil => rfl
  | cons _ _ ih => rw [List.length_cons, List.length_cons, ih]
theorem ActsAt.get {CA : Addr} {H0 H : Hp} {xs : List Addr} {as : List Pn.Act} (h : ActsAt CA H0 H xs as) : ∀ {i : Nat} {x : Addr}, xs[i]? = some x → ∃ a, as[i]? = some a ∧ ActAt CA H0 H x a := by
  induction h with
  | nil => intro i x h; simp at h
  | cons ha _ ih =>
    intro i x h
    cases i with
    | zero => cases h; exact ⟨_, rfl, ha⟩
    | succ i => exact ih h
theorem ActsAt.snoc {CA : Addr} {H0 H : Hp} {xs : List Addr} {as : List Pn.Act} {x : Addr} {a : Pn.Act} (h : ActsAt CA H0 H xs as) (ha : ActAt CA H0 H x a) : ActsAt CA H0 H (xs ++ [x]) (as ++ [a]) := by
  induction h with
  | nil => exact .cons ha .nil
  | cons hb _ ih => exact .cons hb ih
/-- the acts stand while no instance is changed -/
theorem ActsAt.keep {CA : Addr} {H0 H0' H H' : Hp} {xs : List Addr} {as : List Pn.Act} (h : ActsAt CA H0 H xs as) (k : ∀ x a, ActAt CA H0 H x a → ActAt CA H0' H' x a) : ActsAt CA H0' H' xs as := by
  induction h with
  | nil => exact .nil
  | cons ha _ ih => exact .cons (k _ _ ha) ih
/-- a task as the program may hold it -/
structure Well (t : Pn.Task) : Prop where
  f1 : 1 ≤ t.facts
  f8 : t.facts ≤ 8
  gl : t.goal < 2 ^ t.facts
  ac : t.acts.length ≤ 12
  st : t.start = 0
  ok : ∀ a, a ∈ t.acts → a.pre < 2 ^ t.facts ∧ a.no = 0 ∧ a.add < 2 ^ t.facts ∧ a.del < 2 ^ t.facts ∧ 1 ≤ a.cost ∧ a.cost ≤ 1000
/-- since H0, all of which stands, a house has come to stand at p -/
def HouseAt (C CA : Addr) (H0 H : Hp) (p : Addr) (t : Pn.Task) : Prop := Same H0 H ∧ H0 p = none ∧ Well t ∧
  ∃ (dx la : Addr) (xs : List Addr), H0 la = none ∧ H p = some (.ins C dx (hF t.facts t.goal la)) ∧ H la = some (.lst (xs.map V.ref)) ∧ ActsAt CA H0 H xs t.acts
/-- what the top has written -/
structure Txt (K : PySem.W.Frag) (mg : Str → Option Value) (C CA : Addr) : Prop where
  cl : Cls K C
  nF : NoAttr K C "facts"
  nW : NoAttr K C "wanted"
  nA : NoAttr K C "acts"
  clA : Cls K CA
  nNeeds : NoAttr K CA "needs"
  nBrings : NoAttr K CA "brings"
  nTakes : NoAttr K CA "takes"
  nCost : NoAttr K CA "cost"
  mgC : mg "House" = some (.ref C)
  mgA : mg "Act" = some (.ref CA)
  wrong : ∃ t, mg "WRONG" = some (.int (-1) t)
  full : ∃ t, mg "FULL" = some (.int (-7) t)
  had : ∃ t, mg "CANNOT_BE_HAD" = some (.int (-6) t)
  mFacts : ∃ t, mg "MOST_FACTS" = some (.int 8 t)
  mActs : ∃ t, mg "MOST_ACTS" = some (.int 12 t)
  mCost : ∃ t, mg "MOST_COST" = some (.int 1000 t)
  five : ∃ t, mg "NUMBERS_OF_AN_ACT" = some (.int 5 t)
  len : mg "len" = none
abbrev sActInit : Stmt := inClass (top 8) 0
abbrev sHouseInit : Stmt := inClass (top 9) 0
abbrev sBegins : Stmt := inClass (top 9) 1
abbrev sAct : Stmt := inClass (top 9) 2
abbrev sGoal : Stmt := inClass (top 9) 3
abbrev sIsSet : Stmt := top 10
abbrev sIsAct : Stmt := top 11
section
variable {P : Program} {w : World} {K : PySem.W.Frag} {mg : Str → Option Value} {base : Heap} {C CA : Addr}
/-! ### is_set_of -/
def spIsSet : Sp := fun vs H Q _ => ∃ n m : Nat, vs = [.int n, .int m] ∧ n ≤ 8 ∧ Q (.bl (decide (m < 2 ^ n))) H
theorem scIsSet : FnScope ["facts", "number"] ["facts", "number"] (defScope sIsSet) := ⟨rfl, rfl, rfl, by decide +kernel, rfl, by decide +kernel, by decide +kernel⟩
theorem ok_isSet {f : Addr} {fd : FuncData} (F : Fun K "is_set_of" "is_set_of" sIsSet f fd) : FnOk P w K mg base CX0 1 f fd ["facts", "number"] spIsSet := by
  refine F.ok scIsSet (fun vs H Q E h => ?_) (fun cdv A outer s H vs Q E hr h => ?_)
  · obtain ⟨n, m, rfl, _⟩ := h
    rfl
  · obtain ⟨n, m, rfl, hn, k⟩ := h
    refine ⟨_, pss_one (ps_ret (pe_cmpR op_lt (pv 1) (pe_op op_shl pe_int (pv 0)) (nomark _))), ?_⟩
    refine ⟨_, rfl, _, rfl, _, _, rfl, rfl, ⟨by omega, by omega, by decide⟩, _, _, rfl, rfl, ?_⟩
    have e : decide ((m : Int) < 1 * 2 ^ (n : Int).toNat) = decide (m < 2 ^ n) := by
      rw [Int.toNat_natCast, Int.one_mul]
      have : ((2 : Int) ^ n) = ((2 ^ n : Nat) : Int) := by norm_cast
      rw [this]
      exact decide_eq_decide.2 (by omega)
    show Q (.bl (decide ((m : Int) < 1 * 2 ^ (n : Int).toNat))) _
    rw [e]
    exact k
/-! ### is_act -/
def isAct (n : Nat) (r : List Int) : Bool := match r with
  | [p, q, a, d, c] => decide (q = 0) && (decide (1 ≤ c) && decide (c ≤ 1000)) && (decide (p.toNat < 2 ^ n) && (decide (a.toNat < 2 ^ n) && decide (d.toNat < 2 ^ n)))
  | _ => false
def spIsAct (K : PySem.W.Frag) : Sp := fun vs H Q _ => ∃ (n : Nat) (a : Addr) (r : List Int), vs = [.int n, .ref a] ∧ n ≤ 8 ∧ SqL K H a (r.map V.int) ∧ (∀ z, z ∈ r → 0 ≤ z) ∧ Q (.bl (isAct n r)) H
theorem scIsAct : FnScope ["facts", "told"] ["facts", "told"] (defScope sIsAct) := ⟨rfl, rfl, rfl, by decide +kernel, rfl, by decide +kernel, by decide +kernel⟩
theorem ok_isAct {f fS : Addr} {fd fdS : FuncData} (F : Fun K "is_act" "is_act" sIsAct f fd) (T : Txt K mg C CA) (FS : Fun K "is_set_of" "is_set_of" sIsSet fS fdS) (mS : mg "is_set_of" = some (.ref fS)) (bS : Binds K fdS ["facts", "number"] []) :
    FnOk P w K mg base CX0 2 f fd ["facts", "told"] (spIsAct K) := by
  have GS : FnOk P w K mg base CX0 1 fS fdS ["facts", "number"] spIsSet := ok_isSet FS
  obtain ⟨t5, five⟩ := T.five
  obtain ⟨tc, mCost⟩ := T.mCost
  refine F.ok scIsAct (fun vs H Q E h => ?_) (fun cdv A outer s H vs Q E hr h => ?_)
  · obtain ⟨n, a, r, rfl, _⟩ := h
    rfl
  · obtain ⟨n, a, r, rfl, hn, hS, hz, k⟩ := h
    refine ⟨_, pss_cons (ps_if (pt_cmpR op_ne (pe_callB call_len_seq (by rfl) T.len PySem.boot_len (pa_cons (pv 1) pa_nil)) (pe_glob (v := .int 5) rfl five ⟨_, rfl⟩) (nomark _)) (pss_one (ps_ret pe_bl)) pss_nil)
      (pss_cons (ps_if (pt_cmpR op_ne (pe_ix ix_list (pv 1) pe_int (fun _ _ => rfl)) pe_int (nomark _)) (pss_one (ps_ret pe_bl)) pss_nil)
      (pss_cons (ps_if (pt_not (pt_chain op_le op_le pe_int (pe_ix ix_list (pv 1) pe_int (fun _ _ => rfl)) (pe_glob (v := .int 1000) rfl mCost ⟨_, rfl⟩))) (pss_one (ps_ret pe_bl)) pss_nil)
      (pss_one (ps_ret (pe_and (pe_call GS hr rfl mS FS.kp bS .nil pass0 (pa_cons (pv 0) (pa_cons (pe_ix ix_list (pv 1) pe_int (fun _ _ => rfl)) pa_nil)))
        (pe_and (pe_call GS hr rfl mS FS.kp bS .nil pass0 (pa_cons (pv 0) (pa_cons (pe_ix ix_list (pv 1) pe_int (fun _ _ => rfl)) pa_nil)))
        (pe_one (pe_call GS hr rfl mS FS.kp bS .nil pass0 (pa_cons (pv 0) (pa_cons (pe_ix ix_list (pv 1) pe_int (fun _ _ => rfl)) pa_nil)))))))))), ?_⟩
    refine ⟨_, rfl, a, _, rfl, .inl hS, rfl, _, rfl, ?_⟩
    refine ite2 (fun c => ?_) (fun c => ?_)
    · have hlen : r.length ≠ 5 := fun e => by
        rw [List.length_map, e] at c
        exact absurd c (by decide)
      have e : isAct n r = false := by
        unfold isAct
        split
        · exact absurd rfl hlen
        · rfl
      rw [e] at k
      exact k
    · have hlen : r.length = 5 := Classical.byContradiction fun e => by
        apply c
        rw [List.length_map]
        simp
        omega
      match r, hlen with
      | [x0, x1, x2, x3, x4], _ =>
      have h0 : 0 ≤ x0 := hz _ (by simp)
      have h2 : 0 ≤ x2 := hz _ (by simp)
      have h3 : 0 ≤ x3 := hz _ (by simp)
      obtain ⟨n0, rfl⟩ := Int.eq_ofNat_of_zero_le h0
      obtain ⟨n2, rfl⟩ := Int.eq_ofNat_of_zero_le h2
      obtain ⟨n3, rfl⟩ := Int.eq_ofNat_of_zero_le h3
      refine ⟨_, rfl, a, _, _, _, rfl, rfl, hS, atI_nat (j := 1) rfl, rfl, _, rfl, ?_⟩
      refine ite2 (fun c => ?_) (fun c => ?_)
      · have hq : x1 ≠ 0 := fun e => by
          subst e
          exact absurd c (by decide)
        have e : isAct n [(n0 : Int), x1, n2, n3, x4] = false := by
          unfold isAct
          simp [hq]
        rw [e] at k
        exact k
      · have hq : x1 = 0 := Classical.byContradiction fun e => c (by simpa using e)
        subst hq
        refine ⟨_, rfl, a, _, _, _, rfl, rfl, hS, atI_nat (j := 4) rfl, _, _, rfl, rfl, _, rfl, ?_⟩
        refine ite2 (fun c1 => ?_) (fun c1 => ?_)
        · have c1 := of_decide_eq_true c1
          refine ⟨_, _, rfl, rfl, _, rfl, ?_⟩
          refine ite2 (fun c2 => ?_) (fun c2 => ?_)
          · have c2 : ¬ x4 ≤ 1000 := by simpa using c2
            have e : isAct n [(n0 : Int), 0, n2, n3, x4] = false := by
              unfold isAct
              simp [c2]
            rw [e] at k
            exact k
          · have c2 : x4 ≤ 1000 := by simpa using c2
            have e : isAct n [(n0 : Int), 0, n2, n3, x4] = (decide (n0 < 2 ^ n) && (decide (n2 < 2 ^ n) && decide (n3 < 2 ^ n))) := by
              unfold isAct
              simp [c1, c2]
            rw [e] at k
            refine ⟨_, rfl, _, rfl, a, _, _, _, rfl, rfl, hS, atI_nat (j := 0) rfl, n, n0, rfl, hn, _, rfl, ?_⟩
            refine ite2 (fun d0 => ?_) (fun d0 => ?_)
            · rw [d0, Bool.true_and] at k
              refine ⟨_, rfl, _, rfl, a, _, _, _, rfl, rfl, hS, atI_nat (j := 2) rfl, n, n2, rfl, hn, _, rfl, ?_⟩
              refine ite2 (fun d2 => ?_) (fun d2 => ?_)
              · rw [d2, Bool.true_and] at k
                exact ⟨_, rfl, _, rfl, a, _, _, _, rfl, rfl, hS, atI_nat (j := 3) rfl, n, n3, rfl, hn, k⟩
              · rw [show decide (n2 < 2 ^ n) = false by simpa using d2, Bool.false_and] at k
                exact k
            · rw [show decide (n0 < 2 ^ n) = false by simpa using d0, Bool.false_and] at k
              exact k
        · have c1 : ¬ 1 ≤ x4 := by simpa using c1
          have e : isAct n [(n0 : Int), 0, n2, n3, x4] = false := by
            unfold isAct
            simp [c1]
          rw [e] at k
          exact ⟨_, rfl, iteT k⟩
end
end My

set_option Elab.async false
set_option maxRecDepth 100000
set_option maxHeartbeats 4000000
namespace My
open PySem PySem.Spec PyProof.Rows L2
theorem putF_len (f : Str) (v : V) : ∀ fs : List (Str × V), (putF f v fs).length ≤ fs.length + 1
  | [] => Nat.le_refl _
  | (g, x) :: r => by
    by_cases c : g = f
    · subst c
      rw [put_here, List.length_cons, List.length_cons]
      omega
    · rw [put_past c, List.length_cons, List.length_cons]
      have := putF_len f v r
      omega
theorem putF_few {f : Str} {v : V} {fs : List (Str × V)} (h : fs.length < 999) : (putF f v fs).length < 1000 := by
  have := putF_len f v fs
  omega
theorem aF_new (n b d c : Nat) : putF "cost" (.int c) (putF "takes" (.int d) (putF "brings" (.int b) (putF "needs" (.int n) []))) = aF ⟨n, 0, b, d, c⟩ := by
  have e1 : putF "needs" (.int n) [] = [(("needs" : Str), V.int n)] := rfl
  have e2 : putF "brings" (.int b) [(("needs" : Str), V.int n)] = [(("needs" : Str), V.int n), (("brings" : Str), V.int b)] := put_past (by decide +kernel)
  have e3 : putF "takes" (.int d) [(("needs" : Str), V.int n), (("brings" : Str), V.int b)] = [(("needs" : Str), V.int n), (("brings" : Str), V.int b), (("takes" : Str), V.int d)] := (put_past (by decide +kernel)).trans (congrArg _ (put_past (by decide +kernel)))
  rw [e1, e2, e3]
  exact (put_past (by decide +kernel)).trans (congrArg _ ((put_past (by decide +kernel)).trans (congrArg _ (put_past (by decide +kernel)))))
theorem hF_new (n g : Nat) (la : Addr) : putF "acts" (.ref la) (putF "wanted" (.int g) (putF "facts" (.int n) [])) = hF n g la := by
  have e1 : putF "facts" (.int n) [] = [(("facts" : Str), V.int n)] := rfl
  have e2 : putF "wanted" (.int g) [(("facts" : Str), V.int n)] = [(("facts" : Str), V.int n), (("wanted" : Str), V.int g)] := put_past (by decide +kernel)
  rw [e1, e2]
  exact (put_past (by decide +kernel)).trans (congrArg _ (put_past (by decide +kernel)))
theorem aF_hF (a : Pn.Act) (n g : Nat) (la : Addr) : aF a ≠ hF n g la := fun e => by
  have h := aF_needs a
  rw [e, hF_no n g la (by decide +kernel) (by decide +kernel) (by decide +kernel)] at h
  cases h
theorem isAct_true {n : Nat} {r : List Int} (hz : ∀ z, z ∈ r → 0 ≤ z) (h : isAct n r = true) : ∃ a : Pn.Act, r = [(a.pre : Int), 0, a.add, a.del, a.cost] ∧ a.no = 0 ∧ Pn.act? n (Pn03Neutral.nats r) = some a ∧ a.pre < 2 ^ n ∧ a.add < 2 ^ n ∧ a.del < 2 ^ n ∧ 1 ≤ a.cost ∧ a.cost ≤ 1000 := by
  unfold isAct at h
  split at h
  · rename_i p q a d c
    simp only [Bool.and_eq_true, decide_eq_true_eq] at h
    obtain ⟨⟨h1, h2, h3⟩, h4, h5, h6⟩ := h
    have z0 : 0 ≤ p := hz _ (by simp)
    have z2 : 0 ≤ a := hz _ (by simp)
    have z3 : 0 ≤ d := hz _ (by simp)
    have z4 : 0 ≤ c := hz _ (by simp)
    subst h1
    refine ⟨⟨p.toNat, 0, a.toNat, d.toNat, c.toNat⟩, ?_, rfl, ?_, h4, h5, h6, by show 1 ≤ c.toNat; omega, by show c.toNat ≤ 1000; omega⟩
    · show [p, 0, a, d, c] = [((p.toNat : Nat) : Int), 0, ((a.toNat : Nat) : Int), ((d.toNat : Nat) : Int), ((c.toNat : Nat) : Int)]
      rw [Int.toNat_of_nonneg z0, Int.toNat_of_nonneg z2, Int.toNat_of_nonneg z3, Int.toNat_of_nonneg z4]
    · show (if (Pn.Act.right ⟨p.toNat, (0 : Int).toNat, a.toNat, d.toNat, c.toNat⟩ n) = true then some (Pn.Act.mk p.toNat (0 : Int).toNat a.toNat d.toNat c.toNat) else none) = _
      refine if_pos ?_
      unfold Pn.Act.right
      simp only [Bool.and_eq_true, decide_eq_true_eq]
      exact ⟨h4, Nat.two_pow_pos n, h5, h6, by omega, by show c.toNat ≤ 1000; omega⟩
  · cases h
theorem isAct_false {n : Nat} {r : List Int} (hz : ∀ z, z ∈ r → 0 ≤ z) (h : isAct n r = false) : Pn.act? n (Pn03Neutral.nats r) = none ∨ ∃ a : Pn.Act, Pn.act? n (Pn03Neutral.nats r) = some a ∧ a.no ≠ 0 := by
  unfold isAct at h
  split at h
  · rename_i p q a d c
    have z1 : 0 ≤ q := hz _ (by simp)
    have e : Pn.act? n (Pn03Neutral.nats [p, q, a, d, c]) = (if (Pn.Act.right ⟨p.toNat, q.toNat, a.toNat, d.toNat, c.toNat⟩ n) = true then some (Pn.Act.mk p.toNat q.toNat a.toNat d.toNat c.toNat) else none) := rfl
    rw [e]
    by_cases g : Pn.Act.right ⟨p.toNat, q.toNat, a.toNat, d.toNat, c.toNat⟩ n = true
    · rw [if_pos g]
      refine .inr ⟨_, rfl, fun (e : q.toNat = 0) => ?_⟩
      have e' : q = 0 := by omega
      unfold Pn.Act.right at g
      simp only [Bool.and_eq_true, decide_eq_true_eq] at g
      obtain ⟨g1, g2, g3, g4, g5, g6⟩ := g
      have g6' : c.toNat ≤ 1000 := g6
      have : (decide (q = 0) && (decide (1 ≤ c) && decide (c ≤ 1000)) && (decide (p.toNat < 2 ^ n) && (decide (a.toNat < 2 ^ n) && decide (d.toNat < 2 ^ n)))) = true := by
        simp only [Bool.and_eq_true, decide_eq_true_eq]
        exact ⟨⟨e', by omega, by omega⟩, g1, g3, g4⟩
      rw [h] at this
      cases this
    · rw [if_neg g]; exact .inl rfl
  · rename_i hne
    refine .inl ?_
    match r, hne with
    | [], _ => rfl
    | [_], _ => rfl
    | [_, _], _ => rfl
    | [_, _, _], _ => rfl
    | [_, _, _, _], _ => rfl
    | [p, q, a, d, c], hne => exact absurd rfl (hne p q a d c)
    | _ :: _ :: _ :: _ :: _ :: _ :: _, _ => rfl
section
variable {P : Program} {w : World} {K : PySem.W.Frag} {mg : Str → Option Value} {base : Heap} {C CA : Addr}
/-! ### Act.__init__ -/
def spActInit (CA : Addr) : Sp := fun vs H Q _ => ∃ (p dx : Addr) (a : Pn.Act), vs = [.ref p, .int a.pre, .int a.add, .int a.del, .int a.cost] ∧ H p = some (.ins CA dx []) ∧
  ∀ H' : Hp, H' p = some (.ins CA dx (aF a)) → (∀ b, b ≠ p → H' b = H b) → Q .non H'
theorem scActInit : FnScope ["self", "needs", "brings", "takes", "cost"] ["self", "needs", "brings", "takes", "cost"] (defScope sActInit) := ⟨rfl, rfl, rfl, by decide +kernel, rfl, by decide +kernel, by decide +kernel⟩
theorem ok_actInit {f : Addr} {fd : FuncData} (F : Fun K "__init__" "Act.__init__" sActInit f fd) (T : Txt K mg C CA) : FnOk P w K mg base CX0 1 f fd ["self", "needs", "brings", "takes", "cost"] (spActInit CA) := by
  refine F.ok scActInit (fun vs H Q E h => ?_) (fun cdv A outer s H vs Q E hr h => ?_)
  · obtain ⟨p, dx, a, rfl, _⟩ := h
    rfl
  · obtain ⟨p, dx, a, rfl, hp, k⟩ := h
    refine ⟨_, pss_cons (ps_fld (pv 0) (pv 1) rfl) (pss_cons (ps_fld (pv 0) (pv 2) rfl) (pss_cons (ps_fld (pv 0) (pv 3) rfl) (pss_one (ps_fld (pv 0) (pv 4) rfl)))), ?_⟩
    refine ⟨_, rfl, _, rfl, p, CA, dx, [], rfl, hp, T.clA, T.nNeeds, (by show 0 < 1000; decide), ?_⟩
    refine ⟨_, rfl, _, rfl, p, CA, dx, _, rfl, upd_same, T.clA, T.nBrings, (by show 1 < 1000; decide), ?_⟩
    rw [upd_upd]
    refine ⟨_, rfl, _, rfl, p, CA, dx, _, rfl, upd_same, T.clA, T.nTakes, (putF_few (by show 1 < 999; decide)), ?_⟩
    rw [upd_upd]
    refine ⟨_, rfl, _, rfl, p, CA, dx, _, rfl, upd_same, T.clA, T.nCost, (putF_few (Nat.lt_of_le_of_lt (putF_len _ _ _) (by show 1 + 1 < 999; decide))), ?_⟩
    rw [upd_upd]
    refine k _ ?_ fun b hb => upd_ne hb
    rw [upd_same, aF_new]
    rfl
/-! ### House.__init__ -/
def spHouseInit (C CA : Addr) : Sp := fun vs H Q _ => ∃ (H0 : Hp) (p dx : Addr), vs = [.ref p] ∧ Same H0 H ∧ H0 p = none ∧ H p = some (.ins C dx []) ∧ ∀ H' : Hp, HouseAt C CA H0 H' p ⟨1, [], 0, 0⟩ → Q .non H'
theorem scHouseInit : FnScope ["self"] ["self"] (defScope sHouseInit) := ⟨rfl, rfl, rfl, by decide +kernel, rfl, by decide +kernel, by decide +kernel⟩
theorem ok_houseInit {f : Addr} {fd : FuncData} (F : Fun K "__init__" "House.__init__" sHouseInit f fd) (T : Txt K mg C CA) : FnOk P w K mg base CX0 1 f fd ["self"] (spHouseInit C CA) := by
  refine F.ok scHouseInit (fun vs H Q E h => ?_) (fun cdv A outer s H vs Q E hr h => ?_)
  · obtain ⟨H0, p, dx, rfl, _⟩ := h
    rfl
  · obtain ⟨H0, p, dx, rfl, s0, p0, hp, k⟩ := h
    refine ⟨_, pss_cons (ps_fld (pv 0) pe_int rfl) (pss_cons (ps_fld (pv 0) pe_int rfl) (pss_one (ps_fld (pv 0) (pe_lst pa_nil) rfl))), ?_⟩
    refine ⟨_, rfl, p, C, dx, [], rfl, hp, T.cl, T.nF, (by show 0 < 1000; decide), ?_⟩
    refine ⟨_, rfl, p, C, dx, _, rfl, upd_same, T.cl, T.nW, (by show 1 < 1000; decide), ?_⟩
    rw [upd_upd]
    refine ⟨Nat.zero_le _, fun l hl => ?_⟩
    have npl : p ≠ l := fun e => by
      subst e
      rw [upd_same] at hl
      cases hl
    have hl0 : H l = none := by
      rw [upd_ne npl.symm] at hl
      exact hl
    refine ⟨_, rfl, p, C, dx, _, rfl, Eq.trans (upd_ne npl) upd_same, T.cl, T.nA, (putF_few (by show 1 < 999; decide)), ?_⟩
    refine k _ ⟨fun b o e => ?_, p0, ⟨by decide, by decide, by decide, by decide, rfl, fun a ha => by cases ha⟩, dx, l, [], s0.free hl0, ?_, ?_, .nil⟩
    · have nbp : b ≠ p := fun q => by
        rw [q, p0] at e
        cases e
      rw [upd_ne nbp, upd_ne (ne_of_none (s0 _ _ e) hl0), upd_ne nbp]
      exact s0 _ _ e
    · rw [upd_same]
      exact congrArg (fun q => some (HO.ins C dx q)) (hF_new 1 0 l)
    · rw [upd_ne npl.symm, upd_same]
      rfl
/-! ### House.begins -/
/-- what a call answers that answers one number -/
def spBegins (C CA : Addr) : Sp := fun vs H Q _ => ∃ (H0 : Hp) (p : Addr) (t : Pn.Task) (n g : Nat), vs = [.ref p, .int n, .int g] ∧ HouseAt C CA H0 H p t ∧
  ∀ H' : Hp, HouseAt C CA H0 H' p (Pn03.step ⟨t⟩ (.begins n g)).1.task → Q (.int (Pn03.step ⟨t⟩ (.begins n g)).2.v) H'
theorem scBegins : FnScope ["self", "facts", "wanted"] ["self", "facts", "wanted"] (defScope sBegins) := ⟨rfl, rfl, rfl, by decide +kernel, rfl, by decide +kernel, by decide +kernel⟩
theorem ok_begins {f fS : Addr} {fd fdS : FuncData} (F : Fun K "begins" "House.begins" sBegins f fd) (T : Txt K mg C CA) (FS : Fun K "is_set_of" "is_set_of" sIsSet fS fdS) (mS : mg "is_set_of" = some (.ref fS)) (bS : Binds K fdS ["facts", "number"] []) :
    FnOk P w K mg base CX0 2 f fd ["self", "facts", "wanted"] (spBegins C CA) := by
  have GS : FnOk P w K mg base CX0 1 fS fdS ["facts", "number"] spIsSet := ok_isSet FS
  obtain ⟨t8, most⟩ := T.mFacts
  obtain ⟨tw, wrong⟩ := T.wrong
  refine F.ok scBegins (fun vs H Q E h => ?_) (fun cdv A outer s H vs Q E hr h => ?_)
  · obtain ⟨H0, p, t, n, g, rfl, _⟩ := h
    rfl
  · obtain ⟨H0, p, t, n, g, rfl, hH, k⟩ := h
    refine ⟨_, pss_cons (ps_if (PW.pt (pw_or (pt_not (pt_chain op_le op_le pe_int (pv 1) (pe_glob (v := .int 8) rfl most ⟨_, rfl⟩))) (pw_or1 (pt_not (pt_val (pe_call GS hr rfl mS FS.kp bS .nil pass0 (pa_cons (pv 1) (pa_cons (pv 2) pa_nil)))))))) (pss_one (ps_ret (pe_glob (v := .int (-1)) rfl wrong ⟨_, rfl⟩))) pss_nil)
      (pss_cons (ps_fld (pv 0) (pv 1) rfl) (pss_cons (ps_fld (pv 0) (pv 2) rfl) (pss_cons (ps_fld (pv 0) (pe_lst pa_nil) rfl) (pss_one (ps_ret pe_int))))), ?_⟩
    have bad : (n = 0 ∨ Pn.FACTS < n ∨ 2 ^ n ≤ g) → Q (.int (-1)) H := fun e => by
      have es : Pn03.step ⟨t⟩ (.begins n g) = (⟨t⟩, Pn03.ok (-1)) := if_pos e
      rw [es] at k
      exact k H hH
    have good : 1 ≤ n → n ≤ 8 → g < 2 ^ n → ∀ H', HouseAt C CA H0 H' p ⟨n, [], 0, g⟩ → Q (.int 0) H' := fun e1 e2 e3 => by
      have es : Pn03.step ⟨t⟩ (.begins n g) = (⟨⟨n, [], 0, g⟩⟩, Pn03.ok 0) := if_neg (by show ¬ (n = 0 ∨ 8 < n ∨ 2 ^ n ≤ g); omega)
      rw [es] at k
      exact k
    clear k
    obtain ⟨s0, p0, wl, dx, la, xs, la0, hp, hla, hA⟩ := hH
    refine ⟨_, rfl, _, _, rfl, rfl, _, rfl, ?_⟩
    refine ite2 (fun c1 => ?_) (fun c1 => ?_)
    · have c1 : 1 ≤ n := by have := of_decide_eq_true c1; omega
      refine ⟨_, _, rfl, rfl, _, rfl, ?_⟩
      refine ite2 (fun c2 => ?_) (fun c2 => ?_)
      · have c2 : ¬ (n : Int) ≤ 8 := by simpa using c2
        exact iteT (bad (.inr (.inl (by show 8 < n; omega))))
      · have c2 : (n : Int) ≤ 8 := by simpa using c2
        refine ⟨_, rfl, _, rfl, n, g, rfl, by omega, _, rfl, ?_⟩
        refine ite2 (fun c3 => ?_) (fun c3 => ?_)
        · have c3 : ¬ g < 2 ^ n := by simpa using c3
          exact bad (.inr (.inr (by omega)))
        · have c3 : g < 2 ^ n := by simpa using c3
          refine ⟨_, rfl, _, rfl, p, C, dx, _, rfl, hp, T.cl, T.nF, (by show 3 < 1000; decide), ?_⟩
          rw [hF_putFacts]
          refine ⟨_, rfl, _, rfl, p, C, dx, _, rfl, upd_same, T.cl, T.nW, (by show 3 < 1000; decide), ?_⟩
          rw [upd_upd, hF_putWanted]
          refine ⟨Nat.zero_le _, fun l hl => ?_⟩
          have npl : p ≠ l := fun e => by
            subst e
            rw [upd_same] at hl
            cases hl
          have hl0 : H l = none := by
            rw [upd_ne npl.symm] at hl
            exact hl
          refine ⟨_, rfl, p, C, dx, _, rfl, Eq.trans (upd_ne npl) upd_same, T.cl, T.nA, (by show 3 < 1000; decide), ?_⟩
          rw [hF_putActs]
          refine good c1 (by omega) c3 _ ⟨fun b o e => ?_, p0, ⟨c1, by show n ≤ 8; omega, c3, by show 0 ≤ 12; decide, rfl, fun a ha => by cases ha⟩, dx, l, [], s0.free hl0, upd_same, ?_, .nil⟩
          · have nbp : b ≠ p := fun q => by
              rw [q, p0] at e
              cases e
            rw [upd_ne nbp, upd_ne (ne_of_none (s0 _ _ e) hl0), upd_ne nbp]
            exact s0 _ _ e
          · rw [upd_ne npl.symm, upd_same]
            rfl
    · have c1 : ¬ (1 : Int) ≤ n := by simpa using c1
      exact ⟨_, rfl, iteT (iteT (bad (.inl (by omega))))⟩
/-! ### House.goal -/
def spGoal (C CA : Addr) : Sp := fun vs H Q _ => ∃ (H0 : Hp) (p : Addr) (t : Pn.Task) (g : Nat), vs = [.ref p, .int g] ∧ HouseAt C CA H0 H p t ∧
  ∀ H' : Hp, HouseAt C CA H0 H' p (Pn03.step ⟨t⟩ (.goal g)).1.task → Q (.int (Pn03.step ⟨t⟩ (.goal g)).2.v) H'
theorem scGoal : FnScope ["self", "wanted"] ["self", "wanted"] (defScope sGoal) := ⟨rfl, rfl, rfl, by decide +kernel, rfl, by decide +kernel, by decide +kernel⟩
theorem ok_goal {f fS : Addr} {fd fdS : FuncData} (F : Fun K "goal" "House.goal" sGoal f fd) (T : Txt K mg C CA) (FS : Fun K "is_set_of" "is_set_of" sIsSet fS fdS) (mS : mg "is_set_of" = some (.ref fS)) (bS : Binds K fdS ["facts", "number"] []) :
    FnOk P w K mg base CX0 2 f fd ["self", "wanted"] (spGoal C CA) := by
  have GS : FnOk P w K mg base CX0 1 fS fdS ["facts", "number"] spIsSet := ok_isSet FS
  obtain ⟨tw, wrong⟩ := T.wrong
  refine F.ok scGoal (fun vs H Q E h => ?_) (fun cdv A outer s H vs Q E hr h => ?_)
  · obtain ⟨H0, p, t, g, rfl, _⟩ := h
    rfl
  · obtain ⟨H0, p, t, g, rfl, hH, k⟩ := h
    refine ⟨_, pss_cons (ps_if (pt_not (pt_val (pe_call GS hr rfl mS FS.kp bS .nil pass0 (pa_cons (pe_fld (pv 0) rfl) (pa_cons (pv 1) pa_nil))))) (pss_one (ps_ret (pe_glob (v := .int (-1)) rfl wrong ⟨_, rfl⟩))) pss_nil)
      (pss_cons (ps_fld (pv 0) (pv 1) rfl) (pss_one (ps_ret pe_int))), ?_⟩
    have hH' := hH
    obtain ⟨s0, p0, wl, dx, la, xs, la0, hp, hla, hA⟩ := hH
    refine ⟨_, rfl, p, C, dx, _, _, rfl, hp, T.cl, T.nF, hF_facts _ _ _, _, rfl, t.facts, g, rfl, wl.f8, _, rfl, ?_⟩
    refine ite2 (fun c => ?_) (fun c => ?_)
    · have c : ¬ g < 2 ^ t.facts := by simpa using c
      have es : Pn03.step ⟨t⟩ (.goal g) = (⟨t⟩, Pn03.ok (-1)) := if_pos (by show 2 ^ t.facts ≤ g; omega)
      rw [es] at k
      exact k H hH'
    · have c : g < 2 ^ t.facts := by simpa using c
      have es : Pn03.step ⟨t⟩ (.goal g) = (⟨{ t with goal := g }⟩, Pn03.ok 0) := if_neg (by show ¬ 2 ^ t.facts ≤ g; omega)
      rw [es] at k
      refine ⟨_, rfl, _, rfl, p, C, dx, _, rfl, hp, T.cl, T.nW, (by show 3 < 1000; decide), ?_⟩
      rw [hF_putWanted]
      have nbp : ∀ b, ∀ o, H0 b = some o → b ≠ p := fun b o e q => by
        rw [q, p0] at e
        cases e
      have nlp : la ≠ p := ne_of hla hp (by intro q; cases q)
      refine k _ ⟨fun b o e => ?_, p0, ⟨wl.f1, wl.f8, c, wl.ac, wl.st, wl.ok⟩, dx, la, xs, la0, upd_same, ?_, hA.keep fun x a ⟨x0, dxa, hx⟩ => ?_⟩
      · rw [upd_ne (nbp b o e)]
        exact s0 _ _ e
      · rw [upd_ne nlp]
        exact hla
      · by_cases e : x = p
        · subst e
          rw [hp] at hx
          exact absurd (HO.ins.inj (Option.some.inj hx)).2.2.symm (aF_hF _ _ _ _)
        · exact ⟨x0, dxa, by rw [upd_ne e]; exact hx⟩
/-! ### House.act -/
def spAct (K : PySem.W.Frag) (C CA : Addr) : Sp := fun vs H Q _ => ∃ (H0 : Hp) (p a : Addr) (t : Pn.Task) (r : List Int), vs = [.ref p, .ref a] ∧ HouseAt C CA H0 H p t ∧ SqL K H a (r.map V.int) ∧ (∀ z, z ∈ r → 0 ≤ z) ∧
  ∀ H' : Hp, HouseAt C CA H0 H' p (Pn03.step ⟨t⟩ (.act (Pn03Neutral.nats r))).1.task → Q (.int (Pn03.step ⟨t⟩ (.act (Pn03Neutral.nats r))).2.v) H'
theorem scAct : FnScope ["self", "told"] ["self", "told"] (defScope sAct) := ⟨rfl, rfl, rfl, by decide +kernel, rfl, by decide +kernel, by decide +kernel⟩
theorem ok_act {f fS fI fA : Addr} {fd fdS fdI fdA : FuncData} (F : Fun K "act" "House.act" sAct f fd) (T : Txt K mg C CA) (FS : Fun K "is_set_of" "is_set_of" sIsSet fS fdS) (mS : mg "is_set_of" = some (.ref fS)) (bS : Binds K fdS ["facts", "number"] [])
    (FI : Fun K "is_act" "is_act" sIsAct fI fdI) (mI : mg "is_act" = some (.ref fI)) (bI : Binds K fdI ["facts", "told"] []) (M : Mk K CA fA) (FA : Fun K "__init__" "Act.__init__" sActInit fA fdA) (bA : Binds K fdA ["self", "needs", "brings", "takes", "cost"] []) :
    FnOk P w K mg base CX0 3 f fd ["self", "told"] (spAct K C CA) := by
  have GI : FnOk P w K mg base CX0 2 fI fdI ["facts", "told"] (spIsAct K) := ok_isAct FI T FS mS bS
  have GA : FnOk P w K mg base CX0 1 fA fdA ["self", "needs", "brings", "takes", "cost"] (spActInit CA) := ok_actInit FA T
  obtain ⟨tw, wrong⟩ := T.wrong
  obtain ⟨tf, full⟩ := T.full
  obtain ⟨tm, most⟩ := T.mActs
  refine F.ok scAct (fun vs H Q E h => ?_) (fun cdv A outer s H vs Q E hr h => ?_)
  · obtain ⟨H0, p, a, t, r, rfl, _⟩ := h
    rfl
  · obtain ⟨H0, p, a, t, r, rfl, hH, hS, hz, k⟩ := h
    have ix (j : Nat) : PlainIx (.Constant (.int j) 0 ⟨0, 0, 0, 0⟩) := fun _ _ => rfl
    refine ⟨_, pss_cons (ps_if (pt_cmpR op_eq (pe_callB call_len_seq (by rfl) T.len PySem.boot_len (pa_cons (pe_fld (pv 0) rfl) pa_nil)) (pe_glob (v := .int 12) rfl most ⟨_, rfl⟩) (nomark _)) (pss_one (ps_ret (pe_glob (v := .int (-7)) rfl full ⟨_, rfl⟩))) pss_nil)
      (pss_cons (ps_if (pt_not (pt_val (pe_call GI hr rfl mI FI.kp bI .nil pass0 (pa_cons (pe_fld (pv 0) rfl) (pa_cons (pv 1) pa_nil))))) (pss_one (ps_ret (pe_glob (v := .int (-1)) rfl wrong ⟨_, rfl⟩))) pss_nil)
      (pss_cons (ps_expr (pe_bm PySem.F.plainAttrs_list PySem.F.slot_list_append PySem.F.type_list_append mt_append (pe_fld (pv 0) rfl)
        (pa_cons (pe_make M GA hr rfl T.mgA bA .nil pass0 (pa_cons (pe_ix ix_list (pv 1) pe_int (fun _ _ => rfl)) (pa_cons (pe_ix ix_list (pv 1) pe_int (fun _ _ => rfl)) (pa_cons (pe_ix ix_list (pv 1) pe_int (fun _ _ => rfl)) (pa_cons (pe_ix ix_list (pv 1) pe_int (fun _ _ => rfl)) pa_nil))))) pa_nil)))
      (pss_one (ps_ret (pe_op op_sub (pe_callB call_len_seq (by rfl) T.len PySem.boot_len (pa_cons (pe_fld (pv 0) rfl) pa_nil)) pe_int))))), ?_⟩
    have hH' := hH
    obtain ⟨s0, p0, wl, dx, la, xs, la0, hp, hla, hA⟩ := hH
    have hxl := hA.length
    refine ⟨_, rfl, p, C, dx, _, _, rfl, hp, T.cl, T.nA, hF_acts _ _ _, la, _, rfl, .inl (SqL.of hla), rfl, _, rfl, ?_⟩
    refine ite2 (fun c => ?_) (fun c => ?_)
    · have c : t.acts.length = 12 := by
        have c := of_decide_eq_true c
        rw [List.length_map, hxl] at c
        have := V.int.inj c
        omega
      have es : Pn03.step ⟨t⟩ (.act (Pn03Neutral.nats r)) = (⟨t⟩, Pn03.ok (-7)) := if_pos c
      rw [es] at k
      exact k H hH'
    · have c : t.acts.length ≠ 12 := fun e => c (decide_eq_true (by rw [List.length_map, hxl, e]; rfl))
      have es : Pn03.step ⟨t⟩ (.act (Pn03Neutral.nats r)) = (match Pn.act? t.facts (Pn03Neutral.nats r) with
        | none => (⟨t⟩, Pn03.ok (-1))
        | some a => if a.no ≠ 0 then (⟨t⟩, Pn03.ok (-1)) else (⟨{ t with acts := t.acts ++ [a] }⟩, Pn03.ok (t.acts.length : Nat))) := if_neg c
      refine ⟨_, rfl, p, C, dx, _, _, rfl, hp, T.cl, T.nF, hF_facts _ _ _, _, rfl, t.facts, a, r, rfl, wl.f8, hS, hz, _, rfl, ?_⟩
      refine ite2 (fun c1 => ?_) (fun c1 => ?_)
      · have c1 : isAct t.facts r = false := by simpa using c1
        rcases isAct_false hz c1 with e | ⟨x, e, hx⟩
        · rw [e] at es
          rw [es] at k
          exact k H hH'
        · rw [e] at es
          have es2 : Pn03.step ⟨t⟩ (.act (Pn03Neutral.nats r)) = if x.no ≠ 0 then (⟨t⟩, Pn03.ok (-1)) else (⟨{ t with acts := t.acts ++ [x] }⟩, Pn03.ok (t.acts.length : Nat)) := es
          rw [if_pos hx] at es2
          rw [es2] at k
          exact k H hH'
      · have c1 : isAct t.facts r = true := by simpa using c1
        obtain ⟨x, rfl, hno, e, b1, b2, b3, b4, b5⟩ := isAct_true hz c1
        rw [e] at es
        have es2 : Pn03.step ⟨t⟩ (.act (Pn03Neutral.nats [(x.pre : Int), 0, x.add, x.del, x.cost])) = if x.no ≠ 0 then (⟨t⟩, Pn03.ok (-1)) else (⟨{ t with acts := t.acts ++ [x] }⟩, Pn03.ok (t.acts.length : Nat)) := es
        rw [if_neg (by simpa using hno)] at es2
        rw [es2] at k
        refine ⟨_, rfl, p, C, dx, _, _, rfl, hp, T.cl, T.nA, hF_acts _ _ _, .inl ⟨rfl, _, SqL.of hla⟩, ?_⟩
        refine ⟨_, rfl, a, _, _, _, rfl, rfl, hS, atI_nat (j := 0) rfl, _, rfl, a, _, _, _, rfl, rfl, hS, atI_nat (j := 2) rfl, _, rfl, a, _, _, _, rfl, rfl, hS, atI_nat (j := 3) rfl, _, rfl, a, _, _, _, rfl, rfl, hS, atI_nat (j := 4) rfl, ?_⟩
        intro y dy ny ndy ney
        refine ⟨y, dy, x, rfl, upd_same, fun H1 hy hk => ⟨rfl, ?_⟩⟩
        have keep : ∀ b o, H b = some o → H1 b = some o := fun b o e => by
          rw [hk b (ne_of_none e ny), upd_ne (ne_of_none e ny), upd_ne (ne_of_none e ndy)]
          exact e
        have hla1 := keep _ _ hla
        have hp1 := keep _ _ hp
        have nlp : la ≠ p := ne_of hla hp (by intro q; cases q)
        have nyl : y ≠ la := fun q => by
          subst q
          rw [ny] at hla
          cases hla
        refine ⟨la, _, _, rfl, rfl, hla1, ?_, ?_⟩
        · rw [List.length_map, hxl]
          have := wl.ac
          exact small1000 (by omega)
        · refine ⟨_, rfl, p, C, dx, _, _, rfl, Eq.trans (upd_ne nlp.symm) hp1, T.cl, T.nA, hF_acts _ _ _, la, _, rfl, .inl (SqL.of upd_same), _, _, rfl, rfl, ?_⟩
          have el : (((xs.map V.ref ++ [V.ref y]).length : Nat) : Int) - 1 = ((t.acts.length : Nat) : Int) := by
            rw [List.length_append, List.length_map, hxl, List.length_singleton]
            omega
          show Q (.int ((((xs.map V.ref ++ [V.ref y]).length : Nat) : Int) - 1)) _
          rw [el]
          refine k _ ⟨fun b o e => ?_, p0, ⟨wl.f1, wl.f8, wl.gl, ?_, wl.st, fun z hz => ?_⟩, dx, la, xs ++ [y], la0, Eq.trans (upd_ne nlp.symm) hp1, ?_, ActsAt.snoc (hA.keep fun x a ⟨x0, dxa, hx⟩ => ?_) ⟨s0.free ny, dy, ?_⟩⟩
          · have nbl : b ≠ la := fun q => by
              rw [q, la0] at e
              cases e
            rw [upd_ne nbl]
            exact keep _ _ (s0 _ _ e)
          · show (t.acts ++ [x]).length ≤ 12
            rw [List.length_append, List.length_singleton]
            have := wl.ac
            omega
          · rcases List.mem_append.1 hz with h | h
            · exact wl.ok z h
            · rw [List.mem_singleton] at h
              subst h
              exact ⟨b1, hno, b2, b3, b4, b5⟩
          · rw [upd_same, List.map_append]
            rfl
          · refine ⟨x0, dxa, ?_⟩
            rw [upd_ne (ne_of hx hla (by intro q; cases q))]
            exact keep _ _ hx
          · rw [upd_ne nyl]
            exact hy
end
end My

set_option Elab.async false
set_option maxRecDepth 100000
set_option maxHeartbeats 4000000
namespace My
open PySem PySem.Spec PyProof.Rows L2
theorem ixN_nat {n j : Nat} (h : j < n) : ixN n (j : Int) = some j := by
  unfold ixN
  rw [if_pos (by omega), if_pos (by omega)]
  simp
theorem map_set_opt (l : List (Option Nat)) (f c : Nat) : (l.map optV).set f (.int (c : Int)) = (l.set f (some c)).map optV := by
  rw [List.map_set]
  rfl
abbrev sOffer : Stmt := top 17
abbrev sWorths : Stmt := top 16
section
variable {P : Program} {w : World} {K : PySem.W.Frag} {mg : Str → Option Value} {base : Heap} {C CA : Addr}
/-- what stood at other places stands -/
def Others (H H' : Hp) (a : Addr) : Prop := ∀ b o, H b = some o → b ≠ a → H' b = some o
/-! ### offer -/
def spOffer : Sp := fun vs H Q _ => ∃ (a : Addr) (n m c : Nat) (l : List (Option Nat)), vs = [.ref a, .int m, .int c] ∧ H a = some (.lst (l.map optV)) ∧ l.length = n ∧ m < 2 ^ n ∧ n ≤ 10 ∧
  ∀ H' : Hp, H' a = some (.lst ((ThGS.offer l (Pn03.facts n m) c).map optV)) → Others H H' a → Q .non H'
theorem scOffer : FnScope ["worths", "row", "price", "fact"] ["worths", "row", "price"] (defScope sOffer) := ⟨rfl, rfl, rfl, by decide +kernel, rfl, by decide +kernel, by decide +kernel⟩
theorem ok_offer {f fM : Addr} {fd fdM : FuncData} (F : Fun K "offer" "offer" sOffer f fd) (FM : Fun K "members" "members" sMembers fM fdM) (mM : mg "members" = some (.ref fM)) (bM : Binds K fdM ["row"] []) (mR : mg "range" = none) :
    FnOk P w K mg base CX0 2 f fd ["worths", "row", "price"] spOffer := by
  have GM : FnOk P w K mg base CX0 1 fM fdM ["row"] spMembers := ok_members FM mR
  refine F.ok scOffer (fun vs H Q E h => ?_) (fun cdv A outer s H vs Q E hr h => ?_)
  · obtain ⟨a, n, m, c, l, rfl, _⟩ := h
    rfl
  · obtain ⟨a, n, m, c, l, rfl, ha, hl, hm, hn, k⟩ := h
    refine ⟨_, pss_one (ps_for PassesOwn.never rfl (pi_list (pe_call GM hr rfl mM FM.kp bM .nil pass0 (pa_cons (pv 1) pa_nil))) (pg_name (i := 3) scOffer.nd rfl (Or.inl rfl))
      (pss_one (ps_if (PW.pt (pw_or (pt_cmpR op_isN (pe_ix ix_list (pv 0) (pv 3) (fun _ _ => rfl)) pe_non (nomark _)) (pw_or1 (pt_cmpR op_gt (pe_ix ix_list (pv 0) (pv 3) (fun _ _ => rfl)) (pv 2) (nomark _)))))
        (pss_one (ps_asg (pv 2) (pg_sub (pv 0) (pv 3) set_list))) pss_nil))), ?_⟩
    refine ⟨_, rfl, n, m, rfl, hm, hn, fun H1 p s1 np hp => ⟨p, rfl, ⟨_, SqL.of hp⟩, ?_⟩⟩
    have pa : p ≠ a := fun e => by
      subst e
      rw [np] at ha
      cases ha
    refine for_list (K := K) (a := p) (xs := natsV (Pn03.facts n m)) (fun i σ H' => (∃ v : Option V, σ = [some (.ref a), some (.int m), some (.int c), v]) ∧ H' a = some (.lst ((ThGS.offer l ((Pn03.facts n m).take i) c).map optV)) ∧ Others H1 H' a)
      ⟨⟨none, rfl⟩, s1 _ _ ha, fun b o e _ => e⟩ (fun i σ H' _ ⟨_, _, ho⟩ => SqL.of (ho p _ hp pa)) ?_ ?_
    · rintro i x σ H' hi ⟨⟨v, rfl⟩, hA, ho⟩
      obtain ⟨f0, hf, rfl⟩ := natsV_get hi
      have hfn : f0 < (ThGS.offer l ((Pn03.facts n m).take i) c).length := by
        rw [ThGS.offer_length]
        have := (ThVal.mem_facts.1 (List.mem_of_getElem? hf)).1
        omega
      have step : ThGS.offer l ((Pn03.facts n m).take (i + 1)) c = ThGS.offer1 (ThGS.offer l ((Pn03.facts n m).take i) c) f0 c := by
        unfold ThGS.offer
        rw [take_more hf, List.foldl_append]
        rfl
      generalize ThGS.offer l ((Pn03.facts n m).take i) c = l' at hA hfn step
      have put : upd H' a (.lst ((l'.map optV).set f0 (.int (c : Int)))) a = some (.lst ((l'.set f0 (some c)).map optV)) := by rw [upd_same, map_set_opt]
      have others : Others H1 (upd H' a (.lst ((l'.map optV).set f0 (.int (c : Int))))) a := fun b o e nb => by
        rw [upd_ne nb]
        exact ho b o e nb
      refine ⟨_, rfl, _, rfl, a, _, _, _, rfl, rfl, SqL.of hA, atI_nat (opt_get hfn), rfl, _, rfl, ?_⟩
      cases e : Pn03.val l' f0 with
      | none =>
        have e1 : ThGS.offer1 l' f0 c = l'.set f0 (some c) := by unfold ThGS.offer1; rw [e]
        refine if_true_of rfl (if_true_of rfl ?_)
        refine ⟨_, rfl, _, rfl, _, rfl, a, _, _, f0, rfl, rfl, hA, ixN_nat (by rw [List.length_map]; exact hfn), ?_⟩
        exact ⟨⟨_, rfl⟩, by rw [step, e1]; exact put, others⟩
      | some x =>
        refine if_false_of rfl ?_
        refine ⟨_, rfl, _, rfl, a, _, _, _, rfl, rfl, SqL.of hA, atI_nat (opt_get hfn), _, rfl, ?_⟩
        rw [e]
        refine ⟨_, _, rfl, rfl, _, rfl, ?_⟩
        refine ite2 (fun d => ?_) (fun d => ?_)
        · have d : c < x := by have := of_decide_eq_true d; omega
          have e1 : ThGS.offer1 l' f0 c = l'.set f0 (some c) := by unfold ThGS.offer1; rw [e]; exact if_pos d
          refine ⟨_, rfl, _, rfl, _, rfl, a, _, _, f0, rfl, rfl, hA, ixN_nat (by rw [List.length_map]; exact hfn), ?_⟩
          exact ⟨⟨_, rfl⟩, by rw [step, e1]; exact put, others⟩
        · have d : ¬ c < x := fun q => d (decide_eq_true (by omega))
          have e1 : ThGS.offer1 l' f0 c = l' := by unfold ThGS.offer1; rw [e]; exact if_neg d
          exact ⟨⟨_, rfl⟩, by rw [step, e1]; exact hA, ho⟩
    · rintro σ H' ⟨⟨v, rfl⟩, hA, ho⟩
      unfold natsV at hA
      rw [List.length_map, List.take_length] at hA
      exact k _ hA fun b o e nb => ho b o (s1 _ _ e) nb
/-! ### worths_from -/
def spWorths (K : PySem.W.Frag) (CA : Addr) (fR : Addr) (sum : Bool) : Sp := fun vs H Q _ => ∃ (H0 : Hp) (la : Addr) (N : Nat) (as : List Pn.Act) (st : Nat) (xs : List Addr), vs = [.int N, .ref la, .int st, .ref fR] ∧ SqL K H la (xs.map V.ref) ∧ ActsAt CA H0 H xs as ∧ (∀ a, a ∈ as → a.pre < 2 ^ N ∧ a.add < 2 ^ N) ∧ N ≤ 10 ∧
  ∀ (H' : Hp) (p : Addr), Same H H' → H p = none → H' p = some (.lst ((ThExt.gturns sum N as st N).map optV)) → Q (.ref p) H'
theorem scWorths : FnScope ["facts", "acts", "state", "worth_of_row", "worths", "turn", "act", "needed", "fact"] ["facts", "acts", "state", "worth_of_row"] (defScope sWorths) := ⟨rfl, rfl, rfl, by decide +kernel, rfl, by decide +kernel, by decide +kernel⟩
theorem ok_worths {f fO fM fR : Addr} {fd fdO fdM fdR : FuncData} {sum : Bool} {nameR : Str} {stR : Stmt} (F : Fun K "worths_from" "worths_from" sWorths f fd) (T : Txt K mg C CA) (FO : Fun K "offer" "offer" sOffer fO fdO) (mO : mg "offer" = some (.ref fO)) (bO : Binds K fdO ["worths", "row", "price"] [])
    (FM : Fun K "members" "members" sMembers fM fdM) (mM : mg "members" = some (.ref fM)) (bM : Binds K fdM ["row"] []) (mR : mg "range" = none)
    (FR : Fun K nameR nameR stR fR fdR) (GR : FnOk P w K mg base CX0 2 fR fdR ["worths", "row"] (spRow K sum)) (bR : Binds K fdR ["worths", "row"] []) :
    FnOk P w K mg base CX0 3 f fd ["facts", "acts", "state", "worth_of_row"] (spWorths K CA fR sum) := by
  have GO : FnOk P w K mg base CX0 2 fO fdO ["worths", "row", "price"] spOffer := ok_offer FO FM mM bM mR
  have RR : FnR P w K mg base CX0 2 fR (fun vs H Q E => spRow K sum (vs ++ []) H Q E) := GR.raw bR .nil
  refine F.ok scWorths (fun vs H Q E h => ?_) (fun cdv A outer s H vs Q E hr h => ?_)
  · obtain ⟨H0, la, N, as, st, xs, rfl, _⟩ := h
    rfl
  · obtain ⟨H0, la, N, as, st, xs, rfl, hla, hA, wl, hn, k⟩ := h
    refine ⟨_, pss_cons (ps_setLc (i := 4) (own := [("fact", 8)]) (g := gName 8) (tt := tYes) (te := tIf (tTru K (tBit 2 8)) (tC (.int 0)) (tC .non)) rfl scWorths.nd rfl rfl (sw_true rfl rfl rfl (by decide +kernel)) (pi_range1 rfl mR (pa_cons (pv 0) pa_nil))
        (blkOk_by (N := ["facts", "acts", "state", "worth_of_row", "worths", "turn", "act", "needed", "fact"]) (sc := defScope sWorths) (by decide +kernel)) (fun _ _ _ _ _ => pg_name (i := 8) scWorths.nd rfl (Or.inl rfl)) (fun _ _ _ _ _ => pts_nil)
        (fun _ _ _ _ _ => pe_ifExp (pt_truth (pe_op op_and (pe_op op_shr (pv 2) (pv 8)) pe_int) (by intro _; rfl)) pe_int pe_non))
      (pss_cons (ps_for PassesOwn.never rfl (pi_range1 rfl mR (pa_cons (pv 0) pa_nil)) (pg_name (i := 5) scWorths.nd rfl (Or.inl rfl))
        (pss_one (ps_for PassesOwn.never rfl (pi_list (pv 1)) (pg_name (i := 6) scWorths.nd rfl (Or.inl rfl))
          (pss_cons (ps_set (i := 7) scWorths.nd rfl (Or.inl rfl) (ItX.pe_callV (i := 3) RR hr FR.kp pass0 rfl (Or.inl rfl) (pa_cons (pv 4) (pa_cons (pe_fld (pv 6) rfl) pa_nil))))
          (pss_one (ps_if (pt_cmpR op_notN (pv 7) pe_non (nomark _)) (pss_one (ps_expr (pe_call GO hr rfl mO FO.kp bO .nil pass0 (pa_cons (pv 4) (pa_cons (pe_fld (pv 6) rfl) (pa_cons (pe_op op_add (pv 7) (pe_fld (pv 6) rfl)) pa_nil)))))) pss_nil))))))
      (pss_one (ps_ret (pv 4)))), ?_⟩
    refine ⟨_, rfl, _, rfl, by omega, by omega, fun D hD => ?_⟩
    refine lc_range (lo := 0) (n := N) (fun i H' => H' = upd H D (.lst (((List.range i).map fun f => if Pn.bit st f = true then some 0 else none).map optV))) rfl (fun i H' hi hP => ?_) (fun H' hP => ?_)
    · subst hP
      refine ⟨rfl, tYes_of ?_⟩
      refine ⟨_, rfl, _, rfl, _, _, rfl, rfl, by omega, _, _, rfl, rfl, _, rfl, ?_⟩
      rw [bit_py]
      have small : ((((List.range i).map fun f => if Pn.bit st f = true then some 0 else none).map optV).length) < sizeLine := by
        rw [List.length_map, List.length_map, List.length_range]
        exact small1000 (by omega)
      by_cases c : Pn.bit st i = true
      · rw [if_pos c]
        refine iteT ⟨_, upd_same, small, ?_⟩
        rw [upd_upd, List.range_succ, List.map_append, List.map_append]
        simp [c]
        rfl
      · rw [if_neg c]
        refine iteF ⟨_, upd_same, small, ?_⟩
        rw [upd_upd, List.range_succ, List.map_append, List.map_append]
        simp [c]
        rfl
    · subst hP
      have ef : (List.range N).map (fun f => if Pn.bit st f = true then some 0 else none) = ThExt.gturns sum N as st 0 := rfl
      rw [ef]
      refine ⟨_, rfl, _, rfl, by omega, by omega, ?_⟩
      refine for_range (lo := 0) (n := N) (fun i σ H' => (∃ v5 v6 v7 : Option V, σ = [some (.int N), some (.ref la), some (.int st), some (.ref fR), some (.ref D), v5, v6, v7, none]) ∧ Same H H' ∧ H' D = some (.lst ((ThExt.gturns sum N as st i).map optV)))
        ⟨⟨none, none, none, rfl⟩, same_new hD, upd_same⟩ ?_ ?_
      · rintro i σ H1 hi ⟨⟨v5, v6, v7, rfl⟩, s1, h1⟩
        refine ⟨_, rfl, la, rfl, ⟨_, s1.seq hla⟩, ?_⟩
        refine for_list (K := K) (a := la) (xs := xs.map V.ref) (fun j σ H' => (∃ v6 v7 : Option V, σ = [some (.int N), some (.ref la), some (.int st), some (.ref fR), some (.ref D), some (.int (0 + (i : Int))), v6, v7, none]) ∧ Same H H' ∧ H' D = some (.lst ((ThGS.turn sum N (ThExt.gturns sum N as st i) ((as.take j).map fun a => (a, a.cost))).map optV)))
          ⟨⟨v6, v7, rfl⟩, s1, h1⟩ (fun j σ H' _ ⟨_, s2, _⟩ => s2.seq hla) ?_ ?_
        · rintro j x σ H2 hj ⟨⟨w6, w7, rfl⟩, s2, h2⟩
          obtain ⟨y, hy, rfl⟩ : ∃ y, xs[j]? = some y ∧ x = V.ref y := by
            rw [List.getElem?_map] at hj
            cases e : xs[j]? with
            | none => rw [e] at hj; cases hj
            | some y => rw [e] at hj; exact ⟨y, rfl, (Option.some.inj hj).symm⟩
          obtain ⟨a, ha, _, dy, hya⟩ := hA.get hy
          have hgood := wl a (List.mem_of_getElem? ha)
          have step : ThGS.turn sum N (ThExt.gturns sum N as st i) ((as.take (j + 1)).map fun a => (a, a.cost)) = ThGS.act1 sum N (ThGS.turn sum N (ThExt.gturns sum N as st i) ((as.take j).map fun a => (a, a.cost))) a a.cost := by
            rw [take_more ha, List.map_append, ThGS.turn_append]
            rfl
          have len : (ThGS.turn sum N (ThExt.gturns sum N as st i) ((as.take j).map fun a => (a, a.cost))).length = N := by
            rw [ThGS.turn_length, ThExt.gturns_length]
          generalize ThGS.turn sum N (ThExt.gturns sum N as st i) ((as.take j).map fun a => (a, a.cost)) = l at h2 step len
          refine ⟨rfl, _, rfl, _, rfl, y, CA, dy, _, _, rfl, s2 _ _ hya, T.clA, T.nNeeds, aF_needs a, D, N, a.pre, l, rfl, SqL.of h2, len, hgood.1, hn, fun H3 s3 => ?_⟩
          have s23 := s2.trans s3
          refine ⟨_, rfl, rfl, _, rfl, ?_⟩
          cases e : ThVal.joinF sum (Pn03.val l) (Pn03.facts N a.pre) with
          | none =>
            have e1 : ThGS.act1 sum N l a a.cost = l := by unfold ThGS.act1; rw [e]
            refine if_false_of rfl ⟨⟨_, _, rfl⟩, s23, ?_⟩
            rw [step, e1]
            exact s3 _ _ h2
          | some q =>
            have e1 : ThGS.act1 sum N l a a.cost = ThGS.offer l (Pn03.facts N a.add) (q + a.cost) := by unfold ThGS.act1; rw [e]
            refine if_true_of rfl ?_
            refine ⟨_, rfl, _, rfl, y, CA, dy, _, _, rfl, s23 _ _ hya, T.clA, T.nBrings, aF_brings a, _, rfl, _, rfl, y, CA, dy, _, _, rfl, s23 _ _ hya, T.clA, T.nCost, aF_cost a, _, _, rfl, rfl, ?_⟩
            refine ⟨D, N, a.add, q + a.cost, l, ?_, s3 _ _ h2, len, hgood.2, hn, fun H4 h4 o4 => ?_⟩
            · show [V.ref D, V.int a.add, V.int ((q : Int) + (a.cost : Int))] = [V.ref D, V.int a.add, V.int ((q + a.cost : Nat) : Int)]
              rw [Int.natCast_add]
            · refine ⟨⟨_, _, rfl⟩, fun b o eb => o4 b o (s23 b o eb) (ne_of_none eb hD), ?_⟩
              rw [step, e1]
              exact h4
        · rintro σ H2 ⟨⟨w6, w7, rfl⟩, s2, h2⟩
          refine ⟨⟨_, _, _, rfl⟩, s2, ?_⟩
          have e : (as.take (xs.map V.ref).length).map (fun a => (a, a.cost)) = ThExt.withCost as := by
            rw [List.length_map, hA.length, List.take_length]
            rfl
          rw [e] at h2
          exact h2
      · rintro σ H1 ⟨⟨v5, v6, v7, rfl⟩, s1, h1⟩
        exact ⟨_, rfl, k _ D s1 hD h1⟩
end
end My

set_option Elab.async false
set_option maxRecDepth 100000
set_option maxHeartbeats 4000000
namespace My
open PySem PySem.Spec PyProof.Rows L2
theorem bAnd (a b : Nat) : Builtin.bitAnd (a : Int) (b : Int) = ((a &&& b : Nat) : Int) := by
  unfold Builtin.bitAnd
  rw [decide_eq_true (Int.natCast_nonneg a), decide_eq_true (Int.natCast_nonneg b)]
  rfl
theorem bOr (a b : Nat) : Builtin.bitOr (a : Int) (b : Int) = ((a ||| b : Nat) : Int) := by
  rw [bitOr_nn (Int.natCast_nonneg a) (Int.natCast_nonneg b)]
  rfl
theorem bDiff (a b : Nat) : Builtin.bitAnd (a : Int) (Builtin.bitNot (b : Int)) = ((a - (a &&& b) : Nat) : Int) := by
  have h2 : ¬ (0 : Int) ≤ Builtin.bitNot (b : Int) := by
    show ¬ (0 : Int) ≤ -(b : Int) - 1
    omega
  have e : (Builtin.bitNot (Builtin.bitNot (b : Int))).toNat = b := by
    show (-(-(b : Int) - 1) - 1).toNat = b
    omega
  have hle : a &&& b ≤ a := Nat.and_le_left
  unfold Builtin.bitAnd
  rw [decide_eq_true (Int.natCast_nonneg a), decide_eq_false h2]
  show (a : Int) - ((((a : Int).toNat &&& (Builtin.bitNot (Builtin.bitNot (b : Int))).toNat : Nat)) : Int) = _
  rw [e, Int.toNat_natCast]
  omega
theorem within_comm (a b : Nat) : decide (V.int ((a &&& b : Nat) : Int) = V.int (b : Int)) = Pn.within b a := by
  unfold Pn.within
  have e : b.land a = a &&& b := Nat.and_comm b a
  rw [e]
  by_cases h : (a &&& b) = b
  · rw [decide_eq_true (by rw [h]), beq_iff_eq.2 h]
  · rw [decide_eq_false (fun q => h (by have := V.int.inj q; omega))]
    exact (beq_eq_false_iff_ne.2 h).symm
abbrev sMay : Stmt := inClass (top 8) 1
abbrev sBehind : Stmt := inClass (top 8) 2
abbrev sBehindK : Stmt := inClass (top 8) 3
section
variable {P : Program} {w : World} {K : PySem.W.Frag} {mg : Str → Option Value} {base : Heap} {C CA : Addr}
/-! ### the methods of an act -/
def spMay (CA : Addr) : Sp := fun vs H Q _ => ∃ (x dx : Addr) (a : Pn.Act) (s : Nat), vs = [.ref x, .int s] ∧ H x = some (.ins CA dx (aF a)) ∧ Q (.bl (Pn.within a.pre s)) H
theorem scMay : FnScope ["self", "state"] ["self", "state"] (defScope sMay) := ⟨rfl, rfl, rfl, by decide +kernel, rfl, by decide +kernel, by decide +kernel⟩
theorem ok_may {f : Addr} {fd : FuncData} (F : Fun K "may_be_done" "Act.may_be_done" sMay f fd) (T : Txt K mg C CA) : FnOk P w K mg base CX0 1 f fd ["self", "state"] (spMay CA) := by
  refine F.ok scMay (fun vs H Q E h => ?_) (fun cdv A outer s H vs Q E hr h => ?_)
  · obtain ⟨x, dx, a, s, rfl, _⟩ := h
    rfl
  · obtain ⟨x, dx, a, s, rfl, hx, k⟩ := h
    refine ⟨_, pss_one (ps_ret (pe_cmpR op_eq (pe_op op_and (pv 1) (pe_fld (pv 0) rfl)) (pe_fld (pv 0) rfl) (nomark _))), ?_⟩
    refine ⟨_, rfl, _, rfl, x, CA, dx, _, _, rfl, hx, T.clA, T.nNeeds, aF_needs a, _, _, rfl, rfl, _, rfl, x, CA, dx, _, _, rfl, hx, T.clA, T.nNeeds, aF_needs a, rfl, ?_⟩
    show Q (.bl (decide (V.int (Builtin.bitAnd (s : Int) (a.pre : Int)) = V.int (a.pre : Int)))) _
    rw [bAnd, within_comm]
    exact k
def spBehind (CA : Addr) : Sp := fun vs H Q _ => ∃ (x dx : Addr) (a : Pn.Act) (s : Nat), vs = [.ref x, .int s] ∧ H x = some (.ins CA dx (aF a)) ∧ Q (.int (a.then_ s : Nat)) H
theorem scBehind : FnScope ["self", "state"] ["self", "state"] (defScope sBehind) := ⟨rfl, rfl, rfl, by decide +kernel, rfl, by decide +kernel, by decide +kernel⟩
theorem ok_behind {f : Addr} {fd : FuncData} (F : Fun K "behind" "Act.behind" sBehind f fd) (T : Txt K mg C CA) : FnOk P w K mg base CX0 1 f fd ["self", "state"] (spBehind CA) := by
  refine F.ok scBehind (fun vs H Q E h => ?_) (fun cdv A outer s H vs Q E hr h => ?_)
  · obtain ⟨x, dx, a, s, rfl, _⟩ := h
    rfl
  · obtain ⟨x, dx, a, s, rfl, hx, k⟩ := h
    refine ⟨_, pss_one (ps_ret (pe_op op_or (pe_op op_and (pv 1) (pe_un un_inv (pe_fld (pv 0) rfl))) (pe_fld (pv 0) rfl))), ?_⟩
    refine ⟨_, rfl, _, rfl, x, CA, dx, _, _, rfl, hx, T.clA, T.nTakes, aF_takes a, _, rfl, _, _, rfl, rfl, _, rfl, x, CA, dx, _, _, rfl, hx, T.clA, T.nBrings, aF_brings a, _, _, rfl, rfl, ?_⟩
    show Q (.int (Builtin.bitOr (Builtin.bitAnd (s : Int) (Builtin.bitNot (a.del : Int))) (a.add : Int))) _
    rw [bDiff, bOr]
    exact k
def spBehindK (CA : Addr) : Sp := fun vs H Q _ => ∃ (x dx : Addr) (a : Pn.Act) (s : Nat), vs = [.ref x, .int s] ∧ H x = some (.ins CA dx (aF a)) ∧ Q (.int ((s ||| a.add : Nat) : Int)) H
theorem scBehindK : FnScope ["self", "state"] ["self", "state"] (defScope sBehindK) := ⟨rfl, rfl, rfl, by decide +kernel, rfl, by decide +kernel, by decide +kernel⟩
theorem ok_behindK {f : Addr} {fd : FuncData} (F : Fun K "behind_if_kept" "Act.behind_if_kept" sBehindK f fd) (T : Txt K mg C CA) : FnOk P w K mg base CX0 1 f fd ["self", "state"] (spBehindK CA) := by
  refine F.ok scBehindK (fun vs H Q E h => ?_) (fun cdv A outer s H vs Q E hr h => ?_)
  · obtain ⟨x, dx, a, s, rfl, _⟩ := h
    rfl
  · obtain ⟨x, dx, a, s, rfl, hx, k⟩ := h
    refine ⟨_, pss_one (ps_ret (pe_op op_or (pv 1) (pe_fld (pv 0) rfl))), ?_⟩
    refine ⟨_, rfl, _, rfl, x, CA, dx, _, _, rfl, hx, T.clA, T.nBrings, aF_brings a, _, _, rfl, rfl, ?_⟩
    show Q (.int (Builtin.bitOr (s : Int) (a.add : Int))) _
    rw [bOr]
    exact k
end
/-! ## min(list of pairs, default=d) -/
inductive TupsAt (H : Hp) : List Addr → List (Int × Int) → Prop
  | nil : TupsAt H [] []
  | cons {t : Addr} {p : Int × Int} {ts : List Addr} {ps : List (Int × Int)} : H t = some (.tup [.int p.1, .int p.2]) → TupsAt H ts ps → TupsAt H (t :: ts) (p :: ps)
theorem TupsAt.length {H : Hp} {ts : List Addr} {ps : List (Int × Int)} (h : TupsAt H ts ps) : ts.length = ps.length := by
  induction h with
  | nil => rfl
  | cons _ _ ih => rw [List.length_cons, List.length_cons, ih]
theorem TupsAt.snoc {H : Hp} {ts : List Addr} {ps : List (Int × Int)} {t : Addr} {p : Int × Int} (h : TupsAt H ts ps) (ht : H t = some (.tup [.int p.1, .int p.2])) : TupsAt H (ts ++ [t]) (ps ++ [p]) := by
  induction h with
  | nil => exact .cons ht .nil
  | cons hb _ ih => exact .cons hb ih
theorem TupsAt.keep {H H' : Hp} {ts : List Addr} {ps : List (Int × Int)} (h : TupsAt H ts ps) (k : Same H H') : TupsAt H' ts ps := by
  induction h with
  | nil => exact .nil
  | cons hb _ ih => exact .cons (k _ _ hb) ih
theorem TupsAt.get {H : Hp} {ts : List Addr} {ps : List (Int × Int)} (h : TupsAt H ts ps) : ∀ {i : Nat} {t : Addr}, ts[i]? = some t → ∃ p, ps[i]? = some p ∧ H t = some (.tup [.int p.1, .int p.2]) := by
  induction h with
  | nil => intro i t h; simp at h
  | cons ha _ ih =>
    intro i t h
    cases i with
    | zero => cases h; exact ⟨_, rfl, ha⟩
    | succ i => exact ih h
theorem vals_refs : ∀ {ts : List Addr} {us : List Value}, Vals (ts.map V.ref) us → us = ts.map Value.ref
  | [], us, h => by cases h; rfl
  | t :: ts, us, h => by
    cases h with
    | cons a b =>
      rw [vals_refs b]
      cases a
      rfl
theorem hold_same {h : Heap} {v : Value} {p q : Int × Int} (a : PySem.W.Holds h v p) (b : PySem.W.Holds h v q) : p = q := by
  obtain ⟨l, x, y, rfl, ⟨o, ho, _, n, hd⟩, hx, hy⟩ := PySem.W.pair_of_holds a
  obtain ⟨l2, x2, y2, e, ⟨o2, ho2, _, n2, hd2⟩, hx2, hy2⟩ := PySem.W.pair_of_holds b
  cases e
  rw [ho] at ho2
  cases ho2
  rw [hd] at hd2
  injection hd2 with e1
  have e2 : x = x2 ∧ y = y2 := by simpa using e1
  obtain ⟨t1, e3⟩ := PySem.W.int_of_holds hx
  obtain ⟨t2, e4⟩ := PySem.W.int_of_holds hx2
  obtain ⟨t3, e5⟩ := PySem.W.int_of_holds hy
  obtain ⟨t4, e6⟩ := PySem.W.int_of_holds hy2
  rw [e2.1, e4] at e3
  rw [e2.2, e6] at e5
  injection e3 with e7
  injection e5 with e8
  exact Prod.ext e7.symm e8.symm
def PLe (p q : Int × Int) : Prop := p.1 < q.1 ∨ (p.1 = q.1 ∧ p.2 ≤ q.2)
theorem PLe.trans {p q r : Int × Int} (a : PLe p q) (b : PLe q r) : PLe p r := by
  unfold PLe at *
  omega
theorem PLe.total (p q : Int × Int) : PLe p q ∨ PLe q p := by
  unfold PLe
  omega
theorem plt_iff (p q : Int × Int) : PySem.W.DatumOrd.lt q p = true ↔ ¬ PLe p q := by
  show (if q.1 = p.1 then decide (q.2 < p.2) else decide (q.1 < p.1)) = true ↔ _
  unfold PLe
  split
  · rw [decide_eq_true_eq]; omega
  · rw [decide_eq_true_eq]; omega
theorem minOf_pairs : ∀ (ys : List (Int × Int)) (y : Int × Int), (PySem.W.minOf y ys) ∈ y :: ys ∧ ∀ z, z ∈ y :: ys → PLe (PySem.W.minOf y ys) z := by
  intro ys
  induction ys with
  | nil =>
    intro y
    exact ⟨List.mem_singleton.2 rfl, fun z hz => by rw [List.mem_singleton.1 hz]; exact .inr ⟨rfl, Int.le_refl _⟩⟩
  | cons x ys ih =>
    intro y
    have e : PySem.W.minOf y (x :: ys) = PySem.W.minOf (if PySem.W.DatumOrd.lt x y = true then x else y) ys := rfl
    rw [e]
    by_cases c : PySem.W.DatumOrd.lt x y = true
    · rw [if_pos c]
      obtain ⟨h1, h2⟩ := ih x
      refine ⟨List.mem_cons_of_mem _ h1, fun z hz => ?_⟩
      rcases List.mem_cons.1 hz with e | hz
      · subst e
        exact (h2 x List.mem_cons_self).trans ((PLe.total x z).resolve_right ((plt_iff z x).1 c))
      · exact h2 z hz
    · rw [if_neg c]
      have c' : PLe y x := Classical.byContradiction fun n => c ((plt_iff y x).2 n)
      obtain ⟨h1, h2⟩ := ih y
      refine ⟨?_, fun z hz => ?_⟩
      · rcases List.mem_cons.1 h1 with e | h1
        · rw [e]; exact List.mem_cons_self
        · exact List.mem_cons_of_mem _ (List.mem_cons_of_mem _ h1)
      · rcases List.mem_cons.1 hz with e | hz
        · subst e; exact h2 _ List.mem_cons_self
        · rcases List.mem_cons.1 hz with e | hz
          · subst e
            exact (h2 y List.mem_cons_self).trans c'
          · exact h2 z (List.mem_cons_of_mem _ hz)
section
variable {X : Cx}
def rMinTD (K : PySem.W.Frag) : List V → List V → Hp → VK → Prop := fun vs zs H Q => ∃ (a : Addr) (ts : List Addr) (ps : List (Int × Int)) (d : V), vs = [V.ref a] ∧ zs = [d] ∧ SqL K H a (ts.map V.ref) ∧ TupsAt H ts ps ∧ (ps = [] → Q d H) ∧
  ∀ (i : Nat) (t : Addr) (p : Int × Int), ts[i]? = some t → ps[i]? = some p → (∀ q, q ∈ ps → PLe p q) → Q (.ref t) H
theorem hold_tups {pins : List (Addr × Obj)} {σ : L2.St} {H : Hp} {s : Shared} (I : Inv X pins σ H s) {ts : List Addr} {ps : List (Int × Int)} (h : TupsAt H ts ps) : PySem.W.HoldAll s.heap (ts.map Value.ref) ps := by
  induction h with
  | nil => exact .nil
  | cons ht _ ih =>
    obtain ⟨_, its, rv, tp⟩ := (show ObjOk X.prog X.w H s.heap _ (.tup _) from I.hok _ _ ht)
    cases rv with
    | cons r1 rr =>
      cases rr with
      | cons r2 r3 =>
        cases r3
        obtain ⟨t1, rfl⟩ := r1
        obtain ⟨t2, rfl⟩ := r2
        exact .cons (PySem.W.holds_pair tp ⟨_, .int _ _⟩ ⟨_, .int _ _⟩) ih
theorem cr_minTD (hc : X.calm = true) (hu : X.A.units + 16 < cLine) : CallRK X (.builtin "min") [Str.ofString "default"] (rMinTD X.K) := by
  intro pins s σ H vs zs us ws Q I r rz h
  obtain ⟨a, ts, ps, d, rfl, rfl, hs, hT, q0, q⟩ := h
  obtain ⟨its, rv, hl, _⟩ := I.list hs
  obtain rfl := Vals.ref1 r
  obtain rfl := vals_refs rv
  cases rz with
  | cons r1 r2 =>
    cases r2
    refine PySem.W.min_list_datum_default (α := Int × Int) (xs := ps) (I.ok.hd hc) hl.isList (by simpa using hold_tups I hT) (by show X.A.units + 1 + 1 < cLine; omega) (fun e h' tk hk => ?_) (fun y ys i v h' tk e hi hh hk => ?_)
    · exact ⟨d, H, I.kept hk, r1, q0 e⟩
    · subst e
      have hi' : (ts.map Value.ref)[i]? = some v := by simpa using hi
      rw [List.getElem?_map] at hi'
      obtain ⟨t, ht, rfl⟩ := Option.map_eq_some_iff.1 hi'
      obtain ⟨p, hp, htp⟩ := hT.get ht
      have hm := minOf_pairs ys y
      obtain ⟨p2, hp2, hold⟩ := (hold_tups I hT).at (i := i) (v := .ref t) (by rw [List.getElem?_map, ht]; rfl)
      rw [hp] at hp2
      cases hp2
      have e := hold_same (hold.keeps hk) hh
      exact ⟨.ref t, H, I.kept hk, rfl, q i t p ht hp fun z hz => by rw [e]; exact hm.2 z hz⟩
end
end My

set_option Elab.async false
set_option maxRecDepth 100000
set_option maxHeartbeats 4000000
namespace My
open PySem PySem.Spec PyProof.Rows L2
open ThKept (cand cand1 seen)
theorem refs_get {xs : List Addr} {j : Nat} {x : V} (h : (xs.map V.ref)[j]? = some x) : ∃ y, xs[j]? = some y ∧ x = V.ref y := by
  rw [List.getElem?_map] at h
  obtain ⟨y, h1, h2⟩ := Option.map_eq_some_iff.1 h
  exact ⟨y, h1, h2.symm⟩
theorem may_within {a : Pn.Act} (h : a.no = 0) (s : Nat) : a.may s = Pn.within a.pre s := by
  unfold Pn.Act.may
  rw [h]
  have : Pn.apart 0 s = true := by
    unfold Pn.apart
    rw [show Nat.land 0 s = 0 from Nat.zero_and s]
    rfl
  rw [this, Bool.and_true]
theorem act_at {t : Pn.Task} {j : Nat} {a : Pn.Act} (h : t.acts[j]? = some a) : t.act j = a := by
  unfold Pn.Task.act
  rw [List.getD_eq_getElem?_getD, h]
  rfl
/-- x stands for what a state costs -/
def DRep (H : Hp) (x : V) : Option Nat → Prop
  | none => x = .non
  | some c => ∃ (T : Addr) (y : V), x = .ref T ∧ H T = some (.tup [.int (c : Int), y])
theorem DRep.keep {H H' : Hp} {x : V} {o : Option Nat} (h : DRep H x o) (k : Same H H') : DRep H' x o := by
  cases o with
  | none => exact h
  | some c =>
    obtain ⟨T, y, e, hT⟩ := h
    exact ⟨T, y, e, k _ _ hT⟩
theorem TupsAt.keepT {H H' : Hp} {ts : List Addr} {ps : List (Int × Int)} (h : TupsAt H ts ps) (k : ∀ b l, H b = some (.tup l) → H' b = some (.tup l)) : TupsAt H' ts ps := by
  induction h with
  | nil => exact .nil
  | cons hb _ ih => exact .cons (k _ _ hb) ih
def pairI (p : Nat × Nat) : Int × Int := ((p.1 : Int), (p.2 : Int))
abbrev sStepsOn : Stmt := top 32
section
variable {P : Program} {w : World} {K : PySem.W.Frag} {mg : Str → Option Value} {base : Heap} {C CA : Addr}
/-! ### steps_on -/
def spStepsOn (K : PySem.W.Frag) (CA : Addr) : Sp := fun vs H Q _ => ∃ (H0 : Hp) (la ls : Addr) (t : Pn.Task) (s : Nat) (xs : List Addr) (ws : List V), vs = [.ref la, .ref ls, .int s] ∧ SqL K H la (xs.map V.ref) ∧ ActsAt CA H0 H xs t.acts ∧ Well t ∧ s < 2 ^ t.facts ∧
  H ls = some (.lst ws) ∧ (∀ v, s ≤ v → v < 2 ^ t.facts → ∃ x, ws[v]? = some x ∧ DRep H x (seen (Pn03.kept t) s v)) ∧
  ∀ (H' : Hp) (p : Addr) (ts : List Addr), Same H H' → H p = none → H' p = some (.lst (ts.map V.ref)) → TupsAt H' ts ((cand (Pn03.kept t) s t.acts.length).map pairI) → Q (.ref p) H'
theorem scStepsOn : FnScope ["acts", "steps", "state", "found", "number", "act", "step"] ["acts", "steps", "state"] (defScope sStepsOn) := ⟨rfl, rfl, rfl, by decide +kernel, rfl, by decide +kernel, by decide +kernel⟩
theorem ok_stepsOn {f fM fB : Addr} {fd fdM fdB : FuncData} (F : Fun K "steps_on" "steps_on" sStepsOn f fd) (T : Txt K mg C CA) (mE : mg "enumerate" = none)
    (GM : FnOk P w K mg base CX0 1 fM fdM ["self", "state"] (spMay CA)) (bM : Binds K fdM ["self", "state"] []) (meM : Meth K CA "may_be_done" fM)
    (GB : FnOk P w K mg base CX0 1 fB fdB ["self", "state"] (spBehindK CA)) (bB : Binds K fdB ["self", "state"] []) (meB : Meth K CA "behind_if_kept" fB) :
    FnOk P w K mg base CX0 2 f fd ["acts", "steps", "state"] (spStepsOn K CA) := by
  refine F.ok scStepsOn (fun vs H Q E h => ?_) (fun cdv A outer s0 H vs Q E hr h => ?_)
  · obtain ⟨H0, la, ls, t, s, xs, ws, rfl, _⟩ := h
    rfl
  · obtain ⟨H0, la, ls, t, s, xs, ws, rfl, hla, hA, wl, hs, hls, hrep, k⟩ := h
    refine ⟨_, pss_cons (ps_set (i := 3) scStepsOn.nd rfl (Or.inl rfl) (pe_lst pa_nil))
      (pss_cons (ps_for PassesOwn.never rfl (pi_enum rfl mE (pa_cons (pv 0) pa_nil)) (pg_tup rfl (pgs_cons (pg_name (i := 4) scStepsOn.nd rfl (Or.inl rfl)) (pgs_cons (pg_name (i := 5) scStepsOn.nd rfl (Or.inl rfl)) pgs_nil)))
        (pss_one (ps_if (pt_val (pe_meth (pv 5) T.clA meM GM hr bM .nil pass0 (pa_cons (pv 2) pa_nil)))
          (pss_cons (ps_set (i := 6) scStepsOn.nd rfl (Or.inl rfl) (pe_ix ix_list (pv 1) (pe_meth (pv 5) T.clA meB GB hr bB .nil pass0 (pa_cons (pv 2) pa_nil)) (fun _ _ => rfl)))
          (pss_one (ps_if (pt_cmpR op_notN (pv 6) pe_non (nomark _))
            (pss_one (ps_expr (pe_bm PySem.F.plainAttrs_list PySem.F.slot_list_append PySem.F.type_list_append mt_append (pv 3) (pa_cons (pe_tup (pa_cons (pe_op op_add (pe_fld (pv 5) rfl) (pe_ix ix_tup (pv 6) pe_int (fun _ _ => rfl))) (pa_cons (pv 4) pa_nil))) pa_nil)))) pss_nil))) pss_nil)))
      (pss_one (ps_ret (pv 3)))), ?_⟩
    refine ⟨Nat.zero_le _, fun D hD => ?_⟩
    have sD : Same H (upd H D (.lst [])) := same_new hD
    refine ⟨_, rfl, la, _, rfl, sD.seq hla, ?_⟩
    refine for_it (walk_enum (K := K) (a := la) (xs := xs.map V.ref)) (fun i σ H' => (∃ v4 v5 v6 : Option V, σ = [some (.ref la), some (.ref ls), some (.int s), some (.ref D), v4, v5, v6]) ∧ Same H H' ∧ ∃ ts, H' D = some (.lst (ts.map V.ref)) ∧ TupsAt H' ts ((cand (Pn03.kept t) s i).map pairI))
      ⟨⟨none, none, none, rfl⟩, sD, [], upd_same, .nil⟩ (fun i σ H' _ ⟨_, s1, _⟩ => s1.seq hla) ?_ ?_
    · rintro i x σ H1 H2 hi ⟨⟨v4, v5, v6, rfl⟩, s1, ts, hD1, hT1⟩ ⟨Tp, z, y, rfl, nT, rfl, ez, ey⟩
      cases ez
      obtain ⟨ya, hy, rfl⟩ := refs_get ey
      obtain ⟨a, ha, _, dy, hya⟩ := hA.get hy
      have hgood := wl.ok a (List.mem_of_getElem? ha)
      have ea := act_at ha
      have il : i < t.acts.length := (List.getElem?_eq_some_iff.1 ha).1
      have s2 : Same H (upd H1 Tp (.tup [.int ((i : Nat) : Int), .ref ya])) := s1.trans (same_new nT)
      have nTD : Tp ≠ D := fun e => by
        rw [e, hD1] at nT
        cases nT
      refine ⟨Tp, _, rfl, SqT.of upd_same, rfl, _, _, rfl, _, _, rfl, rfl, ?_⟩
      have hD2 : upd H1 Tp (.tup [.int ((i : Nat) : Int), .ref ya]) D = some (.lst (ts.map V.ref)) := by
        rw [upd_ne nTD.symm]
        exact hD1
      have hT2 := hT1.keep (same_new (o := .tup [.int ((i : Nat) : Int), .ref ya]) nT)
      generalize upd H1 Tp (.tup [.int ((i : Nat) : Int), .ref ya]) = H2 at s2 hD2 hT2
      have hya2 := s2 _ _ hya
      have noM (m : Str) (h1 : (m == "needs") = false) (h2 : (m == "brings") = false) (h3 : (m == "takes") = false) (h4 : (m == "cost") = false) : (aF a).lookup m = none :=
        (lk_past h1).trans ((lk_past h2).trans ((lk_past h3).trans ((lk_past h4).trans rfl)))
      have step := ThKept.cand_succ (Pn03.kept t) s i
      have ec : cand1 (Pn03.kept t) s i = if Pn.within a.pre s = true then (seen (Pn03.kept t) s (s ||| a.add)).map (fun m => (a.cost + m, i)) else none := by
        unfold cand1
        rw [ThKept.kept_may, ThKept.kept_then, ea, may_within hgood.2.1, ThCalls.kept_cost, ea]
      refine ⟨_, rfl, ya, dy, _, rfl, hya2, noM "may_be_done" (by decide +kernel) (by decide +kernel) (by decide +kernel) (by decide +kernel), _, rfl, ya, dy, a, s, rfl, hya2, _, rfl, ?_⟩
      refine ite2 (fun c => ?_) (fun c => ?_)
      · rw [if_pos c] at ec
        have hle : s ≤ s ||| a.add := Nat.left_le_or
        have hlt : s ||| a.add < 2 ^ t.facts := Nat.or_lt_two_pow hs hgood.2.2.1
        obtain ⟨x, hx, hrx⟩ := hrep _ hle hlt
        refine ⟨_, rfl, _, rfl, ya, dy, _, rfl, hya2, noM "behind_if_kept" (by decide +kernel) (by decide +kernel) (by decide +kernel) (by decide +kernel), _, rfl, ya, dy, a, s, rfl, hya2, ls, ws, _, x, rfl, rfl, SqL.of (s2 _ _ hls), atI_nat hx, ?_⟩
        refine ⟨_, rfl, rfl, _, rfl, ?_⟩
        have hrx2 := hrx.keep s2
        cases es : seen (Pn03.kept t) s (s ||| a.add) with
        | none =>
          rw [es] at hrx2 ec
          have hrx2 : x = .non := hrx2
          subst hrx2
          refine if_false_of rfl ⟨⟨_, _, _, rfl⟩, s2, ts, hD2, ?_⟩
          rw [step, ec]
          show TupsAt H2 ts ((cand (Pn03.kept t) s i ++ []).map pairI)
          rw [List.append_nil]
          exact hT2
        | some m =>
          rw [es] at hrx2 ec
          obtain ⟨Tm, ym, rfl, hTm⟩ := hrx2
          refine if_true_of rfl ?_
          refine ⟨_, rfl, .inl ⟨rfl, _, SqL.of hD2⟩, _, rfl, ya, CA, dy, _, _, rfl, hya2, T.clA, T.nCost, aF_cost a, _, rfl, Tm, _, _, .int (m : Int), rfl, rfl, SqT.of hTm, atI_nat (j := 0) rfl, _, _, rfl, rfl, _, rfl, by show 2 ≤ sizeLine; decide, fun Tn nTn => ?_⟩
          have nTnD : Tn ≠ D := fun e => by
            rw [e, hD2] at nTn
            cases nTn
          refine ⟨D, _, _, rfl, rfl, Eq.trans (upd_ne nTnD.symm) hD2, ?_, ?_⟩
          · rw [List.length_map, hT2.length, List.length_map]
            have h1 : (cand (Pn03.kept t) s i).length ≤ i := by
              unfold cand
              exact Nat.le_trans (List.length_filterMap_le _ _) (by rw [List.length_range]; exact Nat.le_refl _)
            have := wl.ac
            exact small1000 (by omega)
          · refine ⟨⟨_, _, _, rfl⟩, fun b o e => ?_, ts ++ [Tn], ?_, ?_⟩
            · rw [upd_ne (ne_of_none e hD), upd_ne (ne_of_none (s2 _ _ e) nTn)]
              exact s2 _ _ e
            · rw [upd_same, List.map_append]
              rfl
            · rw [step, ec]
              show TupsAt _ _ ((cand (Pn03.kept t) s i ++ [(a.cost + m, i)]).map pairI)
              rw [List.map_append]
              have up : ∀ {b : Addr} {l : List V}, upd H2 Tn (.tup [.int ((a.cost : Int) + (m : Int)), .int ((i : Nat) : Int)]) b = some (.tup l) → upd (upd H2 Tn (.tup [.int ((a.cost : Int) + (m : Int)), .int ((i : Nat) : Int)])) D (.lst (ts.map V.ref ++ [.ref Tn])) b = some (.tup l) := fun {b l} e => by
                rw [upd_ne (fun z => by rw [z, upd_ne nTnD.symm, hD2] at e; cases e)]
                exact e
              have hT3 : TupsAt (upd H2 Tn (.tup [.int ((a.cost : Int) + (m : Int)), .int ((i : Nat) : Int)])) (ts ++ [Tn]) ((cand (Pn03.kept t) s i).map pairI ++ [pairI (a.cost + m, i)]) := by
                refine (hT2.keep (same_new nTn)).snoc ?_
                rw [upd_same]
                show some (HO.tup [.int ((a.cost : Int) + (m : Int)), .int ((i : Nat) : Int)]) = some (HO.tup [.int ((a.cost + m : Nat) : Int), .int ((i : Nat) : Int)])
                rw [Int.natCast_add]
              exact hT3.keepT fun b l e => up e
      · rw [if_neg c] at ec
        refine ⟨⟨_, _, _, rfl⟩, s2, ts, hD2, ?_⟩
        rw [step, ec]
        show TupsAt H2 ts ((cand (Pn03.kept t) s i ++ []).map pairI)
        rw [List.append_nil]
        exact hT2
    · rintro σ H1 ⟨⟨v4, v5, v6, rfl⟩, s1, ts, hD1, hT1⟩
      rw [List.length_map, hA.length] at hT1
      exact ⟨_, rfl, k H1 D ts s1 hD hD1 hT1⟩
end
end My

set_option Elab.async false
set_option maxRecDepth 100000
set_option maxHeartbeats 4000000
namespace My
open PySem PySem.Spec PyProof.Rows L2
open ThKept (cand cand1 seen)
open ThCost (D Next First)
theorem hu16 {A : Around} {k : Nat} (hr : Room k A) : A.units + 16 < cLine := by
  have := hr.un
  omega
theorem Well.good {t : Pn.Task} (w : Well t) : ThCost.Good t := fun a ha => ⟨(w.ok a ha).2.2.1, (w.ok a ha).2.2.2.2.1⟩
theorem Well.keptGood {t : Pn.Task} (w : Well t) : ThCost.Good (Pn03.kept t) := ThCalls.good_kept t w.good
/-- what stands for a state: nothing, or what it costs and the act that's next -/
def StepOk (t : Pn.Task) (s : Nat) (H : Hp) (x : V) : Prop := match D (Pn03.kept t) s with
  | none => x = .non
  | some c => ∃ (T : Addr) (y : V), x = .ref T ∧ H T = some (.tup [.int (c : Int), y]) ∧ (t.done s = false → ∃ k : Nat, y = .int (k : Int) ∧ Next (Pn03.kept t) s k ∧ ∀ j, j < k → ¬ Next (Pn03.kept t) s j)
theorem StepOk.keep {t : Pn.Task} {s : Nat} {H H' : Hp} {x : V} (h : StepOk t s H x) (k : Same H H') : StepOk t s H' x := by
  unfold StepOk at *
  cases e : D (Pn03.kept t) s with
  | none =>
    rw [e] at h
    exact h
  | some c =>
    rw [e] at h
    obtain ⟨T, y, h1, h2, h3⟩ := h
    exact ⟨T, y, h1, k _ _ h2, h3⟩
theorem StepOk.keepT {t : Pn.Task} {s : Nat} {H H' : Hp} {x : V} (h : StepOk t s H x) (k : ∀ b l, H b = some (.tup l) → H' b = some (.tup l)) : StepOk t s H' x := by
  unfold StepOk at *
  cases e : D (Pn03.kept t) s with
  | none =>
    rw [e] at h
    exact h
  | some c =>
    rw [e] at h
    obtain ⟨T, y, h1, h2, h3⟩ := h
    exact ⟨T, y, h1, k _ _ h2, h3⟩
theorem StepOk.rep {t : Pn.Task} {s : Nat} {H : Hp} {x : V} (h : StepOk t s H x) : DRep H x (D (Pn03.kept t) s) := by
  unfold StepOk at h
  cases e : D (Pn03.kept t) s with
  | none =>
    rw [e] at h
    exact h
  | some c =>
    rw [e] at h
    obtain ⟨T, y, h1, h2, _⟩ := h
    exact ⟨T, y, h1, h2⟩
abbrev sFirst : Stmt := top 31
section
variable {P : Program} {w : World} {K : PySem.W.Frag} {mg : Str → Option Value} {base : Heap} {C CA : Addr}
/-! ### first_steps_if_kept -/
def spFirst (C CA : Addr) : Sp := fun vs H Q _ => ∃ (H0 : Hp) (p : Addr) (t : Pn.Task), vs = [.ref p] ∧ HouseAt C CA H0 H p t ∧
  ∀ (H' : Hp) (b : Addr) (ws : List V), Same H H' → H b = none → H' b = some (.lst ws) → (∀ s, s < 2 ^ t.facts → ∃ x, ws[s]? = some x ∧ StepOk t s H' x) → Q (.ref b) H'
theorem scFirst : FnScope ["house", "steps", "state"] ["house"] (defScope sFirst) := ⟨rfl, rfl, rfl, by decide +kernel, rfl, by decide +kernel, by decide +kernel⟩
theorem ok_first {f fS : Addr} {fd fdS : FuncData} (F : Fun K "first_steps_if_kept" "first_steps_if_kept" sFirst f fd) (T : Txt K mg C CA) (mR : mg "range" = none) (mN : mg "min" = none)
    (kpS : PySem.W.keepIn K (.ref fS) = true) (mS : mg "steps_on" = some (.ref fS)) (bS : Binds K fdS ["acts", "steps", "state"] []) (GS : FnOk P w K mg base CX0 2 fS fdS ["acts", "steps", "state"] (spStepsOn K CA)) :
    FnOk P w K mg base CX0 3 f fd ["house"] (spFirst C CA) := by
  refine F.ok scFirst (fun vs H Q E h => ?_) (fun cdv A outer s0 H vs Q E hr h => ?_)
  · obtain ⟨H0, p, t, rfl, _⟩ := h
    rfl
  · obtain ⟨H0, p, t, rfl, hH, k⟩ := h
    refine ⟨_, pss_cons (ps_set (i := 1) scFirst.nd rfl (Or.inl rfl) (pe_op op_rep (pe_lst (pa_cons pe_non pa_nil)) (pe_op op_shl pe_int (pe_fld (pv 0) rfl))))
      (pss_cons (ps_for PassesOwn.never rfl (pi_range3 rfl mR (pa_cons (pe_op op_sub (pe_callB call_len_seq (by rfl) T.len PySem.boot_len (pa_cons (pv 1) pa_nil)) pe_int) (pa_cons (pe_un un_neg pe_int) (pa_cons (pe_un un_neg pe_int) pa_nil)))) (pg_name (i := 2) scFirst.nd rfl (Or.inl rfl))
        (pss_one (ps_if (pt_cmpR op_eq (pe_op op_and (pv 2) (pe_fld (pv 0) rfl)) (pe_fld (pv 0) rfl) (nomark _))
          (pss_one (ps_asg (pe_tup (pa_cons pe_int (pa_cons pe_non pa_nil))) (pg_sub (pv 1) (pv 2) set_list)))
          (pss_one (ps_asg (pe_callBK (cr_minTD rfl (hu16 hr)) rfl mN (by decide +kernel) (pa_cons (pe_call GS hr rfl mS kpS bS .nil pass0 (pa_cons (pe_fld (pv 0) rfl) (pa_cons (pv 1) (pa_cons (pv 2) pa_nil)))) pa_nil) (pk_cons pe_non pk_nil)) (pg_sub (pv 1) (pv 2) set_list))))))
      (pss_one (ps_ret (pv 1)))), ?_⟩
    obtain ⟨s0', p0, wl, dx, la, xs, la0, hp, hla, hA⟩ := hH
    have g := wl.keptGood
    have h8 := wl.f8
    have hpow : 2 ^ t.facts ≤ 256 := Nat.pow_le_pow_right (n := 2) (by decide) h8
    have hpos : 0 < 2 ^ t.facts := Nat.two_pow_pos _
    have eN : (1 : Int) * 2 ^ ((t.facts : Nat) : Int).toNat = ((2 ^ t.facts : Nat) : Int) := by
      rw [Int.toNat_natCast, Int.one_mul]
      norm_cast
    refine ⟨by show 1 ≤ sizeLine; decide, fun B0 nB0 => ?_⟩
    have sB : Same H (upd H B0 (.lst [.non])) := same_new nB0
    refine ⟨_, rfl, p, C, dx, _, _, rfl, sB _ _ hp, T.cl, T.nF, hF_facts _ _ _, _, _, rfl, rfl, ⟨by omega, by omega, by decide⟩, ?_⟩
    refine ⟨B0, _, _, rfl, rfl, upd_same, ?_⟩
    show (-(2 ^ 63) ≤ (1 : Int) * 2 ^ ((t.facts : Nat) : Int).toNat ∧ (1 : Int) * 2 ^ ((t.facts : Nat) : Int).toNat < 2 ^ 63 ∧ [V.non].length * ((1 : Int) * 2 ^ ((t.facts : Nat) : Int).toNat).toNat ≤ sizeLine ∧ _)
    rw [eN]
    refine ⟨by omega, by omega, ?_, fun B nB => ?_⟩
    · rw [Int.toNat_natCast]
      exact Nat.le_of_lt (small1000 (by simp; omega))
    have e0 : (List.replicate ((2 ^ t.facts : Nat) : Int).toNat [V.non]).flatten = List.replicate (2 ^ t.facts) V.non := by
      rw [Int.toNat_natCast, List.flatten_replicate_singleton]
    rw [e0]
    have nB0' : H B = none := sB.free nB
    have s1 : Same H (upd (upd H B0 (.lst [.non])) B (.lst (List.replicate (2 ^ t.facts) V.non))) := sB.trans (same_new nB)
    refine ⟨_, rfl, B, _, rfl, .inl (SqL.of upd_same), _, _, rfl, rfl, 1, rfl, 1, rfl, ((2 ^ t.facts : Nat) : Int) - 1, -1, -1, 2 ^ t.facts, ?_, ?_, ?_⟩
    · rw [List.length_replicate]
    · have := RgC.neg (i := ((2 ^ t.facts : Nat) : Int) - 1) (j := -1) (by omega) (by omega) (by omega) (by omega)
      rwa [show (((2 ^ t.facts : Nat) : Int) - 1 - -1).toNat = 2 ^ t.facts by omega] at this
    refine for_rangeC (Pv := fun i σ H' => (∃ v2 : Option V, σ = [some (.ref p), some (.ref B), v2]) ∧ Same H H' ∧ ∃ ws, H' B = some (.lst ws) ∧ ws.length = 2 ^ t.facts ∧ (∀ v, v < 2 ^ t.facts → (2 ^ t.facts - i ≤ v → ∃ x, ws[v]? = some x ∧ StepOk t v H' x) ∧ (v < 2 ^ t.facts - i → ws[v]? = some .non)))
      ⟨⟨none, rfl⟩, s1, _, upd_same, by rw [List.length_replicate], fun v hv => ⟨fun h => by omega, fun _ => by rw [List.getElem?_replicate, if_pos hv]⟩⟩ ?_ ?_
    · rintro i σ H1 hi ⟨⟨v2, rfl⟩, s1, ws, hB, hl, hws⟩
      have es : ((2 ^ t.facts : Nat) : Int) - 1 + (i : Nat) * (-1) = ((2 ^ t.facts - 1 - i : Nat) : Int) := by omega
      rw [es]
      generalize hsd : 2 ^ t.facts - 1 - i = s
      have hs : s < 2 ^ t.facts := by omega
      have hws_s : ws[s]? = some .non := (hws s hs).2 (by omega)
      have put : ∀ (H2 : Hp) (x : V), Same H1 H2 → H2 B = some (.lst ws) → StepOk t s H2 x → (∃ v2 : Option V, [some (.ref p), some (.ref B), some (.int (s : Int))] = [some (V.ref p), some (V.ref B), v2]) ∧ Same H (upd H2 B (.lst (ws.set s x))) ∧ ∃ ws', upd H2 B (.lst (ws.set s x)) B = some (.lst ws') ∧ ws'.length = 2 ^ t.facts ∧
          (∀ v, v < 2 ^ t.facts → (2 ^ t.facts - (i + 1) ≤ v → ∃ y, ws'[v]? = some y ∧ StepOk t v (upd H2 B (.lst (ws.set s x))) y) ∧ (v < 2 ^ t.facts - (i + 1) → ws'[v]? = some .non)) := by
        intro H2 x sm hB2 hx
        have kt : ∀ b l, H2 b = some (.tup l) → upd H2 B (.lst (ws.set s x)) b = some (.tup l) := fun b l e => by
          rw [upd_ne (fun z => by rw [z, hB2] at e; cases e)]
          exact e
        refine ⟨⟨_, rfl⟩, fun b o e => ?_, _, upd_same, by rw [List.length_set]; exact hl, fun v hv => ⟨fun h => ?_, fun h => ?_⟩⟩
        · rw [upd_ne (ne_of_none e nB0')]
          exact sm _ _ (s1 _ _ e)
        · by_cases q : v = s
          · subst q
            exact ⟨x, by rw [List.getElem?_set, if_pos rfl, if_pos (by omega)], hx.keepT kt⟩
          · obtain ⟨y, hy, hy2⟩ := (hws v hv).1 (by omega)
            exact ⟨y, by rw [List.getElem?_set, if_neg (fun e => q e.symm)]; exact hy, (hy2.keep sm).keepT kt⟩
        · rw [List.getElem?_set, if_neg (by omega)]
          exact (hws v hv).2 (by omega)
      refine ⟨_, rfl, _, rfl, p, C, dx, _, _, rfl, s1 _ _ hp, T.cl, T.nW, hF_wanted _ _ _, _, _, rfl, rfl, _, rfl, p, C, dx, _, _, rfl, s1 _ _ hp, T.cl, T.nW, hF_wanted _ _ _, rfl, _, rfl, ?_⟩
      show if decide (V.int (Builtin.bitAnd (s : Int) (t.goal : Int)) = V.int (t.goal : Int)) = true then _ else _
      rw [bAnd, within_comm]
      have ed : Pn.within t.goal s = t.done s := rfl
      rw [ed]
      refine ite2 (fun c => ?_) (fun c => ?_)
      · refine ⟨by show 2 ≤ sizeLine; decide, fun Tn nTn => ?_⟩
        have hB2 : upd H1 Tn (.tup [.int 0, .non]) B = some (.lst ws) := (same_new nTn) _ _ hB
        refine ⟨_, rfl, _, rfl, B, _, _, s, rfl, rfl, hB2, ixN_nat (by omega), ?_⟩
        refine put _ (.ref Tn) (same_new nTn) hB2 ?_
        have eD := (ThKept.D_zero (Pn03.kept t) g (s := s) hs).2 c
        unfold StepOk
        rw [eD]
        exact ⟨Tn, .non, rfl, upd_same, fun q => by rw [c] at q; cases q⟩
      · have c : t.done s = false := by simpa using c
        refine ⟨_, rfl, p, C, dx, _, _, rfl, s1 _ _ hp, T.cl, T.nA, hF_acts _ _ _, _, rfl, _, rfl, H0, la, B, t, s, xs, ws, rfl, SqL.of (s1 _ _ hla), hA.keep (fun x a ⟨x0, d, hx⟩ => ⟨x0, d, s1 _ _ hx⟩), wl, hs, hB, fun v hv hv2 => ?_, fun H2 q ts s2 nq hq hT => ?_⟩
        · by_cases e : v = s
          · subst e
            refine ⟨_, hws_s, ?_⟩
            unfold ThKept.seen
            rw [if_pos rfl]
            exact rfl
          · obtain ⟨x, hx, hx2⟩ := (hws v hv2).1 (by omega)
            refine ⟨x, hx, ?_⟩
            unfold ThKept.seen
            rw [if_neg e]
            exact hx2.rep
        · refine ⟨q, ts, _, .non, rfl, rfl, SqL.of hq, hT, fun e => ?_, fun j Tj pj hj hpj hmin => ?_⟩
          · refine ⟨_, rfl, _, rfl, B, _, _, s, rfl, rfl, s2 _ _ hB, ixN_nat (by omega), ?_⟩
            refine put H2 .non s2 (s2 _ _ hB) ?_
            have := ThKept.no_cand (Pn03.kept t) g (s := s) hs c (by rw [ThCalls.kept_length]; exact List.map_eq_nil_iff.1 e)
            unfold StepOk
            rw [this]
          · refine ⟨_, rfl, _, rfl, B, _, _, s, rfl, rfl, s2 _ _ hB, ixN_nat (by omega), ?_⟩
            refine put H2 (.ref Tj) s2 (s2 _ _ hB) ?_
            obtain ⟨pj', hpj', hTj⟩ := hT.get hj
            rw [hpj] at hpj'
            cases hpj'
            rw [List.getElem?_map] at hpj
            obtain ⟨⟨cc, kk⟩, hck, rfl⟩ := Option.map_eq_some_iff.1 hpj
            obtain ⟨b1, b2, b3⟩ := ThKept.best_cand (Pn03.kept t) g (s := s) hs c (c := cc) (k := kk) (by rw [ThCalls.kept_length]; exact List.mem_of_getElem? hck) (fun c' k' h' => by
              rw [ThCalls.kept_length] at h'
              have := hmin _ (List.mem_map_of_mem (f := pairI) h')
              unfold PLe pairI at this
              simp only at this
              omega)
            unfold StepOk
            rw [b1]
            exact ⟨Tj, _, rfl, hTj, fun _ => ⟨kk, rfl, b2, b3⟩⟩
    · rintro σ H1 ⟨⟨v2, rfl⟩, s1, ws, hB, hl, hws⟩
      exact ⟨_, rfl, k H1 B ws s1 nB0' hB fun s hs => (hws s hs).1 (by omega)⟩
end
end My

set_option Elab.async false
set_option maxRecDepth 100000
set_option maxHeartbeats 4000000
namespace My
open PySem PySem.Spec PyProof.Rows L2
open ThCost (D Next First)
theorem First.had {u : Pn.Task} (h : ThCost.Good u) {s : Nat} {l : List Nat} (f : First u s l) (hs : s < 2 ^ u.facts) : ∃ c, D u s = some c := by
  induction f with
  | nil hd => exact ⟨0, (ThKept.D_zero u h hs).2 hd⟩
  | cons _ n _ _ ih =>
    obtain ⟨m, e⟩ := ih (ThCost.then_lt (h _ (ThCost.act_mem n.1).1).1 hs)
    have := n.2
    rw [e] at this
    exact ⟨_, this.symm⟩
def slot4 (σ : L2.St) : Nat := match σ[4]? with
  | some (some (V.int i)) => i.toNat
  | _ => 0
abbrev sKept : Stmt := top 30
section
variable {P : Program} {w : World} {K : PySem.W.Frag} {mg : Str → Option Value} {base : Heap} {C CA : Addr}
/-! ### kept_from -/
def spKept (C CA : Addr) : Sp := fun vs H Q _ => ∃ (H0 : Hp) (p : Addr) (t : Pn.Task) (st : Nat), vs = [.ref p, .int st] ∧ HouseAt C CA H0 H p t ∧ st < 2 ^ t.facts ∧
  match D (Pn03.kept t) st with
  | none => ∀ H', Same H H' → Q .non H'
  | some c => ∃ l, First (Pn03.kept t) st l ∧ l.length < 1000000 ∧ ∀ (H' : Hp) (b : Addr), Same H H' → H b = none → H' b = some (.lst ((ThCalls.numbers (c : Int) l).map V.int)) → Q (.ref b) H'
theorem scKept : FnScope ["house", "state", "steps", "answer", "here", "number"] ["house", "state"] (defScope sKept) := ⟨rfl, rfl, rfl, by decide +kernel, rfl, by decide +kernel, by decide +kernel⟩
theorem ok_kept {f fF fB : Addr} {fd fdF fdB : FuncData} (F : Fun K "kept_from" "kept_from" sKept f fd) (T : Txt K mg C CA)
    (kpF : PySem.W.keepIn K (.ref fF) = true) (mF : mg "first_steps_if_kept" = some (.ref fF)) (bF : Binds K fdF ["house"] []) (GF : FnOk P w K mg base CX0 3 fF fdF ["house"] (spFirst C CA))
    (GB : FnOk P w K mg base CX0 1 fB fdB ["self", "state"] (spBehindK CA)) (bB : Binds K fdB ["self", "state"] []) (meB : Meth K CA "behind_if_kept" fB) :
    FnOk P w K mg base CX0 4 f fd ["house", "state"] (spKept C CA) := by
  refine F.ok scKept (fun vs H Q E h => ?_) (fun cdv A outer s0 H vs Q E hr h => ?_)
  · obtain ⟨H0, p, t, st, rfl, _⟩ := h
    rfl
  · obtain ⟨H0, p, t, st, rfl, hH, hst, k⟩ := h
    have hr1 : Room 1 _ := hr.mono (by decide)
    refine ⟨_, pss_cons (ps_set (i := 2) scKept.nd rfl (Or.inl rfl) (pe_call GF hr rfl mF kpF bF .nil pass0 (pa_cons (pv 0) pa_nil)))
      (pss_cons (ps_if (pt_cmpR op_isN (pe_ix ix_list (pv 2) (pv 1) (fun _ _ => rfl)) pe_non (nomark _)) (pss_one (ps_ret pe_non)) pss_nil)
      (pss_cons (ps_set (i := 3) scKept.nd rfl (Or.inl rfl) (pe_lst (pa_cons (pe_ix ix_tup (pe_ix ix_list (pv 2) (pv 1) (fun _ _ => rfl)) pe_int (fun _ _ => rfl)) pa_nil)))
      (pss_cons (ps_set (i := 4) scKept.nd rfl (Or.inl rfl) (pv 1))
      (pss_cons (ps_while PassesOwn.never (pt_cmpR op_gt (pe_ix ix_tup (pe_ix ix_list (pv 2) (pv 4) (fun _ _ => rfl)) pe_int (fun _ _ => rfl)) pe_int (nomark _))
        (pss_cons (ps_set (i := 5) scKept.nd rfl (Or.inl rfl) (pe_ix ix_tup (pe_ix ix_list (pv 2) (pv 4) (fun _ _ => rfl)) pe_int (fun _ _ => rfl)))
        (pss_cons (ps_expr (pe_bm PySem.F.plainAttrs_list PySem.F.slot_list_append PySem.F.type_list_append mt_append (pv 3) (pa_cons (pv 5) pa_nil)))
        (pss_one (ps_set (i := 4) scKept.nd rfl (Or.inl rfl) (pe_meth (pe_ix ix_list (pe_fld (pv 0) rfl) (pv 5) (fun _ _ => rfl)) T.clA meB GB hr1 bB .nil pass0 (pa_cons (pv 4) pa_nil)))))))
      (pss_one (ps_ret (pv 3))))))), ?_⟩
    have hH' := hH
    obtain ⟨s0', p0, wl, dx, la, xs, la0, hp, hla, hA⟩ := hH
    have g := wl.keptGood
    refine ⟨_, rfl, H0, p, t, rfl, hH', fun H1 b ws s1 nb hb hws => ?_⟩
    obtain ⟨x, hx, hx2⟩ := hws st hst
    refine ⟨_, rfl, _, rfl, b, ws, _, x, rfl, rfl, SqL.of hb, atI_nat hx, rfl, _, rfl, ?_⟩
    unfold StepOk at hx2
    cases eD : D (Pn03.kept t) st with
    | none =>
      rw [eD] at hx2 k
      have hx2 : x = .non := hx2
      subst hx2
      exact if_true_of rfl (k H1 s1)
    | some c =>
      rw [eD] at hx2 k
      obtain ⟨Tx, y, rfl, hT, hn⟩ := hx2
      obtain ⟨l, hF, hlen, k⟩ := k
      refine if_false_of rfl ?_
      refine ⟨_, rfl, _, rfl, b, ws, _, _, rfl, rfl, SqL.of hb, atI_nat hx, Tx, _, _, .int (c : Int), rfl, rfl, SqT.of hT, atI_nat (j := 0) rfl, by show 1 ≤ sizeLine; decide, fun q nq => ?_⟩
      have nq0 : H q = none := s1.free nq
      refine ⟨_, rfl, ?_⟩
      refine while_by (fun σ H' => ∃ (here : Nat) (v5 : Option V) (pre l2 : List Nat), σ = [some (.ref p), some (.int st), some (.ref b), some (.ref q), some (.int here), v5] ∧ here < 2 ^ t.facts ∧ Same H1 H' ∧ H' q = some (.lst ((ThCalls.numbers (c : Int) pre).map V.int)) ∧ First (Pn03.kept t) here l2 ∧ pre ++ l2 = l)
        (fun σ _ => 2 ^ t.facts - slot4 σ) ⟨st, none, [], l, rfl, hst, same_new nq, upd_same, hF, rfl⟩ ?_ ?_
      · rintro σ H2 ⟨here, v5, pre, l2, rfl, hh, s2, hq, hF2, hpl⟩
        obtain ⟨x2, hx2, hs2⟩ := hws here hh
        have hs2 := hs2.keep s2
        have s12 := s1.trans s2
        obtain ⟨c2, e2⟩ := First.had g hF2 hh
        unfold StepOk at hs2
        rw [e2] at hs2
        obtain ⟨T2, y2, rfl, hT2, hn2⟩ := hs2
        refine ⟨_, rfl, _, rfl, b, ws, _, _, rfl, rfl, SqL.of (s2 _ _ hb), atI_nat hx2, T2, _, _, .int (c2 : Int), rfl, rfl, SqT.of hT2, atI_nat (j := 0) rfl, _, _, rfl, rfl, _, rfl, ?_⟩
        refine ite2 (fun d => ?_) (fun d => ?_)
        · have d : 0 < c2 := by have := of_decide_eq_true d; omega
          have nd : t.done here = false := by
            cases e : t.done here with
            | false => rfl
            | true =>
              have := (ThKept.D_zero (Pn03.kept t) g (s := here) hh).2 e
              rw [e2] at this
              cases this
              omega
          obtain ⟨kk, rfl, n1, n2⟩ := hn2 nd
          cases hF2 with
          | nil hd =>
            rw [ThKept.kept_done, nd] at hd
            cases hd
          | @cons _ k2 l3 _ m1 m2 hF3 =>
            have ek : kk = k2 := by
              rcases Nat.lt_trichotomy kk k2 with z | z | z
              · exact absurd n1 (m2 kk z)
              · exact z
              · exact absurd m1 (n2 k2 z)
            subst ek
            obtain ⟨a1, a2, a3⟩ := ThCost.act_mem n1.1
            rw [ThCalls.kept_length] at a3
            have hlx : kk < xs.length := by rw [hA.length]; exact a3
            obtain ⟨a, ha, _, dy, hya⟩ := hA.get (List.getElem?_eq_getElem hlx)
            have ea := act_at ha
            have hgood := wl.ok a (List.mem_of_getElem? ha)
            have noM : (aF a).lookup ("behind_if_kept" : Str) = none := (lk_past (by decide +kernel)).trans ((lk_past (by decide +kernel)).trans ((lk_past (by decide +kernel)).trans ((lk_past (by decide +kernel)).trans rfl)))
            refine ⟨_, rfl, _, rfl, b, ws, _, _, rfl, rfl, SqL.of (s2 _ _ hb), atI_nat hx2, T2, _, _, .int (kk : Int), rfl, rfl, SqT.of hT2, atI_nat (j := 1) rfl, ?_⟩
            refine ⟨_, rfl, .inl ⟨rfl, _, SqL.of hq⟩, _, rfl, q, _, _, rfl, rfl, hq, ?_, ?_⟩
            · rw [List.length_map]
              show (pre.map _).length + 1 < sizeLine
              rw [List.length_map, sizeLine_eq]
              have := congrArg List.length hpl
              rw [List.length_append, List.length_cons] at this
              omega
            · have sq : ∀ {bb : Addr} {o : HO}, H1 bb = some o → upd H2 q (.lst ((ThCalls.numbers (c : Int) pre).map V.int ++ [.int (kk : Int)])) bb = some o := fun {bb o} e => by
                rw [upd_ne (ne_of_none e nq)]
                exact s2 _ _ e
              have eb : (ThCalls.numbers (c : Int) pre).map V.int ++ [.int (kk : Int)] = (ThCalls.numbers (c : Int) (pre ++ [kk])).map V.int := by
                unfold ThCalls.numbers
                rw [List.map_append, List.map_cons, List.map_cons, List.map_append]
                rfl
              have hne : ((Pn03.kept t).act kk).then_ here ≠ here := fun z => by
                have := n1.2
                rw [z, e2] at this
                have e9 : ((Pn03.kept t).act kk).cost + c2 = c2 := Option.some.inj this
                have := (g _ a1).2
                omega
              have eth : ((Pn03.kept t).act kk).then_ here = here ||| a.add := by rw [ThKept.kept_then, ea]
              rw [eth] at hne hF3
              have hle : here ≤ here ||| a.add := Nat.left_le_or
              have hlt : here ||| a.add < 2 ^ t.facts := Nat.or_lt_two_pow hh hgood.2.2.1
              refine ⟨_, rfl, p, C, dx, _, _, rfl, sq (s1 _ _ hp), T.cl, T.nA, hF_acts _ _ _, _, rfl, la, _, _, _, rfl, rfl, SqL.of (sq (s1 _ _ hla)), atI_nat (by rw [List.getElem?_map, List.getElem?_eq_getElem hlx]; rfl), _, dy, _, rfl, sq (s1 _ _ hya), noM, _, rfl, _, dy, a, here, rfl, sq (s1 _ _ hya), ?_⟩
              refine ⟨⟨here ||| a.add, _, pre ++ [kk], l3, rfl, hlt, fun bb o e => sq e, ?_, hF3, by rw [List.append_assoc]; exact hpl⟩, ?_⟩
              · rw [upd_same, eb]
              · show 2 ^ t.facts - ((here ||| a.add : Nat) : Int).toNat < 2 ^ t.facts - (here : Int).toNat
                rw [Int.toNat_natCast, Int.toNat_natCast]
                omega
        · have d : c2 = 0 := Classical.byContradiction fun z => d (decide_eq_true (by omega))
          subst d
          have hd := (ThKept.D_zero (Pn03.kept t) g (s := here) hh).1 e2
          cases hF2 with
          | nil _ =>
            rw [List.append_nil] at hpl
            subst hpl
            exact ⟨_, rfl, k H2 q s12 nq0 hq⟩
          | cons nd => rw [hd] at nd; cases nd
      · rintro σ H2 Q1 Q2 hQ ⟨v1, e1, v2, e2, b1, w1, i1, x1, e3, e4, e5, e6, T1, l1, j1, z1, e7, e8, e9, e10, i2, j2, e11, e12, kk, e13, q1⟩
        exact ⟨v1, e1, v2, e2, b1, w1, i1, x1, e3, e4, e5, e6, T1, l1, j1, z1, e7, e8, e9, e10, i2, j2, e11, e12, kk, e13, hQ _ _ q1⟩
end
end My

set_option Elab.async false
set_option maxRecDepth 100000
set_option maxHeartbeats 4000000
namespace My
open PySem PySem.Spec PyProof.Rows L2 LamX NdefX
/-! ## min(d, key=lambda x: d[x]) -/
/-- all objects as they were, the frames that run up to their slots -/
structure Kp (X : Cx) (u s : Shared) : Prop where
  os : s.os = u.os
  bare : AllBare s.gens
  keep : ∀ b o, u.heap.get? b = some o → b ∉ frs X.stack → s.heap.get? b = some o
  slot : ∀ b o, u.heap.get? b = some o → b ∈ frs X.stack → ∃ sl, s.heap.get? b = some { o with slots := sl }
section
variable {X : Cx} {pins : List (Addr × Obj)} {σ : L2.St} {H : Hp} {u s s' : Shared}
theorem Kp.trans (a : Kp X u s) (b : Kp X s s') : Kp X u s' :=
  ⟨b.os.trans a.os, b.bare, fun c o e n => b.keep c o (a.keep c o e n) n, fun c o e n => by
    obtain ⟨sl, e1⟩ := a.slot c o e n
    obtain ⟨sl2, e2⟩ := b.slot c _ e1 n
    exact ⟨sl2, e2⟩⟩
theorem Kp.un (a : Kp X u s) : Un (frs X.stack) [] H H u.heap s.heap :=
  ⟨fun b o e _ nf _ => a.keep b o e nf, fun b o e _ hf _ => a.slot b o e hf, fun _ _ _ n _ => n, fun b o e _ => by
    by_cases hb : b ∈ frs X.stack
    · obtain ⟨sl, q⟩ := a.slot b o e hb
      exact ⟨_, q⟩
    · exact ⟨o, a.keep b o e hb⟩, fun _ _ e => e, fun _ _ _ e => e, fun _ ps e => ⟨#[], by rw [e]; simp⟩⟩
theorem Kp.hok (a : Kp X u s) (I : Inv X pins σ H u) : HOk X.prog X.w H s.heap := fun b o e => by
  have nf : ∀ c v, H c = some v → c ∉ frs X.stack := fun c v q z => by
    rw [I.stkFree c z] at q
    cases q
  refine (I.hok b o e).stay (fun c v hc q => a.keep c v q ?_) (fun _ q => q) fun _ _ q => q
  rcases hc with z | z
  · rw [z]
    exact nf b o e
  · exact nf c _ z
theorem Kp.inv (a : Kp X u s) (I : Inv X pins σ H u) : Inv X pins σ H s := I.call' a.os a.un (a.hok I) a.bare fun _ z => nomatch z
theorem Kp.ofInv (I : Inv X pins σ H u) : Kp X u u := ⟨rfl, I.bare, fun _ _ e _ => e, fun _ o e _ => ⟨o.slots, e⟩⟩
/-- the heap with but the dict at d, as it stands -/
def only (d : Addr) (o : Obj) (kvs : List (Key × V)) : Hp := fun b => if b = d then some (.frz o (.dK kvs)) else none
theorem only_same {d : Addr} {o : Obj} {kvs : List (Key × V)} : only d o kvs d = some (.frz o (.dK kvs)) := if_pos rfl
theorem only_ne {d b : Addr} {o : Obj} {kvs : List (Key × V)} (h : b ≠ d) : only d o kvs b = none := if_neg h
/-- one turn of the lambda: what the dict holds at the key -/
theorem lam_turn {d f c' : Addr} {i : Nat} {params : Arguments} {scope : Scope} {x y : Str} {p1 p2 p3 : Pos} {pm ctv v : Value} {q : Str} {kvs : List (Key × V)} {k z : Int} {tk : Tok} {E : Value → Shared → Prop} {Q : Value → Shared → Prop}
    (I : Inv X pins σ H u) (hf : u.heap.get? f = some (PySem.W.kla_obj "<lambda>" q params (.Subscript (.Name x p1) (.Name y p2) p3) scope (cloFrom X.env.cells scope.names []) pm c' ctv)) (hff : f ∉ frs X.stack) (hco : H c' = some (CodeO c' q))
    (kp : Kp X u s) (hd : H d = some (.dK kvs)) (hσ : σ[i]? = some (some (.ref d))) (hN : X.N[i]? = some x) (S : NScope [y, x] [y] [x] scope) (hfree : ∀ n ∈ scope.names, n.2 = .free → X.env.scope.names.lookup n.1 = some .cell ∨ X.env.scope.names.lookup n.1 = some .free)
    (hfr : (x, NameKind.free) ∈ scope.names) (hbind : ∀ (qu : Str) (cl : List (Str × Addr)) (pm cv ctv a : Value), bindArgs (PySem.W.kla_fn "<lambda>" qu params (.Subscript (.Name x p1) (.Name y p2) p3) scope cl pm cv ctv) ⟨[a], []⟩ = pure [(y, a)])
    (hr : Room 2 X.A) (ev : v = .int k tk) (hval : valV kvs (Sum.inl k) = some (.int z))
    (nx : (x == ("__debug__" : Str)) = false) (nx2 : (x == ("__classdict__" : Str)) = false) (ny : (y == ("__debug__" : Str)) = false) (ny2 : (y == ("__classdict__" : Str)) = false)
    (hQ : ∀ t s', Kp X s s' → Q (.int z t) s') : wpAny (model X.prog X.w) X.A.in1 (call (.ref f) [v]) Q E s := by
  have J := kp.inv I
  have hr1 : Room 1 X.A.in1 := hr.in1
  obtain ⟨zl, zy, vs, zr, od, es, ep, hod, zc⟩ := (show ObjOk X.prog X.w H s.heap d (.dK kvs) from J.hok d _ hd)
  have nd : ∀ b, H b = none → b ≠ d := fun b n e => by
    rw [e, hd] at n
    cases n
  have e0 := J.env0
  have okZ : HOk X.prog X.w (only d od kvs) s.heap := fun b o e => by
    by_cases hb : b = d
    · subst hb
      rw [only_same] at e
      cases e
      exact ⟨hod, zl, zy, vs, zr, od, es, ep, hod, zc⟩
    · rw [only_ne hb] at e
      cases e
  have eZ : Env0 X.prog X.w X.K X.mg X.base X.A.in1 X.stack s (only d od kvs) :=
    ⟨e0.frames, e0.mod, fun b o e => ⟨(e0.bs b o e).1, only_ne (nd b (e0.bs b o e).2)⟩, e0.bsz, e0.funs, fun b hb => only_ne (nd b (e0.frf b hb)), okZ, e0.bare⟩
  have cp : Caps X (cloFrom X.env.cells scope.names []) [x] [i] := Caps.made J.ok hfree (fun n hn => by rw [List.mem_singleton.1 hn]; exact hfr) (by simp [hN])
  have C0 : CellsAt (cloFrom X.env.cells scope.names []) [x] [some (.ref d)] s.heap H := by
    have := cells_of J cp
    rw [List.map_cons, List.map_nil, slotAt_of hσ] at this
    exact this
  have C : CellsAt (cloFrom X.env.cells scope.names []) [x] [some (.ref d)] s.heap (only d od kvs) := ⟨C0.len, fun n c e => ⟨only_ne (nd c (C0.all n c e).1), (C0.all n c e).2⟩, C0.inj, C0.has⟩
  obtain ⟨c2, oc, cvs, ct, ec, hoc, hdc, hvc⟩ := codeO_at J.hok hco
  cases ec
  subst ev
  refine wpAny_call (PySem.W.kla_callFunE hr1.depth (kp.keep f _ hf hff) rfl S.co S.gen rfl ⟨c', oc, cvs, ct, rfl, hoc, hdc, hvc⟩ ?_)
  rw [hbind]
  refine wpAny_pure (wpAny_newFunctionEnv S.nocell (fun n hn => ?_) (fun h₁ hns hsb => ⟨J.nolimit.fresh _ hsb, ?_⟩) S.kind)
  · rw [List.mem_singleton.1 hn]
    exact S.par y List.mem_cons_self
  have grow : ∀ b o, s.heap.get? b = some o → h₁.get? b = some o := fun b o e => hsb.extBut b o (Nat.ne_of_lt (Heap.lt_size e)) (Heap.get?_push_of_some _ e)
  let Fn : NF := ⟨"<lambda>", q, params, [], scope, cloFrom X.env.cells scope.names [], c'⟩
  have I0 : Inv (ncx CX0 X.prog X.w X.K X.mg X.base [y, x] Fn f X.A.in1 X.stack s (only d od kvs) E0) [] (startF [y, x] [.int k] [some (.ref d)]) (only d od kvs) { s with heap := h₁, toks := s.toks + [(y, Value.int k tk)].length } :=
    inv_startN (F := Fn) (us := [.int k tk]) S hr1.hd eZ rfl (.cons ⟨tk, rfl⟩ .nil) C hns grow
  have hx0 : Vis scope x := .inr (.inr (S.frk x List.mem_cons_self))
  have hy0 : Vis scope y := .inl (S.par y List.mem_cons_self)
  have pe : PE (ncx CX0 X.prog X.w X.K X.mg X.base [y, x] Fn f X.A.in1 X.stack s (only d od kvs) E0) (.Subscript (.Name x p1) (.Name y p2) p3) (tDGet (tVar 1) (tVar 0)) :=
    pe_dget (hu_of (hr1.deeper _)) (pe_var (i := 1) rfl hx0 nx nx2) (pe_var (i := 0) rfl hy0 ny ny2) (fun _ _ => rfl)
  show codeAny _ _ (.expr (.Subscript (.Name x p1) (.Name y p2) p3) (envF Fn f s.heap.objs.size)) _ _
  refine PySem.W.kla_codeExpr (wpAny_mono (pe.run [] _ _ (only d od kvs) (fun w' H' => w' = .int z ∧ H' = only d od kvs) I0 ?_) (fun w' s' hq => ?_) fun e s' hq => ?_)
  · exact ⟨_, rfl, _, rfl, d, .int z, rfl, .inl ⟨kvs, Sum.inl k, .inr ⟨od, only_same⟩, rfl, hval.symm⟩, rfl, rfl⟩
  · obtain ⟨v2, H2, I2, rv, e1, e2⟩ := hq
    subst e1 e2
    obtain ⟨t, rfl⟩ := rv
    have un : Un (frs X.stack) [] (only d od kvs) (only d od kvs) s.heap s'.heap := I2.base
    have hd2 := (I2.hok d _ only_same).1
    refine hQ t s' ⟨I2.os, I2.bare, fun b o e n => ?_, fun b o e n => ?_⟩
    · by_cases hb : b = d
      · subst hb
        rw [hod] at e
        cases e
        exact hd2
      · exact un.keep b o e (only_ne hb) n (by simp)
    · have hb : b ≠ d := nd b (J.stkFree b n)
      exact un.slot b o e (only_ne hb) n (by simp)
  · exact wpAny_mono hq (fun _ _ z => z.elim) fun _ _ z => z.elim
end
theorem valV_at : ∀ {kvs : List (Key × V)} {p : Key × V}, (kvs.map (·.1)).Nodup → p ∈ kvs → valV kvs p.1 = some p.2
  | [], _, _, h => by cases h
  | q :: kvs, p, nd, h => by
    rw [List.map_cons, List.nodup_cons] at nd
    rcases List.mem_cons.1 h with e | h
    · subst e
      exact valV_pos rfl
    · rw [valV_neg (fun e => nd.1 (by rw [e]; exact List.mem_map_of_mem (f := (·.1)) h))]
      exact valV_at nd.2 h
/-- a dict of numbers by numbers -/
def intsK (ks : List (Int × Int)) : List (Key × V) := ks.map fun p => (Sum.inl p.1, V.int p.2)
theorem intsK_keys (ks : List (Int × Int)) : (intsK ks).map (·.1) = (ks.map (·.1)).map Sum.inl := by
  unfold intsK
  rw [List.map_map, List.map_map]
  rfl
/-- the reading of min(x, key=lambda y: x[y]), x in the slot i -/
def tMinLam (T : List (Addr × Str)) (i : Nat) : TE := fun σ H Q => ∃ (d : Addr) (ks : List (Int × Int)), σ[i]? = some (some (.ref d)) ∧ H d = some (.dK (intsK ks)) ∧ ks ≠ [] ∧ Tabs T H ∧
  ∀ (H1 : Hp) (p : Int × Int), ExtN H H1 → Tabs T H1 → p ∈ ks → (∀ q, q ∈ ks → p.2 ≤ q.2) → Q (.int p.1) H1
section
variable {X : Cx}
theorem new_frs {pins : List (Addr × Obj)} {σ : L2.St} {H : Hp} {s : Shared} (I : Inv X pins σ H s) {a : Addr} (h : s.heap.objs.size ≤ a) : a ∉ frs X.stack := fun z => by
  rcases List.mem_cons.1 (I.stkSub a z) with e | e
  · have := I.lt
    rw [← e] at this
    exact Nat.lt_irrefl _ (Nat.lt_of_lt_of_le this h)
  · exact I.nofs h e
theorem pe_minLam {T : List (Addr × Str)} {c P : Addr} {i : Nat} {x y : Str} {params : Arguments} {scope : Scope} {p p0 p1 p2 p3 lpos kpos pos : Pos}
    (hc : X.calm = true) (hr : Room 2 X.A) (hg : Gl X "min") (hm : X.mg "min" = none) (TB : TabB X.base X.mg c P) (hcode : X.env.code = .ref c) (hmT : (P, X.env.qual ++ "<lambda>") ∈ T) (hu : ∀ q ∈ T, q.1 = P → q.2 = X.env.qual ++ "<lambda>")
    (hN : X.N[i]? = some x) (hx : Vis X.env.scope x) (S : NScope [y, x] [y] [x] scope) (hfree : ∀ n ∈ scope.names, n.2 = .free → X.env.scope.names.lookup n.1 = some .cell ∨ X.env.scope.names.lookup n.1 = some .free) (hfr : (x, NameKind.free) ∈ scope.names)
    (hdef : defaultsOf params X.env = ([], [])) (hbind : ∀ (qu : Str) (cl : List (Str × Addr)) (pm cv ctv a : Value), bindArgs (PySem.W.kla_fn "<lambda>" qu params (.Subscript (.Name x p1) (.Name y p2) p3) scope cl pm cv ctv) ⟨[a], []⟩ = pure [(y, a)])
    (nx : (x == ("__debug__" : Str)) = false := by decide) (nx2 : (x == ("__classdict__" : Str)) = false := by decide) (ny : (y == ("__debug__" : Str)) = false := by decide) (ny2 : (y == ("__classdict__" : Str)) = false := by decide) :
    PE X (.Call (.Name "min" p) [.Name x p0] [⟨some (Str.ofString "key"), .Lambda params (.Subscript (.Name x p1) (.Name y p2) p3) scope lpos, kpos⟩] pos) (tMinLam T i) := by
  refine ⟨fun pins s σ H Q I h => ?_⟩
  obtain ⟨d, ks, hσ, hd, hne, hT, h⟩ := h
  have hcl : ∀ n ∈ scope.names, n.2 = .free → ∃ a, X.env.cells.lookup n.1 = some a := fun n hn e => (hfree n hn e).elim (fun z => I.ok.has _ (.inl z)) fun z => I.ok.has _ (.inr z)
  have pa : PA X [.Name x p0] (tCons (tVar i) tNil) := pa_cons (pe_var (i := i) hN hx nx nx2) pa_nil
  refine wpAny_Call_Name_kw (ld_blt I hg hm (show bootBuiltins "min" = some (.builtin "min") by decide +kernel) ?_)
  refine PyProof.Rows.callWith_kw (thn (pa.run pos pins s σ H (fun vs H' => vs = [.ref d] ∧ H' = H) I ⟨_, hσ, rfl, rfl⟩) fun us s1 ⟨vs, H1, I1, r1, e1, e2⟩ => ?_)
  subst e1 e2
  obtain rfl := Vals.ref1 r1
  show wpAny _ _ (evalAll [do let w ← eval (.Lambda params (.Subscript (.Name x p1) (.Name y p2) p3) scope lpos) X.env; standAt pos; pure w]) _ _ s1
  refine wpAny_evalAll_cons (wpAny_bind (lam_make2 I1 TB hcode hmT hu hT hdef hcl fun f c' pm ctv H2 s2 I2 eN T2 hf _ hff hco => wpAny_bind (wpAny_standAt (wpAny_pure (wpAny_evalAll_nil ?_)))))
  show wpAny _ X.A (call (.builtin "min") [.ref d] [(Str.ofString "key", .ref f)]) _ _ s2
  have hd2 : H2 d = some (.dK (intsK ks)) := eN d _ hd fun ps z => by cases z
  obtain ⟨_, hsys, vs, rel, dof⟩ := dk_of I2.hok hd2
  obtain ⟨ep, dat⟩ := dof.dictAt
  obtain ⟨ob, es, ho, hex, hdat, hko, hpr, hnd⟩ := id dat
  have hlt : d < s2.heap.objs.size := Heap.lt_size ho
  have hkeys : vs.map (·.1) = (ks.map (·.1)).map Sum.inl := (KV.keys rel).symm.trans (intsK_keys ks)
  have hlv : vs.length = ks.length := by
    have := congrArg List.length hkeys
    rw [List.length_map, List.length_map, List.length_map] at this
    exact this
  have ndK : ((intsK ks).map (·.1)).Nodup := by
    rw [KV.keys rel]
    exact hnd
  have hdf : d ∉ frs X.stack := fun z => by
    rw [I2.stkFree d z] at hd2
    cases hd2
  have nI : s2.heap.objs.size ∉ frs X.stack := new_frs I2 (Nat.le_refl _)
  have itm : ∀ (j : Nat) (v : Value), (∃ k w', vs[j]? = some (k, w') ∧ (mixKind X.prog X.w).is k v = true) → ∃ (q : Int × Int) (t : Tok), ks[j]? = some q ∧ v = .int q.1 t := fun j v ⟨k, w', hk, hkey⟩ => by
    have e1 : (vs.map (·.1))[j]? = some k := by rw [List.getElem?_map, hk]; rfl
    rw [hkeys, List.map_map, List.getElem?_map] at e1
    obtain ⟨q, hq, e2⟩ := Option.map_eq_some_iff.mp e1
    subst e2
    obtain ⟨t, e3⟩ := Value.isInt_shape (k := q.1) (v := v) hkey
    exact ⟨q, t, hq, e3⟩
  refine call_min_walkK (wpAny_pyIter_dict (knd := mixKind X.prog X.w) hsys dat ?_)
  have hsz : ∀ o : Obj, (s2.heap.push o).objs.size = s2.heap.objs.size + 1 := fun o => Heap.size_push ..
  refine ⟨s2.heap.objs.size, _, _, _, _, _, _, Kp X s2, fun j kx _ => ∃ t, kx = .int (ks.getD j (0, 0)).2 t, fun a b => decide ((ks.getD a (0, 0)).2 < (ks.getD b (0, 0)).2), rfl,
    (Walks.dictKeys (knd := mixKind X.prog X.w) (A := X.A.in1) (I2.ok.hd hc) s2.heap.objs.size d (Nat.ne_of_lt hlt) vs ep).toS, ⟨⟨_, Heap.get?_push_size _ rfl, rfl, rfl⟩, dat.keep fun b o e => Heap.get?_push_of_some _ e⟩, fun b hb => ?_, ?_, ?_, ?_, fun v s3 hP kp => ?_⟩
  · show b < (s2.heap.push _).objs.size
    rw [hsz]
    rcases List.mem_cons.1 hb with e | hb
    · rw [e]
      exact Nat.lt_succ_self _
    · rw [List.mem_singleton.1 hb]
      exact Nat.lt_succ_of_lt hlt
  · rw [hlv]
    exact List.length_pos_iff.2 hne
  · refine ⟨fun sa sb ka m => ?_, fun _ _ _ _ z _ => z, fun j v sa o Q' E' hj hP ka hst hS hq => ?_, fun a b ka kb sa Q' E' _ ha hb hq => ?_⟩
    · have old : ∀ (oo : Obj) b o, s2.heap.get? b = some o → b ∉ (s2.heap.push oo).objs.size :: [s2.heap.objs.size] := fun oo b o e z => by
        have := Heap.lt_size e
        rw [hsz] at z
        rcases List.mem_cons.1 z with z | z
        · rw [z] at this
          exact Nat.lt_irrefl _ (Nat.lt_of_succ_lt this)
        · rw [List.mem_singleton.1 z] at this
          exact Nat.lt_irrefl _ this
      refine ⟨m.os.trans ka.os, by rw [show sb.gens = sa.gens from m.gens]; exact ka.bare, fun b o e n => m.heap b o (old _ b o e) (ka.keep b o e n), fun b o e n => ?_⟩
      obtain ⟨sl, e1⟩ := ka.slot b o e n
      exact ⟨sl, m.heap b _ (old _ b o e) e1⟩
    · obtain ⟨q, t, hq1, rfl⟩ := itm j v hP
      have hmem : (Sum.inl q.1, V.int q.2) ∈ intsK ks := List.mem_map_of_mem (f := fun p : Int × Int => ((Sum.inl p.1 : Key), V.int p.2)) (List.mem_of_getElem? hq1)
      have hv2 : valV (intsK ks) (Sum.inl q.1) = some (.int q.2) := valV_at ndK hmem
      have eg : ks.getD j (0, 0) = q := by rw [List.getD_eq_getElem?_getD, hq1]; rfl
      refine lam_turn I2 hf hff hco ka hd2 hσ hN S hfree hfr hbind hr rfl hv2 nx nx2 ny ny2 fun t' s' k' => hq _ s' (ka.trans k') ?_ (k'.keep _ _ hS ?_) ⟨t', by rw [eg]⟩ fun _ _ z => z
      · exact ⟨hst.1.at fun o' e => k'.keep _ o' e nI, hst.2.at' fun o' e => k'.keep _ o' e hdf⟩
      · rw [hsz]
        exact new_frs I2 (by omega)
    · obtain ⟨ta, rfl⟩ := ha
      obtain ⟨tb, rfl⟩ := hb
      exact CmpOf.ints_lt (prog := X.prog) (w := X.w) (A := X.A.in1) (P := fun j v => ∃ t, v = .int (ks.getD j (0, 0)).2 t) (fun j => (ks.getD j (0, 0)).2) (fun _ _ z => z) a b _ _ sa _ _ ⟨ta, rfl⟩ ⟨tb, rfl⟩ hq
  · exact ⟨rfl, I2.bare, fun b o e _ => Heap.get?_push_of_some _ e, fun b o e _ => ⟨o.slots, Heap.get?_push_of_some _ e⟩⟩
  · obtain ⟨q, t, hq, rfl⟩ := itm _ v hP
    obtain ⟨b1, b2⟩ := argBest_lt (fun j => (ks.getD j (0, 0)).2) (vs.length - 1)
    refine ⟨.int q.1, H2, kp.inv I2, ⟨t, rfl⟩, h H2 q eN T2 (List.mem_of_getElem? hq) fun r hr => ?_⟩
    obtain ⟨j, hj, e⟩ := List.mem_iff_getElem.mp hr
    have e2 : ks.getD j (0, 0) = r := by rw [List.getD_eq_getElem?_getD, List.getElem?_eq_getElem hj, ← e]; rfl
    have e3 : ks.getD (argBest (fun a b => decide ((ks.getD a (0, 0)).2 < (ks.getD b (0, 0)).2)) (vs.length - 1)) (0, 0) = q := by rw [List.getD_eq_getElem?_getD, hq]; rfl
    have := b2 j (by omega)
    rw [e3, e2] at this
    exact this
end
end My

set_option Elab.async false
set_option maxRecDepth 100000
set_option maxHeartbeats 4000000
namespace My
open PySem PySem.Spec PyProof.Rows L2 LamX NdefX
open ThReal (getN putN dropN DI)
def intP (p : Nat × Nat) : Int × Int := ((p.1 : Int), (p.2 : Int))
def natK (l : List (Nat × Nat)) : List (Key × V) := intsK (l.map intP)
def nk (p : Nat × Nat) : Key × V := (Sum.inl (p.1 : Int), V.int (p.2 : Int))
theorem natK_map (l : List (Nat × Nat)) : natK l = l.map nk := by
  unfold natK intsK
  rw [List.map_map]
  rfl
theorem key_iff (a b : Nat) : decide ((Sum.inl (a : Int) : Key) = Sum.inl (b : Int)) = decide (a = b) :=
  decide_eq_decide.2 ⟨fun h => by have := Sum.inl.inj h; omega, fun h => by rw [h]⟩
theorem valV_nat (l : List (Nat × Nat)) (s : Nat) : valV (natK l) (Sum.inl (s : Int)) = (getN l s).map fun c => V.int (c : Int) := by
  rw [natK_map]
  unfold valV getN
  induction l with
  | nil => rfl
  | cons p l ih =>
    rw [List.map_cons, List.find?_cons, List.find?_cons]
    have e : decide ((nk p).1 = Sum.inl (s : Int)) = decide (p.1 = s) := key_iff p.1 s
    rw [e]
    cases decide (p.1 = s) with
    | true => rfl
    | false => exact ih
theorem any_nat (l : List (Nat × Nat)) (s : Nat) : ((l.map nk).any fun kv => decide (kv.1 = (Sum.inl (s : Int) : Key))) = l.any fun p => decide (p.1 = s) := by
  induction l with
  | nil => rfl
  | cons p l ih =>
    rw [List.map_cons, List.any_cons, List.any_cons, ih]
    congr 1
    exact key_iff p.1 s
theorem putK_nat (l : List (Nat × Nat)) (s c : Nat) : putK (natK l) (Sum.inl (s : Int)) (.int (c : Int)) = natK (putN l s c) := by
  rw [natK_map, natK_map]
  unfold putK putN
  rw [any_nat]
  split
  · rw [List.map_map, List.map_map]
    refine List.map_congr_left fun p _ => ?_
    show (if (Sum.inl (p.1 : Int) : Key) = Sum.inl (s : Int) then ((Sum.inl (p.1 : Int) : Key), V.int (c : Int)) else nk p) = nk (if p.1 = s then (p.1, c) else p)
    by_cases e : p.1 = s
    · rw [if_pos e, if_pos (by rw [e])]
      rfl
    · rw [if_neg e, if_neg (fun h => e (by have := Sum.inl.inj h; omega))]
  · rw [List.map_append]
    rfl
theorem dropK_nat (l : List (Nat × Nat)) (s : Nat) : dropK (natK l) (Sum.inl (s : Int)) = natK (dropN l s) := by
  rw [natK_map, natK_map]
  unfold dropK dropN
  rw [List.filter_map]
  congr 1
  refine List.filter_congr fun p _ => ?_
  show decide ((Sum.inl (p.1 : Int) : Key) ≠ Sum.inl (s : Int)) = decide (p.1 ≠ s)
  exact decide_eq_decide.2 ⟨fun h e => h (by rw [e]), fun h e => h (by have := Sum.inl.inj e; omega)⟩
def doneK (l : List (Nat × Nat)) : List (Key × V) := l.map fun p => (Sum.inl (p.1 : Int), V.bl true)
theorem valV_done (l : List (Nat × Nat)) (s : Nat) : (valV (doneK l) (Sum.inl (s : Int))).isSome = l.any fun p => decide (p.1 = s) := by
  unfold doneK
  rw [← valV_any]
  induction l with
  | nil => rfl
  | cons p l ih =>
    rw [List.map_cons, List.any_cons, List.any_cons, ih]
    congr 1
    exact key_iff p.1 s
theorem putK_done {l : List (Nat × Nat)} {s c : Nat} (h : ∀ p, p ∈ l → p.1 ≠ s) : putK (doneK l) (Sum.inl (s : Int)) (.bl true) = doneK (l ++ [(s, c)]) := by
  unfold putK
  rw [if_neg]
  · unfold doneK
    rw [List.map_append]
    rfl
  · rw [valV_any, valV_done]
    intro e
    obtain ⟨p, hp, e⟩ := List.any_eq_true.1 e
    exact h p hp (of_decide_eq_true e)
theorem getD_nat (l : List (Nat × Nat)) (s c : Nat) : ((getN l s).map fun c => V.int (c : Int)).getD (.int (c : Int)) = V.int (((getN l s).getD c : Nat) : Int) := by
  cases getN l s <;> rfl
theorem min_nat (a b : Nat) : (if (b : Int) < (a : Int) then (b : Int) else (a : Int)) = ((min a b : Nat) : Int) := by
  split <;> omega
theorem tabs_updD {T : List (Addr × Str)} {H : Hp} {d : Addr} {kvs kvs' : List (Key × V)} (h : Tabs T H) (hd : H d = some (.dK kvs)) : Tabs T (upd H d (.dK kvs')) := fun q hq => by
  obtain ⟨ps, h1, h2, h3⟩ := h q hq
  refine ⟨ps, by rw [upd_ne (ne_of h1 hd (by intro z; cases z))]; exact h1, h2, fun pos cv hc => ?_⟩
  obtain ⟨c, e1, e2⟩ := h3 pos cv hc
  refine ⟨c, e1, ?_⟩
  rw [upd_ne (ne_of e2 hd (by intro z; unfold CodeO at z; cases z))]
  exact e2
theorem tabs_new {T : List (Addr × Str)} {H : Hp} {d : Addr} {o : HO} (h : Tabs T H) (hd : H d = none) : Tabs T (upd H d o) := h.ext (same_new hd)
theorem extN_upd {H H' : Hp} {d : Addr} {o : HO} (h : ExtN H H') (hd : H d = none) : ExtN H (upd H' d o) := fun b u e n => by
  rw [upd_ne (ne_of_none e hd)]
  exact h b u e n
def qLam : Str := ("real_from" : Str) ++ (".<locals>." : Str) ++ ("<lambda>" : Str)
abbrev sReal : Stmt := top 33
/-- how many entries the dict at d has -/
def lenAt (H : Hp) (d : Addr) : Nat := match H d with
  | some (.dK kvs) => kvs.length
  | _ => 0
section
variable {P : Program} {w : World} {K : PySem.W.Frag} {mg : Str → Option Value} {base : Heap} {C CA : Addr}
/-- THE RULE for a def, its code object known -/
theorem fn_okC {x qual : Str} {st : Stmt} {f c : Addr} {oc : Value} {od an : Option Addr} {osl : Array (Option Value)} {kV doc pm ct : Value} {N ps : List Str} {k : Nat} {sp : Sp} (lk : K.lookup f = some ⟨oc, od, .func (PySem.W.fnOf x qual (defArgs st) (defBody st) (defScope st) .none kV doc pm an (.ref c) ct), osl⟩)
    (hcd : PySem.W.codeIn K (.ref c) qual = true) (S : FnScope N ps (defScope st)) (len : ∀ vs H Q E, sp vs H Q E → vs.length = ps.length)
    (hb : ∀ (A : Around) (outer : List Env) (s : Shared) (H : Hp) (vs : List V) (Q : VK) (E : XK), Room k (A.deeper (envOfC qual (defScope st) s.heap.objs.size f (.ref c))) → sp vs H Q E →
      ∃ t, PSs (cxOf CX0 P w K mg base N qual (defScope st) f (.ref c) A outer s H E).nox (defBody st) t ∧ t { nx := fun _ H' => Q .non H', rt := Q } (L2.start N vs) H) :
    FnOk P w K mg base CX0 (k + 1) f (PySem.W.fnOf x qual (defArgs st) (defBody st) (defScope st) .none kV doc pm an (.ref c) ct) ps sp := by
  refine fn_of lk hcd S len fun A outer s H vs Q E hr hsp => ?_
  obtain ⟨t, h, q⟩ := hb A outer s H vs Q E hr hsp
  exact ⟨t, h.nox, q⟩
/-! ### real_from -/
def spReal (C CA Pt : Addr) : Sp := fun vs H Q _ => ∃ (H0 : Hp) (p : Addr) (t : Pn.Task) (st : Nat), vs = [.ref p, .int st] ∧ HouseAt C CA H0 H p t ∧ st < 2 ^ t.facts ∧ Tabs [(Pt, qLam)] H ∧
  match ThCost.D t st with
  | none => ∀ H', ExtN H H' → Tabs [(Pt, qLam)] H' → Q .non H'
  | some c => ∀ (H' : Hp) (b : Addr), ExtN H H' → Tabs [(Pt, qLam)] H' → (∀ o, H b = some o → ∃ ps, o = .tbl ps) → H' b = some (.lst [.int (c : Int)]) → Q (.ref b) H'
theorem scReal : FnScope ["house", "state", "done", "here", "cost", "act", "there", "waiting"] ["house", "state"] (defScope sReal) := ⟨rfl, rfl, rfl, by decide +kernel, rfl, by decide +kernel, by decide +kernel⟩
theorem ok_real {f c Pt fM fB : Addr} {fdM fdB : FuncData} {oc : Value} {od an : Option Addr} {osl : Array (Option Value)} {kV doc pm ct : Value}
    (lk : K.lookup f = some ⟨oc, od, .func (PySem.W.fnOf "real_from" "real_from" (defArgs sReal) (defBody sReal) (defScope sReal) .none kV doc pm an (.ref c) ct), osl⟩) (hcd : PySem.W.codeIn K (.ref c) "real_from" = true) (TB : TabB base mg c Pt)
    (T : Txt K mg C CA) (mN : mg "min" = none)
    (GM : FnOk P w K mg base CX0 1 fM fdM ["self", "state"] (spMay CA)) (bM : Binds K fdM ["self", "state"] []) (meM : Meth K CA "may_be_done" fM)
    (GB : FnOk P w K mg base CX0 1 fB fdB ["self", "state"] (spBehind CA)) (bB : Binds K fdB ["self", "state"] []) (meB : Meth K CA "behind" fB) :
    FnOk P w K mg base CX0 3 f (PySem.W.fnOf "real_from" "real_from" (defArgs sReal) (defBody sReal) (defScope sReal) .none kV doc pm an (.ref c) ct) ["house", "state"] (spReal C CA Pt) := by
  refine fn_okC lk hcd scReal (fun vs H Q E h => ?_) (fun A outer s0 H vs Q E hr h => ?_)
  · obtain ⟨H0, p, t, st, rfl, _⟩ := h
    rfl
  · obtain ⟨H0, p, t, st, rfl, hH, hst, hT, k⟩ := h
    have hr1 : Room 1 _ := hr.mono (by decide)
    have hu := hu_of hr
    refine ⟨_, pss_cons (ps_set (i := 2) scReal.nd rfl (Or.inl rfl) pe_dnewK)
      (pss_cons (ps_set (i := 7) scReal.nd rfl (Or.inr rfl) (pe_disp (pps_cons (pv 1) pe_int pps_nil) (by rfl) (by rfl) (fun z => by cases z) (by decide)))
      (pss_cons (ps_while PassesOwn.never (pt_cmpR op_gt (pe_callB call_lenD (by rfl) T.len PySem.boot_len (pa_cons (pv 7) pa_nil)) pe_int (nomark _))
        (pss_cons (ps_set (i := 3) scReal.nd rfl (Or.inl rfl) (pe_minLam (T := [(Pt, qLam)]) (c := c) (P := Pt) (i := 7) (x := "waiting") (y := "place") (by rfl) hr (by rfl) mN TB (by rfl) (by exact List.mem_singleton.2 rfl) (by intro q hq _; rw [List.mem_singleton.1 hq]; rfl) (by rfl) (by exact Or.inr (Or.inl rfl)) (by exact nscope_by (by decide +kernel)) (by exact ndef_free (sc := defScope sReal) (fr := ["waiting"]) (by decide +kernel)) (by decide +kernel) (by rfl) (by intros; rfl)))
        (pss_cons (ps_set (i := 4) scReal.nd rfl (Or.inl rfl) (pe_dpop1 (pv 7) (pv 3) ⟨rfl, rfl, rfl, rfl⟩))
        (pss_cons (ps_if (pt_cmpR op_eq (pe_op op_and (pv 3) (pe_fld (pv 0) rfl)) (pe_fld (pv 0) rfl) (nomark _)) (pss_one (ps_ret (pe_lst (pa_cons (pv 4) pa_nil)))) pss_nil)
        (pss_cons (ps_dput hu (pv 2) (pv 3) pe_bl rfl)
        (pss_one (ps_for PassesOwn.never rfl (pi_list (pe_fld (pv 0) rfl)) (pg_name (i := 5) scReal.nd rfl (Or.inl rfl))
          (pss_cons (ps_set (i := 6) scReal.nd rfl (Or.inl rfl) (pe_meth (pv 5) T.clA meB GB hr1 bB .nil pass0 (pa_cons (pv 3) pa_nil)))
          (pss_one (ps_if (PW.pt (pw_and (pt_val (pe_meth (pv 5) T.clA meM GM hr1 bM .nil pass0 (pa_cons (pv 3) pa_nil))) (pw_and1 (pt_cmp (pc_dnotin hu (pv 6) (pv 2))))))
            (pss_one (ps_dput hu (pv 7) (pv 6) (pe_callB (call_min2 rfl) rfl mN (by decide +kernel) (pa_cons (pe_dget2 hu (pv 7) (pv 6) (pe_op op_add (pv 4) (pe_fld (pv 5) rfl)) ⟨rfl, rfl, rfl, rfl⟩) (pa_cons (pe_op op_add (pv 4) (pe_fld (pv 5) rfl)) pa_nil))) rfl)) pss_nil))))))))))
      (pss_one (ps_ret pe_non)))), ?_⟩
    obtain ⟨s0', p0, wl, dx, la, xs, la0, hp, hla, hA⟩ := hH
    have g := wl.good
    have hpow : 2 ^ t.facts ≤ 256 := Nat.pow_le_pow_right (n := 2) (by decide) wl.f8
    intro dd ndd
    refine fun dw ndw => ⟨_, rfl, upd_same, [(Sum.inl (st : Int), .int 0)], rfl, by show 1 ≤ 15; decide, ?_⟩
    have ndw0 : H dw = none := (same_new ndd).free ndw
    have ndwdd : dw ≠ dd := fun e => by
      rw [e, upd_same] at ndw
      cases ndw
    rw [upd_upd]
    have hnil : ∀ {A' : Addr} {H' : Hp}, ExtN H H' → H A' ≠ none → (∀ ps, H A' ≠ some (.tbl ps)) → H' A' = H A' := fun {A' H'} e n z => by
      cases q : H A' with
      | none => exact absurd q n
      | some o => exact e _ _ q fun ps r => z ps (by rw [q, r])
    have insK : ∀ {b C' d' : Addr} {fs : List (Str × V)} {H' : Hp}, ExtN H H' → H b = some (.ins C' d' fs) → H' b = some (.ins C' d' fs) := fun e h => e _ _ h fun ps z => by cases z
    have lstK : ∀ {b : Addr} {l : List V} {H' : Hp}, ExtN H H' → H b = some (.lst l) → H' b = some (.lst l) := fun e h => e _ _ h fun ps z => by cases z
    refine while_by (fun σ H' => ∃ (dn wt : List (Nat × Nat)) (v3 v4 v5 v6 : Option V), σ = [some (.ref p), some (.int st), some (.ref dd), v3, v4, v5, v6, some (.ref dw)] ∧ ExtN H H' ∧ Tabs [(Pt, qLam)] H' ∧ H' dd = some (.dK (doneK dn)) ∧ H' dw = some (.dK (natK wt)) ∧ DI t st dn wt ThReal.Never)
      (fun _ H' => 2 ^ t.facts - lenAt H' dd) ⟨[], [(st, 0)], none, none, none, none, rfl, extN_upd (extN_upd (ExtN.refl H) ndd) ndw0, tabs_new (tabs_new hT ndd) ndw, by rw [upd_ne ndwdd.symm, upd_same]; rfl, by rw [upd_same]; rfl, ThReal.start hst⟩ ?_ ?_
    · rintro σ H1 ⟨dn, wt, v3, v4, v5, v6, rfl, e1, t1, hdd, hdw, di⟩
      refine ⟨_, rfl, dw, _, rfl, hdw, _, _, rfl, rfl, _, rfl, ?_⟩
      have lenW : (natK wt).length = wt.length := by rw [natK_map, List.length_map]
      refine ite2 (fun cw => ?_) (fun cw => ?_)
      · have hne : wt ≠ [] := fun e => by
          subst e
          exact absurd cw (by decide)
        refine ⟨dw, wt.map intP, rfl, hdw, fun e => hne (List.map_eq_nil_iff.1 e), t1, fun H2 q e2 t2 hq hmin => ?_⟩
        obtain ⟨pr, hpr, rfl⟩ := List.mem_map.1 hq
        have hmin' : ∀ r, r ∈ wt → pr.2 ≤ r.2 := fun r hr => by
          have := hmin _ (List.mem_map_of_mem (f := intP) hr)
          have : (pr.2 : Int) ≤ (r.2 : Int) := this
          omega
        have hdd2 : H2 dd = some (.dK (doneK dn)) := e2 _ _ hdd fun ps z => by cases z
        have hdw2 : H2 dw = some (.dK (natK wt)) := e2 _ _ hdw fun ps z => by cases z
        have e12 : ExtN H H2 := e1.trans e2
        have hnd := List.nodup_append.1 di.nd
        have hval : valV (natK wt) (Sum.inl (pr.1 : Int)) = some (.int (pr.2 : Int)) := by
          have nd2 : ((natK wt).map (·.1)).Nodup := by
            rw [natK_map, List.map_map]
            have e : (wt.map ((fun x => x.1) ∘ nk)) = (wt.map (·.1)).map (fun n : Nat => (Sum.inl (n : Int) : Key)) := by
              rw [List.map_map]
              rfl
            rw [e]
            refine List.pairwise_map.2 (hnd.2.1.imp fun {a b} h z => h ?_)
            have := Sum.inl.inj z
            omega
          exact valV_at (p := nk pr) nd2 (by rw [natK_map]; exact List.mem_map_of_mem (f := nk) hpr)
        refine ⟨_, rfl, dw, rfl, .inl ⟨_, .inl hdw2⟩, _, rfl, _, Sum.inl (pr.1 : Int), _, hdw2, rfl, hval, ?_⟩
        rw [dropK_nat]
        have e3 : ExtN H (upd H2 dw (.dK (natK (dropN wt pr.1)))) := extN_upd e12 ndw0
        have t3 : Tabs [(Pt, qLam)] (upd H2 dw (.dK (natK (dropN wt pr.1)))) := tabs_updD t2 hdw2
        have hdd3 : upd H2 dw (.dK (natK (dropN wt pr.1))) dd = some (.dK (doneK dn)) := by
          rw [upd_ne ndwdd.symm]
          exact hdd2
        have hdw3 : upd H2 dw (.dK (natK (dropN wt pr.1))) dw = some (.dK (natK (dropN wt pr.1))) := upd_same
        generalize upd H2 dw (.dK (natK (dropN wt pr.1))) = H3 at e3 t3 hdd3 hdw3
        refine ⟨_, rfl, _, rfl, p, C, dx, _, _, rfl, insK e3 hp, T.cl, T.nW, hF_wanted _ _ _, _, _, rfl, rfl, _, rfl, p, C, dx, _, _, rfl, insK e3 hp, T.cl, T.nW, hF_wanted _ _ _, rfl, _, rfl, ?_⟩
        show if decide (V.int (Builtin.bitAnd (pr.1 : Int) (t.goal : Int)) = V.int (t.goal : Int)) = true then _ else _
        rw [bAnd, within_comm]
        have ed : Pn.within t.goal pr.1 = t.done pr.1 := rfl
        rw [ed]
        refine ite2 (fun cd => ?_) (fun cd => ?_)
        · have eD := ThReal.found g hst di hpr hmin' cd
          rw [eD] at k
          refine ⟨_, rfl, by show 1 ≤ sizeLine; decide, fun b nb => ?_⟩
          refine k _ b (fun b' o e n => ?_) (tabs_new t3 nb) ?_ upd_same
          · have := e3 b' o e n
            rw [upd_ne (ne_of_none this nb)]
            exact this
          · intro o q
            apply Classical.byContradiction
            intro z
            rw [e3 b o q fun ps r => z ⟨ps, r⟩] at nb
            cases nb
        · have cd : t.done pr.1 = false := by simpa using cd
          have pnot : ∀ q, q ∈ dn → q.1 ≠ pr.1 := fun q hq e => hnd.2.2 q.1 (List.mem_map_of_mem (f := (·.1)) hq) pr.1 (List.mem_map_of_mem (f := (·.1)) hpr) e
          have di2 := ThReal.take di hpr hmin' cd
          have few := di2.few
          rw [List.length_append, List.length_singleton] at few
          refine ⟨_, rfl, _, rfl, dd, _, rfl, DPut.k (k := Sum.inl (pr.1 : Int)) hdd3 ?_, ?_⟩
          · unfold doneK
            rw [List.length_map]
            exact small1000 (by omega)
          rw [putK_done (c := pr.2) pnot]
          have e4 : ExtN H (upd H3 dd (.dK (doneK (dn ++ [pr])))) := extN_upd e3 ndd
          have t4 : Tabs [(Pt, qLam)] (upd H3 dd (.dK (doneK (dn ++ [pr])))) := tabs_updD t3 hdd3
          have hdd4 : upd H3 dd (.dK (doneK (dn ++ [pr]))) dd = some (.dK (doneK (dn ++ [pr]))) := upd_same
          have hdw4 : upd H3 dd (.dK (doneK (dn ++ [pr]))) dw = some (.dK (natK (dropN wt pr.1))) := by
            rw [upd_ne ndwdd]
            exact hdw3
          generalize upd H3 dd (.dK (doneK (dn ++ [pr]))) = H4 at e4 t4 hdd4 hdw4
          refine ⟨_, rfl, p, C, dx, _, _, rfl, insK e4 hp, T.cl, T.nA, hF_acts _ _ _, la, rfl, ⟨_, SqL.of (lstK e4 hla)⟩, ?_⟩
          refine for_list (K := K) (a := la) (xs := xs.map V.ref) (fun i σ H' => ∃ (wt' : List (Nat × Nat)) (v5 v6 : Option V), σ = [some (.ref p), some (.int st), some (.ref dd), some (.int (pr.1 : Int)), some (.int (pr.2 : Int)), v5, v6, some (.ref dw)] ∧ ExtN H H' ∧ Tabs [(Pt, qLam)] H' ∧ H' dd = some (.dK (doneK (dn ++ [pr]))) ∧ H' dw = some (.dK (natK wt')) ∧ DI t st (dn ++ [pr]) wt' (fun u k => u = pr.1 ∧ i ≤ k))
            ⟨_, _, _, rfl, e4, t4, hdd4, hdw4, di2.weaken fun q _ k _ z => .inl ⟨z, Nat.zero_le _⟩⟩ (fun i σ H' _ ⟨_, _, _, _, e, _⟩ => SqL.of (lstK e hla)) ?_ ?_
          · rintro i x σ H5 hi ⟨wt', w5, w6, rfl, e5, t5, hdd5, hdw5, di5⟩
            obtain ⟨ya, hy, rfl⟩ := refs_get hi
            obtain ⟨a, ha, _, dy, hya⟩ := hA.get hy
            have hya5 := insK e5 hya
            have hgood := wl.ok a (List.mem_of_getElem? ha)
            have ea := act_at ha
            have il : i < t.acts.length := (List.getElem?_eq_some_iff.1 ha).1
            have noM (m : Str) (h1 : (m == "needs") = false) (h2 : (m == "brings") = false) (h3 : (m == "takes") = false) (h4 : (m == "cost") = false) : (aF a).lookup m = none :=
              (lk_past h1).trans ((lk_past h2).trans ((lk_past h3).trans ((lk_past h4).trans rfl)))
            have prin : pr ∈ dn ++ [pr] := List.mem_append_right _ (List.mem_singleton.2 rfl)
            have onlyp : ∀ q, q ∈ dn ++ [pr] → q.1 = pr.1 → q = pr := fun q hq e => by
              rcases List.mem_append.1 hq with h | h
              · exact absurd e (pnot q h)
              · exact List.mem_singleton.1 h
            have ecan : t.can pr.1 i = Pn.within a.pre pr.1 := by
              unfold Pn.Task.can
              rw [decide_eq_true il, ea, may_within hgood.2.1]
              rfl
            refine ⟨_, rfl, ya, dy, _, rfl, hya5, noM "behind" (by decide +kernel) (by decide +kernel) (by decide +kernel) (by decide +kernel), _, rfl, ya, dy, a, pr.1, rfl, hya5, ?_⟩
            refine ⟨_, rfl, ya, dy, _, rfl, hya5, noM "may_be_done" (by decide +kernel) (by decide +kernel) (by decide +kernel) (by decide +kernel), _, rfl, ya, dy, a, pr.1, rfl, hya5, _, rfl, ?_⟩
            refine ite2 (fun cm => ?_) (fun cm => ?_)
            · refine ⟨_, rfl, _, rfl, dd, _, rfl, DGet.k (k := Sum.inl ((a.then_ pr.1 : Nat) : Int)) hdd5, _, rfl, ?_⟩
              rw [cm] at ecan
              refine ite2 (fun cn => ?_) (fun cn => ?_)
              · have hv : ∀ q, q ∈ dn ++ [pr] → q.1 ≠ (t.act i).then_ pr.1 := fun q hq e => by
                  have : (valV (doneK (dn ++ [pr])) (Sum.inl ((a.then_ pr.1 : Nat) : Int))).isSome = true := by
                    rw [valV_done]
                    exact List.any_eq_true.2 ⟨q, hq, decide_eq_true (by rw [e, ea])⟩
                  rw [this] at cn
                  cases cn
                have di6 := ThReal.relax g di5 prin ecan hv
                rw [ea] at di6
                refine ⟨_, rfl, dw, rfl, .inl ⟨_, .inl hdw5⟩, _, rfl, _, rfl, _, rfl, ya, CA, dy, _, _, rfl, hya5, T.clA, T.nCost, aF_cost a, _, _, rfl, rfl, _, DGet.k (k := Sum.inl ((a.then_ pr.1 : Nat) : Int)) hdw5, _, rfl, _, rfl, ya, CA, dy, _, _, rfl, hya5, T.clA, T.nCost, aF_cost a, _, _, rfl, rfl, (((getN wt' (a.then_ pr.1)).getD (pr.2 + a.cost) : Nat) : Int), ((pr.2 + a.cost : Nat) : Int), ?_, ?_⟩
                · show [(valV (natK wt') (Sum.inl ((a.then_ pr.1 : Nat) : Int))).getD (V.int ((pr.2 : Int) + (a.cost : Int))), V.int ((pr.2 : Int) + (a.cost : Int))] = _
                  rw [valV_nat, ← Int.natCast_add, getD_nat]
                rw [min_nat]
                refine ⟨_, rfl, _, rfl, dw, _, rfl, DPut.k (k := Sum.inl ((a.then_ pr.1 : Nat) : Int)) hdw5 ?_, ?_⟩
                · have := di5.fewW
                  rw [natK_map, List.length_map]
                  exact small1000 (by omega)
                rw [putK_nat]
                refine ⟨_, _, _, rfl, extN_upd e5 ndw0, tabs_updD t5 hdw5, by rw [upd_ne ndwdd.symm]; exact hdd5, upd_same, di6.weaken fun q hq k hk z => ?_⟩
                by_cases ek : k = i
                · subst ek
                  have eq := onlyp q hq z.1
                  subst eq
                  exact .inr ⟨(a.then_ q.1, _), List.mem_append_right _ (ThReal.putN_has _ _ _), by rw [ea], by rw [ea]; exact Nat.min_le_right _ _⟩
                · exact .inl ⟨z.1, by omega⟩
              · have hin : ∃ q, q ∈ dn ++ [pr] ∧ q.1 = a.then_ pr.1 := by
                  have : (valV (doneK (dn ++ [pr])) (Sum.inl ((a.then_ pr.1 : Nat) : Int))).isSome = true := by
                    cases eb : (valV (doneK (dn ++ [pr])) (Sum.inl ((a.then_ pr.1 : Nat) : Int))).isSome with
                    | true => rfl
                    | false => exact absurd (by rw [eb]; rfl) cn
                  rw [valV_done] at this
                  obtain ⟨q, hq, e⟩ := List.any_eq_true.1 this
                  exact ⟨q, hq, of_decide_eq_true e⟩
                refine ⟨_, _, _, rfl, e5, t5, hdd5, hdw5, di5.weaken fun q hq k hk z => ?_⟩
                by_cases ek : k = i
                · subst ek
                  have eq := onlyp q hq z.1
                  subst eq
                  obtain ⟨r, hr, er⟩ := hin
                  obtain ⟨l, hl, hpl⟩ := di5.path q (List.mem_append_left _ hq)
                  have hg2 := ThCalls.goes_snoc t l st q.1 k hl hk
                  rw [ea, ← er] at hg2
                  have hb := di5.best r hr _ hg2
                  rw [ThCalls.price_append, ThCost.price_cons, ThCost.price_nil, hpl, ea] at hb
                  exact .inr ⟨r, List.mem_append_left _ hr, by rw [ea]; exact er, by rw [ea]; exact hb⟩
                · exact .inl ⟨z.1, by omega⟩
            · refine if_false_of rfl ⟨_, _, _, rfl, e5, t5, hdd5, hdw5, di5.weaken fun q hq k hk z => ?_⟩
              by_cases ek : k = i
              · subst ek
                rw [z.1, ecan] at hk
                exact absurd hk cm
              · exact .inl ⟨z.1, by omega⟩
          · rintro σ H5 ⟨wt', w5, w6, rfl, e5, t5, hdd5, hdw5, di5⟩
            refine ⟨⟨dn ++ [pr], wt', _, _, _, _, rfl, e5, t5, hdd5, hdw5, di5.weaken fun q hq k hk z => ?_⟩, ?_⟩
            · have h1 := (ThCost.act_mem hk).2.2
              have h2 := z.2
              rw [List.length_map, hA.length] at h2
              omega
            · unfold lenAt
              rw [hdd5, hdd]
              show 2 ^ t.facts - (doneK (dn ++ [pr])).length < 2 ^ t.facts - (doneK dn).length
              unfold doneK
              rw [List.length_map, List.length_map, List.length_append, List.length_singleton]
              omega
      · have hnil : wt = [] := by
          cases wt with
          | nil => rfl
          | cons a l => exact absurd (decide_eq_true (by rw [lenW, List.length_cons]; omega)) cw
        subst hnil
        have eD := ThReal.over g hst di
        rw [eD] at k
        exact k H1 e1 t1
    · rintro σ H2 Q1 Q2 hQ ⟨v1, e1, a1, kv, e2, e3, i1, j1, e4, e5, kk, e6, q1⟩
      exact ⟨v1, e1, a1, kv, e2, e3, i1, j1, e4, e5, kk, e6, hQ _ _ q1⟩
end
end My

set_option Elab.async false
set_option maxRecDepth 100000
set_option maxHeartbeats 4000000
namespace My
open PySem PySem.Spec PyProof.Rows L2
open ThZone (dearBit IsZone IsBefore ZClosed BClosed)
theorem facts_sorted (n m : Nat) : (Pn03.facts n m).Pairwise (· < ·) := List.Pairwise.filter _ List.pairwise_lt_range
theorem nats_int (l : List Nat) : natsV l = (l.map fun f : Nat => (f : Int)).map V.int := by
  unfold natsV
  rw [List.map_map]
  rfl
theorem optV_some {x : Nat} {o : Option Nat} : decide (optV o = V.int (x : Int)) = (o == some x) := by
  cases o with
  | none => rfl
  | some y =>
    show decide (V.int (y : Int) = V.int (x : Int)) = _
    by_cases e : y = x
    · subst e
      simp
    · rw [decide_eq_false (fun z => e (by have := V.int.inj z; omega))]
      exact (beq_eq_false_iff_ne.2 (fun z => e (Option.some.inj z))).symm
abbrev sDear : Stmt := top 25
section
variable {P : Program} {w : World} {K : PySem.W.Frag} {mg : Str → Option Value} {base : Heap} {C CA : Addr}
/-! ### dear_of -/
def spDear (K : PySem.W.Frag) : Sp := fun vs H Q _ => ∃ (a : Addr) (n m : Nat) (l : List (Option Nat)), vs = [.ref a, .int m] ∧ SqL K H a (l.map optV) ∧ l.length = n ∧ m < 2 ^ n ∧ n ≤ 10 ∧ m ≠ 0 ∧
  ∀ H' : Hp, Same H H' → Q (.int ((dearBit n l m : Nat) : Int)) H'
theorem scDear : FnScope ["worths", "row", "worth", "fact"] ["worths", "row"] (defScope sDear) := ⟨rfl, rfl, rfl, by decide +kernel, rfl, by decide +kernel, by decide +kernel⟩
theorem ok_dear {f fM fD : Addr} {fd fdM fdD : FuncData} (F : Fun K "dear_of" "dear_of" sDear f fd) (FM : Fun K "members" "members" sMembers fM fdM) (mM : mg "members" = some (.ref fM)) (bM : Binds K fdM ["row"] []) (mR : mg "range" = none) (mN : mg "min" = none)
    (kpD : PySem.W.keepIn K (.ref fD) = true) (mD : mg "dearest_of" = some (.ref fD)) (bD : Binds K fdD ["worths", "row"] []) (GD : FnOk P w K mg base CX0 2 fD fdD ["worths", "row"] (spRow K false)) :
    FnOk P w K mg base CX0 3 f fd ["worths", "row"] (spDear K) := by
  have GM : FnOk P w K mg base CX0 1 fM fdM ["row"] spMembers := ok_members FM mR
  refine F.ok scDear (fun vs H Q E h => ?_) (fun cdv A outer s H vs Q E hr h => ?_)
  · obtain ⟨a, n, m, l, rfl, _⟩ := h
    rfl
  · obtain ⟨a, n, m, l, rfl, hS, hl, hm, hn, h0, k⟩ := h
    have hr1 : Room 1 _ := hr.mono (by decide)
    refine ⟨_, pss_cons (ps_set (i := 2) scDear.nd rfl (Or.inr rfl) (pe_call GD hr rfl mD kpD bD .nil pass0 (pa_cons (pv 0) (pa_cons (pv 1) pa_nil))))
      (pss_cons (ps_if (pt_cmpR op_isN (pv 2) pe_non (nomark _)) (pss_one (ps_ret pe_int)) pss_nil)
      (pss_one (ps_ret (pe_op op_shl pe_int (pe_callB (cr_min rfl) rfl mN (by decide +kernel) (pa_cons
        (pe_lc (own := [("fact", 3)]) (g := gName 3) (tt := tTest (tOp _ (tOp (rIxL K) (tVar 0) (tVar 3)) (tVar 2))) (te := tVar 3) rfl scDear.nd (pi_list (pe_call GM hr1 rfl mM FM.kp bM .nil pass0 (pa_cons (pv 1) pa_nil)))
          (blkOk_by (N := ["worths", "row", "worth", "fact"]) (sc := defScope sDear) (by decide +kernel)) (fun _ _ _ _ _ => pg_name (i := 3) scDear.nd rfl (Or.inl rfl)) (fun _ _ _ _ _ => pts_one (pt_cmpR op_eq (pe_ix ix_list (pv 0) (pv 3) (fun _ _ => rfl)) (pv 2) (nomark _))) (fun _ _ _ _ _ => pv 3)) pa_nil)))))), ?_⟩
    refine ⟨_, rfl, _, rfl, a, n, m, l, rfl, hS, hl, hm, hn, fun H1 s1 => ?_⟩
    refine ⟨_, rfl, rfl, _, rfl, ?_⟩
    have k := fun H' s' => k H' s'
    unfold ThZone.dearBit at k
    have hne : Pn03.facts n m ≠ [] := fun z => h0 ((ThExt.facts_nil hm).1 z)
    cases e : ThVal.joinF false (Pn03.val l) (Pn03.facts n m) with
    | none =>
      rw [e] at k
      exact if_true_of rfl (k H1 s1)
    | some x =>
      rw [e] at k
      refine if_false_of rfl ?_
      refine ⟨_, rfl, n, m, rfl, hm, hn, fun H2 p s2 np hp => ⟨p, rfl, ⟨_, SqL.of hp⟩, fun D hD => ?_⟩⟩
      have pD : p ≠ D := ne_of_none hp hD
      have s12 := s1.trans s2
      refine lc_list (K := K) (a := p) (xs := natsV (Pn03.facts n m)) (fun i H' => H' = upd H2 D (.lst (natsV (((Pn03.facts n m).take i).filter fun f => Pn03.val l f == some x)))) rfl (fun i H' _ hP => ?_) (fun i y H' hi hP => ?_) (fun H' hP => ?_)
      · rw [hP]
        exact SqL.of (by rw [upd_ne pD]; exact hp)
      · subst hP
        obtain ⟨f0, hf, rfl⟩ := natsV_get hi
        have hfn : f0 < l.length := by
          have := (ThVal.mem_facts.1 (List.mem_of_getElem? hf)).1
          omega
        obtain ⟨y, ey, _⟩ := ThVal.joinF_max.1 (show ThFix.RO (ThVal.joinF false (Pn03.val l) (Pn03.facts n m)) x by rw [e]; exact ThFix.RO_some.2 (Nat.le_refl x)) f0 (List.mem_of_getElem? hf)
        refine ⟨rfl, _, rfl, _, rfl, a, _, _, _, rfl, rfl, (s12.trans (same_new hD)).seq hS, atI_nat (opt_get hfn), _, rfl, by rw [ey]; rfl, _, rfl, ?_⟩
        show if decide (optV (Pn03.val l f0) = V.int (x : Int)) = true then _ else _
        rw [optV_some, take_more hf, List.filter_append]
        refine ite2 (fun c => ?_) (fun c => ?_)
        · refine ⟨_, rfl, _, upd_same, ?_, ?_⟩
          · unfold natsV
            rw [List.length_map]
            have h1 := List.length_filter_le (fun f => Pn03.val l f == some x) ((Pn03.facts n m).take i)
            have h2 := facts_length n m
            rw [List.length_take] at h1
            exact small1000 (by omega)
          · rw [upd_upd]
            have : List.filter (fun f => Pn03.val l f == some x) [f0] = [f0] := by simp [c]
            rw [this]
            unfold natsV
            rw [List.map_append]
            rfl
        · have : List.filter (fun f => Pn03.val l f == some x) [f0] = [] := by simpa using c
          rw [this, List.append_nil]
      · subst hP
        have el : (Pn03.facts n m).take (natsV (Pn03.facts n m)).length = Pn03.facts n m := by
          unfold natsV
          rw [List.length_map, List.take_length]
        rw [el]
        obtain ⟨g, hg, eg⟩ := ThCut.max_attained hne e
        have hgm : g ∈ (Pn03.facts n m).filter fun f => Pn03.val l f == some x := List.mem_filter.2 ⟨hg, by rw [eg]; exact beq_self_eq_true _⟩
        refine ⟨D, _, rfl, SqL.of (by rw [upd_same, nats_int]), ?_, fun y hy hmin => ?_⟩
        · rw [List.length_map]
          exact List.length_pos_of_mem hgm
        · obtain ⟨q, hq, rfl⟩ := List.mem_map.1 hy
          have hh : ((Pn03.facts n m).filter fun f => Pn03.val l f == some x).head? = some q := by
            have so : ((Pn03.facts n m).filter fun f => Pn03.val l f == some x).Pairwise (· < ·) := (facts_sorted n m).filter _
            generalize (Pn03.facts n m).filter (fun f => Pn03.val l f == some x) = L at hq hmin so
            cases L with
            | nil => cases hq
            | cons r L =>
              have h1 := hmin _ (List.mem_map_of_mem (f := fun f : Nat => (f : Int)) (List.mem_cons_self (a := r) (l := L)))
              have : q = r := by
                rcases List.mem_cons.1 hq with z | z
                · exact z
                · have := (List.pairwise_cons.1 so).1 q z
                  omega
              rw [this]
              rfl
          rw [List.head?_filter] at hh
          have hq8 : q < n := (ThVal.mem_facts.1 (List.mem_filter.1 hq).1).1
          refine ⟨_, _, rfl, rfl, ⟨by omega, by omega, by decide⟩, ?_⟩
          have k3 : Q (.int ((2 ^ ((Pn03.facts n m).find? fun f => Pn03.val l f == some x).getD 0 : Nat) : Int)) _ := k _ (s12.trans (same_new (o := .lst (natsV ((Pn03.facts n m).filter fun f => Pn03.val l f == some x))) hD))
          rw [hh] at k3
          have e5 : (1 : Int) * 2 ^ ((q : Nat) : Int).toNat = ((2 ^ q : Nat) : Int) := by
            rw [Int.toNat_natCast, Int.one_mul]
            norm_cast
          show Q (.int ((1 : Int) * 2 ^ ((q : Nat) : Int).toNat)) _
          rw [e5]
          exact k3
end
end My

set_option Elab.async false
set_option maxRecDepth 100000
set_option maxHeartbeats 4000000
namespace My
open PySem PySem.Spec PyProof.Rows L2
open ThZone (dearBit IsZone IsBefore ZClosed BClosed or_bit and_ne diff_bit)
def slotN (i : Nat) (σ : L2.St) : Nat := match σ[i]? with
  | some (some (V.int n)) => n.toNat
  | _ => 0
theorem bits_sub_le {a b : Nat} (h : ∀ f, a.testBit f = true → b.testBit f = true) : a ≤ b := by
  have : a ||| b = b := Nat.eq_of_testBit_eq fun i => by
    rw [Nat.testBit_or]
    cases e : a.testBit i with
    | false => rfl
    | true => rw [h i e]; rfl
  rw [← this]
  exact Nat.left_le_or
theorem ne_dec (a b : Nat) : (!decide (V.int (a : Int) = V.int (b : Int))) = decide (a ≠ b) := by
  by_cases e : a = b
  · subst e
    simp
  · rw [decide_eq_false (fun z => e (by have := V.int.inj z; omega)), decide_eq_true e]
    rfl
theorem eq_dec (a b : Nat) : decide (V.int (a : Int) = V.int (b : Int)) = decide (a = b) :=
  decide_eq_decide.2 ⟨fun z => by have := V.int.inj z; omega, fun z => by rw [z]⟩
abbrev sZone : Stmt := top 26
abbrev sBefore : Stmt := top 27
section
variable {P : Program} {w : World} {K : PySem.W.Frag} {mg : Str → Option Value} {base : Heap} {C CA : Addr}
/-! ### zone_round -/
def spZone (K : PySem.W.Frag) (CA : Addr) : Sp := fun vs H Q _ => ∃ (H0 : Hp) (la lb : Addr) (xs : List Addr) (as : List Pn.Act) (ds : List Nat) (e N : Nat), vs = [.ref la, .ref lb, .int e] ∧ SqL K H la (xs.map V.ref) ∧ ActsAt CA H0 H xs as ∧ SqL K H lb (natsV ds) ∧ as.length = ds.length ∧ (∀ d, d ∈ ds → d < 2 ^ N) ∧ e < 2 ^ N ∧ e ≠ 0 ∧
  ∀ (H' : Hp) (z : Nat), Same H H' → z < 2 ^ N → IsZone as ds e z → Q (.int (z : Int)) H'
theorem scZone : FnScope ["acts", "dears", "end", "zone", "wider", "act", "dear"] ["acts", "dears", "end"] (defScope sZone) := ⟨rfl, rfl, rfl, by decide +kernel, rfl, by decide +kernel, by decide +kernel⟩
theorem ok_zone {f : Addr} {fd : FuncData} (F : Fun K "zone_round" "zone_round" sZone f fd) (T : Txt K mg C CA) (mZ : mg "zip" = none) : FnOk P w K mg base CX0 1 f fd ["acts", "dears", "end"] (spZone K CA) := by
  refine F.ok scZone (fun vs H Q E h => ?_) (fun cdv A outer s0 H vs Q E hr h => ?_)
  · obtain ⟨H0, la, lb, xs, as, ds, e, N, rfl, _⟩ := h
    rfl
  · obtain ⟨H0, la, lb, xs, as, ds, e, N, rfl, hla, hA, hlb, hlen, hds, he, he0, k⟩ := h
    refine ⟨_, pss_cons (ps_set (i := 3) scZone.nd rfl (Or.inl rfl) pe_int)
      (pss_cons (ps_set (i := 4) scZone.nd rfl (Or.inl rfl) (pv 2))
      (pss_cons (ps_while PassesOwn.never (pt_cmpR op_ne (pv 4) (pv 3) (nomark _))
        (pss_cons (ps_set (i := 3) scZone.nd rfl (Or.inl rfl) (pv 4))
        (pss_one (ps_for PassesOwn.never rfl (pi_zip rfl mZ (pa_cons (pv 0) (pa_cons (pv 1) pa_nil))) (pg_tup rfl (pgs_cons (pg_name (i := 5) scZone.nd rfl (Or.inl rfl)) (pgs_cons (pg_name (i := 6) scZone.nd rfl (Or.inl rfl)) pgs_nil)))
          (pss_one (ps_if (PW.pt (pw_and (pt_cmpR op_eq (pe_fld (pv 5) rfl) pe_int (nomark _)) (pw_and1 (pt_cmpR op_ne (pe_op op_and (pe_fld (pv 5) rfl) (pv 3)) pe_int (nomark _)))))
            (pss_one (ps_set (i := 4) scZone.nd rfl (Or.inl rfl) (pe_op op_or (pv 4) (pv 6)))) pss_nil))))))
      (pss_one (ps_ret (pv 3))))), ?_⟩
    refine ⟨_, rfl, ?_⟩
    refine while_by (fun σ H' => ∃ (zone wider : Nat) (v5 v6 : Option V), σ = [some (.ref la), some (.ref lb), some (.int e), some (.int (zone : Int)), some (.int (wider : Int)), v5, v6] ∧ Same H H' ∧ wider < 2 ^ N ∧ (∀ f, zone.testBit f = true → wider.testBit f = true) ∧ (∀ f, e.testBit f = true → wider.testBit f = true) ∧
        (∀ S : Nat → Prop, (∀ f, e.testBit f = true → S f) → ZClosed as ds S → ∀ f, wider.testBit f = true → S f) ∧ (wider = zone → ZClosed as ds fun f => zone.testBit f = true))
      (fun σ _ => 2 ^ N - slotN 3 σ) ⟨0, e, none, none, rfl, Same.refl H, he, (fun f h => by rw [Nat.zero_testBit] at h; cases h), fun f h => h, fun S h _ => h, fun z => absurd z he0⟩ ?_ ?_
    · rintro σ H1 ⟨zone, wider, v5, v6, rfl, s1, hw, hsub, hst, hle, hcl⟩
      refine ⟨_, rfl, _, rfl, rfl, _, rfl, ?_⟩
      show if (!decide (V.int (wider : Int) = V.int (zone : Int))) = true then _ else _
      rw [ne_dec]
      refine ite2 (fun c => ?_) (fun c => ?_)
      · have c := of_decide_eq_true c
        refine ⟨_, rfl, ?_⟩
        refine ⟨_, rfl, _, rfl, la, lb, _, _, rfl, s1.seq hla, s1.seq hlb, ?_⟩
        have hxl := hA.length
        refine for_it (walk_zip (n := as.length) (by unfold natsV; rw [List.length_map, List.length_map, hxl, hlen, Nat.min_self])) (fun i σ H' => ∃ (wd : Nat) (v5 v6 : Option V), σ = [some (.ref la), some (.ref lb), some (.int e), some (.int (wider : Int)), some (.int (wd : Int)), v5, v6] ∧ Same H H' ∧ wd < 2 ^ N ∧ (∀ f, wider.testBit f = true → wd.testBit f = true) ∧
            (∀ S : Nat → Prop, (∀ f, e.testBit f = true → S f) → ZClosed as ds S → ∀ f, wd.testBit f = true → S f) ∧ (∀ (k : Nat) (a : Pn.Act) (d : Nat), k < i → as[k]? = some a → ds[k]? = some d → a.cost = 0 → (∃ g, a.add.testBit g = true ∧ wider.testBit g = true) → ∀ f, d.testBit f = true → wd.testBit f = true))
          ⟨wider, _, _, rfl, s1, hw, fun f h => h, hle, fun k a d hk => absurd hk (Nat.not_lt_zero k)⟩ (fun i σ H' _ ⟨_, _, _, _, s2, _⟩ => ⟨s2.seq hla, s2.seq hlb⟩) ?_ ?_
        · rintro i x σ H2 H3 hi ⟨wd, w5, w6, rfl, s2, hwd, hsub2, hle2, hk2⟩ ⟨Tp, y, z, rfl, nT, rfl, ey, ez⟩
          obtain ⟨ya, hy, rfl⟩ := refs_get ey
          obtain ⟨d, hd, rfl⟩ := natsV_get ez
          obtain ⟨a, ha, _, dy, hya⟩ := hA.get hy
          have s3 : Same H (upd H2 Tp (.tup [.ref ya, .int (d : Int)])) := s2.trans (same_new nT)
          refine ⟨Tp, _, rfl, SqT.of upd_same, rfl, _, _, rfl, _, _, rfl, rfl, ?_⟩
          generalize upd H2 Tp (.tup [.ref ya, .int (d : Int)]) = H3 at s3
          have hya3 := s3 _ _ hya
          have next : ∀ wd' : Nat, wd' < 2 ^ N → (∀ f, wd.testBit f = true → wd'.testBit f = true) → (∀ S : Nat → Prop, (∀ f, e.testBit f = true → S f) → ZClosed as ds S → ∀ f, wd'.testBit f = true → S f) → (a.cost = 0 → (∃ g, a.add.testBit g = true ∧ wider.testBit g = true) → ∀ f, d.testBit f = true → wd'.testBit f = true) →
              ∃ (wd2 : Nat) (v5 v6 : Option V), [some (V.ref la), some (V.ref lb), some (V.int e), some (V.int (wider : Int)), some (V.int (wd' : Int)), some (V.ref ya), some (V.int (d : Int))] = [some (.ref la), some (.ref lb), some (.int e), some (.int (wider : Int)), some (.int (wd2 : Int)), v5, v6] ∧ Same H H3 ∧ wd2 < 2 ^ N ∧ (∀ f, wider.testBit f = true → wd2.testBit f = true) ∧
              (∀ S : Nat → Prop, (∀ f, e.testBit f = true → S f) → ZClosed as ds S → ∀ f, wd2.testBit f = true → S f) ∧ (∀ (k : Nat) (a : Pn.Act) (d : Nat), k < i + 1 → as[k]? = some a → ds[k]? = some d → a.cost = 0 → (∃ g, a.add.testBit g = true ∧ wider.testBit g = true) → ∀ f, d.testBit f = true → wd2.testBit f = true) := by
            intro wd' h1 h2 h3 h4
            refine ⟨wd', _, _, rfl, s3, h1, fun f hf => h2 f (hsub2 f hf), h3, fun k a' d' hk ha' hd' h0 hx f hf => ?_⟩
            by_cases q : k = i
            · subst q
              rw [ha] at ha'
              rw [hd] at hd'
              cases ha'
              cases hd'
              exact h4 h0 hx f hf
            · exact h2 f (hk2 k a' d' (by omega) ha' hd' h0 hx f hf)
          refine ⟨_, rfl, ya, CA, dy, _, _, rfl, hya3, T.clA, T.nCost, aF_cost a, rfl, _, rfl, ?_⟩
          show if decide (V.int (a.cost : Int) = V.int ((0 : Nat) : Int)) = true then _ else _
          rw [eq_dec]
          refine ite2 (fun c0 => ?_) (fun c0 => ?_)
          · have c0 := of_decide_eq_true c0
            refine ⟨_, rfl, ya, CA, dy, _, _, rfl, hya3, T.clA, T.nBrings, aF_brings a, _, rfl, _, _, rfl, rfl, rfl, _, rfl, ?_⟩
            show if (!decide (V.int (Builtin.bitAnd (a.add : Int) (wider : Int)) = V.int ((0 : Nat) : Int))) = true then _ else _
            rw [bAnd, ne_dec]
            refine ite2 (fun c1 => ?_) (fun c1 => ?_)
            · have c1 := and_ne.1 (of_decide_eq_true c1)
              refine ⟨_, rfl, _, rfl, _, _, rfl, rfl, ?_⟩
              have this := next (wd ||| d) (Nat.or_lt_two_pow hwd (hds d (List.mem_of_getElem? hd))) (fun f h => (or_bit wd d f).2 (.inl h)) (fun S h1 h2 f hf => ((or_bit wd d f).1 hf).elim (hle2 S h1 h2 f) fun hf => ?_) (fun _ _ f hf => (or_bit wd d f).2 (.inr hf))
              · rw [← bOr] at this
                exact this
              · obtain ⟨g, hg1, hg2⟩ := c1
                exact h2 i a d ha hd c0 ⟨g, hg1, hle S h1 h2 g hg2⟩ f hf
            · have c1 : ¬ ∃ g, a.add.testBit g = true ∧ wider.testBit g = true := fun q => c1 (decide_eq_true (and_ne.2 q))
              exact next wd hwd (fun f h => h) hle2 fun _ q => absurd q c1
          · have c0 : ¬ a.cost = 0 := fun q => c0 (decide_eq_true q)
            exact if_false_of rfl (next wd hwd (fun f h => h) hle2 fun q => absurd q c0)
        · rintro σ H2 ⟨wd, w5, w6, rfl, s2, hwd, hsub2, hle2, hk2⟩
          refine ⟨⟨wider, wd, _, _, rfl, s2, hwd, hsub2, fun f h => hsub2 f (hst f h), hle2, fun q k a d ha hd h0 hx f hf => ?_⟩, ?_⟩
          · have hk : k < as.length := (List.getElem?_eq_some_iff.1 ha).1
            have := hk2 k a d hk ha hd h0 hx f hf
            rw [q] at this
            exact this
          · show 2 ^ N - ((wider : Nat) : Int).toNat < 2 ^ N - ((zone : Nat) : Int).toNat
            rw [Int.toNat_natCast, Int.toNat_natCast]
            have := bits_sub_le hsub
            omega
      · have c : wider = zone := Classical.byContradiction fun q => c (decide_eq_true q)
        subst c
        exact ⟨_, rfl, k H1 wider s1 hw ⟨hst, hcl rfl, hle⟩⟩
    · rintro σ H2 Q1 Q2 hQ ⟨v1, e1, v2, e2, e3, kk, e4, q1⟩
      exact ⟨v1, e1, v2, e2, e3, kk, e4, hQ _ _ q1⟩
/-! ### before_zone -/
def spBefore (K : PySem.W.Frag) (CA : Addr) : Sp := fun vs H Q _ => ∃ (H0 : Hp) (la lb : Addr) (xs : List Addr) (as : List Pn.Act) (ds : List Nat) (so z N : Nat), vs = [.ref la, .ref lb, .int so, .int z] ∧ SqL K H la (xs.map V.ref) ∧ ActsAt CA H0 H xs as ∧ SqL K H lb (natsV ds) ∧ as.length = ds.length ∧ (∀ a, a ∈ as → a.add < 2 ^ N) ∧ so < 2 ^ N ∧ so ≠ 0 ∧
  ∀ (H' : Hp) (b : Nat), Same H H' → b < 2 ^ N → IsBefore as ds so z b → Q (.int (b : Int)) H'
theorem scBefore : FnScope ["acts", "dears", "so", "zone", "before", "wider", "act", "dear"] ["acts", "dears", "so", "zone"] (defScope sBefore) := ⟨rfl, rfl, rfl, by decide +kernel, rfl, by decide +kernel, by decide +kernel⟩
theorem ok_before {f : Addr} {fd : FuncData} (F : Fun K "before_zone" "before_zone" sBefore f fd) (T : Txt K mg C CA) (mZ : mg "zip" = none) : FnOk P w K mg base CX0 1 f fd ["acts", "dears", "so", "zone"] (spBefore K CA) := by
  refine F.ok scBefore (fun vs H Q E h => ?_) (fun cdv A outer s0 H vs Q E hr h => ?_)
  · obtain ⟨H0, la, lb, xs, as, ds, so, z, N, rfl, _⟩ := h
    rfl
  · obtain ⟨H0, la, lb, xs, as, ds, so, z, N, rfl, hla, hA, hlb, hlen, hadd, he, he0, k⟩ := h
    refine ⟨_, pss_cons (ps_set (i := 4) scBefore.nd rfl (Or.inl rfl) pe_int)
      (pss_cons (ps_set (i := 5) scBefore.nd rfl (Or.inl rfl) (pv 2))
      (pss_cons (ps_while PassesOwn.never (pt_cmpR op_ne (pv 5) (pv 4) (nomark _))
        (pss_cons (ps_set (i := 4) scBefore.nd rfl (Or.inl rfl) (pv 5))
        (pss_one (ps_for PassesOwn.never rfl (pi_zip rfl mZ (pa_cons (pv 0) (pa_cons (pv 1) pa_nil))) (pg_tup rfl (pgs_cons (pg_name (i := 6) scBefore.nd rfl (Or.inl rfl)) (pgs_cons (pg_name (i := 7) scBefore.nd rfl (Or.inl rfl)) pgs_nil)))
          (pss_one (ps_if (pt_cmpR op_ne (pe_op op_and (pv 7) (pv 4)) pe_int (nomark _))
            (pss_one (ps_set (i := 5) scBefore.nd rfl (Or.inl rfl) (pe_op op_or (pv 5) (pe_op op_and (pe_fld (pv 6) rfl) (pe_un un_inv (pv 3)))))) pss_nil))))))
      (pss_one (ps_ret (pv 4))))), ?_⟩
    refine ⟨_, rfl, ?_⟩
    refine while_by (fun σ H' => ∃ (bef wider : Nat) (v6 v7 : Option V), σ = [some (.ref la), some (.ref lb), some (.int so), some (.int z), some (.int (bef : Int)), some (.int (wider : Int)), v6, v7] ∧ Same H H' ∧ wider < 2 ^ N ∧ (∀ f, bef.testBit f = true → wider.testBit f = true) ∧ (∀ f, so.testBit f = true → wider.testBit f = true) ∧
        (∀ S : Nat → Prop, (∀ f, so.testBit f = true → S f) → BClosed as ds z S → ∀ f, wider.testBit f = true → S f) ∧ (wider = bef → BClosed as ds z fun f => bef.testBit f = true))
      (fun σ _ => 2 ^ N - slotN 4 σ) ⟨0, so, none, none, rfl, Same.refl H, he, (fun f h => by rw [Nat.zero_testBit] at h; cases h), fun f h => h, fun S h _ => h, fun z => absurd z he0⟩ ?_ ?_
    · rintro σ H1 ⟨bef, wider, v6, v7, rfl, s1, hw, hsub, hst, hle, hcl⟩
      refine ⟨_, rfl, _, rfl, rfl, _, rfl, ?_⟩
      show if (!decide (V.int (wider : Int) = V.int (bef : Int))) = true then _ else _
      rw [ne_dec]
      refine ite2 (fun c => ?_) (fun c => ?_)
      · have c := of_decide_eq_true c
        refine ⟨_, rfl, ?_⟩
        refine ⟨_, rfl, _, rfl, la, lb, _, _, rfl, s1.seq hla, s1.seq hlb, ?_⟩
        have hxl := hA.length
        refine for_it (walk_zip (n := as.length) (by unfold natsV; rw [List.length_map, List.length_map, hxl, hlen, Nat.min_self])) (fun i σ H' => ∃ (wd : Nat) (v6 v7 : Option V), σ = [some (.ref la), some (.ref lb), some (.int so), some (.int z), some (.int (wider : Int)), some (.int (wd : Int)), v6, v7] ∧ Same H H' ∧ wd < 2 ^ N ∧ (∀ f, wider.testBit f = true → wd.testBit f = true) ∧
            (∀ S : Nat → Prop, (∀ f, so.testBit f = true → S f) → BClosed as ds z S → ∀ f, wd.testBit f = true → S f) ∧ (∀ (k : Nat) (a : Pn.Act) (d : Nat), k < i → as[k]? = some a → ds[k]? = some d → (∃ f, d.testBit f = true ∧ wider.testBit f = true) → ∀ g, a.add.testBit g = true → z.testBit g = false → wd.testBit g = true))
          ⟨wider, _, _, rfl, s1, hw, fun f h => h, hle, fun k a d hk => absurd hk (Nat.not_lt_zero k)⟩ (fun i σ H' _ ⟨_, _, _, _, s2, _⟩ => ⟨s2.seq hla, s2.seq hlb⟩) ?_ ?_
        · rintro i x σ H2 H3 hi ⟨wd, w6, w7, rfl, s2, hwd, hsub2, hle2, hk2⟩ ⟨Tp, y, zz, rfl, nT, rfl, ey, ez⟩
          obtain ⟨ya, hy, rfl⟩ := refs_get ey
          obtain ⟨d, hd, rfl⟩ := natsV_get ez
          obtain ⟨a, ha, _, dy, hya⟩ := hA.get hy
          have s3 : Same H (upd H2 Tp (.tup [.ref ya, .int (d : Int)])) := s2.trans (same_new nT)
          refine ⟨Tp, _, rfl, SqT.of upd_same, rfl, _, _, rfl, _, _, rfl, rfl, ?_⟩
          generalize upd H2 Tp (.tup [.ref ya, .int (d : Int)]) = H3 at s3
          have hya3 := s3 _ _ hya
          have next : ∀ wd' : Nat, wd' < 2 ^ N → (∀ f, wd.testBit f = true → wd'.testBit f = true) → (∀ S : Nat → Prop, (∀ f, so.testBit f = true → S f) → BClosed as ds z S → ∀ f, wd'.testBit f = true → S f) → ((∃ f, d.testBit f = true ∧ wider.testBit f = true) → ∀ g, a.add.testBit g = true → z.testBit g = false → wd'.testBit g = true) →
              ∃ (wd2 : Nat) (v6 v7 : Option V), [some (V.ref la), some (V.ref lb), some (V.int so), some (V.int z), some (V.int (wider : Int)), some (V.int (wd' : Int)), some (V.ref ya), some (V.int (d : Int))] = [some (.ref la), some (.ref lb), some (.int so), some (.int z), some (.int (wider : Int)), some (.int (wd2 : Int)), v6, v7] ∧ Same H H3 ∧ wd2 < 2 ^ N ∧ (∀ f, wider.testBit f = true → wd2.testBit f = true) ∧
              (∀ S : Nat → Prop, (∀ f, so.testBit f = true → S f) → BClosed as ds z S → ∀ f, wd2.testBit f = true → S f) ∧ (∀ (k : Nat) (a : Pn.Act) (d : Nat), k < i + 1 → as[k]? = some a → ds[k]? = some d → (∃ f, d.testBit f = true ∧ wider.testBit f = true) → ∀ g, a.add.testBit g = true → z.testBit g = false → wd2.testBit g = true) := by
            intro wd' h1 h2 h3 h4
            refine ⟨wd', _, _, rfl, s3, h1, fun f hf => h2 f (hsub2 f hf), h3, fun k a' d' hk ha' hd' hx f hf hz => ?_⟩
            by_cases q : k = i
            · subst q
              rw [ha] at ha'
              rw [hd] at hd'
              cases ha'
              cases hd'
              exact h4 hx f hf hz
            · exact h2 f (hk2 k a' d' (by omega) ha' hd' hx f hf hz)
          refine ⟨_, rfl, _, rfl, _, _, rfl, rfl, rfl, _, rfl, ?_⟩
          show if (!decide (V.int (Builtin.bitAnd (d : Int) (wider : Int)) = V.int ((0 : Nat) : Int))) = true then _ else _
          rw [bAnd, ne_dec]
          refine ite2 (fun c1 => ?_) (fun c1 => ?_)
          · have c1 := and_ne.1 (of_decide_eq_true c1)
            have hal := hadd a (List.mem_of_getElem? ha)
            refine ⟨_, rfl, _, rfl, ya, CA, dy, _, _, rfl, hya3, T.clA, T.nBrings, aF_brings a, _, rfl, _, rfl, _, _, rfl, rfl, _, _, rfl, rfl, ?_⟩
            have db : ∀ g, (a.add - (a.add &&& z)).testBit g = true ↔ a.add.testBit g = true ∧ z.testBit g = false := fun g => by
              rw [diff_bit, Bool.and_eq_true, Bool.not_eq_true']
            have this := next (wd ||| (a.add - (a.add &&& z))) (Nat.or_lt_two_pow hwd (by omega)) (fun f h => (or_bit _ _ f).2 (.inl h)) (fun S h1 h2 f hf => ((or_bit _ _ f).1 hf).elim (hle2 S h1 h2 f) fun hf => ?_) (fun _ g hg hz => (or_bit _ _ g).2 (.inr ((db g).2 ⟨hg, hz⟩)))
            · rw [← bOr, ← bDiff] at this
              exact this
            · obtain ⟨g, hg1, hg2⟩ := c1
              have := (db f).1 hf
              exact h2 i a d ha hd ⟨g, hg1, hle S h1 h2 g hg2⟩ f this.1 this.2
          · have c1 : ¬ ∃ g, d.testBit g = true ∧ wider.testBit g = true := fun q => c1 (decide_eq_true (and_ne.2 q))
            exact next wd hwd (fun f h => h) hle2 fun q => absurd q c1
        · rintro σ H2 ⟨wd, w6, w7, rfl, s2, hwd, hsub2, hle2, hk2⟩
          refine ⟨⟨wider, wd, _, _, rfl, s2, hwd, hsub2, fun f h => hsub2 f (hst f h), hle2, fun q k a d ha hd hx f hf hz => ?_⟩, ?_⟩
          · have hk : k < as.length := (List.getElem?_eq_some_iff.1 ha).1
            have := hk2 k a d hk ha hd hx f hf hz
            rw [q] at this
            exact this
          · show 2 ^ N - ((wider : Nat) : Int).toNat < 2 ^ N - ((bef : Nat) : Int).toNat
            rw [Int.toNat_natCast, Int.toNat_natCast]
            have := bits_sub_le hsub
            omega
      · have c : wider = bef := Classical.byContradiction fun q => c (decide_eq_true q)
        subst c
        exact ⟨_, rfl, k H1 wider s1 hw ⟨hst, hcl rfl, hle⟩⟩
    · rintro σ H2 Q1 Q2 hQ ⟨v1, e1, v2, e2, e3, kk, e4, q1⟩
      exact ⟨v1, e1, v2, e2, e3, kk, e4, hQ _ _ q1⟩
end
end My

set_option Elab.async false
set_option maxRecDepth 100000
set_option maxHeartbeats 4000000
namespace My
open PySem PySem.Spec PyProof.Rows L2
open ThZone (dearBit IsZone IsBefore)
open ThExt (xacts xat)
theorem aF_putCost (a : Pn.Act) (c : Nat) : putF "cost" (.int (c : Int)) (aF a) = aF { a with cost := c } :=
  (put_past (by decide +kernel)).trans (congrArg _ ((put_past (by decide +kernel)).trans (congrArg _ ((put_past (by decide +kernel)).trans (congrArg _ put_here)))))
/-- prices lowered for the acts ks -/
def lowered (as : List Pn.Act) (ks : List Nat) (m : Nat) : List Pn.Act := as.mapIdx fun k a => if k ∈ ks then { a with cost := a.cost - m } else a
theorem lowered_nil (as : List Pn.Act) (m : Nat) : lowered as [] m = as := by
  unfold lowered
  refine List.ext_getElem? fun i => ?_
  rw [List.getElem?_mapIdx]
  cases as[i]? with
  | none => rfl
  | some a => show some (if i ∈ [] then _ else a) = some a; rw [if_neg List.not_mem_nil]
theorem lowered_get (as : List Pn.Act) (ks : List Nat) (m k : Nat) : (lowered as ks m)[k]? = as[k]?.map fun a => if k ∈ ks then { a with cost := a.cost - m } else a := by
  unfold lowered
  rw [List.getElem?_mapIdx]
theorem lowered_set {as : List Pn.Act} {ks : List Nat} {m k : Nat} {a : Pn.Act} (h : as[k]? = some a) : (lowered as ks m).set k { a with cost := a.cost - m } = lowered as (ks ++ [k]) m := by
  refine List.ext_getElem? fun i => ?_
  rw [List.getElem?_set, lowered_get, lowered_get]
  by_cases e : k = i
  · subst e
    have hl : k < (lowered as ks m).length := by
      unfold lowered
      rw [List.length_mapIdx]
      exact (List.getElem?_eq_some_iff.1 h).1
    rw [if_pos rfl, if_pos hl, h]
    show _ = some (if k ∈ ks ++ [k] then _ else a)
    rw [if_pos (List.mem_append_right _ (List.mem_singleton.2 rfl))]
  · rw [if_neg e]
    cases as[i]? with
    | none => rfl
    | some b =>
      show some (if i ∈ ks then _ else b) = some (if i ∈ ks ++ [k] then _ else b)
      have : i ∈ ks ++ [k] ↔ i ∈ ks := ⟨fun h => (List.mem_append.1 h).elim id fun h => absurd (List.mem_singleton.1 h).symm e, fun h => List.mem_append_left _ h⟩
      by_cases d : i ∈ ks
      · rw [if_pos d, if_pos (this.2 d)]
      · rw [if_neg d, if_neg (fun z => d (this.1 z))]
theorem lowered_x (t : Pn.Task) (c : List Nat) (ks : List Nat) (m : Nat) : lowered (xacts t c) ks m = xacts t (ThCut.less c ks m) := by
  refine List.ext_getElem? fun i => ?_
  rw [lowered_get]
  by_cases h : i < t.acts.length + 1
  · rw [ThExt.xacts_get h, ThExt.xacts_get h]
    show some (if i ∈ ks then { xat t c i with cost := (xat t c i).cost - m } else xat t c i) = some (xat t (ThCut.less c ks m) i)
    rw [ThExt.xat_cost]
    congr 1
    unfold ThExt.xat ThExt.xact ThExt.xgoal
    rw [ThCut.less_get]
    by_cases d : i ∈ ks
    · rw [if_pos d, if_pos d]
      split <;> rfl
    · rw [if_neg d, if_neg d]
  · rw [List.getElem?_eq_none (by rw [ThExt.xacts_length]; omega), List.getElem?_eq_none (by rw [ThExt.xacts_length]; omega)]
    rfl
theorem ActsAt.keepM {CA : Addr} {H0 H0' H H' : Hp} {xs : List Addr} {as : List Pn.Act} (h : ActsAt CA H0 H xs as) (k : ∀ x a, x ∈ xs → ActAt CA H0 H x a → ActAt CA H0' H' x a) : ActsAt CA H0' H' xs as := by
  induction h with
  | nil => exact .nil
  | cons ha _ ih => exact .cons (k _ _ List.mem_cons_self ha) (ih fun x a hx => k x a (List.mem_cons_of_mem _ hx))
theorem ActsAt.upd {CA : Addr} {H0 H : Hp} {xs : List Addr} {as : List Pn.Act} (h : ActsAt CA H0 H xs as) : ∀ {k : Nat} {x dx : Addr} {a : Pn.Act}, xs.Nodup → xs[k]? = some x → H0 x = none → ActsAt CA H0 (L2.upd H x (.ins CA dx (aF a))) xs (as.set k a) := by
  induction h with
  | nil => intro k x dx a _ h; simp at h
  | @cons y b ys bs hb hbs ih =>
    intro k x dx a nd hk h0
    rw [List.nodup_cons] at nd
    cases k with
    | zero =>
      cases hk
      exact .cons ⟨h0, dx, upd_same⟩ (hbs.keepM fun z c hz ⟨z0, dz, hz2⟩ => ⟨z0, dz, by rw [upd_ne (show z ≠ y from fun e => nd.1 (by rw [← e]; exact hz))]; exact hz2⟩)
    | succ k =>
      have hk' : ys[k]? = some x := hk
      have ne : y ≠ x := fun e => nd.1 (e ▸ List.mem_of_getElem? hk')
      obtain ⟨y0, dy, hy⟩ := hb
      exact .cons ⟨y0, dy, by rw [upd_ne ne]; exact hy⟩ (ih nd.2 hk' h0)
abbrev sTake : Stmt := top 28
section
variable {P : Program} {w : World} {K : PySem.W.Frag} {mg : Str → Option Value} {base : Heap} {C CA : Addr}
/-! ### take_off -/
def spTake (CA : Addr) : Sp := fun vs H Q _ => ∃ (H0 : Hp) (la lc : Addr) (xs : List Addr) (as : List Pn.Act) (ks : List Nat), vs = [.ref la, .ref lc] ∧ H la = some (.lst (xs.map V.ref)) ∧ ActsAt CA H0 H xs as ∧ xs.Nodup ∧ H lc = some (.lst (natsV ks)) ∧ ks.Nodup ∧ (∀ k, k ∈ ks → k < as.length) ∧ ks ≠ [] ∧ ks.length ≤ 1000 ∧
  ∀ (H' : Hp) (m : Nat), (∃ k a, k ∈ ks ∧ as[k]? = some a ∧ a.cost = m) → (∀ k a, k ∈ ks → as[k]? = some a → m ≤ a.cost) → ActsAt CA H0 H' xs (lowered as ks m) → (∀ b o, H b = some o → ¬ b ∈ xs → H' b = some o) → Q (.int (m : Int)) H'
theorem scTake : FnScope ["acts", "cut", "number", "worth", "act"] ["acts", "cut"] (defScope sTake) := ⟨rfl, rfl, rfl, by decide +kernel, rfl, by decide +kernel, by decide +kernel⟩
theorem ok_take {f : Addr} {fd : FuncData} (F : Fun K "take_off" "take_off" sTake f fd) (T : Txt K mg C CA) (mN : mg "min" = none) : FnOk P w K mg base CX0 1 f fd ["acts", "cut"] (spTake CA) := by
  refine F.ok scTake (fun vs H Q E h => ?_) (fun cdv A outer s0 H vs Q E hr h => ?_)
  · obtain ⟨H0, la, lc, xs, as, ks, rfl, _⟩ := h
    rfl
  · obtain ⟨H0, la, lc, xs, as, ks, rfl, hla, hA, ndx, hlc, ndk, hkl, hkn, hks, k⟩ := h
    refine ⟨_, pss_cons (ps_set (i := 3) scTake.nd rfl (Or.inl rfl) (pe_callB (cr_min rfl) rfl mN (by decide +kernel) (pa_cons
        (pe_lc (own := [("number", 2)]) (g := gName 2) (tt := tYes) (te := tFld K (tOp (rIxL K) (tVar 0) (tVar 2)) "cost") rfl scTake.nd (pi_list (pv 1)) (blkOk_by (N := ["acts", "cut", "number", "worth", "act"]) (sc := defScope sTake) (by decide +kernel))
          (fun _ _ _ _ _ => pg_name (i := 2) scTake.nd rfl (Or.inl rfl)) (fun _ _ _ _ _ => pts_nil) (fun _ _ _ _ _ => pe_fld (pe_ix ix_list (pv 0) (pv 2) (fun _ _ => rfl)) rfl)) pa_nil)))
      (pss_cons (ps_for PassesOwn.never rfl (pi_list (pv 1)) (pg_name (i := 2) scTake.nd rfl (Or.inl rfl))
        (pss_cons (ps_set (i := 4) scTake.nd rfl (Or.inl rfl) (pe_ix ix_list (pv 0) (pv 2) (fun _ _ => rfl)))
        (pss_one (ps_fld (pv 4) (pe_op op_sub (pe_fld (pv 4) rfl) (pv 3)) rfl))))
      (pss_one (ps_ret (pv 3)))), ?_⟩
    have hxl := hA.length
    have at_ : ∀ {q : Nat}, q ∈ ks → ∃ x a dx, xs[q]? = some x ∧ as[q]? = some a ∧ H0 x = none ∧ H x = some (.ins CA dx (aF a)) := fun {q} hq => by
      have hl := hkl q hq
      obtain ⟨a, ha, h0, dx, hx⟩ := hA.get (List.getElem?_eq_getElem (show q < xs.length by omega))
      exact ⟨_, a, dx, List.getElem?_eq_getElem _, ha, h0, hx⟩
    refine ⟨_, rfl, lc, rfl, ⟨_, SqL.of hlc⟩, fun D hD => ?_⟩
    have lcD : lc ≠ D := ne_of_none hlc hD
    have sD : ∀ o, Same H (upd H D o) := fun o => same_new hD
    refine lc_list (K := K) (a := lc) (xs := natsV ks) (fun i H' => H' = upd H D (.lst (((ks.take i).map fun q => ((as.getD q ⟨0, 0, 0, 0, 0⟩).cost : Int)).map V.int))) rfl (fun i H' _ hP => ?_) (fun i y H' hi hP => ?_) (fun H' hP => ?_)
    · rw [hP]
      exact SqL.of (by rw [upd_ne lcD]; exact hlc)
    · subst hP
      obtain ⟨q, hq, rfl⟩ := natsV_get hi
      obtain ⟨x, a, dx, hx, ha, _, hxa⟩ := at_ (List.mem_of_getElem? hq)
      refine ⟨rfl, tYes_of ?_⟩
      refine ⟨_, rfl, _, rfl, la, _, _, .ref x, rfl, rfl, SqL.of (sD _ _ _ hla), atI_nat (by rw [List.getElem?_map, hx]; rfl), x, CA, dx, _, _, rfl, sD _ _ _ hxa, T.clA, T.nCost, aF_cost a, _, upd_same, ?_, ?_⟩
      · rw [List.length_map, List.length_map, List.length_take]
        exact small1000 (by omega)
      · rw [upd_upd, take_more hq, List.map_append, List.map_append]
        have : as.getD q ⟨0, 0, 0, 0, 0⟩ = a := by rw [List.getD_eq_getElem?_getD, ha]; rfl
        show _ = upd H D (.lst (_ ++ [V.int ((as.getD q ⟨0, 0, 0, 0, 0⟩).cost : Int)]))
        rw [this]
    · subst hP
      have el : ks.take (natsV ks).length = ks := by
        unfold natsV
        rw [List.length_map, List.take_length]
      rw [el]
      refine ⟨D, _, rfl, SqL.of upd_same, ?_, fun mi hmi hmin => ?_⟩
      · rw [List.length_map]
        exact List.length_pos_iff.2 hkn
      obtain ⟨q0, hq0, rfl⟩ := List.mem_map.1 hmi
      obtain ⟨x0, a0, dx0, hx0, ha0, _, _⟩ := at_ hq0
      have e0 : as.getD q0 ⟨0, 0, 0, 0, 0⟩ = a0 := by rw [List.getD_eq_getElem?_getD, ha0]; rfl
      rw [e0] at hmin ⊢
      have hle : ∀ q a, q ∈ ks → as[q]? = some a → a0.cost ≤ a.cost := fun q a hq ha => by
        have := hmin _ (List.mem_map_of_mem (f := fun q => ((as.getD q ⟨0, 0, 0, 0, 0⟩).cost : Int)) hq)
        have e : as.getD q ⟨0, 0, 0, 0, 0⟩ = a := by rw [List.getD_eq_getElem?_getD, ha]; rfl
        rw [e] at this
        omega
      have s1 : Same H (upd H D (.lst ((ks.map fun q => ((as.getD q ⟨0, 0, 0, 0, 0⟩).cost : Int)).map V.int))) := same_new hD
      generalize upd H D (.lst ((ks.map fun q => ((as.getD q ⟨0, 0, 0, 0, 0⟩).cost : Int)).map V.int)) = H1 at s1
      refine ⟨_, rfl, lc, rfl, ⟨_, SqL.of (s1 _ _ hlc)⟩, ?_⟩
      have nx : ∀ {b : Addr} {l : List V}, H b = some (.lst l) → ¬ b ∈ xs := fun {b l} e hb => by
        obtain ⟨i, hi⟩ := List.getElem?_of_mem hb
        obtain ⟨a, _, _, dx, hx⟩ := hA.get hi
        rw [e] at hx
        cases hx
      refine for_list (K := K) (a := lc) (xs := natsV ks) (fun i σ H' => (∃ v2 v4 : Option V, σ = [some (.ref la), some (.ref lc), v2, some (.int (a0.cost : Int)), v4]) ∧ ActsAt CA H0 H' xs (lowered as (ks.take i) a0.cost) ∧ (∀ b o, H b = some o → ¬ b ∈ xs → H' b = some o))
        ⟨⟨_, _, rfl⟩, by rw [List.take_zero, lowered_nil]; exact hA.keep fun x a ⟨x0, d, hx⟩ => ⟨x0, d, s1 _ _ hx⟩, fun b o e _ => s1 b o e⟩ (fun i σ H' _ ⟨_, _, hk⟩ => SqL.of (hk _ _ hlc (nx hlc))) ?_ ?_
      · rintro i y σ H2 hi ⟨⟨v2, v4, rfl⟩, hA2, hk2⟩
        obtain ⟨q, hq, rfl⟩ := natsV_get hi
        obtain ⟨x, a, dx, hx, ha, h0, hxa⟩ := at_ (List.mem_of_getElem? hq)
        have hnot : ¬ q ∈ ks.take i := fun hm => by
          obtain ⟨j, hj⟩ := List.getElem?_of_mem hm
          rw [List.getElem?_take] at hj
          split at hj
          · rename_i hji
            obtain ⟨h1, e1⟩ := List.getElem?_eq_some_iff.1 hj
            obtain ⟨h2, e2⟩ := List.getElem?_eq_some_iff.1 hq
            have : j = i := (List.getElem_inj (xs := ks) (h₀ := h1) (h₁ := h2) ndk).1 (e1.trans e2.symm)
            omega
          · cases hj
        obtain ⟨a2, ha2, _, dx2, hx2⟩ := hA2.get hx
        rw [lowered_get, ha] at ha2
        have ha2 : (if q ∈ ks.take i then { a with cost := a.cost - a0.cost } else a) = a2 := Option.some.inj ha2
        rw [if_neg hnot] at ha2
        subst ha2
        have hc := hle q a (List.mem_of_getElem? hq) ha
        refine ⟨_, rfl, _, rfl, la, _, _, .ref x, rfl, rfl, SqL.of (hk2 _ _ hla (nx hla)), atI_nat (by rw [List.getElem?_map, hx]; rfl), ?_⟩
        refine ⟨_, rfl, x, CA, dx2, _, _, rfl, hx2, T.clA, T.nCost, aF_cost a, _, rfl, _, _, rfl, rfl, _, rfl, x, CA, dx2, _, rfl, hx2, T.clA, T.nCost, by show 4 < 1000; decide, ?_⟩
        have ec : (a.cost : Int) - (a0.cost : Int) = ((a.cost - a0.cost : Nat) : Int) := by omega
        show _ ∧ _
        refine ⟨⟨_, _, rfl⟩, ?_, fun b o e hb => ?_⟩
        · show ActsAt CA H0 (L2.upd H2 x (.ins CA dx2 (putF "cost" (.int ((a.cost : Int) - (a0.cost : Int))) (aF a)))) xs _
          rw [ec, aF_putCost, take_more hq, ← lowered_set ha]
          exact hA2.upd ndx hx h0
        · rw [upd_ne (show b ≠ x from fun z => hb (by rw [z]; exact List.mem_of_getElem? hx))]
          exact hk2 b o e hb
      · rintro σ H2 ⟨⟨v2, v4, rfl⟩, hA2, hk2⟩
        rw [el] at hA2
        exact ⟨_, rfl, k H2 a0.cost ⟨q0, a0, hq0, ha0, rfl⟩ hle hA2 hk2⟩
end
end My

set_option Elab.async false
set_option maxRecDepth 100000
set_option maxHeartbeats 4000000
namespace My
open PySem PySem.Spec PyProof.Rows L2
open ThZone (dearBit IsZone IsBefore)
open ThExt (xacts xat)
theorem prices_at {t : Pn.Task} {i : Nat} {a : Pn.Act} (h : t.acts[i]? = some a) : (Pn03.prices t).getD i 0 = a.cost := by
  have hl := (List.getElem?_eq_some_iff.1 h).1
  unfold Pn03.prices
  rw [List.getD_eq_getElem?_getD, List.getElem?_append_left (by rw [List.length_map]; exact hl), List.getElem?_map, h]
  rfl
theorem xat_prices {t : Pn.Task} {i : Nat} {a : Pn.Act} (h : t.acts[i]? = some a) : xat t (Pn03.prices t) i = ⟨if a.pre = 0 then 2 ^ t.facts else a.pre, 0, a.add, 0, a.cost⟩ := by
  have hl := (List.getElem?_eq_some_iff.1 h).1
  unfold ThExt.xat
  rw [if_pos hl, prices_at h, act_at h]
  rfl
theorem xat_end (t : Pn.Task) : xat t (Pn03.prices t) t.acts.length = ⟨t.goal, 0, 2 ^ (t.facts + 1), 0, 0⟩ := by
  unfold ThExt.xat
  rw [if_neg (Nat.lt_irrefl _), ThCut.prices_goal]
  rfl
theorem Well.in_ {t : Pn.Task} (w : Well t) : ThExt.In t := ⟨fun a ha => (w.ok a ha).1, fun a ha => (w.ok a ha).2.2.1, w.gl⟩
theorem ActsAt.fresh {CA : Addr} {H0 H : Hp} {xs : List Addr} {as : List Pn.Act} (h : ActsAt CA H0 H xs as) {x : Addr} (hx : H x = none) : ¬ x ∈ xs := fun hm => by
  obtain ⟨i, hi⟩ := List.getElem?_of_mem hm
  obtain ⟨a, _, _, dx, e⟩ := h.get hi
  rw [hx] at e
  cases e
abbrev sPriced : Stmt := top 23
section
variable {P : Program} {w : World} {K : PySem.W.Frag} {mg : Str → Option Value} {base : Heap} {C CA : Addr}
/-! ### priced_acts -/
def spPriced (C CA : Addr) : Sp := fun vs H Q _ => ∃ (H0 : Hp) (p : Addr) (t : Pn.Task), vs = [.ref p, .int ((2 ^ t.facts : Nat) : Int), .int ((2 ^ (t.facts + 1) : Nat) : Int)] ∧ HouseAt C CA H0 H p t ∧
  ∀ (H' : Hp) (b : Addr) (xs : List Addr), Same H H' → H b = none → H' b = some (.lst (xs.map V.ref)) → ActsAt CA H H' xs (xacts t (Pn03.prices t)) → xs.Nodup → Q (.ref b) H'
theorem scPriced : FnScope ["house", "always", "end", "acts", "act"] ["house", "always", "end"] (defScope sPriced) := ⟨rfl, rfl, rfl, by decide +kernel, rfl, by decide +kernel, by decide +kernel⟩
theorem ok_priced {f fA : Addr} {fd fdA : FuncData} (F : Fun K "priced_acts" "priced_acts" sPriced f fd) (T : Txt K mg C CA) (M : Mk K CA fA) (FA : Fun K "__init__" "Act.__init__" sActInit fA fdA) (bA : Binds K fdA ["self", "needs", "brings", "takes", "cost"] []) :
    FnOk P w K mg base CX0 3 f fd ["house", "always", "end"] (spPriced C CA) := by
  have GA : FnOk P w K mg base CX0 1 fA fdA ["self", "needs", "brings", "takes", "cost"] (spActInit CA) := ok_actInit FA T
  refine F.ok scPriced (fun vs H Q E h => ?_) (fun cdv A outer s0 H vs Q E hr h => ?_)
  · obtain ⟨H0, p, t, rfl, _⟩ := h
    rfl
  · obtain ⟨H0, p, t, rfl, hH, k⟩ := h
    refine ⟨_, pss_cons (ps_setLc (i := 3) (own := [("act", 4)]) (g := gName 4) (tt := tYes) (te := tMake CA (spActInit CA) [] E0 (tCons (tOrT K (tFld K (tVar 4) "needs") (tVar 1)) (tCons (tFld K (tVar 4) "brings") (tCons (tC (.int 0)) (tCons (tFld K (tVar 4) "cost") tNil)))))
        rfl scPriced.nd rfl rfl (sw_true rfl rfl rfl (by decide +kernel)) (pi_list (pe_fld (pv 0) rfl)) (blkOk_by (N := ["house", "always", "end", "acts", "act"]) (sc := defScope sPriced) (by decide +kernel)) (fun _ _ _ _ _ => pg_name (i := 4) scPriced.nd rfl (Or.inl rfl)) (fun _ _ _ _ _ => pts_nil)
        (fun _ _ _ _ _ => pe_make M GA hr rfl T.mgA bA .nil pass0 (pa_cons (pe_orT (pe_fld (pv 4) rfl) (pe_one (pv 1))) (pa_cons (pe_fld (pv 4) rfl) (pa_cons pe_int (pa_cons (pe_fld (pv 4) rfl) pa_nil))))))
      (pss_cons (ps_expr (pe_bm PySem.F.plainAttrs_list PySem.F.slot_list_append PySem.F.type_list_append mt_append (pv 3) (pa_cons (pe_make M GA hr rfl T.mgA bA .nil pass0 (pa_cons (pe_fld (pv 0) rfl) (pa_cons (pv 2) (pa_cons pe_int (pa_cons pe_int pa_nil))))) pa_nil)))
      (pss_one (ps_ret (pv 3)))), ?_⟩
    obtain ⟨s0', p0, wl, dx, la, xs, la0, hp, hla, hA⟩ := hH
    have hxl := hA.length
    have hac := wl.ac
    refine ⟨_, rfl, p, C, dx, _, _, rfl, hp, T.cl, T.nA, hF_acts _ _ _, la, rfl, ⟨_, SqL.of hla⟩, fun D hD => ?_⟩
    -- a new act, and the list with it
    have made : ∀ {H1 : Hp} {ys : List Addr} {as : List Pn.Act} {x dx' : Addr} {a : Pn.Act} {H2 : Hp}, Same H H1 → H1 D = some (.lst (ys.map V.ref)) → ActsAt CA H H1 ys as → ys.Nodup → H1 x = none → H1 dx' = none →
        H2 x = some (.ins CA dx' (aF a)) → (∀ b, b ≠ x → H2 b = upd (upd H1 dx' (.own x)) x (.ins CA dx' []) b) → H2 D = some (.lst (ys.map V.ref)) ∧ Same H (upd H2 D (.lst (ys.map V.ref ++ [V.ref x]))) ∧ upd H2 D (.lst (ys.map V.ref ++ [V.ref x])) D = some (.lst ((ys ++ [x]).map V.ref)) ∧ ActsAt CA H (upd H2 D (.lst (ys.map V.ref ++ [V.ref x]))) (ys ++ [x]) (as ++ [a]) ∧ (ys ++ [x]).Nodup := by
      intro H1 ys as x dx' a H2 s1 hD1 hA1 nd1 nx ndx hx hk
      have keep : Same H1 H2 := fun b o e => by
        rw [hk b (ne_of_none e nx), upd_ne (ne_of_none e nx), upd_ne (ne_of_none e ndx)]
        exact e
      have hD2 := keep _ _ hD1
      have ins : ∀ {b C' d' : Addr} {fs : List (Str × V)}, H2 b = some (.ins C' d' fs) → upd H2 D (.lst (ys.map V.ref ++ [V.ref x])) b = some (.ins C' d' fs) := fun {b C' d' fs} e => by
        rw [upd_ne (ne_of e hD2 (by intro q; cases q))]
        exact e
      refine ⟨hD2, fun b o e => ?_, by rw [upd_same, List.map_append]; rfl, ActsAt.snoc (hA1.keep fun y b ⟨y0, dy, hy⟩ => ⟨y0, dy, ins (keep _ _ hy)⟩) ⟨s1.free nx, dx', ins hx⟩, ?_⟩
      · rw [upd_ne (ne_of_none e hD)]
        exact keep _ _ (s1 _ _ e)
      · refine List.nodup_append.2 ⟨nd1, List.nodup_cons.2 ⟨List.not_mem_nil, List.nodup_nil⟩, fun y hy z hz e => ?_⟩
        rw [List.mem_singleton] at hz
        subst hz
        subst e
        exact hA1.fresh nx hy
    refine lc_list (K := K) (a := la) (xs := xs.map V.ref) (fun i H' => Same H H' ∧ ∃ ys, H' D = some (.lst (ys.map V.ref)) ∧ ActsAt CA H H' ys ((List.range i).map (xat t (Pn03.prices t))) ∧ ys.Nodup) ⟨same_new hD, [], upd_same, .nil, List.nodup_nil⟩ (fun i H' _ ⟨s1, _⟩ => SqL.of (s1 _ _ hla)) (fun i y H1 hi hP => ?_) (fun H1 hP => ?_)
    · obtain ⟨s1, ys, hD1, hA1, nd1⟩ := hP
      obtain ⟨ya, hy, rfl⟩ := refs_get hi
      obtain ⟨a, ha, _, dy, hya⟩ := hA.get hy
      have hya1 := s1 _ _ hya
      have ex := xat_prices ha
      have il : i < t.acts.length := (List.getElem?_eq_some_iff.1 ha).1
      have hyl : ys.length = i := by rw [hA1.length, List.length_map, List.length_range]
      refine ⟨rfl, tYes_of ?_⟩
      refine ⟨_, rfl, ya, CA, dy, _, _, rfl, hya1, T.clA, T.nNeeds, aF_needs a, _, rfl, ?_⟩
      by_cases h0 : a.pre = 0
      · refine if_false_of (by rw [h0]; rfl) ?_
        rw [if_pos h0] at ex
        refine ⟨_, rfl, ?_⟩
        refine ⟨_, rfl, ya, CA, dy, _, _, rfl, hya1, T.clA, T.nBrings, aF_brings a, _, rfl, ya, CA, dy, _, _, rfl, hya1, T.clA, T.nCost, aF_cost a, ?_⟩
        intro x dx' nx ndx _
        refine ⟨x, dx', xat t (Pn03.prices t) i, by rw [ex]; rfl, upd_same, fun H2 hx hk => ⟨rfl, ?_⟩⟩
        obtain ⟨m1, m2, m3, m4, m5⟩ := made s1 hD1 hA1 nd1 nx ndx hx hk
        refine ⟨_, m1, by rw [List.length_map]; exact small1000 (by omega), m2, _, m3, ?_, m5⟩
        rw [List.range_succ, List.map_append]
        exact m4
      · refine if_true_of (by simpa using h0) ?_
        rw [if_neg h0] at ex
        refine ⟨_, rfl, ya, CA, dy, _, _, rfl, hya1, T.clA, T.nBrings, aF_brings a, _, rfl, ya, CA, dy, _, _, rfl, hya1, T.clA, T.nCost, aF_cost a, ?_⟩
        intro x dx' nx ndx _
        refine ⟨x, dx', xat t (Pn03.prices t) i, by rw [ex]; rfl, upd_same, fun H2 hx hk => ⟨rfl, ?_⟩⟩
        obtain ⟨m1, m2, m3, m4, m5⟩ := made s1 hD1 hA1 nd1 nx ndx hx hk
        refine ⟨_, m1, by rw [List.length_map]; exact small1000 (by omega), m2, _, m3, ?_, m5⟩
        rw [List.range_succ, List.map_append]
        exact m4
    · obtain ⟨s1, ys, hD1, hA1, nd1⟩ := hP
      have hyl : ys.length = t.acts.length := by rw [hA1.length, List.length_map, List.length_range, List.length_map, hxl]
      have ex := xat_end t
      refine ⟨_, rfl, .inl ⟨rfl, _, SqL.of hD1⟩, _, rfl, p, C, dx, _, _, rfl, s1 _ _ hp, T.cl, T.nW, hF_wanted _ _ _, _, rfl, ?_⟩
      intro x dx' nx ndx _
      refine ⟨x, dx', xat t (Pn03.prices t) t.acts.length, by rw [ex]; rfl, upd_same, fun H2 hx hk => ⟨rfl, ?_⟩⟩
      obtain ⟨m1, m2, m3, m4, m5⟩ := made s1 hD1 hA1 nd1 nx ndx hx hk
      refine ⟨D, _, _, rfl, rfl, m1, by rw [List.length_map]; exact small1000 (by omega), ?_⟩
      refine ⟨_, rfl, k _ D (ys ++ [x]) m2 hD m3 ?_ m5⟩
      unfold ThExt.xacts
      rw [List.range_succ, List.map_append]
      rw [List.length_map, hxl] at m4
      exact m4
end
end My

set_option Elab.async false
set_option maxRecDepth 100000
set_option maxHeartbeats 4000000
namespace My
open PySem PySem.Spec PyProof.Rows L2
open ThZone (dearBit IsZone IsBefore wv dears)
open ThExt (xacts xat)
theorem K_filter {t : Pn.Task} {s : Nat} {c : List Nat} {q : Nat → Bool} (h : ∀ k, k < t.acts.length + 1 → (k ∈ ThCut.K t s c ↔ q k = true)) : ThCut.K t s c = (List.range (t.acts.length + 1)).filter q := by
  have e : ∃ p : Nat → Bool, ThCut.K t s c = (List.range (Pn03.steps t).length).filter p := ⟨_, rfl⟩
  obtain ⟨p, e⟩ := e
  rw [ThVal.steps_length] at e
  rw [e]
  refine List.filter_congr fun k hk => ?_
  have h1 := h k (List.mem_range.1 hk)
  rw [e, List.mem_filter] at h1
  have : p k = true ↔ q k = true := ⟨fun z => h1.1 ⟨hk, z⟩, fun z => (h1.2 z).2⟩
  cases hp : p k with
  | true => exact (this.1 hp).symm
  | false =>
    cases hq : q k with
    | false => rfl
    | true => rw [this.2 hq] at hp; cases hp
abbrev sCut : Stmt := top 24
section
variable {P : Program} {w : World} {K : PySem.W.Frag} {mg : Str → Option Value} {base : Heap} {C CA : Addr}
/-! ### cut_of -/
def spCut (K : PySem.W.Frag) (CA : Addr) : Sp := fun vs H Q _ => ∃ (H0 : Hp) (la lb : Addr) (t : Pn.Task) (c : List Nat) (s : Nat) (xs : List Addr), vs = [.ref la, .ref lb, .int ((s ||| 2 ^ t.facts : Nat) : Int), .int ((2 ^ (t.facts + 1) : Nat) : Int)] ∧ SqL K H la (xs.map V.ref) ∧ ActsAt CA H0 H xs (xacts t c) ∧ SqL K H lb ((wv t c s).map optV) ∧ Well t ∧ t.goal ≠ 0 ∧ s < 2 ^ t.facts ∧
  ∀ (H' : Hp) (p : Addr), Same H H' → H p = none → H' p = some (.lst (natsV (ThCut.K t s c))) → Q (.ref p) H'
theorem scCut : FnScope ["acts", "worths", "so", "end", "dears", "zone", "before", "act", "number"] ["acts", "worths", "so", "end"] (defScope sCut) := ⟨rfl, rfl, rfl, by decide +kernel, rfl, by decide +kernel, by decide +kernel⟩
theorem ok_cut {f fD fZ fB : Addr} {fd fdD fdZ fdB : FuncData} (F : Fun K "cut_of" "cut_of" sCut f fd) (T : Txt K mg C CA) (mE : mg "enumerate" = none)
    (kpD : PySem.W.keepIn K (.ref fD) = true) (mD : mg "dear_of" = some (.ref fD)) (bD : Binds K fdD ["worths", "row"] []) (GD : FnOk P w K mg base CX0 3 fD fdD ["worths", "row"] (spDear K))
    (kpZ : PySem.W.keepIn K (.ref fZ) = true) (mZ : mg "zone_round" = some (.ref fZ)) (bZ : Binds K fdZ ["acts", "dears", "end"] []) (GZ : FnOk P w K mg base CX0 1 fZ fdZ ["acts", "dears", "end"] (spZone K CA))
    (kpB : PySem.W.keepIn K (.ref fB) = true) (mB : mg "before_zone" = some (.ref fB)) (bB : Binds K fdB ["acts", "dears", "so", "zone"] []) (GB : FnOk P w K mg base CX0 1 fB fdB ["acts", "dears", "so", "zone"] (spBefore K CA)) :
    FnOk P w K mg base CX0 4 f fd ["acts", "worths", "so", "end"] (spCut K CA) := by
  refine F.ok scCut (fun vs H Q E h => ?_) (fun cdv A outer s0 H vs Q E hr h => ?_)
  · obtain ⟨H0, la, lb, t, c, s, xs, rfl, _⟩ := h
    rfl
  · obtain ⟨H0, la, lb, t, c, s, xs, rfl, hla, hA, hlb, wl, hg0, hs, k⟩ := h
    have hr1 : Room 1 _ := hr.mono (by decide)
    refine ⟨_, pss_cons (ps_set (i := 4) scCut.nd rfl (Or.inr rfl) (pe_lc (own := [("act", 7)]) (g := gName 7) (tt := tYes) (te := tCall (spDear K) [] E0 (tCons (tVar 1) (tCons (tFld K (tVar 7) "needs") tNil))) rfl scCut.nd (pi_list (pv 0)) (blkOk_by (N := ["acts", "worths", "so", "end", "dears", "zone", "before", "act", "number"]) (sc := defScope sCut) (by decide +kernel))
        (fun _ _ _ _ _ => pg_name (i := 7) scCut.nd rfl (Or.inl rfl)) (fun _ _ _ _ _ => pts_nil) (fun _ _ _ _ _ => pe_call GD hr rfl mD kpD bD .nil pass0 (pa_cons (pv 1) (pa_cons (pe_fld (pv 7) rfl) pa_nil)))))
      (pss_cons (ps_set (i := 5) scCut.nd rfl (Or.inr rfl) (pe_call GZ hr1 rfl mZ kpZ bZ .nil pass0 (pa_cons (pv 0) (pa_cons (pv 4) (pa_cons (pv 3) pa_nil)))))
      (pss_cons (ps_set (i := 6) scCut.nd rfl (Or.inr rfl) (pe_call GB hr1 rfl mB kpB bB .nil pass0 (pa_cons (pv 0) (pa_cons (pv 4) (pa_cons (pv 2) (pa_cons (pv 5) pa_nil))))))
      (pss_one (ps_ret (pe_lc (own := [("number", 8), ("act", 7)]) (g := gTup K 2 (gCons (gName 8) (gCons (gName 7) gNil))) (tt := tAnd (tTest (tOp _ (tOp rAnd (tOp (rIxL K) (tVar 4) (tVar 8)) (tVar 6)) (tC (.int 0)))) (tTest (tOp _ (tOp rAnd (tFld K (tVar 7) "brings") (tVar 5)) (tC (.int 0))))) (te := tVar 8) rfl scCut.nd (pi_enum rfl mE (pa_cons (pv 0) pa_nil))
        (blkOk_by (N := ["acts", "worths", "so", "end", "dears", "zone", "before", "act", "number"]) (sc := defScope sCut) (by decide +kernel)) (fun _ _ _ _ _ => pg_tup rfl (pgs_cons (pg_name (i := 8) scCut.nd rfl (Or.inl rfl)) (pgs_cons (pg_name (i := 7) scCut.nd rfl (Or.inl rfl)) pgs_nil)))
        (fun _ _ _ _ _ => pts_one (PW.pt (pw_and (pt_cmpR op_ne (pe_op op_and (pe_ix ix_list (pv 4) (pv 8) (fun _ _ => rfl)) (pv 6)) pe_int (nomark _)) (pw_and1 (pt_cmpR op_ne (pe_op op_and (pe_fld (pv 7) rfl) (pv 5)) pe_int (nomark _)))))) (fun _ _ _ _ _ => pv 8)))))), ?_⟩
    have hi := wl.in_
    have hf8 := wl.f8
    have hac := wl.ac
    have hxl : xs.length = t.acts.length + 1 := by rw [hA.length, ThExt.xacts_length]
    have hwl : (wv t c s).length = t.facts + 2 := by unfold ThZone.wv; rw [List.length_map, List.length_range]
    have p1 : 2 ^ t.facts < 2 ^ (t.facts + 2) := Nat.pow_lt_pow_right (by decide) (by omega)
    have p2 : 2 ^ (t.facts + 1) < 2 ^ (t.facts + 2) := Nat.pow_lt_pow_right (by decide) (by omega)
    have dlt : ∀ d, d ∈ dears t c s → d < 2 ^ (t.facts + 2) := fun d hd => by
      unfold ThZone.dears at hd
      obtain ⟨a, ha, rfl⟩ := List.mem_map.1 hd
      obtain ⟨j, hj, rfl⟩ := ThExt.xacts_mem ha
      exact ThZone.dearBit_lt (ThExt.xat_lt hi c).1 (ThZone.xpre_ne hi c hg0 hj)
    have dl : (dears t c s).length = t.acts.length + 1 := by unfold ThZone.dears; rw [List.length_map, ThExt.xacts_length]
    refine ⟨_, rfl, la, rfl, ⟨_, hla⟩, fun D hD => ?_⟩
    have sD : ∀ o, Same H (upd H D o) := fun o => same_new hD
    refine lc_list (K := K) (a := la) (xs := xs.map V.ref) (fun i H' => Same H H' ∧ H' D = some (.lst (natsV ((dears t c s).take i)))) ⟨same_new hD, upd_same⟩ (fun i H' _ ⟨s1, _⟩ => s1.seq hla) (fun i y H1 hi1 hP => ?_) (fun H1 hP => ?_)
    · obtain ⟨s1, hD1⟩ := hP
      obtain ⟨ya, hy, rfl⟩ := refs_get hi1
      obtain ⟨a, ha, _, dy, hya⟩ := hA.get hy
      obtain ⟨hk, rfl⟩ := ThZone.xget c ha
      refine ⟨rfl, tYes_of ?_⟩
      refine ⟨_, rfl, _, rfl, ya, CA, dy, _, _, rfl, s1 _ _ hya, T.clA, T.nNeeds, aF_needs _, lb, t.facts + 2, _, _, rfl, s1.seq hlb, hwl, (ThExt.xat_lt hi c).1, by omega, ThZone.xpre_ne hi c hg0 hk, fun H2 s2 => ?_⟩
      refine ⟨_, s2 _ _ hD1, ?_, fun b o e => ?_, ?_⟩
      · unfold natsV
        rw [List.length_map, List.length_take]
        exact small1000 (by omega)
      · rw [upd_ne (ne_of_none e hD)]
        exact s2 _ _ (s1 _ _ e)
      · rw [upd_same, take_more (ThZone.dears_get c hk)]
        unfold natsV
        rw [List.map_append]
        rfl
    · obtain ⟨s1, hD1⟩ := hP
      rw [List.length_map, hxl, ← dl, List.take_length] at hD1
      refine ⟨_, rfl, _, rfl, _, rfl, H0, la, D, xs, xacts t c, dears t c s, 2 ^ (t.facts + 1), t.facts + 2, rfl, s1.seq hla, hA.keep (fun x a ⟨x0, d, hx⟩ => ⟨x0, d, s1 _ _ hx⟩), SqL.of hD1, by rw [ThExt.xacts_length, dl], dlt, p2, Nat.ne_of_gt (Nat.two_pow_pos _), fun H2 z s2 hz hZ => ?_⟩
      have s12 := s1.trans s2
      refine ⟨_, rfl, _, rfl, _, rfl, _, rfl, H0, la, D, xs, xacts t c, dears t c s, s ||| 2 ^ t.facts, z, t.facts + 2, rfl, s12.seq hla, hA.keep (fun x a ⟨x0, d, hx⟩ => ⟨x0, d, s12 _ _ hx⟩), SqL.of (s2 _ _ hD1), by rw [ThExt.xacts_length, dl], fun a ha => ?_, Nat.or_lt_two_pow (Nat.lt_trans hs p1) p1, ?_, fun H3 b s3 hb hB => ?_⟩
      · obtain ⟨j, hj, rfl⟩ := ThExt.xacts_mem ha
        exact (ThExt.xat_lt hi c).2
      · have h1 : 2 ^ t.facts ≤ s ||| 2 ^ t.facts := Nat.right_le_or
        have := Nat.two_pow_pos t.facts
        omega
      have s13 := s12.trans s3
      have s23 := s2.trans s3
      refine ⟨_, rfl, la, _, rfl, s13.seq hla, fun D2 hD2 => ?_⟩
      let q : Nat → Bool := fun j => decide (dearBit (t.facts + 2) (wv t c s) (xat t c j).pre &&& b ≠ 0) && decide ((xat t c j).add &&& z ≠ 0)
      have eK : ThCut.K t s c = (List.range (t.acts.length + 1)).filter q := K_filter fun j hj => by
        rw [ThZone.cut_is hi c hg0 hs hZ hB hj]
        show _ ↔ (decide _ && decide _) = true
        rw [Bool.and_eq_true, decide_eq_true_eq, decide_eq_true_eq]
      refine lc_it (walk_enum (K := K) (a := la) (xs := xs.map V.ref)) (fun i H' => Same H3 H' ∧ H' D2 = some (.lst (natsV ((List.range i).filter q)))) ⟨same_new hD2, upd_same⟩ (fun i H' _ ⟨s4, _⟩ => (s13.trans s4).seq hla) ?_ ?_
      · rintro i v H4 H5 hil ⟨s4, hD4⟩ ⟨Tp, x, y, rfl, nT, rfl, ex, ey⟩
        cases ex
        obtain ⟨ya, hy, rfl⟩ := refs_get ey
        obtain ⟨a, ha, _, dy, hya⟩ := hA.get hy
        obtain ⟨hk, rfl⟩ := ThZone.xget c ha
        have s5 : Same H3 (upd H4 Tp (.tup [.int ((i : Nat) : Int), .ref ya])) := s4.trans (same_new nT)
        have hD5 : upd H4 Tp (.tup [.int ((i : Nat) : Int), .ref ya]) D2 = some (.lst (natsV ((List.range i).filter q))) := (same_new nT) _ _ hD4
        refine ⟨Tp, _, rfl, SqT.of upd_same, rfl, _, _, rfl, _, _, rfl, rfl, rfl, ?_⟩
        generalize upd H4 Tp (.tup [.int ((i : Nat) : Int), .ref ya]) = H5 at s5 hD5
        have s15 := s13.trans s5
        have no : q i = false → Same H3 H5 ∧ H5 D2 = some (.lst (natsV ((List.range (i + 1)).filter q))) := fun e => by
          refine ⟨s5, ?_⟩
          rw [List.range_succ, List.filter_append]
          have : List.filter q [i] = [] := by simp [e]
          rw [this, List.append_nil]
          exact hD5
        refine ⟨_, rfl, _, rfl, D, _, _, _, rfl, rfl, SqL.of ((s23.trans s5) _ _ hD1), atI_nat (by unfold natsV; rw [List.getElem?_map, ThZone.dears_get c hk]; rfl), _, rfl, _, _, rfl, rfl, rfl, _, rfl, ?_⟩
        show if (!decide (V.int (Builtin.bitAnd ((dearBit (t.facts + 2) (wv t c s) (xat t c i).pre : Nat) : Int) (b : Int)) = V.int ((0 : Nat) : Int))) = true then _ else _
        rw [bAnd, ne_dec]
        refine ite2 (fun c1 => ?_) (fun c1 => ?_)
        · refine ⟨_, rfl, ya, CA, dy, _, _, rfl, s15 _ _ hya, T.clA, T.nBrings, aF_brings _, _, rfl, _, _, rfl, rfl, rfl, _, rfl, ?_⟩
          show if (!decide (V.int (Builtin.bitAnd ((xat t c i).add : Int) (z : Int)) = V.int ((0 : Nat) : Int))) = true then _ else _
          rw [bAnd, ne_dec]
          refine ite2 (fun c2 => ?_) (fun c2 => ?_)
          · have eq : q i = true := by
              show (decide _ && decide _) = true
              rw [c1, c2]
              rfl
            refine ⟨_, rfl, _, hD5, ?_, fun b' o e => ?_, ?_⟩
            · unfold natsV
              rw [List.length_map]
              have := List.length_filter_le q (List.range i)
              rw [List.length_range] at this
              rw [List.length_map, hxl] at hil
              exact small1000 (by omega)
            · rw [upd_ne (ne_of_none e hD2)]
              exact s5 _ _ e
            · rw [upd_same, List.range_succ, List.filter_append]
              have : List.filter q [i] = [i] := by simp [eq]
              rw [this]
              unfold natsV
              rw [List.map_append]
              rfl
          · refine no ?_
            show (decide _ && decide _) = false
            rw [Bool.and_eq_false_iff]
            exact .inr (by simpa using c2)
        · refine if_false_of rfl (no ?_)
          show (decide _ && decide _) = false
          rw [Bool.and_eq_false_iff]
          exact .inl (by simpa using c1)
      · rintro H4 ⟨s4, hD4⟩
        rw [List.length_map, hxl, ← eK] at hD4
        exact k H4 D2 (s13.trans s4) (s13.free hD2) hD4
end
end My

set_option Elab.async false
set_option maxRecDepth 100000
set_option maxHeartbeats 4000000
namespace My
open PySem PySem.Spec PyProof.Rows L2
open ThZone (wv)
open ThExt (xacts xat)
open ThVal (W)
/-- the cuts as the program keeps them: pairs of a worth and a list of acts; no such list is the one at lc -/
inductive CutsAt (lc : Addr) (H : Hp) : List Addr → List (Nat × List Nat) → Prop
  | nil : CutsAt lc H [] []
  | cons {T lk : Addr} {m : Nat} {ks : List Nat} {ts : List Addr} {r : List (Nat × List Nat)} : H T = some (.tup [.int (m : Int), .ref lk]) → H lk = some (.lst (natsV ks)) → lk ≠ lc → CutsAt lc H ts r → CutsAt lc H (T :: ts) ((m, ks) :: r)
theorem CutsAt.length {lc : Addr} {H : Hp} {ts : List Addr} {r : List (Nat × List Nat)} (h : CutsAt lc H ts r) : ts.length = r.length := by
  induction h with
  | nil => rfl
  | cons _ _ _ _ ih => rw [List.length_cons, List.length_cons, ih]
theorem CutsAt.keep {lc : Addr} {H H' : Hp} {ts : List Addr} {r : List (Nat × List Nat)} (h : CutsAt lc H ts r) (k1 : ∀ b l, H b = some (.tup l) → H' b = some (.tup l)) (k2 : ∀ b l, b ≠ lc → H b = some (.lst l) → H' b = some (.lst l)) : CutsAt lc H' ts r := by
  induction h with
  | nil => exact .nil
  | cons a b c _ ih => exact .cons (k1 _ _ a) (k2 _ _ c b) c ih
theorem CutsAt.snoc {lc : Addr} {H : Hp} {ts : List Addr} {r : List (Nat × List Nat)} {T lk : Addr} {m : Nat} {ks : List Nat} (h : CutsAt lc H ts r) (a : H T = some (.tup [.int (m : Int), .ref lk])) (b : H lk = some (.lst (natsV ks))) (c : lk ≠ lc) : CutsAt lc H (ts ++ [T]) (r ++ [(m, ks)]) := by
  induction h with
  | nil => exact .cons a b c .nil
  | cons a' b' c' _ ih => exact .cons a' b' c' ih
theorem CutsAt.get {lc : Addr} {H : Hp} {ts : List Addr} {r : List (Nat × List Nat)} (h : CutsAt lc H ts r) : ∀ {i : Nat} {T : Addr}, ts[i]? = some T → ∃ m ks lk, r[i]? = some (m, ks) ∧ H T = some (.tup [.int (m : Int), .ref lk]) ∧ H lk = some (.lst (natsV ks)) := by
  induction h with
  | nil => intro i x h; simp at h
  | cons a b _ _ ih =>
    intro i x h
    cases i with
    | zero => cases h; exact ⟨_, _, _, rfl, a, b⟩
    | succ i => exact ih h
theorem join_one {u : Nat → Option Nat} {f : Nat} : ThVal.joinF false u [f] = u f := by
  show ThVal.op false (some 0) (u f) = u f
  cases u f with
  | none => rfl
  | some y => show some (max 0 y) = some y; rw [Nat.max_eq_right (Nat.zero_le _)]
theorem end_worth (t : Pn.Task) (c : List Nat) (s : Nat) : ThVal.joinF false (Pn03.val (wv t c s)) (Pn03.facts (t.facts + 2) (2 ^ (t.facts + 1))) = W false t c s (t.facts + 1) := by
  rw [ThExt.facts_pow (by omega), join_one]
  unfold ThZone.wv
  rw [ThVal.val_map_range _ _ _ (by omega)]
def lenL (H : Hp) (d : Addr) : Nat := match H d with
  | some (.lst l) => l.length
  | _ => 0
theorem goal_ne {t : Pn.Task} {c : List Nat} {s h : Nat} (hc : c.getD t.acts.length 0 = 0) (e : W false t c s (t.facts + 1) = some (h + 1)) : t.goal ≠ 0 := fun z => by
  rw [ThVal.W_goal false t c s hc (fun a _ h => by have := (ThVal.mem_facts.1 h).1; omega), z, (ThExt.facts_nil (Nat.two_pow_pos _)).2 rfl] at e
  cases e
abbrev sFound : Stmt := top 22
section
variable {P : Program} {w : World} {K : PySem.W.Frag} {mg : Str → Option Value} {base : Heap} {C CA : Addr}
/-! ### found_cuts -/
def spFound (C CA : Addr) : Sp := fun vs H Q _ => ∃ (H0 : Hp) (p : Addr) (t : Pn.Task) (st : Nat), vs = [.ref p, .int st] ∧ HouseAt C CA H0 H p t ∧ st < 2 ^ t.facts ∧
  match W false t (Pn03.prices t) st (t.facts + 1) with
  | none => ∀ H', Same H H' → Q .non H'
  | some _ => ∃ r, ThCut.Cuts t st (Pn03.prices t) r ∧ r.length ≤ 1000000 ∧ ∀ (H' : Hp) (b : Addr) (ts : List Addr), Same H H' → H b = none → H' b = some (.lst (ts.map V.ref)) → CutsAt b H' ts r → Q (.ref b) H'
theorem scFound : FnScope ["house", "state", "always", "end", "facts", "so", "acts", "worths", "cuts", "cut"] ["house", "state"] (defScope sFound) := ⟨rfl, rfl, rfl, by decide +kernel, rfl, by decide +kernel, by decide +kernel⟩
theorem ok_found {f fP fW fD fC fT : Addr} {fd fdP fdW fdD fdC fdT : FuncData} (F : Fun K "found_cuts" "found_cuts" sFound f fd) (T : Txt K mg C CA)
    (kpP : PySem.W.keepIn K (.ref fP) = true) (mP : mg "priced_acts" = some (.ref fP)) (bP : Binds K fdP ["house", "always", "end"] []) (GP : FnOk P w K mg base CX0 3 fP fdP ["house", "always", "end"] (spPriced C CA))
    (kpW : PySem.W.keepIn K (.ref fW) = true) (mW : mg "worths_from" = some (.ref fW)) (bW : Binds K fdW ["facts", "acts", "state", "worth_of_row"] []) (GW : FnOk P w K mg base CX0 3 fW fdW ["facts", "acts", "state", "worth_of_row"] (spWorths K CA fD false))
    (kpD : PySem.W.keepIn K (.ref fD) = true) (mD : mg "dearest_of" = some (.ref fD)) (bD : Binds K fdD ["worths", "row"] []) (GD : FnOk P w K mg base CX0 2 fD fdD ["worths", "row"] (spRow K false))
    (kpC : PySem.W.keepIn K (.ref fC) = true) (mC : mg "cut_of" = some (.ref fC)) (bC : Binds K fdC ["acts", "worths", "so", "end"] []) (GC : FnOk P w K mg base CX0 4 fC fdC ["acts", "worths", "so", "end"] (spCut K CA))
    (kpT : PySem.W.keepIn K (.ref fT) = true) (mT : mg "take_off" = some (.ref fT)) (bT : Binds K fdT ["acts", "cut"] []) (GT : FnOk P w K mg base CX0 1 fT fdT ["acts", "cut"] (spTake CA)) :
    FnOk P w K mg base CX0 5 f fd ["house", "state"] (spFound C CA) := by
  refine F.ok scFound (fun vs H Q E h => ?_) (fun cdv A outer s0 H vs Q E hr h => ?_)
  · obtain ⟨H0, p, t, st, rfl, _⟩ := h
    rfl
  · obtain ⟨H0, p, t, st, rfl, hH, hst, k⟩ := h
    have hr1 : Room 1 _ := hr.mono (by decide)
    have hr2 : Room 2 _ := hr.mono (by decide)
    have hr3 : Room 3 _ := hr.mono (by decide)
    refine ⟨_, pss_cons (ps_set (i := 2) scFound.nd rfl (Or.inl rfl) (pe_op op_shl pe_int (pe_fld (pv 0) rfl)))
      (pss_cons (ps_set (i := 3) scFound.nd rfl (Or.inl rfl) (pe_op op_shl (pv 2) pe_int))
      (pss_cons (ps_set (i := 4) scFound.nd rfl (Or.inl rfl) (pe_op op_add (pe_fld (pv 0) rfl) pe_int))
      (pss_cons (ps_set (i := 5) scFound.nd rfl (Or.inl rfl) (pe_op op_or (pv 1) (pv 2)))
      (pss_cons (ps_set (i := 6) scFound.nd rfl (Or.inl rfl) (pe_call GP hr3 rfl mP kpP bP .nil pass0 (pa_cons (pv 0) (pa_cons (pv 2) (pa_cons (pv 3) pa_nil)))))
      (pss_cons (ps_set (i := 7) scFound.nd rfl (Or.inl rfl) (pe_call GW hr3 rfl mW kpW bW .nil pass0 (pa_cons (pv 4) (pa_cons (pv 6) (pa_cons (pv 5) (pa_cons (pe_glob (v := .ref fD) rfl mD rfl) pa_nil))))))
      (pss_cons (ps_if (pt_cmpR op_isN (pe_call GD hr2 rfl mD kpD bD .nil pass0 (pa_cons (pv 7) (pa_cons (pv 3) pa_nil))) pe_non (nomark _)) (pss_one (ps_ret pe_non)) pss_nil)
      (pss_cons (ps_set (i := 8) scFound.nd rfl (Or.inl rfl) (pe_lst pa_nil))
      (pss_cons (ps_while PassesOwn.never (pt_cmpR op_gt (pe_call GD hr2 rfl mD kpD bD .nil pass0 (pa_cons (pv 7) (pa_cons (pv 3) pa_nil))) pe_int (nomark _))
        (pss_cons (ps_set (i := 9) scFound.nd rfl (Or.inl rfl) (pe_call GC hr rfl mC kpC bC .nil pass0 (pa_cons (pv 6) (pa_cons (pv 7) (pa_cons (pv 5) (pa_cons (pv 3) pa_nil))))))
        (pss_cons (ps_expr (pe_bm PySem.F.plainAttrs_list PySem.F.slot_list_append PySem.F.type_list_append mt_append (pv 8) (pa_cons (pe_tup (pa_cons (pe_call GT hr1 rfl mT kpT bT .nil pass0 (pa_cons (pv 6) (pa_cons (pv 9) pa_nil))) (pa_cons (pv 9) pa_nil))) pa_nil)))
        (pss_one (ps_set (i := 7) scFound.nd rfl (Or.inl rfl) (pe_call GW hr3 rfl mW kpW bW .nil pass0 (pa_cons (pv 4) (pa_cons (pv 6) (pa_cons (pv 5) (pa_cons (pe_glob (v := .ref fD) rfl mD rfl) pa_nil)))))))))
      ) (pss_one (ps_ret (pv 8))))))))))), ?_⟩
    have hH' := hH
    obtain ⟨s0', p0, wl, dx, la0, xs0, la00, hp, hla0, hA0⟩ := hH
    have hi := wl.in_
    have hf8 := wl.f8
    have hac := wl.ac
    have e1 : (1 : Int) * 2 ^ ((t.facts : Nat) : Int).toNat = ((2 ^ t.facts : Nat) : Int) := by
      rw [Int.toNat_natCast, Int.one_mul]
      norm_cast
    have hpow : 2 ^ t.facts ≤ 256 := Nat.pow_le_pow_right (n := 2) (by decide) hf8
    have e2 : ((2 ^ t.facts : Nat) : Int) * 2 ^ ((1 : Int)).toNat = ((2 ^ (t.facts + 1) : Nat) : Int) := by
      rw [Nat.pow_succ]
      show ((2 ^ t.facts : Nat) : Int) * 2 ^ 1 = _
      omega
    refine ⟨_, rfl, p, C, dx, _, _, rfl, hp, T.cl, T.nF, hF_facts _ _ _, _, _, rfl, rfl, ⟨by omega, by omega, by decide⟩, ?_⟩
    show gName 2 (.int ((1 : Int) * 2 ^ ((t.facts : Nat) : Int).toNat)) _ _ _
    rw [e1]
    refine ⟨_, rfl, _, _, rfl, rfl, ⟨by decide, by decide, by rw [Int.natAbs_natCast]; exact Nat.lt_of_le_of_lt hpow (by decide)⟩, ?_⟩
    show gName 3 (.int (((2 ^ t.facts : Nat) : Int) * 2 ^ ((1 : Int)).toNat)) _ _ _
    rw [e2]
    refine ⟨_, rfl, p, C, dx, _, _, rfl, hp, T.cl, T.nF, hF_facts _ _ _, _, _, rfl, rfl, ?_⟩
    show gName 4 (.int (((t.facts : Nat) : Int) + 2)) _ _ _
    rw [show ((t.facts : Nat) : Int) + 2 = ((t.facts + 2 : Nat) : Int) by omega]
    refine ⟨_, rfl, _, rfl, _, _, rfl, rfl, ?_⟩
    show gName 5 (.int (Builtin.bitOr (st : Int) ((2 ^ t.facts : Nat) : Int))) _ _ _
    rw [bOr]
    refine ⟨_, rfl, _, rfl, _, rfl, H0, p, t, rfl, hH', fun H1 la xs s1 nla hla hA ndx => ?_⟩
    have alt : ∀ c a, a ∈ xacts t c → a.pre < 2 ^ (t.facts + 2) ∧ a.add < 2 ^ (t.facts + 2) := fun c a ha => by
      obtain ⟨j, _, rfl⟩ := ThExt.xacts_mem ha
      exact ThExt.xat_lt hi c
    refine ⟨_, rfl, _, rfl, _, rfl, H, la, t.facts + 2, xacts t (Pn03.prices t), st ||| 2 ^ t.facts, xs, rfl, SqL.of hla, hA, alt _, by omega, fun H2 lw s2 nlw hlw => ?_⟩
    rw [ThExt.x_turns_W hi (Pn03.prices t) hst] at hlw
    have hlw : H2 lw = some (.lst ((wv t (Pn03.prices t) st).map optV)) := hlw
    have hwl : ∀ c, (wv t c st).length = t.facts + 2 := fun c => by unfold ThZone.wv; rw [List.length_map, List.length_range]
    have p2 : 2 ^ (t.facts + 1) < 2 ^ (t.facts + 2) := Nat.pow_lt_pow_right (by decide) (by omega)
    refine ⟨_, rfl, _, rfl, lw, t.facts + 2, 2 ^ (t.facts + 1), wv t (Pn03.prices t) st, rfl, SqL.of hlw, hwl _, p2, by omega, fun H3 s3 => ?_⟩
    rw [end_worth]
    refine ⟨rfl, _, rfl, ?_⟩
    have s13 : Same H H3 := (s1.trans s2).trans s3
    cases eW : W false t (Pn03.prices t) st (t.facts + 1) with
    | none =>
      rw [eW] at k
      exact if_true_of rfl (k H3 s13)
    | some w0 =>
      rw [eW] at k
      obtain ⟨r, hC, hrl, k⟩ := k
      refine if_false_of rfl ?_
      refine ⟨Nat.zero_le _, fun lc nlc => ?_⟩
      have nlc0 : H lc = none := s13.free nlc
      have nlcl : lc ≠ la := fun e => by
        rw [e, (s2.trans s3) _ _ hla] at nlc
        cases nlc
      have nlcw : lc ≠ lw := fun e => by
        rw [e, s3 _ _ hlw] at nlc
        cases nlc
      refine while_by (fun σ H' => ∃ (c : List Nat) (r1 r2 : List (Nat × List Nat)) (ts : List Addr) (lw' : Addr) (v9 : Option V), σ = [some (.ref p), some (.int st), some (.int ((2 ^ t.facts : Nat) : Int)), some (.int ((2 ^ (t.facts + 1) : Nat) : Int)), some (.int ((t.facts + 2 : Nat) : Int)), some (.int ((st ||| 2 ^ t.facts : Nat) : Int)), some (.ref la), some (.ref lw'), some (.ref lc), v9] ∧
          Same H H' ∧ H' la = some (.lst (xs.map V.ref)) ∧ ActsAt CA H H' xs (xacts t c) ∧ H' lw' = some (.lst ((wv t c st).map optV)) ∧ lw' ≠ lc ∧ H' lc = some (.lst (ts.map V.ref)) ∧ CutsAt lc H' ts r1 ∧ ThCut.Cuts t st c r2 ∧ r1 ++ r2 = r ∧ c.getD t.acts.length 0 = 0)
        (fun _ H' => r.length - lenL H' lc)
        ⟨Pn03.prices t, [], r, [], lw, none, rfl, s13.trans (same_new nlc), ?_, hA.keep (fun x a ⟨x0, d, hx⟩ => ⟨x0, d, (same_new nlc) _ _ ((s2.trans s3) _ _ hx)⟩), ?_, nlcw.symm, upd_same, .nil, hC, rfl, ThCut.prices_goal t⟩ ?_ ?_
      · exact (same_new nlc) _ _ ((s2.trans s3) _ _ hla)
      · exact (same_new nlc) _ _ (s3 _ _ hlw)
      · rintro σ H4 ⟨c, r1, r2, ts, lw', v9, rfl, s4, hla4, hA4, hlw4, nw4, hlc4, hcu4, hC4, hr4, hc4⟩
        refine ⟨_, rfl, _, rfl, lw', t.facts + 2, 2 ^ (t.facts + 1), wv t c st, rfl, SqL.of hlw4, hwl _, p2, by omega, fun H5 s5 => ?_⟩
        rw [end_worth]
        cases hC4 with
        | nil eW4 =>
          rw [eW4]
          refine ⟨_, _, rfl, rfl, _, rfl, ?_⟩
          refine if_false_of (by decide) ?_
          rw [List.append_nil] at hr4
          subst hr4
          exact ⟨_, rfl, k H5 lc ts (s4.trans s5) nlc0 (s5 _ _ hlc4) (hcu4.keep (fun b l e => s5 _ _ e) fun b l _ e => s5 _ _ e)⟩
        | @cons _ h r3 eW4 hC5 =>
          rw [eW4]
          refine ⟨_, _, rfl, rfl, _, rfl, ?_⟩
          refine if_true_of (by show decide ((0 : Int) < ((h + 1 : Nat) : Int)) = true; exact decide_eq_true (by omega)) ?_
          have hg0 := goal_ne hc4 eW4
          refine ⟨_, rfl, _, rfl, _, rfl, _, rfl, H, la, lw', t, c, st, xs, rfl, SqL.of (s5 _ _ hla4), hA4.keep (fun x a ⟨x0, d, hx⟩ => ⟨x0, d, s5 _ _ hx⟩), SqL.of (s5 _ _ hlw4), wl, hg0, hst, fun H6 lk s6 nlk hlk => ?_⟩
          have s46 := s5.trans s6
          have nlkc : lk ≠ lc := fun e => by
            rw [e, s5 _ _ hlc4] at nlk
            cases nlk
          have hKs := ThCut.K_sorted t st c
          have ndK : (ThCut.K t st c).Nodup := hKs.imp fun h => Nat.ne_of_lt h
          have hKlt := ThCut.K_lt t st c hc4 h eW4
          have hKn := ThCut.K_ne t st c h eW4
          have hKl : (ThCut.K t st c).length ≤ 1000 := by
            have := ThReal.nodup_lt t.acts.length _ ndK hKlt
            omega
          refine ⟨_, rfl, .inl ⟨rfl, _, SqL.of (s46 _ _ hlc4)⟩, _, rfl, _, rfl, H, la, lk, xs, xacts t c, ThCut.K t st c, rfl, s46 _ _ hla4, hA4.keep (fun x a ⟨x0, d, hx⟩ => ⟨x0, d, s46 _ _ hx⟩), ndx, hlk, ndK, fun q hq => by rw [ThExt.xacts_length]; have := hKlt q hq; omega, hKn, hKl, fun H7 m hm1 hm2 hA7 hk7 => ?_⟩
          have em : m = ThCut.leastOf c (ThCut.K t st c) := by
            have xc : ∀ {q : Nat} {a : Pn.Act}, (xacts t c)[q]? = some a → a.cost = c.getD q 0 := fun {q a} ha => by
              obtain ⟨_, rfl⟩ := ThZone.xget c ha
              exact ThExt.xat_cost t c q
            obtain ⟨q, a, hq, ha, e⟩ := hm1
            obtain ⟨i, hi', ei⟩ := ThCut.leastOf_mem (c := c) hKn
            have h1 := ThCut.leastOf_le (c := c) hq
            have h2 := hm2 i (xat t c i) hi' (ThExt.xacts_get (by have := hKlt i hi'; omega))
            rw [xc ha] at e
            rw [ThExt.xat_cost] at h2
            omega
          rw [lowered_x, em] at hA7
          have nx : ∀ {b : Addr} {o : HO}, H6 b = some o → (∀ C' d' fs, o ≠ .ins C' d' fs) → ¬ b ∈ xs := fun {b o} e hn hb => by
            obtain ⟨i, hi'⟩ := List.getElem?_of_mem hb
            obtain ⟨a, _, _, dx', hx⟩ := hA4.get hi'
            have := s46 _ _ hx
            rw [e] at this
            exact hn _ _ _ (Option.some.inj this)
          have kL : ∀ {b : Addr} {l : List V}, H6 b = some (.lst l) → H7 b = some (.lst l) := fun {b l} e => hk7 _ _ e (nx e fun _ _ _ z => by cases z)
          have kT : ∀ {b : Addr} {l : List V}, H6 b = some (.tup l) → H7 b = some (.tup l) := fun {b l} e => hk7 _ _ e (nx e fun _ _ _ z => by cases z)
          have s7 : Same H H7 := fun b o e => hk7 _ _ (s46 _ _ (s4 _ _ e)) fun hb => by
            obtain ⟨i, hi'⟩ := List.getElem?_of_mem hb
            obtain ⟨a, _, h0, _⟩ := hA4.get hi'
            rw [h0] at e
            cases e
          refine ⟨_, rfl, by show 2 ≤ sizeLine; decide, fun Tn nTn => ?_⟩
          have sT : Same H7 (upd H7 Tn (.tup [.int (m : Int), .ref lk])) := same_new nTn
          have hlc7 := kL (s46 _ _ hlc4)
          refine ⟨lc, _, _, rfl, rfl, sT _ _ hlc7, ?_, ?_⟩
          · rw [List.length_map, hcu4.length, sizeLine_eq]
            have := congrArg List.length hr4
            rw [List.length_append, List.length_cons] at this
            omega
          have up : ∀ {b : Addr} {o : HO}, b ≠ lc → H7 b = some o → upd (upd H7 Tn (.tup [.int (m : Int), .ref lk])) lc (.lst (ts.map V.ref ++ [.ref Tn])) b = some o := fun {b o} nb e => by
            rw [upd_ne nb]
            exact sT _ _ e
          have nTc : Tn ≠ lc := fun e => by
            rw [e, hlc7] at nTn
            cases nTn
          have nlal : la ≠ lc := nlcl.symm
          have hla8 := up nlal (kL (s46 _ _ hla4))
          have hA8 : ActsAt CA H (upd (upd H7 Tn (.tup [.int (m : Int), .ref lk])) lc (.lst (ts.map V.ref ++ [.ref Tn]))) xs (xacts t (ThCut.less c (ThCut.K t st c) (ThCut.leastOf c (ThCut.K t st c)))) := hA7.keep fun x a ⟨x0, d, hx⟩ => ⟨x0, d, up (fun e => by rw [e, hlc7] at hx; cases hx) hx⟩
          have hlc8 : upd (upd H7 Tn (.tup [.int (m : Int), .ref lk])) lc (.lst (ts.map V.ref ++ [.ref Tn])) lc = some (.lst ((ts ++ [Tn]).map V.ref)) := by
            rw [upd_same, List.map_append]
            rfl
          have hT8 : upd (upd H7 Tn (.tup [.int (m : Int), .ref lk])) lc (.lst (ts.map V.ref ++ [.ref Tn])) Tn = some (.tup [.int (m : Int), .ref lk]) := by
            rw [upd_ne nTc, upd_same]
          have hlk8 := up nlkc (kL hlk)
          have hcu8 : CutsAt lc (upd (upd H7 Tn (.tup [.int (m : Int), .ref lk])) lc (.lst (ts.map V.ref ++ [.ref Tn]))) (ts ++ [Tn]) (r1 ++ [(m, ThCut.K t st c)]) :=
            (hcu4.keep (fun b l e => up (fun z => by rw [z, hlc4] at e; cases e) (kT (s46 _ _ e))) fun b l nb e => up nb (kL (s46 _ _ e))).snoc hT8 hlk8 nlkc
          have s8 : Same H (upd (upd H7 Tn (.tup [.int (m : Int), .ref lk])) lc (.lst (ts.map V.ref ++ [.ref Tn]))) := fun b o e => up (fun z => by rw [z, nlc0] at e; cases e) (s7 _ _ e)
          generalize upd (upd H7 Tn (.tup [.int (m : Int), .ref lk])) lc (.lst (ts.map V.ref ++ [.ref Tn])) = H8 at hla8 hA8 hlc8 hT8 hlk8 hcu8 s8
          refine ⟨_, rfl, _, rfl, _, rfl, H, la, t.facts + 2, xacts t (ThCut.less c (ThCut.K t st c) (ThCut.leastOf c (ThCut.K t st c))), st ||| 2 ^ t.facts, xs, rfl, SqL.of hla8, hA8, alt _, by omega, fun H9 lw9 s9 nlw9 hlw9 => ?_⟩
          rw [ThExt.x_turns_W hi _ hst] at hlw9
          refine ⟨⟨ThCut.less c (ThCut.K t st c) (ThCut.leastOf c (ThCut.K t st c)), r1 ++ [(m, ThCut.K t st c)], r3, ts ++ [Tn], lw9, _, rfl, s8.trans s9, s9 _ _ hla8, hA8.keep (fun x a ⟨x0, d, hx⟩ => ⟨x0, d, s9 _ _ hx⟩), hlw9, fun e => ?_, s9 _ _ hlc8, hcu8.keep (fun b l e => s9 _ _ e) fun b l _ e => s9 _ _ e, hC5, ?_, ?_⟩, ?_⟩
          · rw [e, hlc8] at nlw9
            cases nlw9
          · rw [List.append_assoc, em]
            exact hr4
          · rw [ThCut.less_get, if_neg (fun z => Nat.lt_irrefl _ (hKlt _ z))]
            exact hc4
          · unfold lenL
            rw [s9 _ _ hlc8, hlc4]
            show r.length - ((ts ++ [Tn]).map V.ref).length < r.length - (ts.map V.ref).length
            rw [List.length_map, List.length_map, List.length_append, List.length_singleton, hcu4.length]
            have := congrArg List.length hr4
            rw [List.length_append, List.length_cons] at this
            omega
      · rintro σ H2 Q1 Q2 hQ ⟨v1, e1, v2, e2, a, n, m, l, e3, e4, e5, e6, e7, k⟩
        refine ⟨v1, e1, v2, e2, a, n, m, l, e3, e4, e5, e6, e7, fun H' s' => ?_⟩
        obtain ⟨i, j, a1, a2, kk, a3, q⟩ := k H' s'
        exact ⟨i, j, a1, a2, kk, a3, hQ _ _ q⟩
end
end My

set_option Elab.async false
set_option maxRecDepth 100000
set_option maxHeartbeats 4000000
namespace My
open PySem PySem.Spec PyProof.Rows L2
open ThVal (W)
theorem pn_sum : ∀ l : List Nat, Pn.sum l = l.sum
  | [] => rfl
  | x :: l => by rw [ThCost.sum_cons, List.sum_cons, pn_sum l]
/-- one cut, told -/
def tell (x : Nat × List Nat) : List Nat := x.1 :: x.2.length :: x.2
theorem cutsL_eq (r : List (Nat × List Nat)) : ThCalls.cutsL r = ((((r.map (·.1)).sum : Nat) : Int) :: (r.length : Int) :: (r.flatMap tell).map fun n : Nat => (n : Int)) := by
  unfold ThCalls.cutsL ThCalls.numbers Pn03.worth
  rw [pn_sum]
  rfl
abbrev sCutsFrom : Stmt := top 21
section
variable {P : Program} {w : World} {K : PySem.W.Frag} {mg : Str → Option Value} {base : Heap} {C CA : Addr}
/-! ### cuts_from -/
def spCutsFrom (C CA : Addr) : Sp := fun vs H Q _ => ∃ (H0 : Hp) (p : Addr) (t : Pn.Task) (st : Nat), vs = [.ref p, .int st] ∧ HouseAt C CA H0 H p t ∧ st < 2 ^ t.facts ∧
  match W false t (Pn03.prices t) st (t.facts + 1) with
  | none => ∀ H', Same H H' → Q .non H'
  | some _ => ∃ r, ThCut.Cuts t st (Pn03.prices t) r ∧ (ThCalls.cutsL r).length ≤ 1000000 ∧ ∀ (H' : Hp) (b : Addr), Same H H' → H b = none → H' b = some (.lst ((ThCalls.cutsL r).map V.int)) → Q (.ref b) H'
theorem scCutsFrom : FnScope ["house", "state", "cuts", "worth", "cut", "answer"] ["house", "state"] (defScope sCutsFrom) := ⟨rfl, rfl, rfl, by decide +kernel, rfl, by decide +kernel, by decide +kernel⟩
theorem ok_cutsFrom {f fF : Addr} {fd fdF : FuncData} (F : Fun K "cuts_from" "cuts_from" sCutsFrom f fd) (T : Txt K mg C CA) (mSu : mg "sum" = none)
    (kpF : PySem.W.keepIn K (.ref fF) = true) (mF : mg "found_cuts" = some (.ref fF)) (bF : Binds K fdF ["house", "state"] []) (GF : FnOk P w K mg base CX0 5 fF fdF ["house", "state"] (spFound C CA)) :
    FnOk P w K mg base CX0 6 f fd ["house", "state"] (spCutsFrom C CA) := by
  refine F.ok scCutsFrom (fun vs H Q E h => ?_) (fun cdv A outer s0 H vs Q E hr h => ?_)
  · obtain ⟨H0, p, t, st, rfl, _⟩ := h
    rfl
  · obtain ⟨H0, p, t, st, rfl, hH, hst, k⟩ := h
    refine ⟨_, pss_cons (ps_set (i := 2) scCutsFrom.nd rfl (Or.inl rfl) (pe_call GF hr rfl mF kpF bF .nil pass0 (pa_cons (pv 0) (pa_cons (pv 1) pa_nil))))
      (pss_cons (ps_if (pt_cmpR op_isN (pv 2) pe_non (nomark _)) (pss_one (ps_ret pe_non)) pss_nil)
      (pss_cons (ps_set (i := 5) scCutsFrom.nd rfl (Or.inl rfl) (pe_lst (pa_cons (pe_callB (cr_sum rfl) rfl mSu (by decide +kernel) (pa_cons
          (pe_lc (own := [("worth", 3), ("cut", 4)]) (g := gTup K 2 (gCons (gName 3) (gCons (gName 4) gNil))) (tt := tYes) (te := tVar 3) rfl scCutsFrom.nd (pi_list (pv 2)) (blkOk_by (N := ["house", "state", "cuts", "worth", "cut", "answer"]) (sc := defScope sCutsFrom) (by decide +kernel))
            (fun _ _ _ _ _ => pg_tup rfl (pgs_cons (pg_name (i := 3) scCutsFrom.nd rfl (Or.inl rfl)) (pgs_cons (pg_name (i := 4) scCutsFrom.nd rfl (Or.inl rfl)) pgs_nil))) (fun _ _ _ _ _ => pts_nil) (fun _ _ _ _ _ => pv 3)) pa_nil)) (pa_cons (pe_callB call_len_seq (by rfl) T.len PySem.boot_len (pa_cons (pv 2) pa_nil)) pa_nil))))
      (pss_cons (ps_for PassesOwn.never rfl (pi_list (pv 2)) (pg_tup rfl (pgs_cons (pg_name (i := 3) scCutsFrom.nd rfl (Or.inl rfl)) (pgs_cons (pg_name (i := 4) scCutsFrom.nd rfl (Or.inl rfl)) pgs_nil)))
        (pss_cons (ps_expr (pe_bm PySem.F.plainAttrs_list PySem.F.slot_list_extend PySem.F.type_list_extend mt_extend (pv 5) (pa_cons (pe_lst (pa_cons (pv 3) (pa_cons (pe_callB call_len_seq (by rfl) T.len PySem.boot_len (pa_cons (pv 4) pa_nil)) pa_nil))) pa_nil)))
        (pss_one (ps_expr (pe_bm PySem.F.plainAttrs_list PySem.F.slot_list_extend PySem.F.type_list_extend mt_extend (pv 5) (pa_cons (pv 4) pa_nil))))))
      (pss_one (ps_ret (pv 5)))))), ?_⟩
    refine ⟨_, rfl, _, rfl, H0, p, t, st, rfl, hH, hst, ?_⟩
    cases eW : W false t (Pn03.prices t) st (t.facts + 1) with
    | none =>
      rw [eW] at k
      intro H1 s1
      exact ⟨_, rfl, rfl, _, rfl, if_true_of rfl (k H1 s1)⟩
    | some w0 =>
      rw [eW] at k
      obtain ⟨r, hC, hlen, k⟩ := k
      have htot : (r.flatMap tell).length + 2 ≤ 1000000 := by
        rw [cutsL_eq, List.length_cons, List.length_cons, List.length_map] at hlen
        exact hlen
      have hrl : r.length ≤ (r.flatMap tell).length := by
        clear k hlen htot hC
        induction r with
        | nil => exact Nat.le_refl _
        | cons x r ih =>
          rw [List.flatMap_cons, List.length_append, List.length_cons]
          have : 2 ≤ (tell x).length := by unfold tell; rw [List.length_cons, List.length_cons]; omega
          omega
      refine ⟨r, hC, by omega, fun H1 lc ts s1 nlc hlc hcu => ?_⟩
      refine ⟨_, rfl, rfl, _, rfl, ?_⟩
      refine if_false_of rfl ?_
      have htl := hcu.length
      refine ⟨_, rfl, lc, rfl, ⟨_, SqL.of hlc⟩, fun D hD => ?_⟩
      have sD : ∀ o, Same H1 (upd H1 D o) := fun o => same_new hD
      refine lc_list (K := K) (a := lc) (xs := ts.map V.ref) (fun i H' => H' = upd H1 D (.lst ((((r.map (·.1)).take i).map fun n : Nat => (n : Int)).map V.int))) rfl (fun i H' _ hP => ?_) (fun i y H' hi hP => ?_) (fun H' hP => ?_)
      · rw [hP]
        exact SqL.of (sD _ _ _ hlc)
      · subst hP
        obtain ⟨Ty, hT, rfl⟩ := refs_get hi
        obtain ⟨m, ks, lk, hr1, hTy, hlk⟩ := hcu.get hT
        refine ⟨Ty, _, rfl, SqT.of (sD _ _ _ hTy), rfl, _, _, rfl, _, _, rfl, rfl, rfl, tYes_of ?_⟩
        have hil : i < r.length := (List.getElem?_eq_some_iff.1 hr1).1
        refine ⟨_, rfl, _, upd_same, ?_, ?_⟩
        · rw [List.length_map, List.length_map, List.length_take, sizeLine_eq]
          omega
        · have e : (r.map (·.1))[i]? = some m := by rw [List.getElem?_map, hr1]; rfl
          rw [upd_upd, take_more e, List.map_append, List.map_append]
          rfl
      · subst hP
        have el : (r.map (·.1)).take (ts.map V.ref).length = r.map (·.1) := by
          rw [List.length_map, htl]
          exact List.take_of_length_le (by rw [List.length_map]; exact Nat.le_refl _)
        rw [el]
        have s2 := sD (.lst (((r.map (·.1)).map fun n : Nat => (n : Int)).map V.int))
        refine ⟨D, _, rfl, SqL.of upd_same, ?_⟩
        rw [sum_cast]
        generalize upd H1 D (.lst (((r.map (·.1)).map fun n : Nat => (n : Int)).map V.int)) = H2 at s2
        refine ⟨_, rfl, lc, _, rfl, .inl (SqL.of (s2 _ _ hlc)), by show 2 ≤ sizeLine; decide, fun b nb => ?_⟩
        rw [List.length_map, htl]
        have nb1 : H1 b = none := s2.free nb
        have s12 : Same H1 (upd H2 b (.lst [.int (((r.map (·.1)).sum : Nat) : Int), .int (r.length : Int)])) := s2.trans (same_new nb)
        refine ⟨_, rfl, lc, rfl, ⟨_, SqL.of (s12 _ _ hlc)⟩, ?_⟩
        refine for_list (K := K) (a := lc) (xs := ts.map V.ref) (fun i σ H' => (∃ v3 v4 : Option V, σ = [some (.ref p), some (.int st), some (.ref lc), v3, v4, some (.ref b)]) ∧ Same H1 H' ∧ H' b = some (.lst (((((r.map (·.1)).sum : Nat) : Int) :: (r.length : Int) :: ((r.take i).flatMap tell).map fun n : Nat => (n : Int)).map V.int)))
          ⟨⟨_, _, rfl⟩, s12, upd_same⟩ (fun i σ H' _ ⟨_, s3, _⟩ => SqL.of (s3 _ _ hlc)) ?_ ?_
        · rintro i y σ H3 hi ⟨⟨v3, v4, rfl⟩, s3, hb3⟩
          obtain ⟨Ty, hT, rfl⟩ := refs_get hi
          obtain ⟨m, ks, lk, hr1, hTy, hlk⟩ := hcu.get hT
          have ltot : ((r.take (i + 1)).flatMap tell).length + 2 ≤ 1000000 := by
            have e : r = r.take (i + 1) ++ r.drop (i + 1) := (List.take_append_drop _ _).symm
            have : (r.flatMap tell).length = ((r.take (i + 1)).flatMap tell).length + ((r.drop (i + 1)).flatMap tell).length := by
              rw [← List.length_append, ← List.flatMap_append, ← e]
            omega
          have et : (r.take (i + 1)).flatMap tell = (r.take i).flatMap tell ++ (m :: ks.length :: ks) := by
            rw [take_more hr1, List.flatMap_append]
            congr 1
            show tell (m, ks) ++ [] = _
            rw [List.append_nil]
            rfl
          rw [et, List.length_append, List.length_cons, List.length_cons] at ltot
          refine ⟨Ty, _, rfl, SqT.of (s3 _ _ hTy), rfl, _, _, rfl, _, _, rfl, rfl, ?_⟩
          refine ⟨_, rfl, .inl ⟨rfl, _, SqL.of hb3⟩, _, rfl, _, rfl, lk, _, rfl, .inl (SqL.of (s3 _ _ hlk)), by show 2 ≤ sizeLine; decide, fun e ne => ?_⟩
          have eb : b ≠ e := ne_of_none hb3 ne
          refine ⟨b, e, _, _, rfl, rfl, Eq.trans (upd_ne eb) hb3, upd_same, ?_, ?_⟩
          · show _ + 2 ≤ sizeLine
            rw [List.length_map, List.length_cons, List.length_cons, List.length_map, sizeLine_eq]
            omega
          · have nlb : lk ≠ b := fun z => by
              rw [← z, hlk] at nb1
              cases nb1
            have nle : lk ≠ e := ne_of_none (s3 _ _ hlk) ne
            refine ⟨_, rfl, .inl ⟨rfl, _, SqL.of upd_same⟩, _, rfl, b, lk, _, natsV ks, rfl, rfl, upd_same, ?_, ?_, ⟨_, _, rfl⟩, fun b' o e' => ?_, ?_⟩
            · rw [upd_ne nlb, upd_ne nle]
              exact s3 _ _ hlk
            · unfold natsV
              rw [List.length_append, List.length_map, List.length_map, List.length_cons, List.length_cons, List.length_map, sizeLine_eq]
              show _ + 2 + _ ≤ _
              omega
            · rw [upd_ne (ne_of_none e' nb1), upd_ne (ne_of_none e' nb1), upd_ne (ne_of_none (s3 _ _ e') ne)]
              exact s3 _ _ e'
            · rw [upd_same, et]
              congr 2
              unfold natsV
              simp only [List.map_cons, List.map_append, List.map_map, List.cons_append, List.append_assoc, List.length_map, List.nil_append]
              rfl
        · rintro σ H3 ⟨⟨v3, v4, rfl⟩, s3, hb3⟩
          rw [List.length_map, htl, List.take_length, ← cutsL_eq] at hb3
          exact ⟨_, rfl, k H3 b (s1.trans s3) (s1.free nb1) hb3⟩
end
end My

set_option Elab.async false
set_option maxRecDepth 100000
set_option maxHeartbeats 4000000
namespace My
open PySem PySem.Spec PyProof.Rows L2
open ThVal (W)
theorem goal_worth (sum : Bool) (t : Pn.Task) (s : Nat) : ThVal.joinF sum (Pn03.val ((List.range t.facts).map (W sum t (Pn03.prices t) s))) (Pn03.facts t.facts t.goal) = W sum t (Pn03.prices t) s (t.facts + 1) := by
  rw [ThVal.W_goal sum t (Pn03.prices t) s (ThCut.prices_goal t) (fun a _ h => by have := (ThVal.mem_facts.1 h).1; omega)]
  exact ThVal.joinF_congr fun p hp => ThVal.val_map_range _ _ _ (ThVal.mem_facts.1 hp).1
theorem HouseAt.keep {C CA : Addr} {Hb H H' : Hp} {p : Addr} {t : Pn.Task} (h : HouseAt C CA Hb H p t) (sn : Same H H') : HouseAt C CA Hb H' p t := by
  obtain ⟨s0, p0, wl, dx, la, xs, la0, hp, hla, hA⟩ := h
  exact ⟨s0.trans sn, p0, wl, dx, la, xs, la0, sn _ _ hp, sn _ _ hla, hA.keep fun x a ⟨x0, d, hx⟩ => ⟨x0, d, sn _ _ hx⟩⟩
abbrev sEstimate : Stmt := top 18
abbrev sValues : Stmt := top 19
section
variable {P : Program} {w : World} {K : PySem.W.Frag} {mg : Str → Option Value} {base : Heap} {C CA : Addr}
/-! ### estimate_from -/
def spEstimate (C CA fR : Addr) (sum : Bool) : Sp := fun vs H Q _ => ∃ (H0 : Hp) (p : Addr) (t : Pn.Task) (st : Nat), vs = [.ref p, .int st, .ref fR] ∧ HouseAt C CA H0 H p t ∧ st < 2 ^ t.facts ∧
  match W sum t (Pn03.prices t) st (t.facts + 1) with
  | none => ∀ H', Same H H' → Q .non H'
  | some x => ∀ (H' : Hp) (b : Addr), Same H H' → H b = none → H' b = some (.lst [.int (x : Int)]) → Q (.ref b) H'
theorem scEstimate : FnScope ["house", "state", "worth_of_row", "worths", "worth"] ["house", "state", "worth_of_row"] (defScope sEstimate) := ⟨rfl, rfl, rfl, by decide +kernel, rfl, by decide +kernel, by decide +kernel⟩
theorem ok_estimate {f fW fR : Addr} {fd fdW fdR : FuncData} {sum : Bool} {nameR : Str} {stR : Stmt} (F : Fun K "estimate_from" "estimate_from" sEstimate f fd) (T : Txt K mg C CA)
    (kpW : PySem.W.keepIn K (.ref fW) = true) (mW : mg "worths_from" = some (.ref fW)) (bW : Binds K fdW ["facts", "acts", "state", "worth_of_row"] []) (GW : FnOk P w K mg base CX0 3 fW fdW ["facts", "acts", "state", "worth_of_row"] (spWorths K CA fR sum))
    (FR : Fun K nameR nameR stR fR fdR) (GR : FnOk P w K mg base CX0 2 fR fdR ["worths", "row"] (spRow K sum)) (bR : Binds K fdR ["worths", "row"] []) :
    FnOk P w K mg base CX0 4 f fd ["house", "state", "worth_of_row"] (spEstimate C CA fR sum) := by
  have RR : FnR P w K mg base CX0 2 fR (fun vs H Q E => spRow K sum (vs ++ []) H Q E) := GR.raw bR .nil
  refine F.ok scEstimate (fun vs H Q E h => ?_) (fun cdv A outer s H vs Q E hr h => ?_)
  · obtain ⟨H0, p, t, st, rfl, _⟩ := h
    rfl
  · obtain ⟨H0, p, t, st, rfl, hH, hst, k⟩ := h
    have hr2 : Room 2 _ := hr.mono (by decide)
    refine ⟨_, pss_cons (ps_set (i := 3) scEstimate.nd rfl (Or.inl rfl) (pe_call GW hr rfl mW kpW bW .nil pass0 (pa_cons (pe_fld (pv 0) rfl) (pa_cons (pe_fld (pv 0) rfl) (pa_cons (pv 1) (pa_cons (pv 2) pa_nil))))))
      (pss_cons (ps_set (i := 4) scEstimate.nd rfl (Or.inl rfl) (ItX.pe_callV (i := 2) RR hr2 FR.kp pass0 rfl (Or.inl rfl) (pa_cons (pv 3) (pa_cons (pe_fld (pv 0) rfl) pa_nil))))
      (pss_cons (ps_if (pt_cmpR op_isN (pv 4) pe_non (nomark _)) (pss_one (ps_ret pe_non)) pss_nil)
      (pss_one (ps_ret (pe_lst (pa_cons (pv 4) pa_nil)))))), ?_⟩
    obtain ⟨s0, p0, wl, dx, la, xs, la0, hp, hla, hA⟩ := hH
    have hf8 := wl.f8
    refine ⟨_, rfl, p, C, dx, _, _, rfl, hp, T.cl, T.nF, hF_facts _ _ _, _, rfl, p, C, dx, _, _, rfl, hp, T.cl, T.nA, hF_acts _ _ _, _, rfl, _, rfl, ?_⟩
    refine ⟨H0, la, t.facts, t.acts, st, xs, rfl, SqL.of hla, hA, fun a ha => ⟨(wl.ok a ha).1, (wl.ok a ha).2.2.1⟩, by omega, fun H1 b s1 nb hb => ?_⟩
    rw [ThExt.gturns_W] at hb
    refine ⟨rfl, _, rfl, _, rfl, p, C, dx, _, _, rfl, s1 _ _ hp, T.cl, T.nW, hF_wanted _ _ _, b, t.facts, t.goal, _, rfl, SqL.of hb, by rw [List.length_map, List.length_range], wl.gl, by omega, fun H2 s2 => ?_⟩
    rw [goal_worth]
    refine ⟨_, rfl, rfl, _, rfl, ?_⟩
    have s12 := s1.trans s2
    cases e : W sum t (Pn03.prices t) st (t.facts + 1) with
    | none =>
      rw [e] at k
      exact if_true_of rfl (k H2 s12)
    | some x =>
      rw [e] at k
      refine if_false_of rfl ⟨_, rfl, by show 1 ≤ sizeLine; decide, fun q nq => ?_⟩
      exact k _ q (s12.trans (same_new nq)) (s12.free nq) upd_same
/-! ### values_from -/
def toldV (o : Option Nat) : List Nat := match o with
  | some n => [1, n]
  | none => [0]
theorem valuesL_eq (n : Nat) (u : Nat → Option Nat) : ThCalls.valuesL n u = ((n : Int) :: ((((List.range n).map u).flatMap toldV).map fun m : Nat => (m : Int))) := rfl
def spValues (C CA : Addr) : Sp := fun vs H Q _ => ∃ (H0 : Hp) (p : Addr) (t : Pn.Task) (st : Nat), vs = [.ref p, .int st] ∧ HouseAt C CA H0 H p t ∧ st < 2 ^ t.facts ∧
  ∀ (H' : Hp) (b : Addr), Same H H' → H b = none → H' b = some (.lst ((ThCalls.valuesL t.facts (W false t (Pn03.prices t) st)).map V.int)) → Q (.ref b) H'
theorem scValues : FnScope ["house", "state", "answer", "worth"] ["house", "state"] (defScope sValues) := ⟨rfl, rfl, rfl, by decide +kernel, rfl, by decide +kernel, by decide +kernel⟩
theorem ok_values {f fW fD : Addr} {fd fdW : FuncData} (F : Fun K "values_from" "values_from" sValues f fd) (T : Txt K mg C CA) (mD : mg "dearest_of" = some (.ref fD))
    (kpW : PySem.W.keepIn K (.ref fW) = true) (mW : mg "worths_from" = some (.ref fW)) (bW : Binds K fdW ["facts", "acts", "state", "worth_of_row"] []) (GW : FnOk P w K mg base CX0 3 fW fdW ["facts", "acts", "state", "worth_of_row"] (spWorths K CA fD false)) :
    FnOk P w K mg base CX0 4 f fd ["house", "state"] (spValues C CA) := by
  refine F.ok scValues (fun vs H Q E h => ?_) (fun cdv A outer s H vs Q E hr h => ?_)
  · obtain ⟨H0, p, t, st, rfl, _⟩ := h
    rfl
  · obtain ⟨H0, p, t, st, rfl, hH, hst, k⟩ := h
    refine ⟨_, pss_cons (ps_set (i := 2) scValues.nd rfl (Or.inl rfl) (pe_lst (pa_cons (pe_fld (pv 0) rfl) pa_nil)))
      (pss_cons (ps_for PassesOwn.never rfl (pi_list (pe_call GW hr rfl mW kpW bW .nil pass0 (pa_cons (pe_fld (pv 0) rfl) (pa_cons (pe_fld (pv 0) rfl) (pa_cons (pv 1) (pa_cons (pe_glob (v := .ref fD) rfl mD rfl) pa_nil)))))) (pg_name (i := 3) scValues.nd rfl (Or.inl rfl))
        (pss_one (ps_if (pt_cmpR op_isN (pv 3) pe_non (nomark _))
          (pss_one (ps_expr (pe_bm PySem.F.plainAttrs_list PySem.F.slot_list_append PySem.F.type_list_append mt_append (pv 2) (pa_cons pe_int pa_nil))))
          (pss_one (ps_expr (pe_bm PySem.F.plainAttrs_list PySem.F.slot_list_extend PySem.F.type_list_extend mt_extend (pv 2) (pa_cons (pe_lst (pa_cons pe_int (pa_cons (pv 3) pa_nil))) pa_nil)))))))
      (pss_one (ps_ret (pv 2)))), ?_⟩
    obtain ⟨s0, p0, wl, dx, la, xs, la0, hp, hla, hA⟩ := hH
    have hf8 := wl.f8
    refine ⟨_, rfl, p, C, dx, _, _, rfl, hp, T.cl, T.nF, hF_facts _ _ _, by show 1 ≤ sizeLine; decide, fun b nb => ?_⟩
    have sb : Same H (upd H b (.lst [.int (t.facts : Int)])) := same_new nb
    refine ⟨_, rfl, p, C, dx, _, _, rfl, sb _ _ hp, T.cl, T.nF, hF_facts _ _ _, _, rfl, p, C, dx, _, _, rfl, sb _ _ hp, T.cl, T.nA, hF_acts _ _ _, _, rfl, ?_⟩
    refine ⟨H0, la, t.facts, t.acts, st, xs, rfl, SqL.of (sb _ _ hla), hA.keep (fun x a ⟨x0, d, hx⟩ => ⟨x0, d, sb _ _ hx⟩), fun a ha => ⟨(wl.ok a ha).1, (wl.ok a ha).2.2.1⟩, by omega, fun H1 lw s1 nlw hlw => ?_⟩
    rw [ThExt.gturns_W] at hlw
    generalize hL : (List.range t.facts).map (W false t (Pn03.prices t) st) = L at hlw
    have hLl : L.length = t.facts := by rw [← hL, List.length_map, List.length_range]
    have nwb : lw ≠ b := fun e => by
      rw [e, upd_same] at nlw
      cases nlw
    have hb1 := s1 _ _ (show upd H b (.lst [.int (t.facts : Int)]) b = _ from upd_same)
    have s01 : Same H H1 := sb.trans s1
    refine ⟨lw, rfl, ⟨_, SqL.of hlw⟩, ?_⟩
    have lenT : ∀ i, ((L.take i).flatMap toldV).length ≤ 2 * i := fun i => by
      induction i with
      | zero => rw [List.take_zero]; exact Nat.le_refl _
      | succ i ih =>
        cases e : L[i]? with
        | none =>
          rw [List.take_add_one, e]
          show ((L.take i ++ []).flatMap toldV).length ≤ _
          rw [List.append_nil]
          omega
        | some o =>
          rw [take_more e, List.flatMap_append, List.length_append]
          have : ([o].flatMap toldV).length ≤ 2 := by
            cases o with
            | none => show 1 ≤ 2; decide
            | some n => show 2 ≤ 2; decide
          omega
    refine for_list (K := K) (a := lw) (xs := L.map optV) (fun i σ H' => (∃ v3 : Option V, σ = [some (.ref p), some (.int st), some (.ref b), v3]) ∧ Others H1 H' b ∧ H' b = some (.lst ((((t.facts : Nat) : Int) :: (((L.take i).flatMap toldV).map fun m : Nat => (m : Int))).map V.int)))
      ⟨⟨_, rfl⟩, fun c o e _ => e, hb1⟩ (fun i σ H' _ ⟨_, ho, _⟩ => SqL.of (ho _ _ hlw nwb)) ?_ ?_
    · rintro i y σ H2 hi ⟨⟨v3, rfl⟩, ho, hb2⟩
      rw [List.getElem?_map] at hi
      obtain ⟨o, ho1, rfl⟩ := Option.map_eq_some_iff.1 hi
      have hil : i < L.length := (List.getElem?_eq_some_iff.1 ho1).1
      have hlen := lenT i
      refine ⟨_, rfl, rfl, _, rfl, ?_⟩
      cases o with
      | none =>
        refine if_true_of rfl ?_
        refine ⟨_, rfl, .inl ⟨rfl, _, SqL.of hb2⟩, b, _, _, rfl, rfl, hb2, ?_, ⟨_, rfl⟩, fun c o e nc => ?_, ?_⟩
        · rw [List.length_map, List.length_cons, List.length_map]
          exact small1000 (by omega)
        · rw [upd_ne nc]
          exact ho _ _ e nc
        · rw [upd_same, take_more ho1, List.flatMap_append]
          simp only [List.map_cons, List.map_append, List.cons_append]
          rfl
      | some x =>
        refine if_false_of rfl ?_
        refine ⟨_, rfl, .inl ⟨rfl, _, SqL.of hb2⟩, _, rfl, by show 2 ≤ sizeLine; decide, fun q nq => ?_⟩
        have nbq : b ≠ q := ne_of_none hb2 nq
        refine ⟨b, q, _, _, rfl, rfl, Eq.trans (upd_ne nbq) hb2, upd_same, ?_, ⟨_, rfl⟩, fun c o e nc => ?_, ?_⟩
        · rw [List.length_map, List.length_cons, List.length_map]
          show _ + 1 + 2 ≤ sizeLine
          exact Nat.le_of_lt (small1000 (by omega))
        · rw [upd_ne nc, upd_ne (ne_of_none (ho _ _ e nc) nq)]
          exact ho _ _ e nc
        · rw [upd_same, take_more ho1, List.flatMap_append]
          simp only [List.map_cons, List.map_append, List.cons_append]
          rfl
    · rintro σ H2 ⟨⟨v3, rfl⟩, ho, hb2⟩
      rw [List.length_map, List.take_length] at hb2
      refine ⟨_, rfl, k H2 b (fun c o e => ho _ _ (s01 _ _ e) (ne_of_none e nb)) nb ?_⟩
      rw [valuesL_eq, hL]
      exact hb2
end
end My

set_option Elab.async false
set_option maxRecDepth 100000
set_option maxHeartbeats 4000000
namespace My
open PySem PySem.Spec PyProof.Rows L2 LamX
open ThVal (W)
/-- what the specification answers to a call that hands over a state -/
def ansOf (t : Pn.Task) (q st : Int) : List Int := (Pn03Neutral.step ⟨t⟩ [[q, st]]).2
/-- nothing stood there, a table aside -/
def NewN (H : Hp) (b : Addr) : Prop := ∀ o, H b = some o → ∃ ps, o = .tbl ps
theorem NewN.of {H : Hp} {b : Addr} (h : H b = none) : NewN H b := fun o e => by
  rw [h] at e
  cases e
theorem ext_same {H H' : Hp} (h : Same H H') : ExtN H H' := ExtN.of h
abbrev sReckoned : Stmt := top 47
abbrev sFromState : Stmt := top 46
section
variable {P : Program} {w : World} {K : PySem.W.Frag} {mg : Str → Option Value} {base : Heap} {C CA : Addr}
/-! ### reckoned -/
def spReckoned (C CA Pt : Addr) : Sp := fun vs H Q _ => ∃ (H0 : Hp) (p : Addr) (t : Pn.Task) (q : Int) (st : Nat), vs = [.ref p, .int q, .int st] ∧ HouseAt C CA H0 H p t ∧ 3 ≤ q ∧ q ≤ 8 ∧ st < 2 ^ t.facts ∧ Tabs [(Pt, qLam)] H ∧ (ansOf t q st).length ≤ 1000000 ∧
  (∀ H', ExtN H H' → Tabs [(Pt, qLam)] H' → ansOf t q st = [-6] → Q .non H') ∧ ∀ (H' : Hp) (b : Addr), ExtN H H' → Tabs [(Pt, qLam)] H' → NewN H b → H' b = some (.lst ((ansOf t q st).map V.int)) → Q (.ref b) H'
theorem scReckoned : FnScope ["house", "number", "state"] ["house", "number", "state"] (defScope sReckoned) := ⟨rfl, rfl, rfl, by decide +kernel, rfl, by decide +kernel, by decide +kernel⟩
theorem ok_reckoned {f fE fD fT fK fC fR fV Pt : Addr} {fd fdE fdK fdC fdR fdV : FuncData} (F : Fun K "reckoned" "reckoned" sReckoned f fd)
    (m3 : ∃ t, mg "DEAREST" = some (.int 3 t)) (m4 : ∃ t, mg "TOGETHER" = some (.int 4 t)) (m5 : ∃ t, mg "KEPT" = some (.int 5 t)) (m6 : ∃ t, mg "CUTS" = some (.int 6 t)) (m7 : ∃ t, mg "REAL" = some (.int 7 t))
    (mD : mg "dearest_of" = some (.ref fD)) (mT : mg "together_of" = some (.ref fT))
    (kpE : PySem.W.keepIn K (.ref fE) = true) (mE : mg "estimate_from" = some (.ref fE)) (bE : Binds K fdE ["house", "state", "worth_of_row"] []) (GEd : FnOk P w K mg base CX0 4 fE fdE ["house", "state", "worth_of_row"] (spEstimate C CA fD false)) (GEt : FnOk P w K mg base CX0 4 fE fdE ["house", "state", "worth_of_row"] (spEstimate C CA fT true))
    (kpK : PySem.W.keepIn K (.ref fK) = true) (mK : mg "kept_from" = some (.ref fK)) (bK : Binds K fdK ["house", "state"] []) (GK : FnOk P w K mg base CX0 4 fK fdK ["house", "state"] (spKept C CA))
    (kpC : PySem.W.keepIn K (.ref fC) = true) (mC : mg "cuts_from" = some (.ref fC)) (bC : Binds K fdC ["house", "state"] []) (GC : FnOk P w K mg base CX0 6 fC fdC ["house", "state"] (spCutsFrom C CA))
    (kpR : PySem.W.keepIn K (.ref fR) = true) (mR : mg "real_from" = some (.ref fR)) (bR : Binds K fdR ["house", "state"] []) (GR : FnOk P w K mg base CX0 3 fR fdR ["house", "state"] (spReal C CA Pt))
    (kpV : PySem.W.keepIn K (.ref fV) = true) (mV : mg "values_from" = some (.ref fV)) (bV : Binds K fdV ["house", "state"] []) (GV : FnOk P w K mg base CX0 4 fV fdV ["house", "state"] (spValues C CA)) :
    FnOk P w K mg base CX0 7 f fd ["house", "number", "state"] (spReckoned C CA Pt) := by
  obtain ⟨t3, m3⟩ := m3
  obtain ⟨t4, m4⟩ := m4
  obtain ⟨t5, m5⟩ := m5
  obtain ⟨t6, m6⟩ := m6
  obtain ⟨t7, m7⟩ := m7
  refine F.ok scReckoned (fun vs H Q E h => ?_) (fun cdv A outer s H vs Q E hr h => ?_)
  · obtain ⟨H0, p, t, q, st, rfl, _⟩ := h
    rfl
  · obtain ⟨H0, p, t, q, st, rfl, hH, h3, h8, hst, hT, hlen, kN, kL⟩ := h
    have hr3 : Room 3 _ := hr.mono (by decide)
    have hr4 : Room 4 _ := hr.mono (by decide)
    refine ⟨_, pss_cons (ps_if (pt_cmpR op_eq (pv 1) (pe_glob (v := .int 3) rfl m3 ⟨_, rfl⟩) (nomark _)) (pss_one (ps_ret (pe_call GEd hr4 rfl mE kpE bE .nil pass0 (pa_cons (pv 0) (pa_cons (pv 2) (pa_cons (pe_glob (v := .ref fD) rfl mD rfl) pa_nil)))))) pss_nil)
      (pss_cons (ps_if (pt_cmpR op_eq (pv 1) (pe_glob (v := .int 4) rfl m4 ⟨_, rfl⟩) (nomark _)) (pss_one (ps_ret (pe_call GEt hr4 rfl mE kpE bE .nil pass0 (pa_cons (pv 0) (pa_cons (pv 2) (pa_cons (pe_glob (v := .ref fT) rfl mT rfl) pa_nil)))))) pss_nil)
      (pss_cons (ps_if (pt_cmpR op_eq (pv 1) (pe_glob (v := .int 5) rfl m5 ⟨_, rfl⟩) (nomark _)) (pss_one (ps_ret (pe_call GK hr4 rfl mK kpK bK .nil pass0 (pa_cons (pv 0) (pa_cons (pv 2) pa_nil))))) pss_nil)
      (pss_cons (ps_if (pt_cmpR op_eq (pv 1) (pe_glob (v := .int 6) rfl m6 ⟨_, rfl⟩) (nomark _)) (pss_one (ps_ret (pe_call GC hr rfl mC kpC bC .nil pass0 (pa_cons (pv 0) (pa_cons (pv 2) pa_nil))))) pss_nil)
      (pss_cons (ps_if (pt_cmpR op_eq (pv 1) (pe_glob (v := .int 7) rfl m7 ⟨_, rfl⟩) (nomark _)) (pss_one (ps_ret (pe_call GR hr3 rfl mR kpR bR .nil pass0 (pa_cons (pv 0) (pa_cons (pv 2) pa_nil))))) pss_nil)
      (pss_one (ps_ret (pe_call GV hr4 rfl mV kpV bV .nil pass0 (pa_cons (pv 0) (pa_cons (pv 2) pa_nil))))))))), ?_⟩
    have wl := hH.2.2.1
    have tx : ∀ {H' : Hp}, Same H H' → Tabs [(Pt, qLam)] H' := fun s' => hT.ext s'
    have hq : q = 3 ∨ q = 4 ∨ q = 5 ∨ q = 6 ∨ q = 7 ∨ q = 8 := by omega
    have est : ∀ (sum : Bool) (fR' : Addr), ansOf t q st = ThCalls.toldL (W sum t (Pn03.prices t) st (t.facts + 1)) → spEstimate C CA fR' sum [.ref p, .int (st : Int), .ref fR'] H Q E0 := fun sum fR' ea => by
      refine ⟨H0, p, t, st, rfl, hH, hst, ?_⟩
      cases e : W sum t (Pn03.prices t) st (t.facts + 1) with
      | none =>
        rw [e] at ea
        exact fun H' s' => kN H' (ext_same s') (tx s') ea
      | some x =>
        rw [e] at ea
        exact fun H' b s' nb hb => kL H' b (ext_same s') (tx s') (.of nb) (by rw [ea]; exact hb)
    rcases hq with rfl | rfl | rfl | rfl | rfl | rfl
    · refine ⟨_, rfl, rfl, _, rfl, if_true_of (by decide) ?_⟩
      refine ⟨_, rfl, _, rfl, est false fD ?_⟩
      unfold ansOf
      rw [ThCalls.dearest t st hst]
    · refine ⟨_, rfl, rfl, _, rfl, if_false_of (by decide) ?_⟩
      refine ⟨_, rfl, rfl, _, rfl, if_true_of (by decide) ?_⟩
      refine ⟨_, rfl, _, rfl, est true fT ?_⟩
      unfold ansOf
      rw [ThCalls.together t st hst]
    · refine ⟨_, rfl, rfl, _, rfl, if_false_of (by decide) ?_⟩
      refine ⟨_, rfl, rfl, _, rfl, if_false_of (by decide) ?_⟩
      refine ⟨_, rfl, rfl, _, rfl, if_true_of (by decide) ?_⟩
      refine ⟨_, rfl, _, rfl, H0, p, t, st, rfl, hH, hst, ?_⟩
      have sp := ThCalls.kept t st hst wl.good
      cases e : ThCost.D (Pn03.kept t) st with
      | none =>
        rw [e] at sp
        have ea : ansOf t 5 st = [-6] := by unfold ansOf; rw [sp]
        exact fun H' s' => kN H' (ext_same s') (tx s') ea
      | some c =>
        rw [e] at sp
        obtain ⟨l, hF, sp⟩ := sp
        have ea : ansOf t 5 st = ThCalls.numbers (c : Int) l := by unfold ansOf; rw [sp]
        refine ⟨l, hF, ?_, fun H' b s' nb hb => kL H' b (ext_same s') (tx s') (.of nb) (by rw [ea]; exact hb)⟩
        rw [ea] at hlen
        unfold ThCalls.numbers at hlen
        rw [List.length_cons, List.length_map] at hlen
        omega
    · refine ⟨_, rfl, rfl, _, rfl, if_false_of (by decide) ?_⟩
      refine ⟨_, rfl, rfl, _, rfl, if_false_of (by decide) ?_⟩
      refine ⟨_, rfl, rfl, _, rfl, if_false_of (by decide) ?_⟩
      refine ⟨_, rfl, rfl, _, rfl, if_true_of (by decide) ?_⟩
      refine ⟨_, rfl, _, rfl, H0, p, t, st, rfl, hH, hst, ?_⟩
      have sp := ThCalls.cuts t st hst
      cases e : W false t (Pn03.prices t) st (t.facts + 1) with
      | none =>
        rw [e] at sp
        have ea : ansOf t 6 st = [-6] := by unfold ansOf; rw [sp]
        exact fun H' s' => kN H' (ext_same s') (tx s') ea
      | some c =>
        rw [e] at sp
        obtain ⟨r, hC, sp⟩ := sp
        have ea : ansOf t 6 st = ThCalls.cutsL r := by unfold ansOf; rw [sp]
        rw [ea] at hlen
        exact ⟨r, hC, hlen, fun H' b s' nb hb => kL H' b (ext_same s') (tx s') (.of nb) (by rw [ea]; exact hb)⟩
    · refine ⟨_, rfl, rfl, _, rfl, if_false_of (by decide) ?_⟩
      refine ⟨_, rfl, rfl, _, rfl, if_false_of (by decide) ?_⟩
      refine ⟨_, rfl, rfl, _, rfl, if_false_of (by decide) ?_⟩
      refine ⟨_, rfl, rfl, _, rfl, if_false_of (by decide) ?_⟩
      refine ⟨_, rfl, rfl, _, rfl, if_true_of (by decide) ?_⟩
      refine ⟨_, rfl, _, rfl, H0, p, t, st, rfl, hH, hst, hT, ?_⟩
      have ea : ansOf t 7 st = ThCalls.toldL (ThCost.D t st) := by unfold ansOf; rw [ThCalls.real t st hst]
      cases e : ThCost.D t st with
      | none =>
        rw [e] at ea
        exact fun H' s' t' => kN H' s' t' ea
      | some c =>
        rw [e] at ea
        exact fun H' b s' t' nb hb => kL H' b s' t' nb (by rw [ea]; exact hb)
    · refine ⟨_, rfl, rfl, _, rfl, if_false_of (by decide) ?_⟩
      refine ⟨_, rfl, rfl, _, rfl, if_false_of (by decide) ?_⟩
      refine ⟨_, rfl, rfl, _, rfl, if_false_of (by decide) ?_⟩
      refine ⟨_, rfl, rfl, _, rfl, if_false_of (by decide) ?_⟩
      refine ⟨_, rfl, rfl, _, rfl, if_false_of (by decide) ?_⟩
      have ea : ansOf t 8 st = ThCalls.valuesL t.facts (W false t (Pn03.prices t) st) := by unfold ansOf; rw [ThCalls.values t st hst]
      exact ⟨_, rfl, _, rfl, H0, p, t, st, rfl, hH, hst, fun H' b s' nb hb => kL H' b (ext_same s') (tx s') (.of nb) (by rw [ea]; exact hb)⟩
/-! ### answer_from_state -/
def spFromState (C CA Pt : Addr) : Sp := fun vs H Q _ => ∃ (H0 : Hp) (p : Addr) (t : Pn.Task) (q st : Int), vs = [.ref p, .int q, .int st] ∧ HouseAt C CA H0 H p t ∧ 3 ≤ q ∧ q ≤ 8 ∧ 0 ≤ st ∧ Tabs [(Pt, qLam)] H ∧ (ansOf t q st).length ≤ 1000000 ∧
  ∀ (H' : Hp) (b : Addr), ExtN H H' → Tabs [(Pt, qLam)] H' → NewN H b → H' b = some (.lst ((ansOf t q st).map V.int)) → Q (.ref b) H'
theorem scFromState : FnScope ["house", "number", "state", "answer"] ["house", "number", "state"] (defScope sFromState) := ⟨rfl, rfl, rfl, by decide +kernel, rfl, by decide +kernel, by decide +kernel⟩
theorem ok_fromState {f fS fR Pt : Addr} {fd fdS fdR : FuncData} (F : Fun K "answer_from_state" "answer_from_state" sFromState f fd) (T : Txt K mg C CA) (FS : Fun K "is_set_of" "is_set_of" sIsSet fS fdS) (mS : mg "is_set_of" = some (.ref fS)) (bS : Binds K fdS ["facts", "number"] [])
    (kpR : PySem.W.keepIn K (.ref fR) = true) (mR : mg "reckoned" = some (.ref fR)) (bR : Binds K fdR ["house", "number", "state"] []) (GR : FnOk P w K mg base CX0 7 fR fdR ["house", "number", "state"] (spReckoned C CA Pt)) :
    FnOk P w K mg base CX0 8 f fd ["house", "number", "state"] (spFromState C CA Pt) := by
  have GS : FnOk P w K mg base CX0 1 fS fdS ["facts", "number"] spIsSet := ok_isSet FS
  obtain ⟨tw, wrong⟩ := T.wrong
  obtain ⟨th, had⟩ := T.had
  refine F.ok scFromState (fun vs H Q E h => ?_) (fun cdv A outer s H vs Q E hr h => ?_)
  · obtain ⟨H0, p, t, q, st, rfl, _⟩ := h
    rfl
  · obtain ⟨H0, p, t, q, st, rfl, hH, h3, h8, h0, hT, hlen, k⟩ := h
    have hr1 : Room 1 _ := hr.mono (by decide)
    refine ⟨_, pss_cons (ps_if (pt_not (pt_val (pe_call GS hr1 rfl mS FS.kp bS .nil pass0 (pa_cons (pe_fld (pv 0) rfl) (pa_cons (pv 2) pa_nil))))) (pss_one (ps_ret (pe_lst (pa_cons (pe_glob (v := .int (-1)) rfl wrong ⟨_, rfl⟩) pa_nil)))) pss_nil)
      (pss_cons (ps_set (i := 3) scFromState.nd rfl (Or.inl rfl) (pe_call GR hr rfl mR kpR bR .nil pass0 (pa_cons (pv 0) (pa_cons (pv 1) (pa_cons (pv 2) pa_nil)))))
      (pss_cons (ps_if (pt_cmpR op_isN (pv 3) pe_non (nomark _)) (pss_one (ps_ret (pe_lst (pa_cons (pe_glob (v := .int (-6)) rfl had ⟨_, rfl⟩) pa_nil)))) pss_nil)
      (pss_one (ps_ret (pv 3))))), ?_⟩
    have hH' := hH
    obtain ⟨s0, p0, wl, dx, la, xs, la0, hp, hla, hA⟩ := hH
    obtain ⟨sn, rfl⟩ := Int.eq_ofNat_of_zero_le h0
    refine ⟨_, rfl, p, C, dx, _, _, rfl, hp, T.cl, T.nF, hF_facts _ _ _, _, rfl, t.facts, sn, rfl, wl.f8, _, rfl, ?_⟩
    refine ite2 (fun c => ?_) (fun c => ?_)
    · have c : ¬ sn < 2 ^ t.facts := by simpa using c
      have ea : ansOf t q sn = [-1] := by unfold ansOf; rw [ThCalls.bad t sn h3 h8 (by omega)]
      refine ⟨by show 1 ≤ sizeLine; decide, fun b nb => ?_⟩
      refine k _ b (ext_same (same_new nb)) (tabs_new hT nb) (.of nb) ?_
      rw [upd_same, ea]
      rfl
    · have c : sn < 2 ^ t.facts := by simpa using c
      refine ⟨_, rfl, _, rfl, _, rfl, H0, p, t, q, sn, rfl, hH', h3, h8, c, hT, hlen, fun H1 e1 t1 ea => ?_, fun H1 b e1 t1 nb hb => ?_⟩
      · refine ⟨_, rfl, rfl, _, rfl, if_true_of rfl ?_⟩
        refine ⟨by show 1 ≤ sizeLine; decide, fun b nb => ?_⟩
        refine k _ b (fun b' o e n => ?_) (tabs_new t1 nb) (fun o e => ?_) ?_
        · have := e1 b' o e n
          rw [upd_ne (ne_of_none this nb)]
          exact this
        · apply Classical.byContradiction
          intro z
          rw [e1 b o e fun ps r => z ⟨ps, r⟩] at nb
          cases nb
        · rw [upd_same, ea]
          rfl
      · refine ⟨_, rfl, rfl, _, rfl, if_false_of rfl ?_⟩
        exact ⟨_, rfl, k H1 b e1 t1 nb hb⟩
end
end My

set_option Elab.async false
set_option maxRecDepth 100000
set_option maxHeartbeats 4000000
namespace My
open PySem PySem.Spec PyProof.Rows L2 LamX
open ThDecode (Lies)
/-- a call as it stands in the flat list -/
def flatOf (c : List (List Int)) : List Int := match c with
  | [] => []
  | [h] => h
  | h :: x :: _ => h ++ (x.length : Int) :: x
theorem flat_lies {p : Int} {r t : List Int} {c : List (List Int)} (h : Lies p r c t) : p :: r = flatOf c ++ t := by
  cases h with
  | begins => rfl
  | act x _ => rfl
  | one => rfl
theorem flat_len {p : Int} {r t : List Int} {c : List (List Int)} (h : Lies p r c t) : (p :: r).length = (flatOf c).length + t.length := by
  rw [flat_lies h, List.length_append]
theorem flat_pos {p : Int} {r t : List Int} {c : List (List Int)} (h : Lies p r c t) : 0 < (flatOf c).length := by
  cases h with
  | begins => exact Nat.succ_pos _
  | act => exact Nat.succ_pos _
  | one => exact Nat.succ_pos _
abbrev sEnd : Stmt := top 44
abbrev sAnswers : Stmt := top 43
theorem cutV_nat {xs : List V} {i j : Nat} (h : i ≤ j) (g : j ≤ xs.length) : cutV xs (some (i : Int)) (some (j : Int)) = (xs.drop i).take (j - i) := by
  have e1 : HT.sIx xs.length 0 (some (i : Int)) = i := by rw [HT.sIx_nat]; omega
  have e2 : HT.sIx xs.length xs.length (some (j : Int)) = j := by rw [HT.sIx_nat]; omega
  unfold cutV
  rw [e1, e2]
section
variable {P : Program} {w : World} {K : PySem.W.Frag} {mg : Str → Option Value} {base : Heap} {C CA : Addr}
/-! ### end_of_call -/
def spEnd (K : PySem.W.Frag) : Sp := fun vs H Q _ => ∃ (a : Addr) (i : Nat) (l : List Int) (p : Int) (r t : List Int) (c : List (List Int)), vs = [.ref a, .int i] ∧ SqL K H a (l.map V.int) ∧ l.drop i = p :: r ∧ Lies p r c t ∧ Q (.int ((i + (flatOf c).length : Nat) : Int)) H
theorem scEnd : FnScope ["calls", "start"] ["calls", "start"] (defScope sEnd) := ⟨rfl, rfl, rfl, by decide +kernel, rfl, by decide +kernel, by decide +kernel⟩
theorem drop_get {l : List Int} {i : Nat} {p : Int} {r : List Int} (h : l.drop i = p :: r) : l[i]? = some p ∧ l.drop (i + 1) = r := by
  constructor
  · have : (l.drop i)[0]? = some p := by rw [h]; rfl
    rw [List.getElem?_drop] at this
    exact this
  · have : (l.drop i).drop 1 = r := by rw [h]; rfl
    rw [List.drop_drop] at this
    exact this
theorem ok_end {f : Addr} {fd : FuncData} (F : Fun K "end_of_call" "end_of_call" sEnd f fd) (mB : ∃ t, mg "BEGINS" = some (.int 0 t)) (mA : ∃ t, mg "ACT" = some (.int 1 t)) : FnOk P w K mg base CX0 1 f fd ["calls", "start"] (spEnd K) := by
  obtain ⟨tb, mB⟩ := mB
  obtain ⟨ta, mA⟩ := mA
  refine F.ok scEnd (fun vs H Q E h => ?_) (fun cdv A outer s H vs Q E hr h => ?_)
  · obtain ⟨a, i, l, p, r, t, c, rfl, _⟩ := h
    rfl
  · obtain ⟨a, i, l, p, r, t, c, rfl, hS, hd, hL, k⟩ := h
    refine ⟨_, pss_cons (ps_if (pt_cmpR op_eq (pe_ix ix_list (pv 0) (pv 1) (fun _ _ => rfl)) (pe_glob (v := .int 0) rfl mB ⟨_, rfl⟩) (nomark _)) (pss_one (ps_ret (pe_op op_add (pv 1) pe_int))) pss_nil)
      (pss_cons (ps_if (pt_cmpR op_eq (pe_ix ix_list (pv 0) (pv 1) (fun _ _ => rfl)) (pe_glob (v := .int 1) rfl mA ⟨_, rfl⟩) (nomark _)) (pss_one (ps_ret (pe_op op_add (pe_op op_add (pv 1) pe_int) (pe_ix ix_list (pv 0) (pe_op op_add (pv 1) pe_int) (fun _ _ => rfl))))) pss_nil)
      (pss_one (ps_ret (pe_op op_add (pv 1) pe_int)))), ?_⟩
    obtain ⟨h0, h1⟩ := drop_get hd
    have g0 : (l.map V.int)[i]? = some (.int p) := by rw [List.getElem?_map, h0]; rfl
    refine ⟨_, rfl, _, rfl, a, _, _, _, rfl, rfl, hS, atI_nat g0, rfl, _, rfl, ?_⟩
    cases hL with
    | begins x y t =>
      refine if_true_of (by decide) ?_
      exact ⟨_, rfl, _, _, rfl, rfl, k⟩
    | act x t =>
      refine if_false_of (by decide) ?_
      refine ⟨_, rfl, _, rfl, a, _, _, _, rfl, rfl, hS, atI_nat g0, rfl, _, rfl, ?_⟩
      refine if_true_of (by decide) ?_
      have g1 : (l.map V.int)[i + 1]? = some (.int (x.length : Int)) := by rw [List.getElem?_map, (drop_get h1).1]; rfl
      refine ⟨_, rfl, _, _, rfl, rfl, _, rfl, _, rfl, _, _, rfl, rfl, a, _, _, V.int (x.length : Int), rfl, rfl, hS, ?_, _, _, rfl, rfl, ?_⟩
      · rw [show (i : Int) + 1 = ((i + 1 : Nat) : Int) by omega]
        exact atI_nat g1
      · have e : (i : Int) + 2 + (x.length : Int) = ((i + (flatOf [[1], x]).length : Nat) : Int) := by
          show _ = ((i + (([1] : List Int) ++ (x.length : Int) :: x).length : Nat) : Int)
          simp only [List.length_append, List.length_cons, List.length_nil]
          omega
        show Q (.int ((i : Int) + 2 + (x.length : Int))) _
        rw [e]
        exact k
    | one q y t hp hq =>
      have n0 : decide (V.int p = V.int 0) = false := decide_eq_false fun e => by have := V.int.inj e; omega
      have n1 : decide (V.int p = V.int 1) = false := decide_eq_false fun e => by have := V.int.inj e; omega
      refine if_false_of n0 ?_
      refine ⟨_, rfl, _, rfl, a, _, _, _, rfl, rfl, hS, atI_nat g0, rfl, _, rfl, ?_⟩
      refine if_false_of n1 ?_
      exact ⟨_, rfl, _, _, rfl, rfl, k⟩
/-! ### answers -/
/-- an answer to a call: a new list -/
def NoTbl (H : Hp) : Prop := ∀ b ps, H b ≠ some (.tbl ps)
/-- a heap, its tables left out -/
def noT (H : Hp) : Hp := fun b => match H b with
  | some (.tbl _) => none
  | o => o
theorem noT_same (H : Hp) : Same (noT H) H := fun b o e => by
  unfold noT at e
  split at e
  · cases e
  · exact e
theorem noT_of {H : Hp} {b : Addr} {o : HO} (h : H b = some o) (n : ∀ ps, o ≠ .tbl ps) : noT H b = some o := by
  unfold noT
  split
  · rename_i ps e
    rw [h] at e
    exact absurd (Option.some.inj e) (n ps)
  · exact h
theorem noT_no (H : Hp) : NoTbl (noT H) := fun b ps e => by
  unfold noT at e
  split at e
  · cases e
  · rename_i h
    exact h ps e
theorem noT_seq {K : PySem.W.Frag} {H : Hp} {a : Addr} {xs : List V} (h : SqL K H a xs) : SqL K (noT H) a xs := by
  rcases h with (h | ⟨o, h⟩) | h
  · exact .inl (.inl (noT_of h fun ps z => by cases z))
  · exact .inl (.inr ⟨o, noT_of h fun ps z => by cases z⟩)
  · exact .inr h
theorem NoTbl.upd {H : Hp} {b : Addr} {l : List V} (h : NoTbl H) : NoTbl (L2.upd H b (.lst l)) := fun c ps e => by
  by_cases q : c = b
  · subst q
    rw [upd_same] at e
    cases e
  · rw [upd_ne q] at e
    exact h c ps e
theorem tabs_updL {T : List (Addr × Str)} {H : Hp} {d : Addr} {l l' : List V} (h : Tabs T H) (hd : H d = some (.lst l)) : Tabs T (L2.upd H d (.lst l')) := fun q hq => by
  obtain ⟨ps, h1, h2, h3⟩ := h q hq
  refine ⟨ps, by rw [upd_ne (ne_of h1 hd (by intro z; cases z))]; exact h1, h2, fun pos cv hc => ?_⟩
  obtain ⟨c, e1, e2⟩ := h3 pos cv hc
  refine ⟨c, e1, ?_⟩
  rw [upd_ne (ne_of e2 hd (by intro z; unfold CodeO at z; cases z))]
  exact e2
theorem HouseAt.less {C CA : Addr} {G Hb H : Hp} {p : Addr} {t : Pn.Task} (h : HouseAt C CA Hb H p t) (s : Same G Hb) : HouseAt C CA G H p t := by
  obtain ⟨s0, p0, wl, dx, la, xs, la0, hp, hla, hA⟩ := h
  exact ⟨s.trans s0, s.free p0, wl, dx, la, xs, s.free la0, hp, hla, hA.keep fun x a ⟨x0, d, hx⟩ => ⟨s.free x0, d, hx⟩⟩
def spAnswerTo (K : PySem.W.Frag) (C CA Pt : Addr) : Sp := fun vs H Q _ => ∃ (H0 : Hp) (p a : Addr) (t : Pn.Task) (q : Int) (r u : List Int) (c : List (List Int)), vs = [.ref p, .ref a] ∧ HouseAt C CA H0 H p t ∧ NoTbl H0 ∧ Tabs [(Pt, qLam)] H ∧ SqL K H a ((flatOf c).map V.int) ∧ Lies q r c u ∧ Pn03Neutral.asked1 c = true ∧ (Pn03Neutral.step ⟨t⟩ c).2.length ≤ 1000000 ∧
  ∀ (H' : Hp) (b : Addr), HouseAt C CA H0 H' p (Pn03Neutral.step ⟨t⟩ c).1.task → Tabs [(Pt, qLam)] H' → H0 b = none → H' b = some (.lst ((Pn03Neutral.step ⟨t⟩ c).2.map V.int)) → Q (.ref b) H'
def spAnswers (K : PySem.W.Frag) (Pt : Addr) : Sp := fun vs H Q _ => ∃ (a : Addr) (l : List Int), vs = [.ref a] ∧ SqL K H a (l.map V.int) ∧ H Pt = some (.tbl #[]) ∧ PyPn03.answers_asked l = true ∧
  ∀ (H' : Hp) (p : Addr), H' p = some (.lst ((PyPn03.answers l).map V.int)) → Q (.ref p) H'
/-- another list told in the meantime -/
theorem HouseAt.told {Hb H : Hp} {p b : Addr} {o o' : HO} {t : Pn.Task} (h : HouseAt C CA (upd Hb b o) H p t) : HouseAt C CA (upd Hb b o') (upd H b o') p t := by
  obtain ⟨s0, p0, wl, dx, la, xs, la0, hp, hla, hA⟩ := h
  have ne : ∀ {x : Addr}, upd Hb b o x = none → x ≠ b := fun {x} e q => by
    subst q
    rw [upd_same] at e
    cases e
  have up : ∀ {x : Addr}, upd Hb b o x = none → upd Hb b o' x = none := fun {x} e => by
    have n := ne e
    rw [upd_ne n] at e ⊢
    exact e
  refine ⟨fun x y e => ?_, up p0, wl, dx, la, xs, up la0, by rw [upd_ne (ne p0)]; exact hp, by rw [upd_ne (ne la0)]; exact hla, hA.keep fun x a ⟨x0, d, hx⟩ => ⟨up x0, d, by rw [upd_ne (ne x0)]; exact hx⟩⟩
  by_cases q : x = b
  · subst q
    rw [upd_same] at e ⊢
    exact e
  · rw [upd_ne q] at e ⊢
    exact s0 x y (by rw [upd_ne q]; exact e)
theorem HouseAt.told0 {Hb H : Hp} {p b : Addr} {o : HO} {t : Pn.Task} (h : HouseAt C CA Hb H p t) (nb : H b = none) : HouseAt C CA (upd Hb b o) (upd H b o) p t := by
  obtain ⟨s0, p0, wl, dx, la, xs, la0, hp, hla, hA⟩ := h
  have up : ∀ {x : Addr} {y : HO}, Hb x = none → H x = some y → upd Hb b o x = none := fun {x y} e e2 => by
    rw [upd_ne (ne_of_none e2 nb)]
    exact e
  refine ⟨fun x y e => ?_, up p0 hp, wl, dx, la, xs, up la0 hla, by rw [upd_ne (ne_of_none hp nb)]; exact hp, by rw [upd_ne (ne_of_none hla nb)]; exact hla, hA.keep fun x a ⟨x0, d, hx⟩ => ⟨up x0 hx, d, by rw [upd_ne (ne_of_none hx nb)]; exact hx⟩⟩
  by_cases q : x = b
  · subst q
    rw [upd_same] at e ⊢
    exact e
  · rw [upd_ne q] at e ⊢
    exact s0 x y e
theorem HouseAt.new {Hb H : Hp} {p b : Addr} {o : HO} {t : Pn.Task} (h : HouseAt C CA Hb H p t) (nb : H b = none) : HouseAt C CA Hb (upd H b o) p t := by
  obtain ⟨s0, p0, wl, dx, la, xs, la0, hp, hla, hA⟩ := h
  have sn : Same H (upd H b o) := same_new nb
  exact ⟨s0.trans sn, p0, wl, dx, la, xs, la0, sn _ _ hp, sn _ _ hla, hA.keep fun x a ⟨x0, d, hx⟩ => ⟨x0, d, sn _ _ hx⟩⟩
/-- what still is to be answered -/
def slot3 (σ : L2.St) : Nat := match σ[3]? with
  | some (some (V.int i)) => i.toNat
  | _ => 0
theorem scAnswers : FnScope ["calls", "house", "told", "start", "end", "answer"] ["calls"] (defScope sAnswers) := ⟨rfl, rfl, rfl, by decide +kernel, rfl, by decide +kernel, by decide +kernel⟩
theorem ok_answers {kA : Nat} (hkA : 2 ≤ kA) {f fI fE fA : Addr} {fd fdI fdE fdA : FuncData} (F : Fun K "answers" "answers" sAnswers f fd) (T : Txt K mg C CA) (M : Mk K C fI) (FI : Fun K "__init__" "House.__init__" sHouseInit fI fdI) (bI : Binds K fdI ["self"] [])
    (FE : Fun K "end_of_call" "end_of_call" sEnd fE fdE) (mE : mg "end_of_call" = some (.ref fE)) (bE : Binds K fdE ["calls", "start"] []) (mB : ∃ t, mg "BEGINS" = some (.int 0 t)) (mAc : ∃ t, mg "ACT" = some (.int 1 t))
    (kpA : PySem.W.keepIn K (.ref fA) = true) (mA : mg "answer_to" = some (.ref fA)) (bA : Binds K fdA ["house", "call"] []) {Pt : Addr} (GA : FnOk P w K mg base CX0 kA fA fdA ["house", "call"] (spAnswerTo K C CA Pt)) : FnOk P w K mg base CX0 (kA + 1) f fd ["calls"] (spAnswers K Pt) := by
  have GI : FnOk P w K mg base CX0 1 fI fdI ["self"] (spHouseInit C CA) := ok_houseInit FI T
  have GE : FnOk P w K mg base CX0 1 fE fdE ["calls", "start"] (spEnd K) := ok_end FE mB mAc
  refine F.ok scAnswers (fun vs H Q E h => ?_) (fun cdv A outer s H vs Q E hr h => ?_)
  · obtain ⟨a, l, rfl, _⟩ := h
    rfl
  · obtain ⟨a, l, rfl, hS, hPt, hask, k⟩ := h
    have hT0 : Tabs [(Pt, qLam)] H := fun q hq => by
      rw [List.mem_singleton.1 hq]
      exact TabS.nil hPt
    have hSG := noT_seq hS
    have sG := noT_same H
    have hr1 : Room 1 _ := hr.mono (by omega)
    have hr2 : Room 2 _ := hr.mono hkA
    refine ⟨_, pss_cons (ps_set (i := 1) scAnswers.nd rfl (Or.inl rfl) (pe_make0 M GI hr2 rfl T.mgC bI .nil pass0))
      (pss_cons (ps_set (i := 2) scAnswers.nd rfl (Or.inl rfl) (pe_lst pa_nil))
      (pss_cons (ps_set (i := 3) scAnswers.nd rfl (Or.inl rfl) pe_int)
      (pss_cons (ps_while PassesOwn.never (pt_cmpR op_lt (pv 3) (pe_callB call_len_seq (by rfl) T.len PySem.boot_len (pa_cons (pv 0) pa_nil)) (nomark _))
        (pss_cons (ps_set (i := 4) scAnswers.nd rfl (Or.inl rfl) (pe_call GE hr1 rfl mE FE.kp bE .nil pass0 (pa_cons (pv 0) (pa_cons (pv 3) pa_nil))))
        (pss_cons (ps_set (i := 5) scAnswers.nd rfl (Or.inl rfl) (pe_call GA hr rfl mA kpA bA .nil pass0 (pa_cons (pv 1) (pa_cons (pe_slice sl_list (pv 0) (po_some (pv 3)) (po_some (pv 4))) pa_nil))))
        (pss_cons (ps_expr (pe_bm PySem.F.plainAttrs_list PySem.F.slot_list_append PySem.F.type_list_append mt_append (pv 2) (pa_cons (pe_callB call_len_seq (by rfl) T.len PySem.boot_len (pa_cons (pv 5) pa_nil)) pa_nil)))
        (pss_cons (ps_expr (pe_bm PySem.F.plainAttrs_list PySem.F.slot_list_extend PySem.F.type_list_extend mt_extend (pv 2) (pa_cons (pv 5) pa_nil)))
        (pss_one (ps_set (i := 3) scAnswers.nd rfl (Or.inl rfl) (pv 4))))))))
      (pss_one (ps_ret (pv 2)))))), ?_⟩
    obtain ⟨cs0, hc0, _, hlen0, hall0, hmany0, hans⟩ := ThDecode.asked_calls hask
    have htot : (PyPn03.answers l).length ≤ 1000060 := by
      rw [hans, ThDecode.due_length]
      omega
    intro h dx nh ndx nex
    have sm : Same H (upd (upd H dx (.own h)) h (.ins C dx [])) := fun b o e => by
      rw [upd_ne (ne_of_none e nh), upd_ne (ne_of_none e ndx)]
      exact e
    refine ⟨H, h, dx, rfl, sm, nh, upd_same, fun H1 R1 => ⟨rfl, ?_⟩⟩
    refine ⟨Nat.zero_le _, fun b nb => ?_⟩
    have hb0 : H b = none := R1.1.free nb
    have hbG : noT H b = none := sG.free hb0
    refine while_by (fun σ H' => ∃ (i : Nat) (v4 v5 : Option V) (pre : List Int) (t : Pn.Task) (fu : Nat) (cs : List (List (List Int))), σ = [some (.ref a), some (.ref h), some (.ref b), some (.int i), v4, v5] ∧ i ≤ l.length ∧ PyFlat.calls PyPn03.shape fu (l.drop i) = some cs ∧ HouseAt C CA (upd (noT H) b (.lst (pre.map V.int))) H' h t ∧ Tabs [(Pt, qLam)] H' ∧ pre ++ ThDecode.due ⟨t⟩ cs = PyPn03.answers l ∧ (∀ c, c ∈ cs → Pn03Neutral.asked1 c = true) ∧ Pn03Neutral.many ⟨t⟩ cs ≤ 1000000)
      (fun σ _ => l.length - slot3 σ)
      ⟨0, none, none, [], ⟨1, [], 0, 0⟩, l.length, cs0, rfl, Nat.zero_le _, hc0, (R1.told0 nb).less ?_, tabs_new (hT0.ext R1.1) nb, hans.symm, hall0, hmany0⟩ ?_ ?_
    · intro x o e
      by_cases q : x = b
      · subst q
        rw [upd_same] at e ⊢
        exact e
      · rw [upd_ne q] at e ⊢
        exact sG x o e
    · rintro σ H2 ⟨i, v4, v5, pre, t, fu, cs, rfl, hi, hcs, hH, hTb, hdue, hall, hman⟩
      have sb : Same (noT H) H2 := (same_new hbG).trans hH.1
      have hS2 := sb.seq hSG
      refine ⟨_, rfl, _, rfl, a, _, rfl, .inl hS2, _, _, rfl, rfl, _, rfl, ?_⟩
      refine ite2 (fun c => ?_) (fun c => ?_)
      · have hil : i < l.length := by
          have := of_decide_eq_true c
          rw [List.length_map] at this
          omega
        have hd := List.drop_eq_getElem_cons hil
        rw [hd] at hcs
        obtain ⟨fu', c1, u, cs', rfl, hcs', hL⟩ := ThDecode.calls_cons hcs
        have hfl := flat_len hL
        have hdl : (l[i] :: l.drop (i + 1)).length = l.length - i := by
          rw [← hd, List.length_drop]
        have hj : i + (flatOf c1).length ≤ l.length := by omega
        refine ⟨_, rfl, _, rfl, a, i, l, _, _, u, c1, rfl, hS2, hd, hL, ?_⟩
        refine ⟨_, rfl, _, rfl, _, rfl, _, rfl, _, rfl, _, rfl, a, _, rfl, hS2, fun d nd => ?_⟩
        have hcut : cutV (l.map V.int) (some (i : Int)) (some ((i + (flatOf c1).length : Nat) : Int)) = (flatOf c1).map V.int := by
          rw [cutV_nat (by omega) (by rw [List.length_map]; exact hj), ← List.map_drop, ← List.map_take, hd, flat_lies hL, Nat.add_sub_cancel_left, List.take_left]
        rw [hcut]
        have hdc := ThDecode.due_cons ⟨t⟩ c1 cs'
        have htot2 : pre.length + ((Pn03Neutral.step ⟨t⟩ c1).2.length + 1) ≤ 1000060 := by
          have := congrArg List.length hdue
          rw [hdc, List.length_append, List.length_append, List.length_cons] at this
          omega
        rw [ThDecode.many_cons] at hman
        have hmany : (Pn03Neutral.step ⟨t⟩ c1).2.length ≤ 1000000 := by omega
        have hman' : Pn03Neutral.many (Pn03Neutral.step ⟨t⟩ c1).1 cs' ≤ 1000000 := by omega
        refine ⟨_, h, d, t, _, _, u, c1, rfl, hH.new nd, (noT_no H).upd, tabs_new hTb nd, SqL.of upd_same, hL, hall c1 List.mem_cons_self, hmany, fun H3 b3 hH3 hT3 nb3 hb3 => ?_⟩
        have b3b : b3 ≠ b := fun q => by
          subst q
          rw [upd_same] at nb3
          cases nb3
        have hb3' : H3 b = some (.lst (pre.map V.int)) := hH3.1 b _ upd_same
        refine ⟨_, rfl, .inl ⟨rfl, _, SqL.of hb3'⟩, _, rfl, b3, _, rfl, .inl (SqL.of hb3), b, _, _, rfl, rfl, hb3', ?_, ?_⟩
        · rw [List.length_map, sizeLine_eq]
          omega
        · refine ⟨_, rfl, .inl ⟨rfl, _, SqL.of upd_same⟩, _, rfl, b, b3, _, _, rfl, rfl, upd_same, Eq.trans (upd_ne b3b) hb3, ?_, ?_⟩
          · rw [List.length_append, List.length_map, List.length_map, List.length_singleton, sizeLine_eq]
            omega
          · rw [upd_upd]
            have e : pre.map V.int ++ [V.int ((((Pn03Neutral.step ⟨t⟩ c1).2.map V.int).length : Nat) : Int)] ++ (Pn03Neutral.step ⟨t⟩ c1).2.map V.int = (pre ++ (((Pn03Neutral.step ⟨t⟩ c1).2.length : Int) :: (Pn03Neutral.step ⟨t⟩ c1).2)).map V.int := by
              rw [List.map_append, List.map_cons, List.length_map, List.append_assoc]
              rfl
            rw [e]
            refine ⟨_, rfl, ⟨i + (flatOf c1).length, _, _, _, (Pn03Neutral.step ⟨t⟩ c1).1.task, fu', cs', rfl, hj, ?_, hH3.told, tabs_updL hT3 hb3', ?_, fun c hc => hall c (List.mem_cons_of_mem _ hc), hman'⟩, ?_⟩
            · have : l.drop (i + (flatOf c1).length) = u := by
                rw [← List.drop_drop, hd, flat_lies hL, List.drop_left]
              rw [this]
              exact hcs'
            · rw [← hdue, hdc, List.append_assoc]
            · have hp := flat_pos hL
              show l.length - ((i + (flatOf c1).length : Nat) : Int).toNat < l.length - (i : Int).toNat
              rw [Int.toNat_natCast, Int.toNat_natCast]
              omega
      · have hil : ¬ i < l.length := fun q => c (decide_eq_true (by rw [List.length_map]; omega))
        have hd : l.drop i = [] := List.drop_eq_nil_of_le (by omega)
        rw [hd] at hcs
        have e := ThDecode.calls_nil hcs
        subst e
        rw [ThDecode.due_nil, List.append_nil] at hdue
        refine ⟨_, rfl, k _ b ?_⟩
        rw [← hdue]
        exact hH.1 b _ upd_same
    · rintro σ H2 Q1 Q2 hQ ⟨v, e, v0, e0, p, ys, e1, e2, i, j, e3, e4, kk, e5, q⟩
      exact ⟨v, e, v0, e0, p, ys, e1, e2, i, j, e3, e4, kk, e5, hQ _ _ q⟩
end
end My

set_option Elab.async false
set_option maxRecDepth 100000
set_option maxHeartbeats 4000000
namespace My
open PySem PySem.Spec PyProof.Rows L2 LamX
open ThDecode (Lies)
theorem whole_nn {z : Int} (h : Pn03Neutral.whole32 z = true) : 0 ≤ z := by
  unfold Pn03Neutral.whole32 at h
  simp only [Bool.and_eq_true, decide_eq_true_eq] at h
  exact h.1
/-- H0, with the tables and the code objects of H -/
def wide (H0 H : Hp) : Hp := fun b => match H b with
  | some (.tbl ps) => some (.tbl ps)
  | some (.ext φ) => some (.ext φ)
  | _ => H0 b
theorem wide_tbl {H0 H : Hp} {b : Addr} {ps : Array Value} (h : H b = some (.tbl ps)) : wide H0 H b = some (.tbl ps) := by
  unfold wide
  rw [h]
theorem wide_ext {H0 H : Hp} {b : Addr} {φ : Heap → Prop} (h : H b = some (.ext φ)) : wide H0 H b = some (.ext φ) := by
  unfold wide
  rw [h]
theorem wide_no {H0 H : Hp} {b : Addr} {o : HO} (h : H b = some o) (h0 : H0 b = none) (n1 : ∀ ps, o ≠ .tbl ps) (n2 : ∀ φ, o ≠ .ext φ) : wide H0 H b = none := by
  unfold wide
  rw [h]
  split
  · rename_i ps e
    exact absurd (Option.some.inj e) (n1 ps)
  · rename_i φ e
    exact absurd (Option.some.inj e) (n2 φ)
  · exact h0
theorem wide_same {H0 H : Hp} (s : Same H0 H) : Same (wide H0 H) H := fun b o e => by
  unfold wide at e
  split at e
  · rename_i ps h
    rw [h]
    exact e
  · rename_i φ h
    rw [h]
    exact e
  · exact s b o e
theorem same_wide {H0 H : Hp} (s : Same H0 H) : Same H0 (wide H0 H) := fun b o e => by
  have h := s b o e
  unfold wide
  rw [h]
  split
  · rename_i ps h2
    exact h2.symm
  · rename_i φ h2
    exact h2.symm
  · exact e
theorem HouseAt.wide {C CA : Addr} {H0 H : Hp} {p : Addr} {t : Pn.Task} (h : HouseAt C CA H0 H p t) : HouseAt C CA (My.wide H0 H) H p t := by
  obtain ⟨s0, p0, wl, dx, la, xs, la0, hp, hla, hA⟩ := h
  exact ⟨wide_same s0, wide_no hp p0 (fun _ z => by cases z) (fun _ z => by cases z), wl, dx, la, xs, wide_no hla la0 (fun _ z => by cases z) (fun _ z => by cases z), hp, hla, hA.keep fun x a ⟨x0, d, hx⟩ => ⟨wide_no hx x0 (fun _ z => by cases z) (fun _ z => by cases z), d, hx⟩⟩
theorem tabs_wide {T : List (Addr × Str)} {H0 H : Hp} (h : Tabs T H) : Tabs T (wide H0 H) := fun q hq => by
  obtain ⟨ps, h1, h2, h3⟩ := h q hq
  refine ⟨ps, wide_tbl h1, h2, fun pos cv hc => ?_⟩
  obtain ⟨c, e1, e2⟩ := h3 pos cv hc
  exact ⟨c, e1, wide_ext e2⟩
/-- as ExtN, for a house -/
theorem HouseAt.ext {C CA : Addr} {H0 H H' : Hp} {p : Addr} {t : Pn.Task} (h : HouseAt C CA H0 H p t) (n : NoTbl H0) (e : ExtN H H') : HouseAt C CA H0 H' p t := by
  obtain ⟨s0, p0, wl, dx, la, xs, la0, hp, hla, hA⟩ := h
  exact ⟨fun b o q => e b o (s0 b o q) fun ps z => n b ps (by rw [q, z]), p0, wl, dx, la, xs, la0, e _ _ hp (fun _ z => by cases z), e _ _ hla (fun _ z => by cases z), hA.keep fun x a ⟨x0, d, hx⟩ => ⟨x0, d, e _ _ hx (fun _ z => by cases z)⟩⟩
abbrev sAnswerTo : Stmt := top 45
section
variable {P : Program} {w : World} {K : PySem.W.Frag} {mg : Str → Option Value} {base : Heap} {C CA : Addr}
/-! ### answer_to -/
theorem scAnswerTo : FnScope ["house", "call"] ["house", "call"] (defScope sAnswerTo) := ⟨rfl, rfl, rfl, by decide +kernel, rfl, by decide +kernel, by decide +kernel⟩
theorem ok_answerTo {f fB fAc fG fS : Addr} {fd fdB fdAc fdG fdS : FuncData} {kS : Nat} {Pt : Addr} (hkS : 3 ≤ kS) (F : Fun K "answer_to" "answer_to" sAnswerTo f fd) (T : Txt K mg C CA) (mB : ∃ t, mg "BEGINS" = some (.int 0 t)) (mAc : ∃ t, mg "ACT" = some (.int 1 t)) (mGo : ∃ t, mg "GOAL" = some (.int 2 t))
    (GB : FnOk P w K mg base CX0 2 fB fdB ["self", "facts", "wanted"] (spBegins C CA)) (bB : Binds K fdB ["self", "facts", "wanted"] []) (meB : Meth K C "begins" fB)
    (GAc : FnOk P w K mg base CX0 3 fAc fdAc ["self", "told"] (spAct K C CA)) (bAc : Binds K fdAc ["self", "told"] []) (meA : Meth K C "act" fAc)
    (GG : FnOk P w K mg base CX0 2 fG fdG ["self", "wanted"] (spGoal C CA)) (bG : Binds K fdG ["self", "wanted"] []) (meG : Meth K C "goal" fG)
    (kpS : PySem.W.keepIn K (.ref fS) = true) (mS : mg "answer_from_state" = some (.ref fS)) (bS : Binds K fdS ["house", "number", "state"] []) (GS : FnOk P w K mg base CX0 kS fS fdS ["house", "number", "state"] (spFromState C CA Pt)) :
    FnOk P w K mg base CX0 (kS + 1) f fd ["house", "call"] (spAnswerTo K C CA Pt) := by
  obtain ⟨tb, mB⟩ := mB
  obtain ⟨ta, mAc⟩ := mAc
  obtain ⟨tg, mGo⟩ := mGo
  refine F.ok scAnswerTo (fun vs H Q E h => ?_) (fun cdv A outer s H vs Q E hr h => ?_)
  · obtain ⟨H0, p, a, t, q, r, u, c, rfl, _⟩ := h
    rfl
  · obtain ⟨H0, p, a, t, q, r, u, c, rfl, hH, hN, hT, hS, hL, hask, hlen, k⟩ := h
    have hr2 : Room 2 _ := hr.mono (by omega)
    have hr3 : Room 3 _ := hr.mono hkS
    refine ⟨_, pss_cons (ps_if (pt_cmpR op_eq (pe_ix ix_list (pv 1) pe_int (fun _ _ => rfl)) (pe_glob (v := .int 0) rfl mB ⟨_, rfl⟩) (nomark _)) (pss_one (ps_ret (pe_lst (pa_cons (pe_meth (pv 0) T.cl meB GB hr2 bB .nil pass0 (pa_cons (pe_ix ix_list (pv 1) pe_int (fun _ _ => rfl)) (pa_cons (pe_ix ix_list (pv 1) pe_int (fun _ _ => rfl)) pa_nil))) pa_nil)))) pss_nil)
      (pss_cons (ps_if (pt_cmpR op_eq (pe_ix ix_list (pv 1) pe_int (fun _ _ => rfl)) (pe_glob (v := .int 1) rfl mAc ⟨_, rfl⟩) (nomark _)) (pss_one (ps_ret (pe_lst (pa_cons (pe_meth (pv 0) T.cl meA GAc hr3 bAc .nil pass0 (pa_cons (pe_slice sl_list (pv 1) (po_some pe_int) po_none) pa_nil)) pa_nil)))) pss_nil)
      (pss_cons (ps_if (pt_cmpR op_eq (pe_ix ix_list (pv 1) pe_int (fun _ _ => rfl)) (pe_glob (v := .int 2) rfl mGo ⟨_, rfl⟩) (nomark _)) (pss_one (ps_ret (pe_lst (pa_cons (pe_meth (pv 0) T.cl meG GG hr2 bG .nil pass0 (pa_cons (pe_ix ix_list (pv 1) pe_int (fun _ _ => rfl)) pa_nil)) pa_nil)))) pss_nil)
      (pss_one (ps_ret (pe_call GS hr rfl mS kpS bS .nil pass0 (pa_cons (pv 0) (pa_cons (pe_ix ix_list (pv 1) pe_int (fun _ _ => rfl)) (pa_cons (pe_ix ix_list (pv 1) pe_int (fun _ _ => rfl)) pa_nil)))))))), ?_⟩
    have hH' := hH
    have back : ∀ {H2 : Hp} {t' : Pn.Task}, Same H0 H2 → ∀ {H3 : Hp}, HouseAt C CA (wide H0 H2) H3 p t' → Tabs [(Pt, qLam)] H2 → HouseAt C CA H0 H3 p t' ∧ Tabs [(Pt, qLam)] H3 := fun {H2 t'} s {H3} h ht => ⟨h.less (same_wide s), (tabs_wide ht).ext h.1⟩
    obtain ⟨s0, p0, wl, dx, la, xs, la0, hp, hla, hA⟩ := hH
    have no (m : Str) (h1 : (m == "facts") = false) (h2 : (m == "wanted") = false) (h3 : (m == "acts") = false) := hF_no t.facts t.goal la h1 h2 h3
    cases hL with
    | begins x y u =>
      have hw : Pn03Neutral.whole32 x = true ∧ Pn03Neutral.whole32 y = true := by
        have : (Pn03Neutral.whole32 x && Pn03Neutral.whole32 y) = true := hask
        simpa using this
      obtain ⟨n, rfl⟩ : ∃ n : Nat, x = n := by
        have := hw.1
        unfold Pn03Neutral.whole32 at this
        simp only [Bool.and_eq_true, decide_eq_true_eq] at this
        exact Int.eq_ofNat_of_zero_le this.1
      obtain ⟨g, rfl⟩ : ∃ g : Nat, y = g := by
        have := hw.2
        unfold Pn03Neutral.whole32 at this
        simp only [Bool.and_eq_true, decide_eq_true_eq] at this
        exact Int.eq_ofNat_of_zero_le this.1
      refine ⟨_, rfl, a, _, _, _, rfl, rfl, hS, atI_nat (j := 0) rfl, rfl, _, rfl, ?_⟩
      refine if_true_of (by decide) ?_
      refine ⟨_, rfl, p, dx, _, rfl, hp, no "begins" (by decide +kernel) (by decide +kernel) (by decide +kernel), _, rfl, a, _, _, _, rfl, rfl, hS, atI_nat (j := 1) rfl, _, rfl, a, _, _, _, rfl, rfl, hS, atI_nat (j := 2) rfl, ?_⟩
      refine ⟨_, p, t, n, g, rfl, hH'.wide, fun H1 hH1 => ?_⟩
      obtain ⟨hH1, hT1⟩ := back s0 hH1 hT
      refine ⟨by show 1 ≤ sizeLine; decide, fun b nb => ?_⟩
      have es : Pn03Neutral.step ⟨t⟩ [[0, (n : Int), (g : Int)]] = ((Pn03.step ⟨t⟩ (.begins n g)).1, Pn03Neutral.out (Pn03.step ⟨t⟩ (.begins n g)).2) := rfl
      rw [es] at k
      refine k _ b (hH1.new nb) (tabs_new hT1 nb) (hH1.1.free nb) ?_
      rw [upd_same]
      have eo : Pn03Neutral.out (Pn03.step ⟨t⟩ (.begins n g)).2 = [(Pn03.step ⟨t⟩ (.begins n g)).2.v] := by
        have : (Pn03.step ⟨t⟩ (.begins n g)).2.l = [] := by
          show (if n = 0 ∨ Pn.FACTS < n ∨ 2 ^ n ≤ g then ((⟨t⟩ : Pn03.House), Pn03.ok (-1)) else (⟨⟨n, [], 0, g⟩⟩, Pn03.ok 0)).2.l = []
          split <;> rfl
        unfold Pn03Neutral.out
        rw [this]
        rfl
      rw [eo]
      rfl
    | act x u =>
      have hz : ∀ z, z ∈ x → 0 ≤ z := fun z hz => by
        have h6 : Pn03Neutral.row32 x 6 = true := hask
        unfold Pn03Neutral.row32 at h6
        rw [Bool.and_eq_true, List.all_eq_true] at h6
        exact whole_nn (h6.2 z hz)
      refine ⟨_, rfl, a, _, _, _, rfl, rfl, hS, atI_nat (j := 0) rfl, rfl, _, rfl, ?_⟩
      refine if_false_of (by decide) ?_
      refine ⟨_, rfl, a, _, _, _, rfl, rfl, hS, atI_nat (j := 0) rfl, rfl, _, rfl, ?_⟩
      refine if_true_of (by decide) ?_
      refine ⟨_, rfl, p, dx, _, rfl, hp, no "act" (by decide +kernel) (by decide +kernel) (by decide +kernel), _, rfl, _, rfl, a, _, rfl, hS, fun d nd => ?_⟩
      have hcut : cutV ((flatOf [[1], x]).map V.int) (some 2) none = x.map V.int := by
        have e1 : HT.sIx ((flatOf [[1], x]).map V.int).length 0 (some ((2 : Nat) : Int)) = 2 := by
          rw [HT.sIx_nat, List.length_map]
          show min 2 (x.length + 2) = 2
          omega
        have e2 : HT.sIx ((flatOf [[1], x]).map V.int).length ((flatOf [[1], x]).map V.int).length none = x.length + 2 := by
          rw [HT.sIx_none, List.length_map]
          rfl
        unfold cutV
        rw [show (some 2 : Option Int) = some ((2 : Nat) : Int) from rfl, e1, e2]
        show (x.map V.int).take (x.length + 2 - 2) = _
        rw [Nat.add_sub_cancel, List.take_of_length_le (by rw [List.length_map]; exact Nat.le_refl _)]
      rw [hcut]
      refine ⟨_, p, d, t, x, rfl, (hH'.new nd).wide, SqL.of upd_same, hz, fun H1 hH1 => ?_⟩
      obtain ⟨hH1, hT1⟩ := back (s0.trans (same_new nd)) hH1 (tabs_new hT nd)
      refine ⟨by show 1 ≤ sizeLine; decide, fun b nb => ?_⟩
      have es : Pn03Neutral.step ⟨t⟩ [[1], x] = ((Pn03.step ⟨t⟩ (.act (Pn03Neutral.nats x))).1, Pn03Neutral.out (Pn03.step ⟨t⟩ (.act (Pn03Neutral.nats x))).2) := rfl
      rw [es] at k
      refine k _ b (hH1.new nb) (tabs_new hT1 nb) (hH1.1.free nb) ?_
      rw [upd_same]
      have eo : Pn03Neutral.out (Pn03.step ⟨t⟩ (.act (Pn03Neutral.nats x))).2 = [(Pn03.step ⟨t⟩ (.act (Pn03Neutral.nats x))).2.v] := by
        have : (Pn03.step ⟨t⟩ (.act (Pn03Neutral.nats x))).2.l = [] := by
          show (if t.acts.length = Pn.ACTS then ((⟨t⟩ : Pn03.House), Pn03.ok (-7)) else match Pn.act? t.facts (Pn03Neutral.nats x) with
            | none => (⟨t⟩, Pn03.ok (-1))
            | some a => if a.no ≠ 0 then (⟨t⟩, Pn03.ok (-1)) else (⟨{ t with acts := t.acts ++ [a] }⟩, Pn03.ok (t.acts.length : Nat))).2.l = []
          split
          · rfl
          · split
            · rfl
            · split <;> rfl
        unfold Pn03Neutral.out
        rw [this]
        rfl
      rw [eo]
      rfl
    | one q y u h2 h8 =>
      have hy : 0 ≤ y := by
        have : q = 2 ∨ q = 3 ∨ q = 4 ∨ q = 5 ∨ q = 6 ∨ q = 7 ∨ q = 8 := by omega
        rcases this with rfl | rfl | rfl | rfl | rfl | rfl | rfl <;> exact whole_nn hask
      have n0 : decide (V.int q = V.int 0) = false := decide_eq_false fun e => by have := V.int.inj e; omega
      have n1 : decide (V.int q = V.int 1) = false := decide_eq_false fun e => by have := V.int.inj e; omega
      refine ⟨_, rfl, a, _, _, _, rfl, rfl, hS, atI_nat (j := 0) rfl, rfl, _, rfl, ?_⟩
      refine if_false_of n0 ?_
      refine ⟨_, rfl, a, _, _, _, rfl, rfl, hS, atI_nat (j := 0) rfl, rfl, _, rfl, ?_⟩
      refine if_false_of n1 ?_
      refine ⟨_, rfl, a, _, _, _, rfl, rfl, hS, atI_nat (j := 0) rfl, rfl, _, rfl, ?_⟩
      by_cases e2 : q = 2
      · subst e2
        obtain ⟨g, rfl⟩ := Int.eq_ofNat_of_zero_le hy
        refine if_true_of (by decide) ?_
        refine ⟨_, rfl, p, dx, _, rfl, hp, no "goal" (by decide +kernel) (by decide +kernel) (by decide +kernel), _, rfl, a, _, _, _, rfl, rfl, hS, atI_nat (j := 1) rfl, ?_⟩
        refine ⟨_, p, t, g, rfl, hH'.wide, fun H1 hH1 => ?_⟩
        obtain ⟨hH1, hT1⟩ := back s0 hH1 hT
        refine ⟨by show 1 ≤ sizeLine; decide, fun b nb => ?_⟩
        have es : Pn03Neutral.step ⟨t⟩ [[2, (g : Int)]] = ((Pn03.step ⟨t⟩ (.goal g)).1, Pn03Neutral.out (Pn03.step ⟨t⟩ (.goal g)).2) := rfl
        rw [es] at k
        refine k _ b (hH1.new nb) (tabs_new hT1 nb) (hH1.1.free nb) ?_
        rw [upd_same]
        have eo : Pn03Neutral.out (Pn03.step ⟨t⟩ (.goal g)).2 = [(Pn03.step ⟨t⟩ (.goal g)).2.v] := by
          have : (Pn03.step ⟨t⟩ (.goal g)).2.l = [] := by
            show (if 2 ^ t.facts ≤ g then ((⟨t⟩ : Pn03.House), Pn03.ok (-1)) else (⟨{ t with goal := g }⟩, Pn03.ok 0)).2.l = []
            split <;> rfl
          unfold Pn03Neutral.out
          rw [this]
          rfl
        rw [eo]
        rfl
      · refine if_false_of (decide_eq_false fun e => e2 (V.int.inj e)) ?_
        refine ⟨_, rfl, _, rfl, a, _, _, _, rfl, rfl, hS, atI_nat (j := 0) rfl, _, rfl, a, _, _, _, rfl, rfl, hS, atI_nat (j := 1) rfl, ?_⟩
        refine ⟨H0, p, t, q, y, rfl, hH', by omega, h8, hy, hT, hlen, fun H1 b s1 t1 nb hb => ?_⟩
        refine k H1 b ?_ t1 ?_ hb
        rotate_left
        · cases eb : H0 b with
          | none => rfl
          | some o =>
            obtain ⟨ps, z⟩ := nb o (s0 _ _ eb)
            exact absurd (by rw [eb, z]) (hN b ps)
        have : (Pn03Neutral.step ⟨t⟩ [[q, y]]).1.task = t := by
          have h37 : q = 3 ∨ q = 4 ∨ q = 5 ∨ q = 6 ∨ q = 7 ∨ q = 8 := by omega
          rcases h37 with rfl | rfl | rfl | rfl | rfl | rfl
          · show (if 2 ^ t.facts ≤ y.toNat then _ else _ : Pn03.House × Pn03.Ans).1.task = t
            split <;> rfl
          · show (if 2 ^ t.facts ≤ y.toNat then _ else _ : Pn03.House × Pn03.Ans).1.task = t
            split <;> rfl
          · show (if 2 ^ t.facts ≤ y.toNat then _ else _ : Pn03.House × Pn03.Ans).1.task = t
            split <;> rfl
          · show (if 2 ^ t.facts ≤ y.toNat then _ else _ : Pn03.House × Pn03.Ans).1.task = t
            split <;> rfl
          · show (if 2 ^ t.facts ≤ y.toNat then _ else _ : Pn03.House × Pn03.Ans).1.task = t
            split <;> rfl
          · show (if 2 ^ t.facts ≤ y.toNat then _ else _ : Pn03.House × Pn03.Ans).1.task = t
            split <;> rfl
        rw [this]
        exact hH'.ext hN s1
end
end My

set_option Elab.async false
set_option maxRecDepth 100000
set_option maxHeartbeats 4000000
namespace My
open PySem PySem.Spec PyProof.Rows L2 LamX
open PySem.W (WData Codec OpenSpec Well WellAll ReadsW ReadsAllW)
/-! ## the end of a row one of whose defs has a table of code objects -/
section
variable {K : PySem.W.Frag} {H H' : Hp}
theorem same_tup (e : Same H H') {a : Addr} {xs : List V} (h : SqT K H a xs) : SqT K H' a xs := by
  rcases h with (h | ⟨o, h⟩) | h
  · exact .inl (.inl (e a _ h))
  · exact .inl (.inr ⟨o, e a _ h⟩)
  · exact .inr h
theorem dwAll_mono (e : Same H H') {vs : List V} {ds : List WData} (x : DwAll K H vs ds) : DwAll K H' vs ds :=
  DwAll.rec (motive_1 := fun v d _ => Dw K H' v d) (motive_2 := fun vs ds _ => DwAll K H' vs ds) .non .bl .int .str .byt (fun q _ r => .lst (e.seq q) r) (fun q _ r => .tup (same_tup e q) r) .nil (fun _ _ a b => .cons a b) x
end
/-- the arguments, and the table at P -/
def withTab (H : Hp) (P : Addr) : Hp := fun b => if b = P then some (.tbl #[]) else H b
theorem withTab_at {H : Hp} {P : Addr} : withTab H P P = some (.tbl #[]) := if_pos rfl
theorem withTab_ne {H : Hp} {P b : Addr} (h : b ≠ P) : withTab H P b = H b := if_neg h
theorem spec_callT {p : Program} {w : World} {K : PySem.W.Frag} {mg mb : Str → Option Value} {k : Nat} {fa c P : Addr} {fd : FuncData} {ps : List Str} {sp : Sp} {s₁ : Shared} {vals : List Value} {ds : List WData} {R : PySem.W.WRecords} {cl : Str → Option Addr} {d0 : WData}
    (KX : K.In s₁.heap) (gl : s₁.heap.Ns mainGlobals mg) (bl : s₁.heap.Ns builtinsNs mb) (bb : ∀ x : Str, x ≠ "__name__" → mb x = bootBuiltins x) (lim : s₁.heap.NoLimit) (gens : s₁.gens = #[])
    (tab : s₁.heap.get? P = some { cls := .none, data := .fields #[] }) (tabK : K.lookup P = none) (code : PySem.W.CodeHd s₁.heap c P)
    (bmain : ∃ (bm : Addr) (ob : Obj), mg "__builtins__" = some (.ref bm) ∧ bm ≠ builtinsNs ∧ s₁.heap.get? bm = some ob ∧ ob.cls = .type "module" ∧ ob.dict = some builtinsNs ∧ ob.data = .plain)
    (wl : WellAll w.params s₁.heap vals ds) (pl : plWs ds = true) (wt : ∀ d ∈ ds, d.weight ≤ 1048576) (room : Room k callerA)
    (F : ∀ base : Heap, K.In base → base.Ns mainGlobals mg → TabB base mg c P → FnOk p w K mg base CX0 k fa fd ps sp) (binds : ∀ (s : Shared) (us : List Value), us.length = ps.length → BindsTo s fd ⟨us, []⟩ (ps.zip us)) (len : ds.length = ps.length)
    (hsp : ∀ (H : Hp) (xs : List V), H P = some (.tbl #[]) → (∀ b qs, H b = some (.tbl qs) → b = P) → DwAll K H xs ds → sp xs H (fun v H' => Dw K H' v d0) fun _ _ _ => False) :
    codeAny (model p w) callerA (.call (.ref fa) ⟨vals, []⟩) (fun r s' => ∃ u as, r = .ok (.ret u) ∧ ReadsW R cl s'.heap u d0 as ∧ OldK s₁.heap s'.heap ∧ s'.os = s₁.os ∧ AllBare s'.gens) s₁ := by
  obtain ⟨A, inA, ar⟩ := area_all ds vals wl pl wt
  have noP : argH K s₁.heap A P = none := by
    cases e : argH K s₁.heap A P with
    | none => rfl
    | some u =>
      obtain ⟨_, us, _, _, ⟨e2, _⟩ | ⟨e2, _⟩⟩ := argH_is ar e <;> (rw [tab] at e2; cases e2)
  have isP : ∀ b, argH K s₁.heap A b ≠ none → b ≠ P := fun b h e => h (by rw [e]; exact noP)
  have sm : Same (argH K s₁.heap A) (withTab (argH K s₁.heap A) P) := fun b o e => by
    rw [withTab_ne (isP b (by rw [e]; exact Option.some_ne_none o))]
    exact e
  have only : ∀ b u, withTab (argH K s₁.heap A) P b = some u → (b = P ∧ u = .tbl #[]) ∨ (b ≠ P ∧ ∃ o v, u = .frz o v ∧ s₁.heap.get? b = some o ∧ (∃ us n, o.data = .seq us n) ∧ K.lookup b = none) := fun b u e => by
    by_cases hb : b = P
    · subst hb
      rw [withTab_at] at e
      exact .inl ⟨rfl, (Option.some.inj e).symm⟩
    · rw [withTab_ne hb] at e
      obtain ⟨hk, us, _, _, ⟨e2, rfl⟩ | ⟨e2, rfl⟩⟩ := argH_is ar e
      · exact .inr ⟨hb, _, _, rfl, e2, ⟨_, _, rfl⟩, hk⟩
      · exact .inr ⟨hb, _, _, rfl, e2, ⟨_, _, rfl⟩, hk⟩
  have ok0 : HOk p w (argH K s₁.heap A) s₁.heap := argH_ok ar
  have ok1 : HOk p w (withTab (argH K s₁.heap A) P) s₁.heap := fun b u e => by
    by_cases hb : b = P
    · subst hb
      rw [withTab_at] at e
      cases e
      exact tab
    · rw [withTab_ne hb] at e
      exact (ok0 b u e).stay (fun _ _ _ z => z) (fun d z => sm d _ z) fun d _ z => sm d _ z
  have dw := dwAll_mono sm (dw_all KX ar ds vals wl pl inA)
  have rel := vals_toV inA
  have hP : withTab (argH K s₁.heap A) P P = some (.tbl #[]) := withTab_at
  generalize withTab (argH K s₁.heap A) P = H at only ok1 dw hP
  clear sm isP noP ok0
  have apart : ∀ {b : Addr} {o : Obj}, s₁.heap.get? b = some o → (∀ us n, o.data ≠ .seq us n) → b ≠ P → H b = none := fun {b o} e ns np => by
    cases q : H b with
    | none => rfl
    | some u =>
      rcases only b u q with ⟨z, _⟩ | ⟨_, o', _, _, e2, ⟨us, n, hd⟩, _⟩
      · exact absurd z np
      · rw [e] at e2
        cases e2
        exact absurd hd (ns us n)
  have under : ∀ {b : Addr} {o : Obj}, s₁.heap.get? b = some o → H b = none → (hidT s₁.heap H).get? b = some o := fun e n => hidT_get e n
  have ns : ∀ {b : Addr} {m : Str → Option Value}, s₁.heap.Ns b m → (hidT s₁.heap H).Ns b m := fun {b m} ⟨o, es, ep, e, d, r⟩ =>
    ⟨o, es, ep, under e (apart e (fun us n z => by rw [d] at z; cases z) fun z => by rw [z, tab] at e; cases e; cases d), d, r⟩
  have KB : K.In (hidT s₁.heap H) := fun b o e => under (KX b o e) (by
    cases q : H b with
    | none => rfl
    | some u =>
      rcases only b u q with ⟨z, _⟩ | ⟨_, _, _, _, _, _, z⟩
      · rw [z, tabK] at e
        cases e
      · rw [z] at e
        cases e)
  have MB : L2.Mod K mg (hidT s₁.heap H) := ⟨KB, ns gl, ⟨mb, ns bl, bb⟩, let ⟨mc, h1, h2⟩ := lim; ⟨mc, ns h1, h2⟩⟩
  have TB : TabB (hidT s₁.heap H) mg c P := by
    refine ⟨?_, ?_, fun z => ?_⟩
    · obtain ⟨o, us, file, tf, flags, tg, inF, text, tt, e1, r1, r2, r3, r4, r5, r6, r7, r8, r9⟩ := code
      exact ⟨o, us, file, tf, flags, tg, inF, text, tt, under e1 (apart e1 (fun us' n z => by rw [r2] at z; cases z) r9), r1, r2, r3, r4, r5, r6, r7, r8, r9⟩
    · obtain ⟨bm, ob, b1, b2, b3, b4, b5, b6⟩ := bmain
      have g1 : bm ≠ mainGlobals := fun q => by
        obtain ⟨o, es, ep, e, hd, _⟩ := gl
        rw [q, e] at b3
        cases b3
        rw [hd] at b6
        cases b6
      have g2 : bm ≠ P := fun q => by
        rw [q, tab] at b3
        cases b3
        cases b6
      exact ⟨bm, ob, b1, b2, g1, g2, under b3 (apart b3 (fun us n z => by rw [b6] at z; cases z) g2), b4, b5, b6⟩
    · obtain ⟨o, es, ep, e, hd, _⟩ := gl
      rw [z, tab] at e
      cases e
      cases hd
  have env : Env0 p w K mg (hidT s₁.heap H) callerA [] s₁ H := ⟨rfl, MB, fun b o e => of_hidT e, Nat.le_of_eq (hidT_size _ _), trivial, fun b hb => (nomatch (show b ∈ ([] : List Addr) from hb)), ok1, .of_eq gens⟩
  have lv : vals.length = ps.length := (wellAll_len wl).trans len
  refine codeAny_mono ((F _ KB (ns gl) TB).run callerA [] s₁ H ⟨vals, []⟩ vals (vals.map toV) _ _ room env (binds s₁ vals lv) rel (hsp H _ hP (fun b qs e => ?_) dw)) fun r s' x => ?_
  · rcases only b _ e with ⟨z, _⟩ | ⟨_, _, _, z, _⟩
    · exact z
    · cases z
  · match r, x with
    | .ok (.ret u), x =>
      obtain ⟨v, H', os, bare, un, ok2, rv, q⟩ := x
      have kept : ∀ b o, b ≠ P → s₁.heap.get? b = some o → s'.heap.get? b = some o := fun b o np e => by
        cases e2 : H b with
        | none => exact un.keep b o e e2 (fun z => nomatch (show b ∈ ([] : List Addr) from z)) (by simp)
        | some u2 =>
          rcases only b u2 e2 with ⟨z, _⟩ | ⟨_, ob, v', z, e3, _⟩
          · exact absurd z np
          · subst z
            rw [e] at e3
            cases e3
            exact (ok2 b _ (un.frzs b o _ e2)).1
      obtain ⟨more, grown⟩ := un.tbls P #[] hP
      have atP : s'.heap.get? P = some { cls := .none, data := .fields (#[] ++ more) } := ok2 P _ grown
      have KX' : K.In s'.heap := fun b o e => kept b o (fun z => by rw [z, tabK] at e; cases e) (KX b o e)
      obtain ⟨as, rd⟩ := Dw.reads (R := R) (cl := cl) ok2 KX' d0 v u q rv
      refine ⟨u, as, rfl, rd, ⟨fun b o e => ?_, fun b o e => ?_⟩, os, bare⟩
      · by_cases hb : b = P
        · subst hb
          rw [tab] at e
          cases e
          exact .inr (.inl ⟨(code.tab tab).isCodeTable, rfl, #[], more, rfl, atP⟩)
        · exact .inl (kept b o hb e)
      · by_cases hb : b = P
        · subst hb
          exact ⟨_, atP⟩
        · exact ⟨o, kept b o hb e⟩
    | .ok .next, x => exact False.elim x
    | .ok .brk, x => exact False.elim x
    | .ok .cont, x => exact False.elim x
    | .error e, x => exact False.elim x
/-- the goal behind k_headS: as walk_specK, the def named x having a table -/
theorem walk_specT {r : OpenSpec} {k : Nat} {q : Program} {loose : List Str} {XP : (Str → Option Value) → Heap → Prop} {YP : World → Heap → Prop} {d : DefRec} {K : Params → PySem.W.Frag} {ps : List Str} {sp : PySem.W.Frag → Addr → Sp} {x : Str} {dx : DefRec}
    (well : r.wellSaid = true) (dfl : d.params.defaults = []) (len : r.args.length = ps.length) (room : Room k callerA) (hY : ∀ (w : World) (h : Heap), YP w h → (K w.params).In h) (c P : Addr) (hr : (recsOf q).find? (fun e => e.name == x) = some dx) (ht : ∀ w : World, PySem.W.tabIn (K w.params) x = some (c, P)) (nP : ∀ w : World, (K w.params).lookup P = none)
    (F : ∀ (w : World) (mg : Str → Option Value) (fa : Addr) (h : Heap), YP w h → (K w.params).In h → h.Ns mainGlobals mg → mg d.name = some (.ref fa) →
      ∃ fd : FuncData, (∀ (s : Shared) (us : List Value), us.length = ps.length → BindsTo s fd ⟨us, []⟩ (ps.zip us)) ∧ ∀ base : Heap, (K w.params).In base → base.Ns mainGlobals mg → TabB base mg c P → FnOk r.prog w (K w.params) mg base CX0 k fa fd ps (sp (K w.params) P))
    (hsp : ∀ (K : PySem.W.Frag) (H : Hp) (xs : List V) (a : Codec.denoteAll r.args), H P = some (.tbl #[]) → (∀ b qs, H b = some (.tbl qs) → b = P) → Codec.withinAll r.args a = true → Codec.app r.args r.asked a = true → DwAll K H xs (Codec.encAll r.args a) →
      sp K P xs H (fun v H' => Dw K H' v (r.ret.enc (Codec.app r.args r.f a))) fun _ _ _ => False) :
    PySem.W.WalkOS q loose XP YP r d [] (fun f vs => PySem.call f vs) := by
  intro w s₀ s₁ mg mb G Y fa o pm cd doc dV kV ho hd hcd hD hmg hg args vals as hpre hlay hrd hwl hlo
  obtain ⟨a, e1, e2⟩ := PySem.W.os_pre_some hpre
  obtain ⟨e3, within⟩ := Codec.encAll_of_decAll r.args args a e1
  subst e3
  have KX := hY w _ Y
  obtain ⟨fd, hb, hF⟩ := F w mg fa _ Y KX G.T.g hmg
  have tt := PySem.W.tab_of (x := x) (c := c) (P := P) G.T KX hr (ht w)
  refine PySem.W.enter_call (codeAny_mono (spec_callT (R := []) (cl := classAt s₀.heap) (d0 := r.ret.enc (Codec.app r.args r.f a)) KX G.T.g G.T.b G.T.builtins G.T.nolimit hg tt.2 (nP w) tt.1 G.T.bmain hwl (pl_encAll _ _) (layable_weight hlay) room hF hb
    (by rw [encAll_len]; exact len) fun H xs h1 h2 h3 => hsp _ H xs a h1 h2 within e2 h3) fun r' s' hq => ?_)
  obtain ⟨u, as', rfl, h1, h2, h3, h4⟩ := hq
  refine ⟨.inl ⟨u, _, as', rfl, fun _ => rfl, h1, ?_, fun z => Bool.noConfusion (show false = true from z)⟩, h2, h3, h4⟩
  exact (OpenSpec.post_iff well within _ _).mpr rfl
end My

set_option Elab.async false
set_option maxRecDepth 100000
set_option maxHeartbeats 4000000
namespace My
open PySem PySem.Spec PyProof.Rows L2
theorem all_mk {P : Program} {w : World} {K : PySem.W.Frag} {h : Heap} {mg : Str → Option Value} {fa C CA f_aI f_aM f_aB f_aK f_hI f_hB f_hA f_hG f_iS f_iA f_me f_de f_to f_wf f_of f_an f_en f_at f_fs f_es f_va f_cf f_fo f_pr f_co f_da f_zr f_bz f_ta f_kf f_fi f_so f_rf f_rk : Addr} {t_WRONG t_FULL t_CANNOT_BE_HAD t_MOST_FACTS t_MOST_ACTS t_MOST_COST t_NUMBERS_OF_AN_ACT t_BEGINS t_ACT t_GOAL t_DEAREST t_TOGETHER t_KEPT t_CUTS t_REAL : Tok} (X : K.In h) (G : h.Ns mainGlobals mg) (hfa : mg "answers" = some (.ref fa))
    {od_aI an_aI : Option Addr} {sl_aI : Array (Option Value)} {oc_aI kV_aI dc_aI pm_aI cd_aI ct_aI : Value}
    {od_aM an_aM : Option Addr} {sl_aM : Array (Option Value)} {oc_aM kV_aM dc_aM pm_aM cd_aM ct_aM : Value}
    {od_aB an_aB : Option Addr} {sl_aB : Array (Option Value)} {oc_aB kV_aB dc_aB pm_aB cd_aB ct_aB : Value}
    {od_aK an_aK : Option Addr} {sl_aK : Array (Option Value)} {oc_aK kV_aK dc_aK pm_aK cd_aK ct_aK : Value}
    {od_hI an_hI : Option Addr} {sl_hI : Array (Option Value)} {oc_hI kV_hI dc_hI pm_hI cd_hI ct_hI : Value}
    {od_hB an_hB : Option Addr} {sl_hB : Array (Option Value)} {oc_hB kV_hB dc_hB pm_hB cd_hB ct_hB : Value}
    {od_hA an_hA : Option Addr} {sl_hA : Array (Option Value)} {oc_hA kV_hA dc_hA pm_hA cd_hA ct_hA : Value}
    {od_hG an_hG : Option Addr} {sl_hG : Array (Option Value)} {oc_hG kV_hG dc_hG pm_hG cd_hG ct_hG : Value}
    {od_iS an_iS : Option Addr} {sl_iS : Array (Option Value)} {oc_iS kV_iS dc_iS pm_iS cd_iS ct_iS : Value}
    {od_iA an_iA : Option Addr} {sl_iA : Array (Option Value)} {oc_iA kV_iA dc_iA pm_iA cd_iA ct_iA : Value}
    {od_me an_me : Option Addr} {sl_me : Array (Option Value)} {oc_me kV_me dc_me pm_me cd_me ct_me : Value}
    {od_de an_de : Option Addr} {sl_de : Array (Option Value)} {oc_de kV_de dc_de pm_de cd_de ct_de : Value}
    {od_to an_to : Option Addr} {sl_to : Array (Option Value)} {oc_to kV_to dc_to pm_to cd_to ct_to : Value}
    {od_wf an_wf : Option Addr} {sl_wf : Array (Option Value)} {oc_wf kV_wf dc_wf pm_wf cd_wf ct_wf : Value}
    {od_of an_of : Option Addr} {sl_of : Array (Option Value)} {oc_of kV_of dc_of pm_of cd_of ct_of : Value}
    {od_an an_an : Option Addr} {sl_an : Array (Option Value)} {oc_an kV_an dc_an pm_an cd_an ct_an : Value}
    {od_en an_en : Option Addr} {sl_en : Array (Option Value)} {oc_en kV_en dc_en pm_en cd_en ct_en : Value}
    {od_at an_at : Option Addr} {sl_at : Array (Option Value)} {oc_at kV_at dc_at pm_at cd_at ct_at : Value}
    {od_fs an_fs : Option Addr} {sl_fs : Array (Option Value)} {oc_fs kV_fs dc_fs pm_fs cd_fs ct_fs : Value}
    {od_es an_es : Option Addr} {sl_es : Array (Option Value)} {oc_es kV_es dc_es pm_es cd_es ct_es : Value}
    {od_va an_va : Option Addr} {sl_va : Array (Option Value)} {oc_va kV_va dc_va pm_va cd_va ct_va : Value}
    {od_cf an_cf : Option Addr} {sl_cf : Array (Option Value)} {oc_cf kV_cf dc_cf pm_cf cd_cf ct_cf : Value}
    {od_fo an_fo : Option Addr} {sl_fo : Array (Option Value)} {oc_fo kV_fo dc_fo pm_fo cd_fo ct_fo : Value}
    {od_pr an_pr : Option Addr} {sl_pr : Array (Option Value)} {oc_pr kV_pr dc_pr pm_pr cd_pr ct_pr : Value}
    {od_co an_co : Option Addr} {sl_co : Array (Option Value)} {oc_co kV_co dc_co pm_co cd_co ct_co : Value}
    {od_da an_da : Option Addr} {sl_da : Array (Option Value)} {oc_da kV_da dc_da pm_da cd_da ct_da : Value}
    {od_zr an_zr : Option Addr} {sl_zr : Array (Option Value)} {oc_zr kV_zr dc_zr pm_zr cd_zr ct_zr : Value}
    {od_bz an_bz : Option Addr} {sl_bz : Array (Option Value)} {oc_bz kV_bz dc_bz pm_bz cd_bz ct_bz : Value}
    {od_ta an_ta : Option Addr} {sl_ta : Array (Option Value)} {oc_ta kV_ta dc_ta pm_ta cd_ta ct_ta : Value}
    {od_kf an_kf : Option Addr} {sl_kf : Array (Option Value)} {oc_kf kV_kf dc_kf pm_kf cd_kf ct_kf : Value}
    {od_fi an_fi : Option Addr} {sl_fi : Array (Option Value)} {oc_fi kV_fi dc_fi pm_fi cd_fi ct_fi : Value}
    {od_so an_so : Option Addr} {sl_so : Array (Option Value)} {oc_so kV_so dc_so pm_so cd_so ct_so : Value}
    {od_rf an_rf : Option Addr} {sl_rf : Array (Option Value)} {oc_rf kV_rf dc_rf pm_rf ct_rf : Value} {co_rf Pt : Addr}
    {od_rk an_rk : Option Addr} {sl_rk : Array (Option Value)} {oc_rk kV_rk dc_rk pm_rk cd_rk ct_rk : Value}
    (g_C : PySem.W.nsIn K mainGlobals "House" = some (some (.ref C)))
    (g_CA : PySem.W.nsIn K mainGlobals "Act" = some (some (.ref CA)))
    (a_aI : PySem.W.findIn K (.ref CA) "__init__" = some (some (.ref f_aI)))
    (i_aI : PySem.W.isFn K (.ref f_aI) = true)
    (l_aI : K.lookup f_aI = some ⟨oc_aI, od_aI, .func (PySem.W.fnOf "__init__" "Act.__init__" (defArgs sActInit) (defBody sActInit) (defScope sActInit) .none kV_aI dc_aI pm_aI an_aI cd_aI ct_aI), sl_aI⟩)
    (c_aI : PySem.W.codeIn K cd_aI "Act.__init__" = true)
    (k_aI : PySem.W.keepIn K (.ref f_aI) = true)
    (a_aM : PySem.W.findIn K (.ref CA) "may_be_done" = some (some (.ref f_aM)))
    (i_aM : PySem.W.isFn K (.ref f_aM) = true)
    (l_aM : K.lookup f_aM = some ⟨oc_aM, od_aM, .func (PySem.W.fnOf "may_be_done" "Act.may_be_done" (defArgs sMay) (defBody sMay) (defScope sMay) .none kV_aM dc_aM pm_aM an_aM cd_aM ct_aM), sl_aM⟩)
    (c_aM : PySem.W.codeIn K cd_aM "Act.may_be_done" = true)
    (k_aM : PySem.W.keepIn K (.ref f_aM) = true)
    (a_aB : PySem.W.findIn K (.ref CA) "behind" = some (some (.ref f_aB)))
    (i_aB : PySem.W.isFn K (.ref f_aB) = true)
    (l_aB : K.lookup f_aB = some ⟨oc_aB, od_aB, .func (PySem.W.fnOf "behind" "Act.behind" (defArgs sBehind) (defBody sBehind) (defScope sBehind) .none kV_aB dc_aB pm_aB an_aB cd_aB ct_aB), sl_aB⟩)
    (c_aB : PySem.W.codeIn K cd_aB "Act.behind" = true)
    (k_aB : PySem.W.keepIn K (.ref f_aB) = true)
    (a_aK : PySem.W.findIn K (.ref CA) "behind_if_kept" = some (some (.ref f_aK)))
    (i_aK : PySem.W.isFn K (.ref f_aK) = true)
    (l_aK : K.lookup f_aK = some ⟨oc_aK, od_aK, .func (PySem.W.fnOf "behind_if_kept" "Act.behind_if_kept" (defArgs sBehindK) (defBody sBehindK) (defScope sBehindK) .none kV_aK dc_aK pm_aK an_aK cd_aK ct_aK), sl_aK⟩)
    (c_aK : PySem.W.codeIn K cd_aK "Act.behind_if_kept" = true)
    (k_aK : PySem.W.keepIn K (.ref f_aK) = true)
    (a_hI : PySem.W.findIn K (.ref C) "__init__" = some (some (.ref f_hI)))
    (i_hI : PySem.W.isFn K (.ref f_hI) = true)
    (l_hI : K.lookup f_hI = some ⟨oc_hI, od_hI, .func (PySem.W.fnOf "__init__" "House.__init__" (defArgs sHouseInit) (defBody sHouseInit) (defScope sHouseInit) .none kV_hI dc_hI pm_hI an_hI cd_hI ct_hI), sl_hI⟩)
    (c_hI : PySem.W.codeIn K cd_hI "House.__init__" = true)
    (k_hI : PySem.W.keepIn K (.ref f_hI) = true)
    (a_hB : PySem.W.findIn K (.ref C) "begins" = some (some (.ref f_hB)))
    (i_hB : PySem.W.isFn K (.ref f_hB) = true)
    (l_hB : K.lookup f_hB = some ⟨oc_hB, od_hB, .func (PySem.W.fnOf "begins" "House.begins" (defArgs sBegins) (defBody sBegins) (defScope sBegins) .none kV_hB dc_hB pm_hB an_hB cd_hB ct_hB), sl_hB⟩)
    (c_hB : PySem.W.codeIn K cd_hB "House.begins" = true)
    (k_hB : PySem.W.keepIn K (.ref f_hB) = true)
    (a_hA : PySem.W.findIn K (.ref C) "act" = some (some (.ref f_hA)))
    (i_hA : PySem.W.isFn K (.ref f_hA) = true)
    (l_hA : K.lookup f_hA = some ⟨oc_hA, od_hA, .func (PySem.W.fnOf "act" "House.act" (defArgs sAct) (defBody sAct) (defScope sAct) .none kV_hA dc_hA pm_hA an_hA cd_hA ct_hA), sl_hA⟩)
    (c_hA : PySem.W.codeIn K cd_hA "House.act" = true)
    (k_hA : PySem.W.keepIn K (.ref f_hA) = true)
    (a_hG : PySem.W.findIn K (.ref C) "goal" = some (some (.ref f_hG)))
    (i_hG : PySem.W.isFn K (.ref f_hG) = true)
    (l_hG : K.lookup f_hG = some ⟨oc_hG, od_hG, .func (PySem.W.fnOf "goal" "House.goal" (defArgs sGoal) (defBody sGoal) (defScope sGoal) .none kV_hG dc_hG pm_hG an_hG cd_hG ct_hG), sl_hG⟩)
    (c_hG : PySem.W.codeIn K cd_hG "House.goal" = true)
    (k_hG : PySem.W.keepIn K (.ref f_hG) = true)
    (a_iS : PySem.W.nsIn K mainGlobals "is_set_of" = some (some (.ref f_iS)))
    (l_iS : K.lookup f_iS = some ⟨oc_iS, od_iS, .func (PySem.W.fnOf "is_set_of" "is_set_of" (defArgs sIsSet) (defBody sIsSet) (defScope sIsSet) .none kV_iS dc_iS pm_iS an_iS cd_iS ct_iS), sl_iS⟩)
    (c_iS : PySem.W.codeIn K cd_iS "is_set_of" = true)
    (k_iS : PySem.W.keepIn K (.ref f_iS) = true)
    (a_iA : PySem.W.nsIn K mainGlobals "is_act" = some (some (.ref f_iA)))
    (l_iA : K.lookup f_iA = some ⟨oc_iA, od_iA, .func (PySem.W.fnOf "is_act" "is_act" (defArgs sIsAct) (defBody sIsAct) (defScope sIsAct) .none kV_iA dc_iA pm_iA an_iA cd_iA ct_iA), sl_iA⟩)
    (c_iA : PySem.W.codeIn K cd_iA "is_act" = true)
    (k_iA : PySem.W.keepIn K (.ref f_iA) = true)
    (a_me : PySem.W.nsIn K mainGlobals "members" = some (some (.ref f_me)))
    (l_me : K.lookup f_me = some ⟨oc_me, od_me, .func (PySem.W.fnOf "members" "members" (defArgs sMembers) (defBody sMembers) (defScope sMembers) .none kV_me dc_me pm_me an_me cd_me ct_me), sl_me⟩)
    (c_me : PySem.W.codeIn K cd_me "members" = true)
    (k_me : PySem.W.keepIn K (.ref f_me) = true)
    (a_de : PySem.W.nsIn K mainGlobals "dearest_of" = some (some (.ref f_de)))
    (l_de : K.lookup f_de = some ⟨oc_de, od_de, .func (PySem.W.fnOf "dearest_of" "dearest_of" (defArgs sDearest) (defBody sDearest) (defScope sDearest) .none kV_de dc_de pm_de an_de cd_de ct_de), sl_de⟩)
    (c_de : PySem.W.codeIn K cd_de "dearest_of" = true)
    (k_de : PySem.W.keepIn K (.ref f_de) = true)
    (a_to : PySem.W.nsIn K mainGlobals "together_of" = some (some (.ref f_to)))
    (l_to : K.lookup f_to = some ⟨oc_to, od_to, .func (PySem.W.fnOf "together_of" "together_of" (defArgs sTogether) (defBody sTogether) (defScope sTogether) .none kV_to dc_to pm_to an_to cd_to ct_to), sl_to⟩)
    (c_to : PySem.W.codeIn K cd_to "together_of" = true)
    (k_to : PySem.W.keepIn K (.ref f_to) = true)
    (a_wf : PySem.W.nsIn K mainGlobals "worths_from" = some (some (.ref f_wf)))
    (l_wf : K.lookup f_wf = some ⟨oc_wf, od_wf, .func (PySem.W.fnOf "worths_from" "worths_from" (defArgs sWorths) (defBody sWorths) (defScope sWorths) .none kV_wf dc_wf pm_wf an_wf cd_wf ct_wf), sl_wf⟩)
    (c_wf : PySem.W.codeIn K cd_wf "worths_from" = true)
    (k_wf : PySem.W.keepIn K (.ref f_wf) = true)
    (a_of : PySem.W.nsIn K mainGlobals "offer" = some (some (.ref f_of)))
    (l_of : K.lookup f_of = some ⟨oc_of, od_of, .func (PySem.W.fnOf "offer" "offer" (defArgs sOffer) (defBody sOffer) (defScope sOffer) .none kV_of dc_of pm_of an_of cd_of ct_of), sl_of⟩)
    (c_of : PySem.W.codeIn K cd_of "offer" = true)
    (k_of : PySem.W.keepIn K (.ref f_of) = true)
    (a_an : PySem.W.nsIn K mainGlobals "answers" = some (some (.ref f_an)))
    (l_an : K.lookup f_an = some ⟨oc_an, od_an, .func (PySem.W.fnOf "answers" "answers" (defArgs sAnswers) (defBody sAnswers) (defScope sAnswers) .none kV_an dc_an pm_an an_an cd_an ct_an), sl_an⟩)
    (c_an : PySem.W.codeIn K cd_an "answers" = true)
    (k_an : PySem.W.keepIn K (.ref f_an) = true)
    (a_en : PySem.W.nsIn K mainGlobals "end_of_call" = some (some (.ref f_en)))
    (l_en : K.lookup f_en = some ⟨oc_en, od_en, .func (PySem.W.fnOf "end_of_call" "end_of_call" (defArgs sEnd) (defBody sEnd) (defScope sEnd) .none kV_en dc_en pm_en an_en cd_en ct_en), sl_en⟩)
    (c_en : PySem.W.codeIn K cd_en "end_of_call" = true)
    (k_en : PySem.W.keepIn K (.ref f_en) = true)
    (a_at : PySem.W.nsIn K mainGlobals "answer_to" = some (some (.ref f_at)))
    (l_at : K.lookup f_at = some ⟨oc_at, od_at, .func (PySem.W.fnOf "answer_to" "answer_to" (defArgs sAnswerTo) (defBody sAnswerTo) (defScope sAnswerTo) .none kV_at dc_at pm_at an_at cd_at ct_at), sl_at⟩)
    (c_at : PySem.W.codeIn K cd_at "answer_to" = true)
    (k_at : PySem.W.keepIn K (.ref f_at) = true)
    (a_fs : PySem.W.nsIn K mainGlobals "answer_from_state" = some (some (.ref f_fs)))
    (l_fs : K.lookup f_fs = some ⟨oc_fs, od_fs, .func (PySem.W.fnOf "answer_from_state" "answer_from_state" (defArgs sFromState) (defBody sFromState) (defScope sFromState) .none kV_fs dc_fs pm_fs an_fs cd_fs ct_fs), sl_fs⟩)
    (c_fs : PySem.W.codeIn K cd_fs "answer_from_state" = true)
    (k_fs : PySem.W.keepIn K (.ref f_fs) = true)
    (a_es : PySem.W.nsIn K mainGlobals "estimate_from" = some (some (.ref f_es)))
    (l_es : K.lookup f_es = some ⟨oc_es, od_es, .func (PySem.W.fnOf "estimate_from" "estimate_from" (defArgs sEstimate) (defBody sEstimate) (defScope sEstimate) .none kV_es dc_es pm_es an_es cd_es ct_es), sl_es⟩)
    (c_es : PySem.W.codeIn K cd_es "estimate_from" = true)
    (k_es : PySem.W.keepIn K (.ref f_es) = true)
    (a_va : PySem.W.nsIn K mainGlobals "values_from" = some (some (.ref f_va)))
    (l_va : K.lookup f_va = some ⟨oc_va, od_va, .func (PySem.W.fnOf "values_from" "values_from" (defArgs sValues) (defBody sValues) (defScope sValues) .none kV_va dc_va pm_va an_va cd_va ct_va), sl_va⟩)
    (c_va : PySem.W.codeIn K cd_va "values_from" = true)
    (k_va : PySem.W.keepIn K (.ref f_va) = true)
    (a_cf : PySem.W.nsIn K mainGlobals "cuts_from" = some (some (.ref f_cf)))
    (l_cf : K.lookup f_cf = some ⟨oc_cf, od_cf, .func (PySem.W.fnOf "cuts_from" "cuts_from" (defArgs sCutsFrom) (defBody sCutsFrom) (defScope sCutsFrom) .none kV_cf dc_cf pm_cf an_cf cd_cf ct_cf), sl_cf⟩)
    (c_cf : PySem.W.codeIn K cd_cf "cuts_from" = true)
    (k_cf : PySem.W.keepIn K (.ref f_cf) = true)
    (a_fo : PySem.W.nsIn K mainGlobals "found_cuts" = some (some (.ref f_fo)))
    (l_fo : K.lookup f_fo = some ⟨oc_fo, od_fo, .func (PySem.W.fnOf "found_cuts" "found_cuts" (defArgs sFound) (defBody sFound) (defScope sFound) .none kV_fo dc_fo pm_fo an_fo cd_fo ct_fo), sl_fo⟩)
    (c_fo : PySem.W.codeIn K cd_fo "found_cuts" = true)
    (k_fo : PySem.W.keepIn K (.ref f_fo) = true)
    (a_pr : PySem.W.nsIn K mainGlobals "priced_acts" = some (some (.ref f_pr)))
    (l_pr : K.lookup f_pr = some ⟨oc_pr, od_pr, .func (PySem.W.fnOf "priced_acts" "priced_acts" (defArgs sPriced) (defBody sPriced) (defScope sPriced) .none kV_pr dc_pr pm_pr an_pr cd_pr ct_pr), sl_pr⟩)
    (c_pr : PySem.W.codeIn K cd_pr "priced_acts" = true)
    (k_pr : PySem.W.keepIn K (.ref f_pr) = true)
    (a_co : PySem.W.nsIn K mainGlobals "cut_of" = some (some (.ref f_co)))
    (l_co : K.lookup f_co = some ⟨oc_co, od_co, .func (PySem.W.fnOf "cut_of" "cut_of" (defArgs sCut) (defBody sCut) (defScope sCut) .none kV_co dc_co pm_co an_co cd_co ct_co), sl_co⟩)
    (c_co : PySem.W.codeIn K cd_co "cut_of" = true)
    (k_co : PySem.W.keepIn K (.ref f_co) = true)
    (a_da : PySem.W.nsIn K mainGlobals "dear_of" = some (some (.ref f_da)))
    (l_da : K.lookup f_da = some ⟨oc_da, od_da, .func (PySem.W.fnOf "dear_of" "dear_of" (defArgs sDear) (defBody sDear) (defScope sDear) .none kV_da dc_da pm_da an_da cd_da ct_da), sl_da⟩)
    (c_da : PySem.W.codeIn K cd_da "dear_of" = true)
    (k_da : PySem.W.keepIn K (.ref f_da) = true)
    (a_zr : PySem.W.nsIn K mainGlobals "zone_round" = some (some (.ref f_zr)))
    (l_zr : K.lookup f_zr = some ⟨oc_zr, od_zr, .func (PySem.W.fnOf "zone_round" "zone_round" (defArgs sZone) (defBody sZone) (defScope sZone) .none kV_zr dc_zr pm_zr an_zr cd_zr ct_zr), sl_zr⟩)
    (c_zr : PySem.W.codeIn K cd_zr "zone_round" = true)
    (k_zr : PySem.W.keepIn K (.ref f_zr) = true)
    (a_bz : PySem.W.nsIn K mainGlobals "before_zone" = some (some (.ref f_bz)))
    (l_bz : K.lookup f_bz = some ⟨oc_bz, od_bz, .func (PySem.W.fnOf "before_zone" "before_zone" (defArgs sBefore) (defBody sBefore) (defScope sBefore) .none kV_bz dc_bz pm_bz an_bz cd_bz ct_bz), sl_bz⟩)
    (c_bz : PySem.W.codeIn K cd_bz "before_zone" = true)
    (k_bz : PySem.W.keepIn K (.ref f_bz) = true)
    (a_ta : PySem.W.nsIn K mainGlobals "take_off" = some (some (.ref f_ta)))
    (l_ta : K.lookup f_ta = some ⟨oc_ta, od_ta, .func (PySem.W.fnOf "take_off" "take_off" (defArgs sTake) (defBody sTake) (defScope sTake) .none kV_ta dc_ta pm_ta an_ta cd_ta ct_ta), sl_ta⟩)
    (c_ta : PySem.W.codeIn K cd_ta "take_off" = true)
    (k_ta : PySem.W.keepIn K (.ref f_ta) = true)
    (a_kf : PySem.W.nsIn K mainGlobals "kept_from" = some (some (.ref f_kf)))
    (l_kf : K.lookup f_kf = some ⟨oc_kf, od_kf, .func (PySem.W.fnOf "kept_from" "kept_from" (defArgs sKept) (defBody sKept) (defScope sKept) .none kV_kf dc_kf pm_kf an_kf cd_kf ct_kf), sl_kf⟩)
    (c_kf : PySem.W.codeIn K cd_kf "kept_from" = true)
    (k_kf : PySem.W.keepIn K (.ref f_kf) = true)
    (a_fi : PySem.W.nsIn K mainGlobals "first_steps_if_kept" = some (some (.ref f_fi)))
    (l_fi : K.lookup f_fi = some ⟨oc_fi, od_fi, .func (PySem.W.fnOf "first_steps_if_kept" "first_steps_if_kept" (defArgs sFirst) (defBody sFirst) (defScope sFirst) .none kV_fi dc_fi pm_fi an_fi cd_fi ct_fi), sl_fi⟩)
    (c_fi : PySem.W.codeIn K cd_fi "first_steps_if_kept" = true)
    (k_fi : PySem.W.keepIn K (.ref f_fi) = true)
    (a_so : PySem.W.nsIn K mainGlobals "steps_on" = some (some (.ref f_so)))
    (l_so : K.lookup f_so = some ⟨oc_so, od_so, .func (PySem.W.fnOf "steps_on" "steps_on" (defArgs sStepsOn) (defBody sStepsOn) (defScope sStepsOn) .none kV_so dc_so pm_so an_so cd_so ct_so), sl_so⟩)
    (c_so : PySem.W.codeIn K cd_so "steps_on" = true)
    (k_so : PySem.W.keepIn K (.ref f_so) = true)
    (a_rf : PySem.W.nsIn K mainGlobals "real_from" = some (some (.ref f_rf)))
    (l_rf : K.lookup f_rf = some ⟨oc_rf, od_rf, .func (PySem.W.fnOf "real_from" "real_from" (defArgs sReal) (defBody sReal) (defScope sReal) .none kV_rf dc_rf pm_rf an_rf (.ref co_rf) ct_rf), sl_rf⟩)
    (c_rf : PySem.W.codeIn K (.ref co_rf) "real_from" = true)
    (k_rf : PySem.W.keepIn K (.ref f_rf) = true)
    (a_rk : PySem.W.nsIn K mainGlobals "reckoned" = some (some (.ref f_rk)))
    (l_rk : K.lookup f_rk = some ⟨oc_rk, od_rk, .func (PySem.W.fnOf "reckoned" "reckoned" (defArgs sReckoned) (defBody sReckoned) (defScope sReckoned) .none kV_rk dc_rk pm_rk an_rk cd_rk ct_rk), sl_rk⟩)
    (c_rk : PySem.W.codeIn K cd_rk "reckoned" = true)
    (k_rk : PySem.W.keepIn K (.ref f_rk) = true)
    (pg_C : PySem.W.plainGet K C Str.empty = true)
    (hd_C : PySem.W.hasDictIn K C = true)
    (po_C : PySem.W.plainOver K C = true)
    (sa_C : PySem.W.findIn K (.ref C) "__setattr__" = some (some (.builtin "object.__setattr__")))
    (mk_C : PySem.W.makesIn K C = true)
    (kc_C : PySem.W.keepIn K (.ref C) = true)
    (n_C_facts : PySem.W.findIn K (.ref C) "facts" = some none)
    (n_C_wanted : PySem.W.findIn K (.ref C) "wanted" = some none)
    (n_C_acts : PySem.W.findIn K (.ref C) "acts" = some none)
    (pg_CA : PySem.W.plainGet K CA Str.empty = true)
    (hd_CA : PySem.W.hasDictIn K CA = true)
    (po_CA : PySem.W.plainOver K CA = true)
    (sa_CA : PySem.W.findIn K (.ref CA) "__setattr__" = some (some (.builtin "object.__setattr__")))
    (mk_CA : PySem.W.makesIn K CA = true)
    (kc_CA : PySem.W.keepIn K (.ref CA) = true)
    (n_CA_needs : PySem.W.findIn K (.ref CA) "needs" = some none)
    (n_CA_brings : PySem.W.findIn K (.ref CA) "brings" = some none)
    (n_CA_takes : PySem.W.findIn K (.ref CA) "takes" = some none)
    (n_CA_cost : PySem.W.findIn K (.ref CA) "cost" = some none)
    (v_WRONG : PySem.W.nsIn K mainGlobals "WRONG" = some (some (.int (-1) t_WRONG)))
    (v_FULL : PySem.W.nsIn K mainGlobals "FULL" = some (some (.int (-7) t_FULL)))
    (v_CANNOT_BE_HAD : PySem.W.nsIn K mainGlobals "CANNOT_BE_HAD" = some (some (.int (-6) t_CANNOT_BE_HAD)))
    (v_MOST_FACTS : PySem.W.nsIn K mainGlobals "MOST_FACTS" = some (some (.int 8 t_MOST_FACTS)))
    (v_MOST_ACTS : PySem.W.nsIn K mainGlobals "MOST_ACTS" = some (some (.int 12 t_MOST_ACTS)))
    (v_MOST_COST : PySem.W.nsIn K mainGlobals "MOST_COST" = some (some (.int 1000 t_MOST_COST)))
    (v_NUMBERS_OF_AN_ACT : PySem.W.nsIn K mainGlobals "NUMBERS_OF_AN_ACT" = some (some (.int 5 t_NUMBERS_OF_AN_ACT)))
    (v_BEGINS : PySem.W.nsIn K mainGlobals "BEGINS" = some (some (.int 0 t_BEGINS)))
    (v_ACT : PySem.W.nsIn K mainGlobals "ACT" = some (some (.int 1 t_ACT)))
    (v_GOAL : PySem.W.nsIn K mainGlobals "GOAL" = some (some (.int 2 t_GOAL)))
    (v_DEAREST : PySem.W.nsIn K mainGlobals "DEAREST" = some (some (.int 3 t_DEAREST)))
    (v_TOGETHER : PySem.W.nsIn K mainGlobals "TOGETHER" = some (some (.int 4 t_TOGETHER)))
    (v_KEPT : PySem.W.nsIn K mainGlobals "KEPT" = some (some (.int 5 t_KEPT)))
    (v_CUTS : PySem.W.nsIn K mainGlobals "CUTS" = some (some (.int 6 t_CUTS)))
    (v_REAL : PySem.W.nsIn K mainGlobals "REAL" = some (some (.int 7 t_REAL)))
    (b_len : PySem.W.nsIn K mainGlobals "len" = some none)
    (b_range : PySem.W.nsIn K mainGlobals "range" = some none)
    (b_max : PySem.W.nsIn K mainGlobals "max" = some none)
    (b_sum : PySem.W.nsIn K mainGlobals "sum" = some none)
    (b_min : PySem.W.nsIn K mainGlobals "min" = some none)
    (b_enumerate : PySem.W.nsIn K mainGlobals "enumerate" = some none)
    (b_zip : PySem.W.nsIn K mainGlobals "zip" = some none) :
    ∃ fd : FuncData, (∀ (s : Shared) (us : List Value), us.length = (["calls"] : List Str).length → BindsTo s fd ⟨us, []⟩ ((["calls"] : List Str).zip us)) ∧ ∀ base : Heap, K.In base → base.Ns mainGlobals mg → LamX.TabB base mg co_rf Pt → FnOk P w K mg base CX0 10 fa fd ["calls"] (spAnswers K Pt) := by
  have e := hfa.symm.trans (PySem.W.mg_of X G a_an)
  cases e
  have F_aI := fun_mk (st := sActInit) l_aI c_aI k_aI
  have B_aI := F_aI.binds (ps := ["self", "needs", "brings", "takes", "cost"]) fun _ _ _ _ _ _ us hl => match us, hl with | [_, _, _, _, _], _ => rfl
  have F_aM := fun_mk (st := sMay) l_aM c_aM k_aM
  have B_aM := F_aM.binds (ps := ["self", "state"]) fun _ _ _ _ _ _ us hl => match us, hl with | [_, _], _ => rfl
  have F_aB := fun_mk (st := sBehind) l_aB c_aB k_aB
  have B_aB := F_aB.binds (ps := ["self", "state"]) fun _ _ _ _ _ _ us hl => match us, hl with | [_, _], _ => rfl
  have F_aK := fun_mk (st := sBehindK) l_aK c_aK k_aK
  have B_aK := F_aK.binds (ps := ["self", "state"]) fun _ _ _ _ _ _ us hl => match us, hl with | [_, _], _ => rfl
  have F_hI := fun_mk (st := sHouseInit) l_hI c_hI k_hI
  have B_hI := F_hI.binds (ps := ["self"]) fun _ _ _ _ _ _ us hl => match us, hl with | [_], _ => rfl
  have F_hB := fun_mk (st := sBegins) l_hB c_hB k_hB
  have B_hB := F_hB.binds (ps := ["self", "facts", "wanted"]) fun _ _ _ _ _ _ us hl => match us, hl with | [_, _, _], _ => rfl
  have F_hA := fun_mk (st := sAct) l_hA c_hA k_hA
  have B_hA := F_hA.binds (ps := ["self", "told"]) fun _ _ _ _ _ _ us hl => match us, hl with | [_, _], _ => rfl
  have F_hG := fun_mk (st := sGoal) l_hG c_hG k_hG
  have B_hG := F_hG.binds (ps := ["self", "wanted"]) fun _ _ _ _ _ _ us hl => match us, hl with | [_, _], _ => rfl
  have F_iS := fun_mk (st := sIsSet) l_iS c_iS k_iS
  have B_iS := F_iS.binds (ps := ["facts", "number"]) fun _ _ _ _ _ _ us hl => match us, hl with | [_, _], _ => rfl
  have M_iS := PySem.W.mg_of X G a_iS
  have F_iA := fun_mk (st := sIsAct) l_iA c_iA k_iA
  have B_iA := F_iA.binds (ps := ["facts", "told"]) fun _ _ _ _ _ _ us hl => match us, hl with | [_, _], _ => rfl
  have M_iA := PySem.W.mg_of X G a_iA
  have F_me := fun_mk (st := sMembers) l_me c_me k_me
  have B_me := F_me.binds (ps := ["row"]) fun _ _ _ _ _ _ us hl => match us, hl with | [_], _ => rfl
  have M_me := PySem.W.mg_of X G a_me
  have F_de := fun_mk (st := sDearest) l_de c_de k_de
  have B_de := F_de.binds (ps := ["worths", "row"]) fun _ _ _ _ _ _ us hl => match us, hl with | [_, _], _ => rfl
  have M_de := PySem.W.mg_of X G a_de
  have F_to := fun_mk (st := sTogether) l_to c_to k_to
  have B_to := F_to.binds (ps := ["worths", "row"]) fun _ _ _ _ _ _ us hl => match us, hl with | [_, _], _ => rfl
  have M_to := PySem.W.mg_of X G a_to
  have F_wf := fun_mk (st := sWorths) l_wf c_wf k_wf
  have B_wf := F_wf.binds (ps := ["facts", "acts", "state", "worth_of_row"]) fun _ _ _ _ _ _ us hl => match us, hl with | [_, _, _, _], _ => rfl
  have M_wf := PySem.W.mg_of X G a_wf
  have F_of := fun_mk (st := sOffer) l_of c_of k_of
  have B_of := F_of.binds (ps := ["worths", "row", "price"]) fun _ _ _ _ _ _ us hl => match us, hl with | [_, _, _], _ => rfl
  have M_of := PySem.W.mg_of X G a_of
  have F_an := fun_mk (st := sAnswers) l_an c_an k_an
  have M_an := PySem.W.mg_of X G a_an
  have F_en := fun_mk (st := sEnd) l_en c_en k_en
  have B_en := F_en.binds (ps := ["calls", "start"]) fun _ _ _ _ _ _ us hl => match us, hl with | [_, _], _ => rfl
  have M_en := PySem.W.mg_of X G a_en
  have F_at := fun_mk (st := sAnswerTo) l_at c_at k_at
  have B_at := F_at.binds (ps := ["house", "call"]) fun _ _ _ _ _ _ us hl => match us, hl with | [_, _], _ => rfl
  have M_at := PySem.W.mg_of X G a_at
  have F_fs := fun_mk (st := sFromState) l_fs c_fs k_fs
  have B_fs := F_fs.binds (ps := ["house", "number", "state"]) fun _ _ _ _ _ _ us hl => match us, hl with | [_, _, _], _ => rfl
  have M_fs := PySem.W.mg_of X G a_fs
  have F_es := fun_mk (st := sEstimate) l_es c_es k_es
  have B_es := F_es.binds (ps := ["house", "state", "worth_of_row"]) fun _ _ _ _ _ _ us hl => match us, hl with | [_, _, _], _ => rfl
  have M_es := PySem.W.mg_of X G a_es
  have F_va := fun_mk (st := sValues) l_va c_va k_va
  have B_va := F_va.binds (ps := ["house", "state"]) fun _ _ _ _ _ _ us hl => match us, hl with | [_, _], _ => rfl
  have M_va := PySem.W.mg_of X G a_va
  have F_cf := fun_mk (st := sCutsFrom) l_cf c_cf k_cf
  have B_cf := F_cf.binds (ps := ["house", "state"]) fun _ _ _ _ _ _ us hl => match us, hl with | [_, _], _ => rfl
  have M_cf := PySem.W.mg_of X G a_cf
  have F_fo := fun_mk (st := sFound) l_fo c_fo k_fo
  have B_fo := F_fo.binds (ps := ["house", "state"]) fun _ _ _ _ _ _ us hl => match us, hl with | [_, _], _ => rfl
  have M_fo := PySem.W.mg_of X G a_fo
  have F_pr := fun_mk (st := sPriced) l_pr c_pr k_pr
  have B_pr := F_pr.binds (ps := ["house", "always", "end"]) fun _ _ _ _ _ _ us hl => match us, hl with | [_, _, _], _ => rfl
  have M_pr := PySem.W.mg_of X G a_pr
  have F_co := fun_mk (st := sCut) l_co c_co k_co
  have B_co := F_co.binds (ps := ["acts", "worths", "so", "end"]) fun _ _ _ _ _ _ us hl => match us, hl with | [_, _, _, _], _ => rfl
  have M_co := PySem.W.mg_of X G a_co
  have F_da := fun_mk (st := sDear) l_da c_da k_da
  have B_da := F_da.binds (ps := ["worths", "row"]) fun _ _ _ _ _ _ us hl => match us, hl with | [_, _], _ => rfl
  have M_da := PySem.W.mg_of X G a_da
  have F_zr := fun_mk (st := sZone) l_zr c_zr k_zr
  have B_zr := F_zr.binds (ps := ["acts", "dears", "end"]) fun _ _ _ _ _ _ us hl => match us, hl with | [_, _, _], _ => rfl
  have M_zr := PySem.W.mg_of X G a_zr
  have F_bz := fun_mk (st := sBefore) l_bz c_bz k_bz
  have B_bz := F_bz.binds (ps := ["acts", "dears", "so", "zone"]) fun _ _ _ _ _ _ us hl => match us, hl with | [_, _, _, _], _ => rfl
  have M_bz := PySem.W.mg_of X G a_bz
  have F_ta := fun_mk (st := sTake) l_ta c_ta k_ta
  have B_ta := F_ta.binds (ps := ["acts", "cut"]) fun _ _ _ _ _ _ us hl => match us, hl with | [_, _], _ => rfl
  have M_ta := PySem.W.mg_of X G a_ta
  have F_kf := fun_mk (st := sKept) l_kf c_kf k_kf
  have B_kf := F_kf.binds (ps := ["house", "state"]) fun _ _ _ _ _ _ us hl => match us, hl with | [_, _], _ => rfl
  have M_kf := PySem.W.mg_of X G a_kf
  have F_fi := fun_mk (st := sFirst) l_fi c_fi k_fi
  have B_fi := F_fi.binds (ps := ["house"]) fun _ _ _ _ _ _ us hl => match us, hl with | [_], _ => rfl
  have M_fi := PySem.W.mg_of X G a_fi
  have F_so := fun_mk (st := sStepsOn) l_so c_so k_so
  have B_so := F_so.binds (ps := ["acts", "steps", "state"]) fun _ _ _ _ _ _ us hl => match us, hl with | [_, _, _], _ => rfl
  have M_so := PySem.W.mg_of X G a_so
  have F_rf := fun_mk (st := sReal) l_rf c_rf k_rf
  have B_rf := F_rf.binds (ps := ["house", "state"]) fun _ _ _ _ _ _ us hl => match us, hl with | [_, _], _ => rfl
  have M_rf := PySem.W.mg_of X G a_rf
  have F_rk := fun_mk (st := sReckoned) l_rk c_rk k_rk
  have B_rk := F_rk.binds (ps := ["house", "number", "state"]) fun _ _ _ _ _ _ us hl => match us, hl with | [_, _, _], _ => rfl
  have M_rk := PySem.W.mg_of X G a_rk
  have T : Txt K mg C CA := ⟨⟨pg_C, hd_C, po_C, sa_C⟩, n_C_facts, n_C_wanted, n_C_acts, ⟨pg_CA, hd_CA, po_CA, sa_CA⟩, n_CA_needs, n_CA_brings, n_CA_takes, n_CA_cost, PySem.W.mg_of X G g_C, PySem.W.mg_of X G g_CA,
    ⟨_, PySem.W.mg_of X G v_WRONG⟩, ⟨_, PySem.W.mg_of X G v_FULL⟩, ⟨_, PySem.W.mg_of X G v_CANNOT_BE_HAD⟩, ⟨_, PySem.W.mg_of X G v_MOST_FACTS⟩, ⟨_, PySem.W.mg_of X G v_MOST_ACTS⟩, ⟨_, PySem.W.mg_of X G v_MOST_COST⟩, ⟨_, PySem.W.mg_of X G v_NUMBERS_OF_AN_ACT⟩, PySem.W.mg_none_of X G b_len⟩
  have mB : ∃ t, mg "BEGINS" = some (.int 0 t) := ⟨_, PySem.W.mg_of X G v_BEGINS⟩
  have mAc : ∃ t, mg "ACT" = some (.int 1 t) := ⟨_, PySem.W.mg_of X G v_ACT⟩
  have mGo : ∃ t, mg "GOAL" = some (.int 2 t) := ⟨_, PySem.W.mg_of X G v_GOAL⟩
  have mR := PySem.W.mg_none_of X G b_range
  have mX := PySem.W.mg_none_of X G b_max
  have mSu := PySem.W.mg_none_of X G b_sum
  have mN := PySem.W.mg_none_of X G b_min
  have mEn := PySem.W.mg_none_of X G b_enumerate
  have mZ := PySem.W.mg_none_of X G b_zip
  refine ⟨PySem.W.fnOf "answers" "answers" (defArgs sAnswers) (defBody sAnswers) (defScope sAnswers) .none kV_an dc_an pm_an an_an cd_an ct_an, fun s us hu => match us, hu with | [_], _ => .of_eq rfl, fun base _ _ TB => ?_⟩
  have GB : FnOk P w K mg base CX0 2 f_hB _ ["self", "facts", "wanted"] (spBegins C CA) := ok_begins F_hB T F_iS M_iS B_iS
  have GAc : FnOk P w K mg base CX0 3 f_hA _ ["self", "told"] (spAct K C CA) := ok_act F_hA T F_iS M_iS B_iS F_iA M_iA B_iA ⟨mk_CA, a_aI, i_aI, kc_CA⟩ F_aI B_aI
  have GG : FnOk P w K mg base CX0 2 f_hG _ ["self", "wanted"] (spGoal C CA) := ok_goal F_hG T F_iS M_iS B_iS
  have GD : FnOk P w K mg base CX0 2 f_de _ ["worths", "row"] (spRow K false) := ok_dearest F_de F_me M_me B_me mR mX
  have GTo : FnOk P w K mg base CX0 2 f_to _ ["worths", "row"] (spRow K true) := ok_together F_to F_me M_me B_me mR mSu
  have GWd : FnOk P w K mg base CX0 3 f_wf _ ["facts", "acts", "state", "worth_of_row"] (spWorths K CA f_de false) := ok_worths F_wf T F_of M_of B_of F_me M_me B_me mR F_de GD B_de
  have GWt : FnOk P w K mg base CX0 3 f_wf _ ["facts", "acts", "state", "worth_of_row"] (spWorths K CA f_to true) := ok_worths F_wf T F_of M_of B_of F_me M_me B_me mR F_to GTo B_to
  have GEd : FnOk P w K mg base CX0 4 f_es _ ["house", "state", "worth_of_row"] (spEstimate C CA f_de false) := ok_estimate F_es T F_wf.kp M_wf B_wf GWd F_de GD B_de
  have GEt : FnOk P w K mg base CX0 4 f_es _ ["house", "state", "worth_of_row"] (spEstimate C CA f_to true) := ok_estimate F_es T F_wf.kp M_wf B_wf GWt F_to GTo B_to
  have GM : FnOk P w K mg base CX0 1 f_aM _ ["self", "state"] (spMay CA) := ok_may F_aM T
  have GBe : FnOk P w K mg base CX0 1 f_aB _ ["self", "state"] (spBehind CA) := ok_behind F_aB T
  have GBK : FnOk P w K mg base CX0 1 f_aK _ ["self", "state"] (spBehindK CA) := ok_behindK F_aK T
  have GSO : FnOk P w K mg base CX0 2 f_so _ ["acts", "steps", "state"] (spStepsOn K CA) := ok_stepsOn F_so T mEn GM B_aM ⟨a_aM, i_aM, k_aM⟩ GBK B_aK ⟨a_aK, i_aK, k_aK⟩
  have GFi : FnOk P w K mg base CX0 3 f_fi _ ["house"] (spFirst C CA) := ok_first F_fi T mR mN F_so.kp M_so B_so GSO
  have GK : FnOk P w K mg base CX0 4 f_kf _ ["house", "state"] (spKept C CA) := ok_kept F_kf T F_fi.kp M_fi B_fi GFi GBK B_aK ⟨a_aK, i_aK, k_aK⟩
  have GRe : FnOk P w K mg base CX0 3 f_rf _ ["house", "state"] (spReal C CA Pt) := ok_real l_rf c_rf TB T mN GM B_aM ⟨a_aM, i_aM, k_aM⟩ GBe B_aB ⟨a_aB, i_aB, k_aB⟩
  have GDe : FnOk P w K mg base CX0 3 f_da _ ["worths", "row"] (spDear K) := ok_dear F_da F_me M_me B_me mR mN F_de.kp M_de B_de GD
  have GZo : FnOk P w K mg base CX0 1 f_zr _ ["acts", "dears", "end"] (spZone K CA) := ok_zone F_zr T mZ
  have GBz : FnOk P w K mg base CX0 1 f_bz _ ["acts", "dears", "so", "zone"] (spBefore K CA) := ok_before F_bz T mZ
  have GCu : FnOk P w K mg base CX0 4 f_co _ ["acts", "worths", "so", "end"] (spCut K CA) := ok_cut F_co T mEn F_da.kp M_da B_da GDe F_zr.kp M_zr B_zr GZo F_bz.kp M_bz B_bz GBz
  have GTa : FnOk P w K mg base CX0 1 f_ta _ ["acts", "cut"] (spTake CA) := ok_take F_ta T mN
  have GPr : FnOk P w K mg base CX0 3 f_pr _ ["house", "always", "end"] (spPriced C CA) := ok_priced F_pr T ⟨mk_CA, a_aI, i_aI, kc_CA⟩ F_aI B_aI
  have GFo : FnOk P w K mg base CX0 5 f_fo _ ["house", "state"] (spFound C CA) := ok_found F_fo T F_pr.kp M_pr B_pr GPr F_wf.kp M_wf B_wf GWd F_de.kp M_de B_de GD F_co.kp M_co B_co GCu F_ta.kp M_ta B_ta GTa
  have GCf : FnOk P w K mg base CX0 6 f_cf _ ["house", "state"] (spCutsFrom C CA) := ok_cutsFrom F_cf T mSu F_fo.kp M_fo B_fo GFo
  have GVa : FnOk P w K mg base CX0 4 f_va _ ["house", "state"] (spValues C CA) := ok_values F_va T M_de F_wf.kp M_wf B_wf GWd
  have GRk : FnOk P w K mg base CX0 7 f_rk _ ["house", "number", "state"] (spReckoned C CA Pt) := ok_reckoned F_rk ⟨_, PySem.W.mg_of X G v_DEAREST⟩ ⟨_, PySem.W.mg_of X G v_TOGETHER⟩ ⟨_, PySem.W.mg_of X G v_KEPT⟩ ⟨_, PySem.W.mg_of X G v_CUTS⟩ ⟨_, PySem.W.mg_of X G v_REAL⟩ M_de M_to F_es.kp M_es B_es GEd GEt F_kf.kp M_kf B_kf GK F_cf.kp M_cf B_cf GCf F_rf.kp M_rf B_rf GRe F_va.kp M_va B_va GVa
  have GS : FnOk P w K mg base CX0 8 f_fs _ ["house", "number", "state"] (spFromState C CA Pt) := ok_fromState F_fs T F_iS M_iS B_iS F_rk.kp M_rk B_rk GRk
  have GA : FnOk P w K mg base CX0 9 f_at _ ["house", "call"] (spAnswerTo K C CA Pt) := ok_answerTo (kS := 8) (by decide) F_at T mB mAc mGo GB B_hB ⟨a_hB, i_hB, k_hB⟩ GAc B_hA ⟨a_hA, i_hA, k_hA⟩ GG B_hG ⟨a_hG, i_hG, k_hG⟩ F_fs.kp M_fs B_fs GS
  exact ok_answers (kA := 9) (by decide) F_an T ⟨mk_C, a_hI, i_hI, kc_C⟩ F_hI B_hI F_en M_en B_en mB mAc F_at.kp M_at B_at GA
end My

set_option Elab.async false
set_option maxRecDepth 100000
set_option maxHeartbeats 4000000
open PySem PySem.W PyProof.Rows
set_option maxRecDepth 100000 in
set_option maxHeartbeats 0 in
theorem PySem.Challenge.cw_planestimates_s01_answers_holds : PySem.Challenge.rw_planestimates_s01_answers.Holds := by
  w_on; k_headS; (case hw => exact ⟨[.list [.int 2, .int 0]], by decide +kernel, by decide +kernel⟩)
  k_fillS
  refine My.walk_specT (r := PySem.Challenge.rw_planestimates_s01_answers) (k := 10) (ps := ["calls"]) (sp := My.spAnswers) (x := "real_from") (by decide +kernel) rfl rfl ⟨rfl, by decide, by decide⟩ (fun w h Y => PySem.W.kIn_of Y) 226 222 rfl (fun w => by kernel_rfl) (fun w => by kernel_rfl) ?F ?S
  case F =>
    intro w mg fa h Y KX G hmg
    refine' My.all_mk (co_rf := 226) (Pt := 222) KX G hmg ?g_C ?g_CA ?a_aI ?i_aI ?l_aI ?c_aI ?k_aI ?a_aM ?i_aM ?l_aM ?c_aM ?k_aM ?a_aB ?i_aB ?l_aB ?c_aB ?k_aB ?a_aK ?i_aK ?l_aK ?c_aK ?k_aK ?a_hI ?i_hI ?l_hI ?c_hI ?k_hI ?a_hB ?i_hB ?l_hB ?c_hB ?k_hB ?a_hA ?i_hA ?l_hA ?c_hA ?k_hA ?a_hG ?i_hG ?l_hG ?c_hG ?k_hG ?a_iS ?l_iS ?c_iS ?k_iS ?a_iA ?l_iA ?c_iA ?k_iA ?a_me ?l_me ?c_me ?k_me ?a_de ?l_de ?c_de ?k_de ?a_to ?l_to ?c_to ?k_to ?a_wf ?l_wf ?c_wf ?k_wf ?a_of ?l_of ?c_of ?k_of ?a_an ?l_an ?c_an ?k_an ?a_en ?l_en ?c_en ?k_en ?a_at ?l_at ?c_at ?k_at ?a_fs ?l_fs ?c_fs ?k_fs ?a_es ?l_es ?c_es ?k_es ?a_va ?l_va ?c_va ?k_va ?a_cf ?l_cf ?c_cf ?k_cf ?a_fo ?l_fo ?c_fo ?k_fo ?a_pr ?l_pr ?c_pr ?k_pr ?a_co ?l_co ?c_co ?k_co ?a_da ?l_da ?c_da ?k_da ?a_zr ?l_zr ?c_zr ?k_zr ?a_bz ?l_bz ?c_bz ?k_bz ?a_ta ?l_ta ?c_ta ?k_ta ?a_kf ?l_kf ?c_kf ?k_kf ?a_fi ?l_fi ?c_fi ?k_fi ?a_so ?l_so ?c_so ?k_so ?a_rf ?l_rf ?c_rf ?k_rf ?a_rk ?l_rk ?c_rk ?k_rk ?pg_C ?hd_C ?po_C ?sa_C ?mk_C ?kc_C ?n_C_facts ?n_C_wanted ?n_C_acts ?pg_CA ?hd_CA ?po_CA ?sa_CA ?mk_CA ?kc_CA ?n_CA_needs ?n_CA_brings ?n_CA_takes ?n_CA_cost ?v_WRONG ?v_FULL ?v_CANNOT_BE_HAD ?v_MOST_FACTS ?v_MOST_ACTS ?v_MOST_COST ?v_NUMBERS_OF_AN_ACT ?v_BEGINS ?v_ACT ?v_GOAL ?v_DEAREST ?v_TOGETHER ?v_KEPT ?v_CUTS ?v_REAL ?b_len ?b_range ?b_max ?b_sum ?b_min ?b_enumerate ?b_zip
    (case g_C => k_is)
    (case g_CA => k_is)
    (case a_aI => k_is)
    (case i_aI => k_is)
    (case l_aI => k_is)
    (case c_aI => k_is)
    (case k_aI => k_is)
    (case a_aM => k_is)
    (case i_aM => k_is)
    (case l_aM => k_is)
    (case c_aM => k_is)
    (case k_aM => k_is)
    (case a_aB => k_is)
    (case i_aB => k_is)
    (case l_aB => k_is)
    (case c_aB => k_is)
    (case k_aB => k_is)
    (case a_aK => k_is)
    (case i_aK => k_is)
    (case l_aK => k_is)
    (case c_aK => k_is)
    (case k_aK => k_is)
    (case a_hI => k_is)
    (case i_hI => k_is)
    (case l_hI => k_is)
    (case c_hI => k_is)
    (case k_hI => k_is)
    (case a_hB => k_is)
    (case i_hB => k_is)
    (case l_hB => k_is)
    (case c_hB => k_is)
    (case k_hB => k_is)
    (case a_hA => k_is)
    (case i_hA => k_is)
    (case l_hA => k_is)
    (case c_hA => k_is)
    (case k_hA => k_is)
    (case a_hG => k_is)
    (case i_hG => k_is)
    (case l_hG => k_is)
    (case c_hG => k_is)
    (case k_hG => k_is)
    (case a_iS => k_is)
    (case l_iS => k_is)
    (case c_iS => k_is)
    (case k_iS => k_is)
    (case a_iA => k_is)
    (case l_iA => k_is)
    (case c_iA => k_is)
    (case k_iA => k_is)
    (case a_me => k_is)
    (case l_me => k_is)
    (case c_me => k_is)
    (case k_me => k_is)
    (case a_de => k_is)
    (case l_de => k_is)
    (case c_de => k_is)
    (case k_de => k_is)
    (case a_to => k_is)
    (case l_to => k_is)
    (case c_to => k_is)
    (case k_to => k_is)
    (case a_wf => k_is)
    (case l_wf => k_is)
    (case c_wf => k_is)
    (case k_wf => k_is)
    (case a_of => k_is)
    (case l_of => k_is)
    (case c_of => k_is)
    (case k_of => k_is)
    (case a_an => k_is)
    (case l_an => k_is)
    (case c_an => k_is)
    (case k_an => k_is)
    (case a_en => k_is)
    (case l_en => k_is)
    (case c_en => k_is)
    (case k_en => k_is)
    (case a_at => k_is)
    (case l_at => k_is)
    (case c_at => k_is)
    (case k_at => k_is)
    (case a_fs => k_is)
    (case l_fs => k_is)
    (case c_fs => k_is)
    (case k_fs => k_is)
    (case a_es => k_is)
    (case l_es => k_is)
    (case c_es => k_is)
    (case k_es => k_is)
    (case a_va => k_is)
    (case l_va => k_is)
    (case c_va => k_is)
    (case k_va => k_is)
    (case a_cf => k_is)
    (case l_cf => k_is)
    (case c_cf => k_is)
    (case k_cf => k_is)
    (case a_fo => k_is)
    (case l_fo => k_is)
    (case c_fo => k_is)
    (case k_fo => k_is)
    (case a_pr => k_is)
    (case l_pr => k_is)
    (case c_pr => k_is)
    (case k_pr => k_is)
    (case a_co => k_is)
    (case l_co => k_is)
    (case c_co => k_is)
    (case k_co => k_is)
    (case a_da => k_is)
    (case l_da => k_is)
    (case c_da => k_is)
    (case k_da => k_is)
    (case a_zr => k_is)
    (case l_zr => k_is)
    (case c_zr => k_is)
    (case k_zr => k_is)
    (case a_bz => k_is)
    (case l_bz => k_is)
    (case c_bz => k_is)
    (case k_bz => k_is)
    (case a_ta => k_is)
    (case l_ta => k_is)
    (case c_ta => k_is)
    (case k_ta => k_is)
    (case a_kf => k_is)
    (case l_kf => k_is)
    (case c_kf => k_is)
    (case k_kf => k_is)
    (case a_fi => k_is)
    (case l_fi => k_is)
    (case c_fi => k_is)
    (case k_fi => k_is)
    (case a_so => k_is)
    (case l_so => k_is)
    (case c_so => k_is)
    (case k_so => k_is)
    (case a_rf => k_is)
    (case l_rf => k_is)
    (case c_rf => k_is)
    (case k_rf => k_is)
    (case a_rk => k_is)
    (case l_rk => k_is)
    (case c_rk => k_is)
    (case k_rk => k_is)
    (case pg_C => k_is)
    (case hd_C => k_is)
    (case po_C => k_is)
    (case sa_C => k_is)
    (case mk_C => k_is)
    (case kc_C => k_is)
    (case n_C_facts => k_is)
    (case n_C_wanted => k_is)
    (case n_C_acts => k_is)
    (case pg_CA => k_is)
    (case hd_CA => k_is)
    (case po_CA => k_is)
    (case sa_CA => k_is)
    (case mk_CA => k_is)
    (case kc_CA => k_is)
    (case n_CA_needs => k_is)
    (case n_CA_brings => k_is)
    (case n_CA_takes => k_is)
    (case n_CA_cost => k_is)
    (case v_WRONG => k_is)
    (case v_FULL => k_is)
    (case v_CANNOT_BE_HAD => k_is)
    (case v_MOST_FACTS => k_is)
    (case v_MOST_ACTS => k_is)
    (case v_MOST_COST => k_is)
    (case v_NUMBERS_OF_AN_ACT => k_is)
    (case v_BEGINS => k_is)
    (case v_ACT => k_is)
    (case v_GOAL => k_is)
    (case v_DEAREST => k_is)
    (case v_TOGETHER => k_is)
    (case v_KEPT => k_is)
    (case v_CUTS => k_is)
    (case v_REAL => k_is)
    (case b_len => k_is)
    (case b_range => k_is)
    (case b_max => k_is)
    (case b_sum => k_is)
    (case b_min => k_is)
    (case b_enumerate => k_is)
    (case b_zip => k_is)
  case S =>
    intro K H xs a hP _ hwi hask hx
    cases hx with
    | cons h1 h2 =>
      cases h2
      cases h1 with
      | lst hs ha =>
        have e := L2.ints_dw a.1 _ ha
        subst e
        exact ⟨_, a.1, rfl, hs, hP, hask, fun H' p hp => .lst (L2.SqL.of hp) (L2.dw_ints _)⟩
#print axioms PySem.Challenge.cw_planestimates_s01_answers_holds

