import PyProof.Rows.All
import Rc61Spec
import PyRc61
import PyFlatLaws
import Wide.All
import OpenK.AllK
import Wide.FinOn
import Open.SpecLaws
import KE.OsGo
import KE.DataMinMax
import HandS.ForSpec
import HandS.Comp
import HandS.Iter
import HandS.Conv
import HandS.SetFor
import HandS.Text
import HandS.Walk
import KE.KEqDeep
import KE.SortData
import HandS.WideBits
import HandS.SortOrd
import PySem.Challenge.RW_turnvotes_s01_answers
set_option Elab.async false
set_option linter.all false
/-! bits, groups -/
namespace Tv
open List

/-! ### sums and bits -/
theorem setOf_zero (f : Nat → Bool) : Rc61.setOf 0 f = 0 := rfl
theorem setOf_succ (n : Nat) (f : Nat → Bool) : Rc61.setOf (n + 1) f = Rc61.setOf n f + (if f n = true then 2 ^ n else 0) := by
  unfold Rc61.setOf
  rw [List.range_succ, List.map_append, List.sum_append]
  simp
theorem setOf_lt (f : Nat → Bool) : ∀ n, Rc61.setOf n f < 2 ^ n
  | 0 => by rw [setOf_zero]; decide
  | n + 1 => by
    rw [setOf_succ, Nat.pow_succ]
    have := setOf_lt f n
    split <;> omega
theorem add_bit {x n i : Nat} (h : x < 2 ^ n) : (x + 2 ^ n).testBit i = (x.testBit i || decide (i = n)) := by
  rcases Nat.lt_trichotomy i n with c | c | c
  · rw [Nat.add_comm, Nat.testBit_two_pow_add_gt c]
    simp [Nat.ne_of_lt c]
  · subst c
    rw [Nat.add_comm, Nat.testBit_two_pow_add_eq, Nat.testBit_lt_two_pow h]
    simp
  · have h1 : x + 2 ^ n < 2 ^ i := by
      have : 2 ^ (n + 1) ≤ 2 ^ i := Nat.pow_le_pow_right (by decide) c
      rw [Nat.pow_succ] at this
      omega
    have h2 : x < 2 ^ i := by omega
    rw [Nat.testBit_lt_two_pow h1, Nat.testBit_lt_two_pow h2]
    have : ¬ i = n := by omega
    simp [this]
theorem setOf_bit (f : Nat → Bool) (i : Nat) : ∀ n, (Rc61.setOf n f).testBit i = (decide (i < n) && f i)
  | 0 => by rw [setOf_zero]; simp
  | n + 1 => by
    have ih := setOf_bit f i n
    rw [setOf_succ]
    by_cases c : f n = true
    · rw [if_pos c, add_bit (setOf_lt f n), ih]
      by_cases e : i = n
      · subst e; simp [c]
      · have : decide (i < n + 1) = decide (i < n) := decide_eq_decide.mpr (by omega)
        simp [e, this]
    · rw [if_neg c, Nat.add_zero, ih]
      by_cases e : i = n
      · subst e; simp [c]
      · have : decide (i < n + 1) = decide (i < n) := decide_eq_decide.mpr (by omega)
        simp [this]
theorem setOf_congr {n : Nat} {f g : Nat → Bool} (h : ∀ i, i < n → f i = g i) : Rc61.setOf n f = Rc61.setOf n g := by
  refine Nat.eq_of_testBit_eq fun i => ?_
  rw [setOf_bit, setOf_bit]
  by_cases c : i < n
  · rw [h i c]
  · simp [c]
/-- the sum of 2 to each member -/
def gsum (l : List Nat) : Nat := (l.map fun i => 2 ^ i).sum
theorem gsum_filter (f : Nat → Bool) : ∀ n, gsum ((List.range n).filter f) = Rc61.setOf n f
  | 0 => rfl
  | n + 1 => by
    rw [setOf_succ, ← gsum_filter f n, List.range_succ, List.filter_append]
    unfold gsum
    rw [List.map_append, List.sum_append]
    by_cases c : f n = true
    · simp [c]
    · simp [c]
theorem gsum_one (c : Nat) : gsum [c] = 2 ^ c := by simp [gsum]
theorem gsum_range (n : Nat) : gsum (List.range n) = Rc61.setOf n fun _ => true := by
  rw [← gsum_filter]
  rw [List.filter_eq_self.mpr (fun _ _ => rfl)]
/-- the members of a group of those below n, the least first -/
def mem (n g : Nat) : List Nat := (List.range n).filter fun i => g.testBit i
theorem mem_mem {n g i : Nat} : i ∈ mem n g ↔ i < n ∧ g.testBit i = true := by
  unfold mem
  rw [List.mem_filter, List.mem_range]
theorem mem_nodup (n g : Nat) : (mem n g).Nodup := List.Pairwise.filter _ List.nodup_range
theorem mem_lt (n g : Nat) : (mem n g).Pairwise (· < ·) := List.Pairwise.filter _ List.pairwise_lt_range
theorem mem_setOf (n : Nat) (f : Nat → Bool) : mem n (Rc61.setOf n f) = (List.range n).filter f := by
  unfold mem
  refine List.filter_congr fun i hi => ?_
  rw [setOf_bit, decide_eq_true (List.mem_range.mp hi), Bool.true_and]
theorem bit_lt {g n i : Nat} (h : g < 2 ^ n) (b : g.testBit i = true) : i < n := by
  rcases Nat.lt_or_ge i n with c | c
  · exact c
  · have : g < 2 ^ i := Nat.lt_of_lt_of_le h (Nat.pow_le_pow_right (by decide) c)
    rw [Nat.testBit_lt_two_pow this] at b
    cases b
/-- the members found among the first m, where the group is below 2 to m -/
theorem mem_any {g n m : Nat} (h : g < 2 ^ n) (h2 : g < 2 ^ m) : mem m g = mem n g := by
  have key : ∀ a b : Nat, g < 2 ^ a → mem (a + b) g = mem a g := by
    intro a b ha
    induction b with
    | zero => rfl
    | succ b ih =>
      unfold mem at ih ⊢
      rw [← Nat.add_assoc, List.range_succ, List.filter_append, ih]
      have : g.testBit (a + b) = false := Nat.testBit_lt_two_pow (Nat.lt_of_lt_of_le ha (Nat.pow_le_pow_right (by decide) (by omega)))
      simp [this]
  rcases Nat.le_total n m with c | c
  · obtain ⟨b, rfl⟩ := Nat.exists_eq_add_of_le c
    exact key n b h
  · obtain ⟨b, rfl⟩ := Nat.exists_eq_add_of_le c
    exact (key m b h2).symm
/-- subset, and less -/
theorem sub_le {a b : Nat} (h : ∀ i, a.testBit i = true → b.testBit i = true) : a ≤ b := by
  have e : a ||| b = b := by
    refine Nat.eq_of_testBit_eq fun i => ?_
    rw [Nat.testBit_or]
    cases q : a.testBit i with
    | false => simp
    | true => simp [h i q]
  have := Nat.left_le_or (n := a) (m := b)
  omega
theorem sub_eq {a b : Nat} (h1 : ∀ i, a.testBit i = true → b.testBit i = true) (h2 : ∀ i, b.testBit i = true → a.testBit i = true) : a = b :=
  Nat.le_antisymm (sub_le h1) (sub_le h2)
theorem lt_of_bits {g n : Nat} (h : ∀ i, g.testBit i = true → i < n) : g < 2 ^ n := by
  have : g ≤ Rc61.setOf n (fun _ => true) := sub_le fun i b => by
    rw [setOf_bit]; simp [h i b]
  exact Nat.lt_of_le_of_lt this (setOf_lt _ n)
theorem bit_two_pow (i j : Nat) : (2 ^ i).testBit j = decide (j = i) := by
  rw [Nat.testBit_two_pow]
  by_cases c : i = j
  · subst c; simp
  · have : ¬ j = i := fun z => c z.symm
    simp [c, this]

/-! ### beats -/
theorem beats_irr (b : List Rc61.Ballot) (i : Nat) : Rc61.beats b i i = false := by
  unfold Rc61.beats
  simp
theorem beats_asym {b : List Rc61.Ballot} {i j : Nat} (h : Rc61.beats b i j = true) : Rc61.beats b j i = false := by
  unfold Rc61.beats at h ⊢
  simp at h ⊢
  omega
theorem wins_self (b : List Rc61.Ballot) (i : Nat) : Rc61.wins b i i = 0 := by
  unfold Rc61.wins
  have e : (b.filter fun x => decide (Rc61.place x.1 i < Rc61.place x.1 i)) = [] := List.filter_eq_nil_iff.mpr fun x _ => by simp
  rw [e]
  rfl

/-- those whom one doesn't beat -/
def unb (n : Nat) (b : List Rc61.Ballot) (i : Nat) : Nat := Rc61.setOf n fun j => !Rc61.beats b i j
theorem unb_bit {n : Nat} {b : List Rc61.Ballot} {i j : Nat} : (unb n b i).testBit j = true ↔ j < n ∧ Rc61.beats b i j = false := by
  unfold unb
  rw [setOf_bit]
  simp

/-! ### first -/
theorem first_step {n : Nat} {b : List Rc61.Ballot} {i : Nat} (hi : i < n) : (unb n b i = 2 ^ i) ↔ ((List.range n).all fun j => i == j || Rc61.beats b i j) = true := by
  rw [List.all_eq_true]
  constructor
  · intro e j hj
    have hj := List.mem_range.mp hj
    by_cases c : i = j
    · simp [c]
    · have q : (unb n b i).testBit j = false := by
        rw [e, bit_two_pow]
        exact decide_eq_false fun z => c z.symm
      cases r : Rc61.beats b i j with
      | true => simp
      | false =>
        rw [unb_bit.mpr ⟨hj, r⟩] at q
        cases q
  · intro h
    refine sub_eq (fun j q => ?_) fun j q => ?_
    · obtain ⟨hj, r⟩ := unb_bit.mp q
      have := h j (List.mem_range.mpr hj)
      rw [r] at this
      have e : i = j := by simpa using this
      rw [bit_two_pow, e]
      simp
    · rw [bit_two_pow] at q
      have e := of_decide_eq_true q
      subst e
      exact unb_bit.mpr ⟨hi, beats_irr b j⟩

/-! ### the smallest group -/
theorem isOver_iff {n : Nat} {b : List Rc61.Ballot} {t : Nat} (ht : t < 2 ^ n) : Rc61.isOver n b t = true ↔ t ≠ 0 ∧ ∀ i j, t.testBit i = true → j < n → Rc61.beats b i j = false → t.testBit j = true := by
  unfold Rc61.isOver Rc61.has
  constructor
  · intro h
    simp only [Bool.and_eq_true, bne_iff_ne, ne_eq, List.all_eq_true, List.mem_range] at h
    refine ⟨h.1, fun i j hi hj q => ?_⟩
    have := h.2 i (bit_lt ht hi) j hj
    rw [hi, q] at this
    simpa using this
  · rintro ⟨h1, h2⟩
    simp only [Bool.and_eq_true, bne_iff_ne, ne_eq, List.all_eq_true, List.mem_range]
    refine ⟨h1, fun i _ j hj => ?_⟩
    cases q : t.testBit i with
    | false => simp
    | true =>
      cases r : Rc61.beats b i j with
      | true => simp
      | false => simp [h2 i j q hj r]
/-- what the loops make around c -/
structure Around (n : Nat) (b : List Rc61.Ballot) (c g : Nat) : Prop where
  lt : g < 2 ^ n
  has : g.testBit c = true
  over : ∀ i j, g.testBit i = true → j < n → Rc61.beats b i j = false → g.testBit j = true
  least : ∀ t, t < 2 ^ n → (∀ i j, t.testBit i = true → j < n → Rc61.beats b i j = false → t.testBit j = true) → t.testBit c = true → ∀ i, g.testBit i = true → t.testBit i = true
theorem around_uniq {n : Nat} {b : List Rc61.Ballot} {c g h : Nat} (x : Around n b c g) (y : Around n b c h) : g = h :=
  sub_eq (x.least h y.lt y.over y.has) (y.least g x.lt x.over x.has)
theorem ne_zero_bit {t : Nat} (h : t ≠ 0) : ∃ i, t.testBit i = true := Nat.exists_testBit_of_ne_zero h
theorem bit_ne_zero {t i : Nat} (h : t.testBit i = true) : t ≠ 0 := by
  rintro rfl
  simp at h
/-- the least of them is the smallest group -/
theorem smallest_is {n : Nat} {b : List Rc61.Ballot} {f : Nat → Nat} {m : Nat} (hf : ∀ c, c < n → Around n b c (f c)) (hm : ∃ c, c < n ∧ m = f c) (hl : ∀ c, c < n → m ≤ f c) : Rc61.smallestOf n b = m := by
  obtain ⟨c0, hc0, rfl⟩ := hm
  have A := hf c0 hc0
  -- it lies in every such group
  have key : ∀ t, t < 2 ^ n → Rc61.isOver n b t = true → ∀ i, (f c0).testBit i = true → t.testBit i = true := by
    intro t ht ho
    obtain ⟨tz, to⟩ := (isOver_iff ht).mp ho
    by_cases sub : ∀ i, (f c0).testBit i = true → t.testBit i = true
    · exact sub
    · -- then t lies in it
      obtain ⟨i, hi⟩ := Classical.not_forall.mp sub
      obtain ⟨hi1, hi2⟩ : (f c0).testBit i = true ∧ t.testBit i = false := by
        cases q : (f c0).testBit i with
        | false => rw [q] at hi; exact absurd (fun z => by cases z) hi
        | true => cases r : t.testBit i with
          | false => exact ⟨rfl, rfl⟩
          | true => exact absurd (fun _ => r) hi
      have hin := bit_lt A.lt hi1
      have tin : ∀ j, t.testBit j = true → (f c0).testBit j = true := by
        intro j hj
        cases q : Rc61.beats b i j with
        | false => exact A.over i j hi1 (bit_lt ht hj) q
        | true =>
          have := to j i hj hin (beats_asym q)
          rw [hi2] at this
          cases this
      obtain ⟨c, hc⟩ := ne_zero_bit tz
      have hcn := bit_lt ht hc
      have B := hf c hcn
      have s1 : f c ≤ t := sub_le (B.least t ht to hc)
      have s2 : t ≤ f c0 := sub_le tin
      have s3 := hl c hcn
      have e : t = f c0 := by omega
      rw [e]
      exact fun i q => q
  have hover : Rc61.isOver n b (f c0) = true := (isOver_iff A.lt).mpr ⟨bit_ne_zero A.has, A.over⟩
  unfold Rc61.smallestOf
  dsimp only
  have hmem : f c0 ∈ (List.range (2 ^ n)).filter (Rc61.isOver n b) := List.mem_filter.mpr ⟨List.mem_range.mpr A.lt, hover⟩
  have hp : (((List.range (2 ^ n)).filter (Rc61.isOver n b)).all fun (t : Nat) => (List.range n).all fun (i : Nat) => !Rc61.has (f c0) i || Rc61.has t i) = true := by
    rw [List.all_eq_true]
    intro t ht
    obtain ⟨h1, h2⟩ := List.mem_filter.mp ht
    rw [List.all_eq_true]
    intro i _
    unfold Rc61.has
    cases q : (f c0).testBit i with
    | false => rfl
    | true => simp [key t (List.mem_range.mp h1) h2 i q]
  cases e : ((List.range (2 ^ n)).filter (Rc61.isOver n b)).find? fun (s : Nat) => ((List.range (2 ^ n)).filter (Rc61.isOver n b)).all fun (t : Nat) => (List.range n).all fun (i : Nat) => !Rc61.has s i || Rc61.has t i with
  | none =>
    have := List.find?_eq_none.mp e (f c0) hmem
    exact absurd hp this
  | some s =>
    have h1 := List.mem_of_find?_eq_some e
    have h2 := List.find?_some e
    obtain ⟨h3, h4⟩ := List.mem_filter.mp h1
    have h3 := List.mem_range.mp h3
    rw [List.all_eq_true] at h2
    have h5 := h2 _ hmem
    rw [List.all_eq_true] at h5
    show s = f c0
    refine sub_eq (fun i q => ?_) (key s h3 h4)
    have := h5 i (List.mem_range.mpr (bit_lt h3 q))
    unfold Rc61.has at this
    rw [q] at this
    simpa using this

/-! ### uncovered -/
theorem covers_eq (n : Nat) (b : List Rc61.Ballot) (i j : Nat) : Rc61.covers n b i j = (Rc61.beats b i j && ((List.range n).filter (fun k => Rc61.beats b j k)).all fun k => Rc61.beats b i k) := by
  unfold Rc61.covers
  congr 1
  rw [List.all_filter]
end Tv

/-! heads of chains -/
namespace Tv
open List
def beatersOf (n : Nat) (b : List Rc61.Ballot) (c : List Nat) : List Nat := (List.range n).filter fun k => c.all (Rc61.beats b k)
theorem mem_beaters {n : Nat} {b : List Rc61.Ballot} {c : List Nat} {k : Nat} : k ∈ beatersOf n b c ↔ k < n ∧ ∀ y ∈ c, Rc61.beats b k y = true := by
  unfold beatersOf
  rw [List.mem_filter, List.mem_range, List.all_eq_true]
theorem chain_cons {b : List Rc61.Ballot} {i : Nat} {r : List Nat} : Rc61.chain b (i :: r) = true ↔ (∀ y ∈ r, Rc61.beats b i y = true) ∧ Rc61.chain b r = true := by
  show (r.all (Rc61.beats b i) && Rc61.chain b r) = true ↔ _
  rw [Bool.and_eq_true, List.all_eq_true]
theorem chain_app {b : List Rc61.Ballot} : ∀ {e c : List Nat}, Rc61.chain b (e ++ c) = true → Rc61.chain b c = true
  | [], _, h => h
  | _ :: e, _, h => chain_app (e := e) (chain_cons.mp h).2
theorem chain_nodup {b : List Rc61.Ballot} : ∀ {c : List Nat}, Rc61.chain b c = true → c.Nodup
  | [], _ => List.nodup_nil
  | i :: r, h => by
    obtain ⟨h1, h2⟩ := chain_cons.mp h
    refine List.nodup_cons.mpr ⟨fun m => ?_, chain_nodup h2⟩
    have := h1 i m
    rw [beats_irr] at this
    cases this
/-- nodup among the numbers below n: no more than n -/
theorem nodup_len : ∀ {n : Nat} {l : List Nat}, l.Nodup → (∀ x ∈ l, x < n) → l.length ≤ n
  | 0, l, _, hl => by
    cases l with
    | nil => exact Nat.le_refl _
    | cons x r => exact absurd (hl x List.mem_cons_self) (Nat.not_lt_zero _)
  | n + 1, l, h, hl => by
    have h1 := nodup_len (n := n) (l := l.erase n) (h.erase n) fun x m => by
      obtain ⟨m1, m2⟩ := h.mem_erase_iff.mp m
      have := hl x m2
      omega
    have h2 : l.length ≤ (l.erase n).length + 1 := by
      rw [List.length_erase]
      split <;> omega
    omega

structure ChainOk (n : Nat) (b : List Rc61.Ballot) (c : List Nat) : Prop where
  ne : c ≠ []
  lt : ∀ x ∈ c, x < n
  ch : Rc61.chain b c = true
theorem ChainOk.one {n : Nat} {b : List Rc61.Ballot} {i : Nat} (h : i < n) : ChainOk n b [i] :=
  ⟨by simp, fun x m => by rw [List.mem_singleton.mp m]; exact h, rfl⟩
theorem ChainOk.cons {n : Nat} {b : List Rc61.Ballot} {c : List Nat} {x : Nat} (h : ChainOk n b c) (hx : x ∈ beatersOf n b c) : ChainOk n b (x :: c) := by
  obtain ⟨h1, h2⟩ := mem_beaters.mp hx
  refine ⟨by simp, fun y m => ?_, chain_cons.mpr ⟨h2, h.ch⟩⟩
  rcases List.mem_cons.mp m with e | m
  · rw [e]; exact h1
  · exact h.lt y m
theorem ChainOk.len {n : Nat} {b : List Rc61.Ballot} {c : List Nat} (h : ChainOk n b c) : c.length ≤ n := nodup_len (chain_nodup h.ch) h.lt
/-- the beaters are among those who aren't in the chain -/
theorem beaters_len {n : Nat} {b : List Rc61.Ballot} {c : List Nat} (h : ChainOk n b c) : (beatersOf n b c).length + c.length ≤ n := by
  have nd : (beatersOf n b c ++ c).Nodup := by
    refine List.nodup_append.mpr ⟨List.Pairwise.filter _ List.nodup_range, chain_nodup h.ch, fun x hx y hy e => ?_⟩
    subst e
    have := (mem_beaters.mp hx).2 x hy
    rw [beats_irr] at this
    cases this
  have := nodup_len (n := n) nd fun x m => by
    rcases List.mem_append.mp m with m | m
    · exact (mem_beaters.mp m).1
    · exact h.lt x m
  rwa [List.length_append] at this

/-- i is the head of a chain that ends in c and over which nobody stands -/
def Hd (n : Nat) (b : List Rc61.Ballot) (c : List Nat) (i : Nat) : Prop :=
  ∃ e, Rc61.chain b (e ++ c) = true ∧ (∀ x ∈ e ++ c, x < n) ∧ beatersOf n b (e ++ c) = [] ∧ (e ++ c).head? = some i
theorem Hd_step {n : Nat} {b : List Rc61.Ballot} {c : List Nat} (h : ChainOk n b c) (i : Nat) :
    Hd n b c i ↔ (beatersOf n b c = [] ∧ c.head? = some i) ∨ ∃ x ∈ beatersOf n b c, Hd n b (x :: c) i := by
  constructor
  · rintro ⟨e, h1, h2, h3, h4⟩
    rcases List.eq_nil_or_concat e with rfl | ⟨e', x, rfl⟩
    · exact .inl ⟨h3, h4⟩
    · have e1 : (e'.concat x) ++ c = e' ++ x :: c := by simp
      rw [e1] at h1 h2 h3 h4
      refine .inr ⟨x, mem_beaters.mpr ⟨h2 x (by simp), (chain_cons.mp (chain_app h1)).1⟩, e', h1, h2, h3, h4⟩
  · rintro (⟨h1, h2⟩ | ⟨x, _, e, h1, h2, h3, h4⟩)
    · exact ⟨[], h.ch, h.lt, h1, h2⟩
    · refine ⟨e.concat x, ?_⟩
      have e1 : (e.concat x) ++ c = e ++ x :: c := by simp
      rw [e1]
      exact ⟨h1, h2, h3, h4⟩
theorem foldl_gsum : ∀ (l : List Nat) (s : Nat), l.foldl (fun (s i : Nat) => s + 2 ^ i) s = s + gsum l
  | [], s => by simp [gsum]
  | i :: l, s => by
    rw [List.foldl_cons, foldl_gsum l]
    unfold gsum
    rw [List.map_cons, List.sum_cons]
    omega
theorem mem_rows : ∀ (k : Nat) {l r : List Nat}, l.Nodup → (r ∈ Rc61.rows k l ↔ r.length ≤ k ∧ r.Nodup ∧ ∀ x ∈ r, x ∈ l)
  | 0, l, r, _ => by
    show r ∈ [[]] ↔ _
    rw [List.mem_singleton]
    constructor
    · rintro rfl; simp
    · intro h; exact List.eq_nil_of_length_eq_zero (Nat.le_zero.mp h.1)
  | k + 1, l, r, nd => by
    show r ∈ ([] :: l.flatMap fun (x : Nat) => (Rc61.rows k (l.erase x)).map fun (r : List Nat) => x :: r) ↔ _
    rw [List.mem_cons, List.mem_flatMap]
    constructor
    · rintro (rfl | ⟨x, hx, m⟩)
      · simp
      · obtain ⟨r', hr, rfl⟩ := List.mem_map.mp m
        obtain ⟨h1, h2, h3⟩ := (mem_rows k (nd.erase x)).mp hr
        refine ⟨by simpa using h1, List.nodup_cons.mpr ⟨fun z => ?_, h2⟩, fun y hy => ?_⟩
        · exact (nd.mem_erase_iff.mp (h3 x z)).1 rfl
        · rcases List.mem_cons.mp hy with e | hy
          · rw [e]; exact hx
          · exact List.mem_of_mem_erase (h3 y hy)
    · rintro ⟨h1, h2, h3⟩
      cases r with
      | nil => exact .inl rfl
      | cons x r' =>
        refine .inr ⟨x, h3 x List.mem_cons_self, List.mem_map.mpr ⟨r', (mem_rows k (nd.erase x)).mpr ⟨by simpa using h1, (List.nodup_cons.mp h2).2, fun y hy => ?_⟩, rfl⟩⟩
        refine nd.mem_erase_iff.mpr ⟨fun e => ?_, h3 y (List.mem_cons_of_mem _ hy)⟩
        subst e
        exact (List.nodup_cons.mp h2).1 hy
theorem headsOf_bit {n : Nat} {b : List Rc61.Ballot} {i : Nat} : (Rc61.headsOf n b).testBit i = true ↔ ∃ c, c < n ∧ Hd n b [c] i := by
  unfold Rc61.headsOf
  rw [foldl_gsum, Nat.zero_add, gsum_filter, setOf_bit, Bool.and_eq_true, decide_eq_true_eq, List.any_eq_true]
  constructor
  · rintro ⟨hi, r, hr, h⟩
    obtain ⟨h1, h2, h3⟩ := (mem_rows n (List.nodup_range.erase i)).mp hr
    rw [Bool.and_eq_true, List.all_eq_true] at h
    obtain ⟨h4, h5⟩ := h
    have hlt : ∀ x ∈ i :: r, x < n := fun x m => by
      rcases List.mem_cons.mp m with e | m
      · rw [e]; exact hi
      · exact List.mem_range.mp (List.mem_of_mem_erase (h3 x m))
    have hb : beatersOf n b (i :: r) = [] := by
      refine List.filter_eq_nil_iff.mpr fun k hk => ?_
      have := h5 k hk
      intro z
      rw [z] at this
      cases this
    have e : (i :: r).dropLast ++ [(i :: r).getLast (by simp)] = i :: r := List.dropLast_concat_getLast _
    refine ⟨(i :: r).getLast (by simp), hlt _ (List.getLast_mem _), (i :: r).dropLast, ?_⟩
    rw [e]
    exact ⟨h4, hlt, hb, rfl⟩
  · rintro ⟨c, hc, e, h1, h2, h3, h4⟩
    obtain ⟨r, hr⟩ : ∃ r, e ++ [c] = i :: r := by
      cases q : e ++ [c] with
      | nil => simp at q
      | cons y r =>
        rw [q] at h4
        have : y = i := Option.some.inj h4
        exact ⟨r, by rw [this]⟩
    rw [hr] at h1 h2 h3
    have nd := chain_nodup h1
    have hl := nodup_len nd h2
    refine ⟨h2 i List.mem_cons_self, r, (mem_rows n (List.nodup_range.erase i)).mpr ⟨by simp at hl; omega, (List.nodup_cons.mp nd).2, fun x m => ?_⟩, ?_⟩
    · refine List.nodup_range.mem_erase_iff.mpr ⟨fun z => ?_, List.mem_range.mpr (h2 x (List.mem_cons_of_mem _ m))⟩
      subst z
      exact (List.nodup_cons.mp nd).1 m
    · rw [Bool.and_eq_true, List.all_eq_true]
      refine ⟨h1, fun k hk => ?_⟩
      have := List.filter_eq_nil_iff.mp h3 k hk
      cases q : (i :: r).all (Rc61.beats b k) with
      | false => rfl
      | true => exact absurd q this

/-- how much is still to do for a chain that may still grow by m -/
def todo : Nat → Nat
  | 0 => 1
  | m + 1 => 1 + (m + 1) * todo m
theorem todo_pos : ∀ m, 1 ≤ todo m
  | 0 => Nat.le_refl _
  | m + 1 => Nat.le_add_right _ _
def work (n : Nat) (cs : List (List Nat)) : Nat := (cs.map fun c => todo (n - c.length)).sum
theorem work_len (n : Nat) : ∀ cs : List (List Nat), cs.length ≤ work n cs
  | [] => Nat.zero_le _
  | c :: cs => by
    have := work_len n cs
    have := todo_pos (n - c.length)
    show cs.length + 1 ≤ ((c :: cs).map fun c => todo (n - c.length)).sum
    rw [List.map_cons, List.sum_cons]
    show cs.length + 1 ≤ todo (n - c.length) + work n cs
    omega
theorem work_app (n : Nat) (a b : List (List Nat)) : work n (a ++ b) = work n a + work n b := by
  unfold work
  rw [List.map_append, List.sum_append]
theorem work_same {n m : Nat} : ∀ {cs : List (List Nat)}, (∀ c ∈ cs, c.length = m) → work n cs = cs.length * todo (n - m)
  | [], _ => by simp [work]
  | c :: cs, h => by
    have ih := work_same (n := n) (cs := cs) fun d hd => h d (List.mem_cons_of_mem _ hd)
    unfold work at ih ⊢
    rw [List.map_cons, List.sum_cons, ih, h c List.mem_cons_self, List.length_cons, Nat.succ_mul]
    omega
/-- a chain taken off, those that it grows to put on -/
theorem work_less {n : Nat} {b : List Rc61.Ballot} {cs : List (List Nat)} {c : List Nat} (h : ChainOk n b c) : work n (cs ++ (beatersOf n b c).map fun x => x :: c) < work n (cs ++ [c]) := by
  rw [work_app, work_app]
  have e1 : work n ((beatersOf n b c).map fun x => x :: c) = (beatersOf n b c).length * todo (n - (c.length + 1)) := by
    rw [work_same (m := c.length + 1)]
    · rw [List.length_map]
    · intro d hd
      obtain ⟨x, _, rfl⟩ := List.mem_map.mp hd
      rfl
  have e2 : work n [c] = todo (n - c.length) := by simp [work]
  rw [e1, e2]
  have hb := beaters_len h
  have hl := h.len
  rcases Nat.lt_or_ge c.length n with q | q
  · obtain ⟨m, hm⟩ : ∃ m, n - c.length = m + 1 := ⟨n - c.length - 1, by omega⟩
    have hm' : n - (c.length + 1) = m := by omega
    rw [hm, hm']
    show _ < _ + (1 + (m + 1) * todo m)
    have : (beatersOf n b c).length * todo m ≤ (m + 1) * todo m := Nat.mul_le_mul_right _ (by omega)
    omega
  · have : (beatersOf n b c).length = 0 := by omega
    rw [this]
    have := todo_pos (n - c.length)
    omega
theorem work_start (n : Nat) (hn : n ≤ 6) : work n ((List.range n).map fun i => [i]) ≤ 2000 := by
  rw [work_same (m := 1) fun c hc => by obtain ⟨x, _, rfl⟩ := List.mem_map.mp hc; rfl]
  rw [List.length_map, List.length_range]
  match n, hn with
  | 0, _ => decide
  | 1, _ => decide
  | 2, _ => decide
  | 3, _ => decide
  | 4, _ => decide
  | 5, _ => decide
  | 6, _ => decide
/-- what the loop keeps: what's found, and what's still on the pile -/
def HInv (n : Nat) (b : List Rc61.Ballot) (heads : Nat) (cs : List (List Nat)) : Prop :=
  (∀ c ∈ cs, ChainOk n b c) ∧ ∀ i, (Rc61.headsOf n b).testBit i = true ↔ heads.testBit i = true ∨ ∃ c ∈ cs, Hd n b c i
theorem HInv.start (n : Nat) (b : List Rc61.Ballot) : HInv n b 0 ((List.range n).map fun i => [i]) := by
  refine ⟨fun c hc => ?_, fun i => ?_⟩
  · obtain ⟨x, hx, rfl⟩ := List.mem_map.mp hc
    exact ChainOk.one (List.mem_range.mp hx)
  · rw [headsOf_bit]
    constructor
    · rintro ⟨c, hc, h⟩
      exact .inr ⟨[c], List.mem_map.mpr ⟨c, List.mem_range.mpr hc, rfl⟩, h⟩
    · rintro (h | ⟨c, hc, h⟩)
      · simp at h
      · obtain ⟨x, hx, rfl⟩ := List.mem_map.mp hc
        exact ⟨x, List.mem_range.mp hx, h⟩
/-- what a chain adds to what's found -/
def found (n : Nat) (b : List Rc61.Ballot) (c : List Nat) : Nat := if beatersOf n b c = [] then 2 ^ c.headD 0 else 0
theorem HInv.step {n : Nat} {b : List Rc61.Ballot} {heads : Nat} {cs : List (List Nat)} {c : List Nat} (h : HInv n b heads (cs ++ [c])) :
    HInv n b (heads ||| found n b c) (cs ++ (beatersOf n b c).map fun x => x :: c) := by
  have hc : ChainOk n b c := h.1 c (by simp)
  refine ⟨fun d hd => ?_, fun i => ?_⟩
  · rcases List.mem_append.mp hd with hd | hd
    · exact h.1 d (List.mem_append_left _ hd)
    · obtain ⟨x, hx, rfl⟩ := List.mem_map.mp hd
      exact hc.cons hx
  · rw [h.2 i, Nat.testBit_or, Bool.or_eq_true]
    have hf : (found n b c).testBit i = true ↔ beatersOf n b c = [] ∧ c.head? = some i := by
      obtain ⟨y, r, rfl⟩ : ∃ y r, c = y :: r := by
        cases c with
        | nil => exact absurd rfl hc.ne
        | cons y r => exact ⟨y, r, rfl⟩
      unfold found
      by_cases q : beatersOf n b (y :: r) = []
      · rw [if_pos q, bit_two_pow, decide_eq_true_eq]
        show i = y ↔ _ ∧ some y = some i
        constructor
        · rintro rfl; exact ⟨q, rfl⟩
        · rintro ⟨_, z⟩; exact (Option.some.inj z).symm
      · rw [if_neg q]
        constructor
        · intro z; simp at z
        · rintro ⟨z, _⟩; exact absurd z q
    rw [hf]
    constructor
    · rintro (z | ⟨d, hd, z⟩)
      · exact .inl (.inl z)
      · rcases List.mem_append.mp hd with hd | hd
        · exact .inr ⟨d, List.mem_append_left _ hd, z⟩
        · rw [List.mem_singleton.mp hd] at z
          rcases (Hd_step hc i).mp z with z | ⟨x, hx, z⟩
          · exact .inl (.inr z)
          · exact .inr ⟨x :: c, List.mem_append_right _ (List.mem_map.mpr ⟨x, hx, rfl⟩), z⟩
    · rintro ((z | z) | ⟨d, hd, z⟩)
      · exact .inl z
      · exact .inr ⟨c, by simp, (Hd_step hc i).mpr (.inl z)⟩
      · rcases List.mem_append.mp hd with hd | hd
        · exact .inr ⟨d, List.mem_append_left _ hd, z⟩
        · obtain ⟨x, hx, rfl⟩ := List.mem_map.mp hd
          exact .inr ⟨c, by simp, (Hd_step hc i).mpr (.inr ⟨x, hx, z⟩)⟩
theorem HInv.done {n : Nat} {b : List Rc61.Ballot} {heads : Nat} (h : HInv n b heads []) : heads = Rc61.headsOf n b :=
  sub_eq (fun i q => (h.2 i).mpr (.inl q)) fun i q => by
    rcases (h.2 i).mp q with z | ⟨c, hc, _⟩
    · exact z
    · simp at hc
end Tv

/-! the order of least quarrel -/
namespace Tv
open List
/-- how often all these win over one -/
def into (b : List Rc61.Ballot) (r : List Nat) (i : Nat) : Nat := (r.map fun j => Rc61.wins b j i).sum
theorem quarrel_cons (b : List Rc61.Ballot) (i : Nat) (r : List Nat) : Rc61.quarrel b (i :: r) = into b r i + Rc61.quarrel b r := rfl
theorem into_perm {b : List Rc61.Ballot} {r s : List Nat} (h : r.Perm s) (i : Nat) : into b r i = into b s i := (h.map _).sum_nat
theorem before_cons {a c : Nat} {r s : List Nat} : Rc61.before (a :: r) (c :: s) = true ↔ a < c ∨ (a = c ∧ Rc61.before r s = true) := by
  show (decide (a < c) || (a == c && Rc61.before r s)) = true ↔ _
  simp
theorem before_asym : ∀ {r s : List Nat}, Rc61.before r s = true → Rc61.before s r = false
  | [], _, h => by simp [Rc61.before] at h
  | _ :: _, [], h => by simp [Rc61.before] at h
  | a :: r, c :: s, h => by
    cases q : Rc61.before (c :: s) (a :: r) with
    | false => rfl
    | true =>
      rcases before_cons.mp h with h | ⟨h, h2⟩
      · rcases before_cons.mp q with q | ⟨q, _⟩ <;> omega
      · rcases before_cons.mp q with q | ⟨_, q2⟩
        · omega
        · rw [before_asym h2] at q2; cases q2
/-- the best order of a group -/
structure Best (n : Nat) (b : List Rc61.Ballot) (g : Nat) (o : List Nat) : Prop where
  perm : o.Perm (mem n g)
  best : ∀ r : List Nat, r.Perm (mem n g) → Rc61.quarrel b o < Rc61.quarrel b r ∨ (Rc61.quarrel b o = Rc61.quarrel b r ∧ (o = r ∨ Rc61.before o r = true))
theorem Best.uniq {n : Nat} {b : List Rc61.Ballot} {g : Nat} {o p : List Nat} (x : Best n b g o) (y : Best n b g p) : o = p := by
  rcases x.best p y.perm with h | ⟨h, e | e⟩
  · rcases y.best o x.perm with h' | ⟨h', _⟩ <;> omega
  · exact e
  · rcases y.best o x.perm with h' | ⟨_, e' | e'⟩
    · omega
    · exact e'.symm
    · rw [before_asym e] at e'; cases e'
theorem mem_zero (n : Nat) : mem n 0 = [] := List.filter_eq_nil_iff.mpr fun i _ => by simp
theorem Best.zero (n : Nat) (b : List Rc61.Ballot) : Best n b 0 [] := by
  refine ⟨by rw [mem_zero], fun r hr => ?_⟩
  rw [mem_zero] at hr
  have e : r = [] := hr.eq_nil
  subst e
  exact .inr ⟨rfl, .inl rfl⟩
/-- a group without a member -/
theorem without_bit {g x i : Nat} (hx : g.testBit x = true) : (g ^^^ 2 ^ x).testBit i = (g.testBit i && decide (i ≠ x)) := by
  rw [Nat.testBit_xor, bit_two_pow]
  by_cases c : i = x
  · subst c; simp [hx]
  · simp [c]
theorem without_lt {g x : Nat} (hx : g.testBit x = true) : g ^^^ 2 ^ x < g := by
  have h1 : g ^^^ 2 ^ x ≤ g := sub_le fun i q => by
    rw [without_bit hx, Bool.and_eq_true] at q
    exact q.1
  have h2 : g ^^^ 2 ^ x ≠ g := fun e => by
    have := without_bit (i := x) hx
    rw [e, hx] at this
    simp at this
  omega
theorem mem_without {n g x : Nat} (hx : x ∈ mem n g) : (x :: mem n (g ^^^ 2 ^ x)).Perm (mem n g) := by
  have hb := (mem_mem.mp hx).2
  have e : mem n (g ^^^ 2 ^ x) = (mem n g).erase x := by
    rw [(mem_nodup n g).erase_eq_filter]
    unfold mem
    rw [List.filter_filter]
    refine List.filter_congr fun i _ => ?_
    rw [without_bit hb, Bool.and_comm]
    congr 1
    by_cases c : i = x <;> simp [c]
  rw [e]
  exact (List.perm_cons_erase hx).symm
/-- what an order costs with this member in front -/
def cost (n : Nat) (b : List Rc61.Ballot) (g x : Nat) (o : List Nat) : Nat := into b (mem n (g ^^^ 2 ^ x)) x + Rc61.quarrel b o
theorem Best.costs {n : Nat} {b : List Rc61.Ballot} {g x : Nat} {o : List Nat} (h : Best n b (g ^^^ 2 ^ x) o) : Rc61.quarrel b (x :: o) = cost n b g x o := by
  rw [quarrel_cons, into_perm h.perm]
  rfl
theorem Best.step {n : Nat} {b : List Rc61.Ballot} {g f : Nat} {o : Nat → List Nat} (ho : ∀ x ∈ mem n g, Best n b (g ^^^ 2 ^ x) (o x)) (hf : f ∈ mem n g)
    (hl : ∀ x ∈ mem n g, cost n b g f (o f) < cost n b g x (o x) ∨ (cost n b g f (o f) = cost n b g x (o x) ∧ f ≤ x)) : Best n b g (f :: o f) := by
  refine ⟨((ho f hf).perm.cons f).trans (mem_without hf), fun r hr => ?_⟩
  rw [(ho f hf).costs]
  cases r with
  | nil =>
    have := hr.symm.eq_nil
    rw [this] at hf
    simp at hf
  | cons x r =>
    have hx : x ∈ mem n g := hr.mem_iff.mp List.mem_cons_self
    have hr' : r.Perm (mem n (g ^^^ 2 ^ x)) := (hr.trans (mem_without hx).symm).cons_inv
    have e : Rc61.quarrel b (x :: r) = into b (mem n (g ^^^ 2 ^ x)) x + Rc61.quarrel b r := by
      rw [quarrel_cons, into_perm hr']
    have e2 : cost n b g x (o x) = into b (mem n (g ^^^ 2 ^ x)) x + Rc61.quarrel b (o x) := rfl
    rw [e]
    rcases (ho x hx).best r hr' with q | ⟨q, q2⟩
    · rcases hl x hx with z | ⟨z, _⟩ <;> exact .inl (by omega)
    · rcases hl x hx with z | ⟨z, z2⟩
      · exact .inl (by omega)
      · refine .inr ⟨by omega, ?_⟩
        rcases Nat.lt_or_eq_of_le z2 with z2 | z2
        · exact .inr (before_cons.mpr (.inl z2))
        · subst z2
          rcases q2 with q2 | q2
          · exact .inl (by rw [q2])
          · exact .inr (before_cons.mpr (.inr ⟨rfl, q2⟩))
theorem Best.tail {n : Nat} {b : List Rc61.Ballot} {g f : Nat} {r : List Nat} (h : Best n b g (f :: r)) : f ∈ mem n g ∧ Best n b (g ^^^ 2 ^ f) r := by
  have hf : f ∈ mem n g := h.perm.mem_iff.mp List.mem_cons_self
  have hr : r.Perm (mem n (g ^^^ 2 ^ f)) := (h.perm.trans (mem_without hf).symm).cons_inv
  refine ⟨hf, hr, fun s hs => ?_⟩
  have e1 := quarrel_cons b f r
  have e2 := quarrel_cons b f s
  have e3 := into_perm (b := b) (hr.trans hs.symm) f
  rcases h.best (f :: s) ((hs.cons f).trans (mem_without hf)) with q | ⟨q, q2⟩
  · exact .inl (by omega)
  · refine .inr ⟨by omega, ?_⟩
    rcases q2 with q2 | q2
    · exact .inl (List.cons.inj q2).2
    · rcases before_cons.mp q2 with q2 | ⟨_, q2⟩
      · omega
      · exact .inr q2

/-! the specification's own search -/
theorem wins_le {b : List Rc61.Ballot} {M : Nat} (h : ∀ x ∈ b, x.2 ≤ M) (i j : Nat) : Rc61.wins b i j ≤ b.length * M := by
  unfold Rc61.wins
  induction b with
  | nil => simp
  | cons x b ih =>
    have h1 := ih fun y m => h y (List.mem_cons_of_mem _ m)
    have h2 := h x List.mem_cons_self
    rw [List.filter_cons, List.length_cons, Nat.succ_mul]
    split
    · rw [List.map_cons, List.sum_cons]; omega
    · omega
theorem into_le {b : List Rc61.Ballot} {M : Nat} (h : ∀ i j, Rc61.wins b i j ≤ M) (i : Nat) : ∀ r : List Nat, into b r i ≤ r.length * M
  | [] => by simp [into]
  | j :: r => by
    have h1 := into_le h i r
    have h2 := h j i
    unfold into at h1 ⊢
    rw [List.map_cons, List.sum_cons, List.length_cons, Nat.succ_mul]
    omega
theorem quarrel_le {b : List Rc61.Ballot} {M : Nat} (h : ∀ i j, Rc61.wins b i j ≤ M) : ∀ r : List Nat, Rc61.quarrel b r ≤ r.length * (r.length * M)
  | [] => by simp [Rc61.quarrel]
  | j :: r => by
    have h1 := quarrel_le h r
    have h2 := into_le h j r
    rw [quarrel_cons, List.length_cons, Nat.succ_mul]
    have h3 : r.length * (r.length * M) ≤ r.length * ((r.length + 1) * M) := Nat.mul_le_mul_left _ (Nat.mul_le_mul_right _ (Nat.le_succ _))
    have h4 : (r.length + 1) * M = r.length * M + M := Nat.succ_mul _ _
    omega
theorem foldl_min {α : Type} (q : α → Nat) : ∀ (l : List α) (z : Nat), (∀ x ∈ l, l.foldl (fun (y : Nat) (r : α) => min y (q r)) z ≤ q x) ∧ l.foldl (fun (y : Nat) (r : α) => min y (q r)) z ≤ z ∧
    (l.foldl (fun (y : Nat) (r : α) => min y (q r)) z = z ∨ ∃ x ∈ l, l.foldl (fun (y : Nat) (r : α) => min y (q r)) z = q x)
  | [], z => ⟨fun _ h => absurd h (by simp), Nat.le_refl _, .inl rfl⟩
  | a :: l, z => by
    obtain ⟨h1, h2, h3⟩ := foldl_min q l (min z (q a))
    rw [List.foldl_cons]
    refine ⟨fun x hx => ?_, by omega, ?_⟩
    · rcases List.mem_cons.mp hx with e | hx
      · rw [e]; omega
      · exact h1 x hx
    · rcases h3 with h3 | ⟨x, hx, h3⟩
      · rw [h3]
        rcases Nat.le_total z (q a) with c | c
        · exact .inl (by omega)
        · exact .inr ⟨a, List.mem_cons_self, by omega⟩
      · exact .inr ⟨x, List.mem_cons_of_mem _ hx, h3⟩
theorem foldl_first {o : List Nat} : ∀ (l : List (List Nat)) (z : List Nat), o ≠ [] → (∀ r ∈ l, o = r ∨ Rc61.before o r = true) → (z = o ∨ (o ∈ l ∧ (z = [] ∨ Rc61.before o z = true))) →
    l.foldl (fun (x r : List Nat) => if x.isEmpty = true ∨ Rc61.before r x = true then r else x) z = o
  | [], z, _, _, h => by
    rcases h with h | ⟨h, _⟩
    · exact h
    · simp at h
  | a :: l, z, hne, hl, h => by
    rw [List.foldl_cons]
    refine foldl_first l _ hne (fun r hr => hl r (List.mem_cons_of_mem _ hr)) ?_
    have ha := hl a List.mem_cons_self
    rcases h with h | ⟨h, h2⟩
    · subst h
      have e : ¬ (z.isEmpty = true ∨ Rc61.before a z = true) := by
        rintro (q | q)
        · exact hne (List.isEmpty_iff.mp q)
        · rcases ha with e | e
          · subst e
            have := before_asym q
            rw [q] at this; cases this
          · have := before_asym e
            rw [q] at this; cases this
      rw [if_neg e]
      exact .inl rfl
    · by_cases c : z.isEmpty = true ∨ Rc61.before a z = true
      · rw [if_pos c]
        rcases ha with e | e
        · exact .inl e.symm
        · rcases List.mem_cons.mp h with q | q
          · exact .inl q.symm
          · exact .inr ⟨q, .inr e⟩
      · rw [if_neg c]
        rcases List.mem_cons.mp h with q | q
        · subst q
          exfalso
          rcases h2 with h2 | h2
          · exact c (.inl (by rw [h2] <;> rfl))
          · exact c (.inr h2)
        · exact .inr ⟨q, h2⟩
theorem full_mem (n : Nat) : mem n (Rc61.setOf n fun _ => true) = List.range n := by
  rw [mem_setOf]
  exact List.filter_eq_self.mpr fun _ _ => rfl
theorem perm_range_iff {n : Nat} {r : List Nat} : r.Perm (List.range n) ↔ r.length = n ∧ r.Nodup ∧ ∀ x ∈ r, x < n := by
  constructor
  · intro h
    refine ⟨by rw [h.length_eq, List.length_range], h.nodup_iff.mpr List.nodup_range, fun x m => List.mem_range.mp (h.mem_iff.mp m)⟩
  · rintro ⟨h1, h2, h3⟩
    have all : ∀ k, k < n → k ∈ r := by
      intro k hk
      apply Classical.byContradiction
      intro hn
      have : (k :: r).length ≤ n := nodup_len (List.nodup_cons.mpr ⟨hn, h2⟩) fun x m => by
        rcases List.mem_cons.mp m with e | m
        · rw [e]; exact hk
        · exact h3 x m
      rw [List.length_cons] at this
      omega
    exact (List.perm_ext_iff_of_nodup h2 List.nodup_range).mpr fun x => ⟨fun m => List.mem_range.mpr (h3 x m), fun m => all x (List.mem_range.mp m)⟩
theorem calmest_is {n : Nat} {b : List Rc61.Ballot} {o : List Nat} (hn0 : 0 < n) (hn : n ≤ 6) (hb : b.length ≤ 256) (ht : ∀ x ∈ b, x.2 ≤ 4294967295) (h : Best n b (Rc61.setOf n fun _ => true) o) : Rc61.calmestOf n b = o := by
  have hp : o.Perm (List.range n) := by
    have := h.perm
    rwa [full_mem] at this
  have hl : ∀ r : List Nat, r ∈ (Rc61.rows n (List.range n)).filter (fun (r : List Nat) => r.length == n) ↔ r.Perm (List.range n) := by
    intro r
    rw [List.mem_filter, mem_rows n List.nodup_range, perm_range_iff, beq_iff_eq]
    constructor
    · rintro ⟨⟨_, h1, h2⟩, h3⟩
      exact ⟨h3, h1, fun x m => List.mem_range.mp (h2 x m)⟩
    · rintro ⟨h1, h2, h3⟩
      exact ⟨⟨by omega, h2, fun x m => List.mem_range.mpr (h3 x m)⟩, h1⟩
  have hbest : ∀ r : List Nat, r.Perm (List.range n) → Rc61.quarrel b o < Rc61.quarrel b r ∨ (Rc61.quarrel b o = Rc61.quarrel b r ∧ (o = r ∨ Rc61.before o r = true)) := fun r hr => h.best r (by rw [full_mem]; exact hr)
  have small : Rc61.quarrel b o ≤ 1000000000000000000000 := by
    have h1 := quarrel_le (wins_le ht) o
    have h2 : o.length = n := (perm_range_iff.mp hp).1
    rw [h2] at h1
    have h3 : b.length * 4294967295 ≤ 256 * 4294967295 := Nat.mul_le_mul_right _ hb
    have h4 : n * (b.length * 4294967295) ≤ 6 * (256 * 4294967295) := Nat.mul_le_mul hn h3
    have h5 : n * (n * (b.length * 4294967295)) ≤ 6 * (6 * (256 * 4294967295)) := Nat.mul_le_mul hn h4
    omega
  have hmin : ((Rc61.rows n (List.range n)).filter fun (r : List Nat) => r.length == n).foldl (fun (x : Nat) (r : List Nat) => min x (Rc61.quarrel b r)) 1000000000000000000000 = Rc61.quarrel b o := by
    obtain ⟨h1, h2, h3⟩ := foldl_min (Rc61.quarrel b) ((Rc61.rows n (List.range n)).filter fun (r : List Nat) => r.length == n) 1000000000000000000000
    have h4 := h1 o ((hl o).mpr hp)
    rcases h3 with h3 | ⟨r, hr, h3⟩
    · omega
    · rcases hbest r ((hl r).mp hr) with q | ⟨q, _⟩ <;> omega
  unfold Rc61.calmestOf
  dsimp only
  rw [hmin]
  have hne : o ≠ [] := fun e => by
    subst e
    have := (perm_range_iff.mp hp).1
    simp at this
    omega
  refine foldl_first _ _ hne (fun r hr => ?_) (.inr ⟨List.mem_filter.mpr ⟨(hl o).mpr hp, by simp⟩, .inl rfl⟩)
  obtain ⟨h1, h2⟩ := List.mem_filter.mp hr
  have h2 : Rc61.quarrel b r = Rc61.quarrel b o := by simpa using h2
  rcases hbest r ((hl r).mp h1) with q | ⟨_, q⟩
  · omega
  · exact q
end Tv

/-! the order by pairs -/
namespace Tv
open List
/-! ### pairs one by one -/
/-- the clearer one first -/
def leP (b : List Rc61.Ballot) (p q : Nat × Nat) : Bool :=
  decide (Rc61.wins b q.1 q.2 < Rc61.wins b p.1 p.2) || (Rc61.wins b q.1 q.2 == Rc61.wins b p.1 p.2 && (decide (p.1 < q.1) || (p.1 == q.1 && decide (p.2 ≤ q.2))))
theorem leP_iff {b : List Rc61.Ballot} {p q : Nat × Nat} : leP b p q = true ↔ Rc61.wins b q.1 q.2 < Rc61.wins b p.1 p.2 ∨ (Rc61.wins b q.1 q.2 = Rc61.wins b p.1 p.2 ∧ (p.1 < q.1 ∨ (p.1 = q.1 ∧ p.2 ≤ q.2))) := by
  unfold leP
  simp
def base (n : Nat) (b : List Rc61.Ballot) : List (Nat × Nat) := (List.range n).flatMap fun i => ((List.range n).filter fun j => Rc61.beats b i j).map fun j => (i, j)
theorem pairs_def (n : Nat) (b : List Rc61.Ballot) : Rc61.pairs n b = (base n b).mergeSort (leP b) := rfl
theorem mem_base {n : Nat} {b : List Rc61.Ballot} {p : Nat × Nat} : p ∈ base n b ↔ p.1 < n ∧ p.2 < n ∧ Rc61.beats b p.1 p.2 = true := by
  unfold base
  rw [List.mem_flatMap]
  constructor
  · rintro ⟨i, hi, m⟩
    obtain ⟨j, hj, rfl⟩ := List.mem_map.mp m
    obtain ⟨h1, h2⟩ := List.mem_filter.mp hj
    exact ⟨List.mem_range.mp hi, List.mem_range.mp h1, h2⟩
  · rintro ⟨h1, h2, h3⟩
    exact ⟨p.1, List.mem_range.mpr h1, List.mem_map.mpr ⟨p.2, List.mem_filter.mpr ⟨List.mem_range.mpr h2, h3⟩, rfl⟩⟩
theorem pairs_uniq {n : Nat} {b : List Rc61.Ballot} {l : List (Nat × Nat)} (hp : l.Perm (base n b)) (hs : l.Pairwise fun p q => leP b p q = true) : l = Rc61.pairs n b := by
  rw [pairs_def]
  refine List.Perm.eq_of_pairwise (le := fun p q => leP b p q = true) (fun p q _ _ h1 h2 => ?_) hs (List.pairwise_mergeSort (fun p q r h1 h2 => ?_) (fun p q => ?_) _) (hp.trans (List.mergeSort_perm _ _).symm)
  · rw [leP_iff] at h1 h2
    refine Prod.ext ?_ ?_ <;> omega
  · rw [leP_iff] at h1 h2 ⊢
    omega
  · rw [Bool.or_eq_true, leP_iff, leP_iff]
    omega
theorem mem_pairs {n : Nat} {b : List Rc61.Ballot} {p : Nat × Nat} : p ∈ Rc61.pairs n b ↔ p.1 < n ∧ p.2 < n ∧ Rc61.beats b p.1 p.2 = true := by
  rw [pairs_def, (List.mergeSort_perm _ _).mem_iff, mem_base]

/-! ### ways by pairs -/
inductive Reach (st : List (Nat × Nat)) (x : Nat) : Nat → Prop
  | refl : Reach st x x
  | step {y z : Nat} : Reach st x y → (y, z) ∈ st → Reach st x z
theorem Reach.trans {st : List (Nat × Nat)} {x y z : Nat} (h1 : Reach st x y) (h2 : Reach st y z) : Reach st x z := by
  induction h2 with
  | refl => exact h1
  | step _ m ih => exact ih.step m
theorem Reach.more {st st' : List (Nat × Nat)} {x y : Nat} (h : Reach st x y) : Reach (st ++ st') x y := by
  induction h with
  | refl => exact .refl
  | step _ m ih => exact ih.step (List.mem_append_left _ m)
theorem reach_snoc {st : List (Nat × Nat)} {w l x y : Nat} : Reach (st ++ [(w, l)]) x y ↔ Reach st x y ∨ (Reach st x w ∧ Reach st l y) := by
  constructor
  · intro h
    induction h with
    | refl => exact .inl .refl
    | step _ m ih =>
      rcases List.mem_append.mp m with m | m
      · rcases ih with ih | ⟨i1, i2⟩
        · exact .inl (ih.step m)
        · exact .inr ⟨i1, i2.step m⟩
      · have e := List.mem_singleton.mp m
        injection e with e1 e2
        subst e1
        subst e2
        rcases ih with ih | ⟨i1, i2⟩
        · exact .inr ⟨ih, .refl⟩
        · exact .inr ⟨i1, .refl⟩
  · rintro (h | ⟨h1, h2⟩)
    · exact h.more
    · exact (h1.more.step (List.mem_append_right _ (List.mem_singleton.mpr rfl))).trans h2.more
def stepS (st : List (Nat × Nat)) (s : List Nat) : List Nat := (s ++ (st.filter fun p => s.contains p.1).map fun p => p.2).eraseDups
theorem reach_succ (st : List (Nat × Nat)) (k : Nat) (s : List Nat) : Rc61.reach st (k + 1) s = Rc61.reach st k (stepS st s) := rfl
theorem mem_stepS {st : List (Nat × Nat)} {s : List Nat} {y : Nat} : y ∈ stepS st s ↔ y ∈ s ∨ ∃ x ∈ s, (x, y) ∈ st := by
  unfold stepS
  rw [List.mem_eraseDups, List.mem_append, List.mem_map]
  constructor
  · rintro (h | ⟨p, hp, e⟩)
    · exact .inl h
    · obtain ⟨h1, h2⟩ := List.mem_filter.mp hp
      refine .inr ⟨p.1, List.contains_iff_mem.mp h2, ?_⟩
      rw [← e]
      exact h1
  · rintro (h | ⟨x, hx, h⟩)
    · exact .inl h
    · exact .inr ⟨(x, y), List.mem_filter.mpr ⟨h, List.contains_iff_mem.mpr hx⟩, rfl⟩
/-- what is come to lies there -/
theorem reach_sound {st : List (Nat × Nat)} {x : Nat} : ∀ (k : Nat) {s : List Nat}, (∀ y ∈ s, Reach st x y) → ∀ y ∈ Rc61.reach st k s, Reach st x y
  | 0, _, h => h
  | k + 1, s, h => by
    rw [reach_succ]
    refine reach_sound k fun y hy => ?_
    rcases mem_stepS.mp hy with q | ⟨z, hz, q⟩
    · exact h y q
    · exact (h z hz).step q
def Closed (st : List (Nat × Nat)) (s : List Nat) : Prop := ∀ p ∈ st, p.1 ∈ s → p.2 ∈ s
def inN (st : List (Nat × Nat)) (s : List Nat) : Nat := (st.filter fun p => s.contains p.2).length
theorem count_less {α : Type} {f g : α → Bool} (hfg : ∀ x, f x = true → g x = true) : ∀ {l : List α} {e : α}, e ∈ l → f e = false → g e = true → (l.filter f).length + 1 ≤ (l.filter g).length
  | a :: l, e, m, h1, h2 => by
    have sub : ∀ l : List α, (l.filter f).length ≤ (l.filter g).length := by
      intro l
      induction l with
      | nil => exact Nat.le_refl _
      | cons a l ih =>
        rw [List.filter_cons, List.filter_cons]
        by_cases c : f a = true
        · rw [if_pos c, if_pos (hfg a c)]
          exact Nat.succ_le_succ ih
        · rw [if_neg c]
          split
          · exact Nat.le_succ_of_le ih
          · exact ih
    rw [List.filter_cons, List.filter_cons]
    rcases List.mem_cons.mp m with q | m
    · subst q
      rw [if_neg (by rw [h1]; decide), if_pos h2]
      exact Nat.succ_le_succ (sub l)
    · have ih := count_less hfg m h1 h2
      by_cases c : f a = true
      · rw [if_pos c, if_pos (hfg a c)]
        exact Nat.succ_le_succ ih
      · rw [if_neg c]
        split
        · exact Nat.le_succ_of_le ih
        · exact ih
theorem closed_or {st : List (Nat × Nat)} : ∀ (k : Nat) {s : List Nat} (c : Nat), Closed st s ∨ c ≤ inN st s → Closed st (Rc61.reach st k s) ∨ c + k ≤ inN st (Rc61.reach st k s)
  | 0, _, _, h => h
  | k + 1, s, c, h => by
    rw [reach_succ]
    have key : Closed st (stepS st s) ∨ c + 1 ≤ inN st (stepS st s) := by
      by_cases q : Closed st s
      · refine .inl fun p hp h1 => mem_stepS.mpr ?_
        rcases mem_stepS.mp h1 with z | ⟨x, hx, z⟩
        · exact .inl (q p hp z)
        · exact .inl (q p hp (q _ z hx))
      · rcases h with h | h
        · exact absurd h q
        · obtain ⟨p, hp⟩ := Classical.not_forall.mp q
          obtain ⟨m, hp⟩ := Classical.not_imp.mp hp
          obtain ⟨h1, h2⟩ := Classical.not_imp.mp hp
          refine .inr (Nat.le_trans (Nat.succ_le_succ h) ?_)
          refine count_less (f := fun p : Nat × Nat => s.contains p.2) (g := fun p : Nat × Nat => (stepS st s).contains p.2) (fun y hy => ?_) m ?_ ?_
          · exact List.contains_iff_mem.mpr (mem_stepS.mpr (.inl (List.contains_iff_mem.mp hy)))
          · cases r : s.contains p.2 with
            | false => rfl
            | true => exact absurd (List.contains_iff_mem.mp r) h2
          · exact List.contains_iff_mem.mpr (mem_stepS.mpr (.inr ⟨p.1, h1, m⟩))
    have := closed_or k (c + 1) key
    rcases this with h | h
    · exact .inl h
    · exact .inr (by omega)
theorem reach_keeps {st : List (Nat × Nat)} : ∀ (k : Nat) {s : List Nat} {y : Nat}, y ∈ s → y ∈ Rc61.reach st k s
  | 0, _, _, h => h
  | k + 1, _, _, h => by
    rw [reach_succ]
    exact reach_keeps k (mem_stepS.mpr (.inl h))
theorem reach_iff {st : List (Nat × Nat)} {x y : Nat} : (Rc61.reach st st.length [x]).contains y = true ↔ Reach st x y := by
  rw [List.contains_iff_mem]
  constructor
  · refine reach_sound _ (fun z hz => ?_) y
    rw [List.mem_singleton.mp hz]
    exact .refl
  · intro h
    have cl : Closed st (Rc61.reach st st.length [x]) := by
      rcases closed_or st.length (s := [x]) 0 (.inr (Nat.zero_le _)) with q | q
      · exact q
      · intro p hp _
        rw [Nat.zero_add] at q
        have e : (st.filter fun p => (Rc61.reach st st.length [x]).contains p.2).length = st.length := Nat.le_antisymm (List.length_filter_le _ _) q
        have := List.length_filter_eq_length_iff.mp e p hp
        exact List.contains_iff_mem.mp this
    induction h with
    | refl => exact reach_keeps _ (List.mem_singleton.mpr rfl)
    | step _ m ih => exact cl _ m ih

/-! ### the pairs that stand -/
/-- none comes round: each pair goes up by some rank -/
def Ranked (st : List (Nat × Nat)) : Prop := ∃ r : Nat → Nat, ∀ p ∈ st, r p.1 < r p.2
theorem ranked_snoc {st : List (Nat × Nat)} {w l : Nat} (h : Ranked st) (hn : ¬ Reach st l w) : Ranked (st ++ [(w, l)]) := by
  classical
  obtain ⟨r, hr⟩ := h
  refine ⟨fun x => if Reach st l x then r x + (r w + 1) else r x, fun p hp => ?_⟩
  dsimp only
  rcases List.mem_append.mp hp with hp | hp
  · have := hr p hp
    by_cases c : Reach st l p.1
    · rw [if_pos c, if_pos (c.step hp)]
      omega
    · rw [if_neg c]
      split <;> omega
  · rw [List.mem_singleton.mp hp]
    dsimp only
    rw [if_neg hn, if_pos .refl]
    omega
/-- where one comes to from c, as the program keeps it -/
def ledOn (those : List Nat) (w : Nat) (behind : List Nat) : List Nat := if those.contains w = true then those ++ behind.filter fun c => !those.contains c else those
structure SInv (n : Nat) (st : List (Nat × Nat)) (rc : Nat → List Nat) : Prop where
  to : ∀ c, c < n → ∀ y, y ∈ rc c ↔ Reach st c y
  nd : ∀ c, c < n → (rc c).Nodup
  lt : ∀ c, c < n → ∀ y ∈ rc c, y < n
  ends : ∀ p ∈ st, p.1 < n ∧ p.2 < n
  rk : Ranked st
theorem SInv.start (n : Nat) : SInv n [] fun c => [c] where
  to := fun c _ y => by
    rw [List.mem_singleton]
    constructor
    · rintro rfl; exact .refl
    · intro h
      cases h with
      | refl => rfl
      | step _ m => simp at m
  nd := fun c _ => by simp
  lt := fun c hc y hy => by rw [List.mem_singleton.mp hy]; exact hc
  ends := fun p hp => by simp at hp
  rk := ⟨fun _ => 0, fun p hp => by simp at hp⟩
theorem stand_eq {n : Nat} {st : List (Nat × Nat)} {rc : Nat → List Nat} (h : SInv n st rc) {w l : Nat} (hl : l < n) : Rc61.stand st (w, l) = if (rc l).contains w = true then st else st ++ [(w, l)] := by
  have e : (Rc61.reach st st.length [l]).contains w = (rc l).contains w := by
    rw [Bool.eq_iff_iff, reach_iff, List.contains_iff_mem, h.to l hl]
  show (if (Rc61.reach st st.length [l]).contains w = true then st else st ++ [(w, l)]) = _
  rw [e]
theorem SInv.step {n : Nat} {st : List (Nat × Nat)} {rc : Nat → List Nat} (h : SInv n st rc) {w l : Nat} (hw : w < n) (hl : l < n) (hc : (rc l).contains w = false) : SInv n (st ++ [(w, l)]) fun c => ledOn (rc c) w (rc l) where
  to := fun c hcn y => by
    rw [reach_snoc, ← h.to c hcn y, ← h.to c hcn w, ← h.to l hl y]
    unfold ledOn
    by_cases q : (rc c).contains w = true
    · rw [if_pos q]
      have qm := List.contains_iff_mem.mp q
      rw [List.mem_append, List.mem_filter]
      constructor
      · rintro (z | ⟨z, _⟩)
        · exact .inl z
        · exact .inr ⟨qm, z⟩
      · rintro (z | ⟨_, z⟩)
        · exact .inl z
        · cases e : (rc c).contains y with
          | true => exact .inl (List.contains_iff_mem.mp e)
          | false => exact .inr ⟨z, rfl⟩
    · rw [if_neg q]
      constructor
      · exact .inl
      · rintro (z | ⟨z, _⟩)
        · exact z
        · exact absurd (List.contains_iff_mem.mpr z) q
  nd := fun c hcn => by
    unfold ledOn
    split
    · refine List.nodup_append.mpr ⟨h.nd c hcn, List.Pairwise.filter _ (h.nd l hl), fun x hx y hy e => ?_⟩
      subst e
      have := (List.mem_filter.mp hy).2
      rw [List.contains_iff_mem.mpr hx] at this
      cases this
    · exact h.nd c hcn
  lt := fun c hcn y hy => by
    unfold ledOn at hy
    split at hy
    · rcases List.mem_append.mp hy with z | z
      · exact h.lt c hcn y z
      · exact h.lt l hl y (List.mem_filter.mp z).1
    · exact h.lt c hcn y hy
  ends := fun p hp => by
    rcases List.mem_append.mp hp with z | z
    · exact h.ends p z
    · rw [List.mem_singleton.mp z]; exact ⟨hw, hl⟩
  rk := ranked_snoc h.rk fun z => by
    rw [List.contains_iff_mem.mpr ((h.to l hl w).mpr z)] at hc
    cases hc
theorem SInv.len {n : Nat} {st : List (Nat × Nat)} {rc : Nat → List Nat} (h : SInv n st rc) {c : Nat} (hc : c < n) : (rc c).length ≤ n := nodup_len (h.nd c hc) (h.lt c hc)

/-! ### the order by pairs -/
theorem least_of {r : Nat → Nat} : ∀ {l : List Nat}, l ≠ [] → ∃ i ∈ l, ∀ j ∈ l, r i ≤ r j
  | [a], _ => ⟨a, by simp, fun j hj => by rw [List.mem_singleton.mp hj]; exact Nat.le_refl _⟩
  | a :: c :: l, _ => by
    obtain ⟨i, hi, h⟩ := least_of (r := r) (l := c :: l) (by simp)
    rcases Nat.le_total (r a) (r i) with q | q
    · refine ⟨a, List.mem_cons_self, fun j hj => ?_⟩
      rcases List.mem_cons.mp hj with e | hj
      · rw [e]; exact Nat.le_refl _
      · exact Nat.le_trans q (h j hj)
    · refine ⟨i, List.mem_cons_of_mem _ hi, fun j hj => ?_⟩
      rcases List.mem_cons.mp hj with e | hj
      · rw [e]; exact q
      · exact h j hj
/-- the losers of standing pairs whose winner is left -/
def losers (st : List (Nat × Nat)) (left : List Nat) : List Nat := (st.filter fun p => left.contains p.1).map fun p => p.2
def free (st : List (Nat × Nat)) (left : List Nat) : List Nat := left.filter fun i => !(losers st left).contains i
theorem free_ne {st : List (Nat × Nat)} {left : List Nat} (h : Ranked st) (hl : left ≠ []) : free st left ≠ [] := by
  obtain ⟨r, hr⟩ := h
  obtain ⟨i, hi, hm⟩ := least_of (r := r) hl
  have : i ∈ free st left := by
    refine List.mem_filter.mpr ⟨hi, ?_⟩
    cases q : (losers st left).contains i with
    | false => rfl
    | true =>
      obtain ⟨p, hp, e⟩ := List.mem_map.mp (List.contains_iff_mem.mp q)
      obtain ⟨h1, h2⟩ := List.mem_filter.mp hp
      have h3 := hr p h1
      have h4 := hm p.1 (List.contains_iff_mem.mp h2)
      rw [e] at h3
      omega
  intro e
  rw [e] at this
  simp at this
theorem any_losers (st : List (Nat × Nat)) (left : List Nat) (i : Nat) : (st.any fun p => p.2 == i && left.contains p.1) = (losers st left).contains i := by
  rw [Bool.eq_iff_iff, List.contains_iff_mem, List.any_eq_true]
  unfold losers
  rw [List.mem_map]
  constructor
  · rintro ⟨p, hp, h⟩
    rw [Bool.and_eq_true, beq_iff_eq] at h
    exact ⟨p, List.mem_filter.mpr ⟨hp, h.2⟩, h.1⟩
  · rintro ⟨p, hp, e⟩
    obtain ⟨h1, h2⟩ := List.mem_filter.mp hp
    refine ⟨p, h1, ?_⟩
    rw [Bool.and_eq_true, beq_iff_eq]
    exact ⟨e, h2⟩
theorem find_least {f : Nat → Bool} : ∀ {l : List Nat} {m : Nat}, l.Pairwise (· < ·) → m ∈ l → f m = true → (∀ y ∈ l, f y = true → m ≤ y) → l.find? f = some m
  | a :: l, m, hs, hm, h1, h2 => by
    obtain ⟨s1, s2⟩ := List.pairwise_cons.mp hs
    rw [List.find?_cons]
    cases q : f a with
    | true =>
      have h3 := h2 a List.mem_cons_self q
      rcases List.mem_cons.mp hm with e | hm
      · rw [e]
      · have := s1 m hm
        omega
    | false =>
      rcases List.mem_cons.mp hm with e | hm
      · rw [e] at h1
        rw [h1] at q
        cases q
      · exact find_least s2 hm h1 fun y hy => h2 y (List.mem_cons_of_mem _ hy)
theorem row_step {st : List (Nat × Nat)} {left : List Nat} {m k : Nat} (hs : left.Pairwise (· < ·)) (hm : m ∈ free st left) (hl : ∀ y ∈ free st left, m ≤ y) :
    Rc61.row st (k + 1) left = m :: Rc61.row st k (left.erase m) := by
  obtain ⟨h1, h2⟩ := List.mem_filter.mp hm
  have e : (left.find? fun i => !(st.any fun p => p.2 == i && left.contains p.1)) = some m := by
    refine find_least hs h1 ?_ fun y hy q => ?_
    · rw [any_losers]; exact h2
    · rw [any_losers] at q
      exact hl y (List.mem_filter.mpr ⟨hy, q⟩)
  show (match left.find? fun i => !(st.any fun p => p.2 == i && left.contains p.1) with
    | none => []
    | some i => i :: Rc61.row st k (left.filter fun j => j != i)) = _
  rw [e]
  show m :: Rc61.row st k (left.filter fun j => j != m) = _
  have nd : left.Nodup := hs.imp fun h => Nat.ne_of_lt h
  rw [nd.erase_eq_filter]
theorem row_nil (st : List (Nat × Nat)) : ∀ k, Rc61.row st k [] = []
  | 0 => rfl
  | _ + 1 => rfl
end Tv

/-! what the loops around a candidate keep -/
namespace Tv
open List
structure GI (n : Nat) (b : List Rc61.Ballot) (c g gr : Nat) : Prop where
  sub : ∀ i, g.testBit i = true → gr.testBit i = true
  lt : gr < 2 ^ n
  has : gr.testBit c = true
  cl : ∀ i j, g.testBit i = true → j < n → Rc61.beats b i j = false → gr.testBit j = true
  least : ∀ t, t < 2 ^ n → (∀ i j, t.testBit i = true → j < n → Rc61.beats b i j = false → t.testBit j = true) → t.testBit c = true → ∀ i, gr.testBit i = true → t.testBit i = true
theorem two_pow_lt {c n : Nat} (h : c < n) : 2 ^ c < 2 ^ n := Nat.pow_lt_pow_right (by decide) h
theorem GI.start {n : Nat} {b : List Rc61.Ballot} {c : Nat} (h : c < n) : GI n b c 0 (2 ^ c) where
  sub := fun i q => by simp at q
  lt := two_pow_lt h
  has := by rw [bit_two_pow]; simp
  cl := fun i j q => by simp at q
  least := fun t _ _ hc i q => by
    rw [bit_two_pow] at q
    rw [of_decide_eq_true q]
    exact hc
theorem GI.done {n : Nat} {b : List Rc61.Ballot} {c g : Nat} (x : GI n b c g g) : Around n b c g := ⟨x.lt, x.has, x.cl, x.least⟩
theorem GI.less {n : Nat} {b : List Rc61.Ballot} {c g gr : Nat} (x : GI n b c g gr) (h : gr ≠ g) : 2 ^ n - gr < 2 ^ n - g := by
  have h1 := sub_le x.sub
  have h2 := x.lt
  omega
structure GL (n : Nat) (b : List Rc61.Ballot) (c gr k gk : Nat) : Prop where
  sub : ∀ i, gr.testBit i = true → gk.testBit i = true
  lt : gk < 2 ^ n
  has : gk.testBit c = true
  cl : ∀ i ∈ (mem n gr).take k, ∀ j, j < n → Rc61.beats b i j = false → gk.testBit j = true
  least : ∀ t, t < 2 ^ n → (∀ i j, t.testBit i = true → j < n → Rc61.beats b i j = false → t.testBit j = true) → t.testBit c = true → ∀ i, gk.testBit i = true → t.testBit i = true
theorem GL.start {n : Nat} {b : List Rc61.Ballot} {c g gr : Nat} (x : GI n b c g gr) : GL n b c gr 0 gr := ⟨fun _ q => q, x.lt, x.has, fun i q => by simp at q, x.least⟩
theorem or_lt {x y n : Nat} (h1 : x < 2 ^ n) (h2 : y < 2 ^ n) : x ||| y < 2 ^ n := Nat.or_lt_two_pow h1 h2
theorem GL.step {n : Nat} {b : List Rc61.Ballot} {c gr k gk x : Nat} (h : GL n b c gr k gk) (hx : (mem n gr)[k]? = some x) : GL n b c gr (k + 1) (gk ||| unb n b x) where
  sub := fun i q => by rw [Nat.testBit_or, h.sub i q]; rfl
  lt := or_lt h.lt (setOf_lt _ n)
  has := by rw [Nat.testBit_or, h.has]; rfl
  cl := fun i hi j hj q => by
    rw [List.take_add_one, hx] at hi
    rw [Nat.testBit_or, Bool.or_eq_true]
    rcases List.mem_append.mp hi with z | z
    · exact .inl (h.cl i z j hj q)
    · have e : i = x := by simpa using z
      subst e
      exact .inr (unb_bit.mpr ⟨hj, q⟩)
  least := fun t ht hcl hc i q => by
    rw [Nat.testBit_or, Bool.or_eq_true] at q
    rcases q with q | q
    · exact h.least t ht hcl hc i q
    · obtain ⟨q1, q2⟩ := unb_bit.mp q
      have hm := (mem_mem.mp (List.mem_of_getElem? hx)).2
      exact hcl x i (h.least t ht hcl hc x (h.sub x hm)) q1 q2
theorem GL.done {n : Nat} {b : List Rc61.Ballot} {c gr gk : Nat} (h : GL n b c gr (mem n gr).length gk) (hg : gr < 2 ^ n) : GI n b c gr gk :=
  ⟨h.sub, h.lt, h.has, fun i j hi hj q => h.cl i (by rw [List.take_length]; exact mem_mem.mpr ⟨bit_lt hg hi, hi⟩) j hj q, h.least⟩
end Tv

/-! orders, ballots -/
namespace Tv
open List
theorem perm_of_sub : ∀ {r l : List Nat}, r.Nodup → (∀ x ∈ r, x ∈ l) → l.length = r.length → l.Perm r
  | [], l, _, _, h => by rw [List.eq_nil_of_length_eq_zero h]
  | x :: r, l, nd, hs, h => by
    obtain ⟨n1, n2⟩ := List.nodup_cons.mp nd
    have hx := hs x List.mem_cons_self
    have hl : (l.erase x).length = r.length := by
      rw [List.length_erase_of_mem hx, h]
      rfl
    have ih := perm_of_sub (r := r) (l := l.erase x) n2 (fun y hy => by
      have hne : y ≠ x := fun e => by subst e; exact n1 hy
      exact (List.mem_erase_of_ne hne).mpr (hs y (List.mem_cons_of_mem _ hy))) hl
    exact (List.perm_cons_erase hx).trans (ih.cons x)
theorem each_perm {n : Nat} {l : List Nat} : Rc61.each n l = true ↔ l.Perm (List.range n) := by
  unfold Rc61.each
  rw [Bool.and_eq_true, beq_iff_eq, List.all_eq_true]
  constructor
  · rintro ⟨h1, h2⟩
    exact perm_of_sub List.nodup_range (fun x hx => List.contains_iff_mem.mp (h2 x hx)) (by rw [h1, List.length_range])
  · intro h
    exact ⟨by rw [h.length_eq, List.length_range], fun x hx => List.contains_iff_mem.mpr (h.mem_iff.mpr hx)⟩
theorem sorted_is {n : Nat} {os ns : List Int} (h0 : ∀ x ∈ os, 0 ≤ x) (hp : ns.Perm os) (hs : ns.Pairwise (· ≤ ·)) : decide (ns = (List.range n).map fun (i : Nat) => (i : Int)) = Rc61.each n (os.map Int.toNat) := by
  rw [Bool.eq_iff_iff, decide_eq_true_eq, each_perm]
  have eo : os = (os.map Int.toNat).map fun (i : Nat) => (i : Int) := by
    rw [List.map_map]
    conv => lhs; rw [← List.map_id os]
    refine List.map_congr_left fun x hx => ?_
    have := h0 x hx
    show x = ((x.toNat : Nat) : Int)
    omega
  constructor
  · intro e
    have h1 : (((List.range n).map fun (i : Nat) => (i : Int)).map Int.toNat).Perm (os.map Int.toNat) := by
      rw [← e]
      exact hp.map _
    rw [List.map_map] at h1
    have : (List.range n).map (Int.toNat ∘ fun (i : Nat) => (i : Int)) = List.range n := by
      conv => rhs; rw [← List.map_id (List.range n)]
      exact List.map_congr_left fun x _ => Int.toNat_natCast x
    rw [this] at h1
    exact h1.symm
  · intro h
    refine List.Perm.eq_of_pairwise (le := (· ≤ ·)) (fun a b _ _ h1 h2 => Int.le_antisymm h1 h2) hs ?_ ?_
    · rw [List.pairwise_map]
      exact List.Pairwise.imp (fun h => by omega) List.pairwise_lt_range
    · refine hp.trans ?_
      rw [eo]
      exact h.map _
/-! a ballot more -/
theorem place_lt {l : List Nat} {i : Nat} (h : i ∈ l) : Rc61.place l i < l.length := List.findIdx_lt_length.mpr ⟨i, h, by simp⟩
theorem place_get {l : List Nat} {i p : Nat} (nd : l.Nodup) (h : l[p]? = some i) : Rc61.place l i = p := by
  obtain ⟨hp, e⟩ := List.getElem?_eq_some_iff.mp h
  unfold Rc61.place
  refine (List.findIdx_eq hp).mpr ⟨by rw [e]; simp, fun j hj => ?_⟩
  rw [beq_eq_false_iff_ne]
  intro q
  have : j = p := (List.getElem_inj nd).mp (by rw [q, e])
  omega
theorem get_place {l : List Nat} {i : Nat} (h : i ∈ l) : l[Rc61.place l i]? = some i := by
  have hp := place_lt h
  rw [List.getElem?_eq_getElem hp]
  have := List.findIdx_getElem (xs := l) (p := fun x => x == i) (w := hp)
  have e : l[Rc61.place l i] = i := by
    have t := this
    simp at t
    exact t
  rw [e]
theorem place_is {l : List Nat} {i a p : Nat} (nd : l.Nodup) (hi : i ∈ l) (ha : l[p]? = some a) : Rc61.place l i = p ↔ i = a := by
  constructor
  · intro e
    have := get_place hi
    rw [e, ha] at this
    exact (Option.some.inj this).symm
  · rintro rfl
    exact place_get nd ha
/-- the table while a ballot is taken in: p winners are through, of the next one q losers -/
def castW (W : Nat → Nat → Nat) (l : List Nat) (k p q : Nat) (i j : Nat) : Nat :=
  W i j + if (Rc61.place l i < p ∧ Rc61.place l i < Rc61.place l j) ∨ (Rc61.place l i = p ∧ p < Rc61.place l j ∧ Rc61.place l j < p + 1 + q) then k else 0
theorem castW_zero (W : Nat → Nat → Nat) (l : List Nat) (k i j : Nat) : castW W l k 0 0 i j = W i j := by
  unfold castW
  rw [if_neg (by omega)]
  rfl
theorem castW_step {W : Nat → Nat → Nat} {l : List Nat} {k p q a c i j : Nat} (nd : l.Nodup) (ha : l[p]? = some a) (hc : l[p + 1 + q]? = some c) (hi : i ∈ l) (hj : j ∈ l) :
    castW W l k p (q + 1) i j = if i = a ∧ j = c then castW W l k p q a c + k else castW W l k p q i j := by
  have h1 := place_is nd hi ha
  have h2 := place_is nd hj hc
  unfold castW
  by_cases e : i = a ∧ j = c
  · obtain ⟨rfl, rfl⟩ := e
    have h1 := h1.mpr rfl
    have h2 := h2.mpr rfl
    rw [if_pos (show i = i ∧ j = j from ⟨rfl, rfl⟩), if_pos (by omega), if_neg (by omega)]
    omega
  · rw [if_neg e]
    congr 1
    have e' : ¬ (Rc61.place l i = p ∧ Rc61.place l j = p + 1 + q) := fun z => e ⟨h1.mp z.1, h2.mp z.2⟩
    by_cases z : (Rc61.place l i < p ∧ Rc61.place l i < Rc61.place l j) ∨ (Rc61.place l i = p ∧ p < Rc61.place l j ∧ Rc61.place l j < p + 1 + q)
    · rw [if_pos z, if_pos (by omega)]
    · rw [if_neg z, if_neg (by omega)]
theorem castW_turn {W : Nat → Nat → Nat} {l : List Nat} {k p i j : Nat} (hj : j ∈ l) : castW W l k p (l.length - (p + 1)) i j = castW W l k (p + 1) 0 i j := by
  have := place_lt hj
  unfold castW
  congr 1
  by_cases z : (Rc61.place l i < p ∧ Rc61.place l i < Rc61.place l j) ∨ (Rc61.place l i = p ∧ p < Rc61.place l j ∧ Rc61.place l j < p + 1 + (l.length - (p + 1)))
  · rw [if_pos z, if_pos (by omega)]
  · rw [if_neg z, if_neg (by omega)]
theorem wins_more (b : List Rc61.Ballot) (l : List Nat) (k i j : Nat) : Rc61.wins (b ++ [(l, k)]) i j = Rc61.wins b i j + if Rc61.place l i < Rc61.place l j then k else 0 := by
  unfold Rc61.wins
  rw [List.filter_append, List.map_append, List.sum_append]
  congr 1
  by_cases c : Rc61.place l i < Rc61.place l j
  · rw [if_pos c, List.filter_cons_of_pos (by simpa using c)]
    simp
  · rw [if_neg c, List.filter_cons_of_neg (by simpa using c)]
    rfl
theorem castW_done {b : List Rc61.Ballot} {l : List Nat} {k i j : Nat} (hi : i ∈ l) : castW (Rc61.wins b) l k l.length 0 i j = Rc61.wins (b ++ [(l, k)]) i j := by
  have := place_lt hi
  rw [wins_more]
  unfold castW
  congr 1
  by_cases c : Rc61.place l i < Rc61.place l j
  · rw [if_pos c, if_pos (by omega)]
  · rw [if_neg c, if_neg (by omega)]
/-! votes in turn -/
theorem turns_cons (b : List Rc61.Ballot) (i : Nat) (r : List Nat) : Rc61.turns b (i :: r) = r.foldl (fun (x : Nat) y => if Rc61.beats b y x = true then y else x) i := rfl
end Tv

/-! the order by pairs, as the loops go -/
namespace Tv
open List
/-- pairs of the first i winners -/
def upTo (n : Nat) (b : List Rc61.Ballot) (i : Nat) : List (Nat × Nat) := (List.range i).flatMap fun i => ((List.range n).filter fun j => Rc61.beats b i j).map fun j => (i, j)
theorem upTo_all (n : Nat) (b : List Rc61.Ballot) : upTo n b n = base n b := rfl
theorem upTo_succ (n : Nat) (b : List Rc61.Ballot) (i : Nat) : upTo n b (i + 1) = upTo n b i ++ ((List.range n).filter fun j => Rc61.beats b i j).map fun j => (i, j) := by
  unfold upTo
  rw [List.range_succ, List.flatMap_append]
  simp
theorem part_yes {n : Nat} {b : List Rc61.Ballot} {i j : Nat} (h : Rc61.beats b i j = true) : ((List.range (j + 1)).filter fun j => Rc61.beats b i j).map (fun j => (i, j)) = ((List.range j).filter fun j => Rc61.beats b i j).map (fun j => (i, j)) ++ [(i, j)] := by
  rw [List.range_succ, List.filter_append, List.filter_cons_of_pos h, List.map_append]
  rfl
theorem part_no {n : Nat} {b : List Rc61.Ballot} {i j : Nat} (h : ¬ Rc61.beats b i j = true) : ((List.range (j + 1)).filter fun j => Rc61.beats b i j).map (fun j => (i, j)) = ((List.range j).filter fun j => Rc61.beats b i j).map (fun j => (i, j)) := by
  rw [List.range_succ, List.filter_append, List.filter_cons_of_neg h]
  simp
def trip (b : List Rc61.Ballot) (p : Nat × Nat) : Int × Int × Int := (-(Rc61.wins b p.1 p.2 : Int), (p.1 : Int), (p.2 : Int))
def untrip (q : Int × Int × Int) : Nat × Nat := (q.2.1.toNat, q.2.2.toNat)
theorem untrip_trip (b : List Rc61.Ballot) (p : Nat × Nat) : untrip (trip b p) = p := by
  unfold untrip trip
  simp
theorem trips_are {n : Nat} {b : List Rc61.Ballot} {qs : List (Int × Int × Int)} (hp : qs.Perm ((base n b).map (trip b)))
    (hs : qs.Pairwise fun p q => p.1 < q.1 ∨ (p.1 = q.1 ∧ (p.2.1 < q.2.1 ∨ (p.2.1 = q.2.1 ∧ p.2.2 ≤ q.2.2)))) : qs = (Rc61.pairs n b).map (trip b) := by
  have e1 : qs = (qs.map untrip).map (trip b) := by
    rw [List.map_map]
    conv => lhs; rw [← List.map_id qs]
    refine List.map_congr_left fun q hq => ?_
    obtain ⟨p, _, rfl⟩ := List.mem_map.mp (hp.mem_iff.mp hq)
    show trip b p = trip b (untrip (trip b p))
    rw [untrip_trip]
  have e2 : (qs.map untrip).Perm (base n b) := by
    have := hp.map untrip
    rw [List.map_map] at this
    have e : (base n b).map (untrip ∘ trip b) = base n b := by
      conv => rhs; rw [← List.map_id (base n b)]
      exact List.map_congr_left fun p _ => untrip_trip b p
    rw [e] at this
    exact this
  have e3 : (qs.map untrip).Pairwise fun p q => leP b p q = true := by
    rw [e1, List.pairwise_map] at hs
    refine hs.imp fun {p q} h => ?_
    rw [leP_iff]
    unfold trip at h
    dsimp only at h
    omega
  rw [e1, pairs_uniq e2 e3]
/-- the pairs that stand of the first i -/
def stUp (n : Nat) (b : List Rc61.Ballot) (i : Nat) : List (Nat × Nat) := ((Rc61.pairs n b).take i).foldl Rc61.stand []
theorem stUp_all (n : Nat) (b : List Rc61.Ballot) : stUp n b (Rc61.pairs n b).length = Rc61.standing n b := by
  unfold stUp
  rw [List.take_length]
  rfl
theorem stUp_succ {n : Nat} {b : List Rc61.Ballot} {i : Nat} {p : Nat × Nat} (h : (Rc61.pairs n b)[i]? = some p) : stUp n b (i + 1) = Rc61.stand (stUp n b i) p := by
  unfold stUp
  rw [List.take_add_one, h, List.foldl_append]
  rfl
theorem ledOn_len {n : Nat} {st : List (Nat × Nat)} {rc : Nat → List Nat} (h : SInv n st rc) {c : Nat} (hc : c < n) : (rc c).length ≤ n := h.len hc
/-- there are no more pairs than two of n -/
theorem base_len (n : Nat) (b : List Rc61.Ballot) : ∀ i, (upTo n b i).length ≤ i * n
  | 0 => by simp [upTo]
  | i + 1 => by
    have := base_len n b i
    rw [upTo_succ, List.length_append, List.length_map, Nat.succ_mul]
    have h2 := List.length_filter_le (fun j => Rc61.beats b i j) (List.range n)
    rw [List.length_range] at h2
    omega
theorem pairs_len (n : Nat) (b : List Rc61.Ballot) : (Rc61.pairs n b).length ≤ n * n := by
  rw [pairs_def, List.length_mergeSort, ← upTo_all]
  exact base_len n b n
theorem st_len {n : Nat} {b : List Rc61.Ballot} : ∀ i, (stUp n b i).length ≤ i := by
  intro i
  induction i with
  | zero => simp [stUp]
  | succ i ih =>
    cases h : (Rc61.pairs n b)[i]? with
    | none =>
      have : stUp n b (i + 1) = stUp n b i := by
        unfold stUp
        rw [List.take_add_one, h]
        simp
      rw [this]
      omega
    | some p =>
      rw [stUp_succ h]
      unfold Rc61.stand
      split
      · omega
      · rw [List.length_append]
        simp
        exact ih
/-- standing is sound -/
theorem standing_ok (n : Nat) (b : List Rc61.Ballot) : ∀ i, ∃ rc, SInv n (stUp n b i) rc := by
  intro i
  induction i with
  | zero => exact ⟨_, SInv.start n⟩
  | succ i ih =>
    obtain ⟨rc, h⟩ := ih
    cases q : (Rc61.pairs n b)[i]? with
    | none =>
      have : stUp n b (i + 1) = stUp n b i := by
        unfold stUp
        rw [List.take_add_one, q]
        simp
      rw [this]
      exact ⟨rc, h⟩
    | some p =>
      obtain ⟨w, l⟩ := p
      obtain ⟨hw, hl, _⟩ := mem_pairs.mp (List.mem_of_getElem? q)
      rw [stUp_succ q, stand_eq h hl]
      cases c : (rc l).contains w with
      | true => exact ⟨rc, by rw [if_pos rfl]; exact h⟩
      | false => exact ⟨_, by rw [if_neg Bool.false_ne_true]; exact h.step hw hl c⟩
theorem standing_rk (n : Nat) (b : List Rc61.Ballot) : Ranked (Rc61.standing n b) := by
  obtain ⟨rc, h⟩ := standing_ok n b (Rc61.pairs n b).length
  rw [stUp_all] at h
  exact h.rk
theorem erase_at : ∀ {l : List Nat} {m : Nat}, m ∈ l → ∃ j, l[j]? = some m ∧ (∀ i, i < j → l[i]? ≠ some m) ∧ l.eraseIdx j = l.erase m
  | a :: l, m, h => by
    by_cases e : a = m
    · subst e
      exact ⟨0, rfl, fun i hi => absurd hi (Nat.not_lt_zero i), by rw [List.erase_cons_head]; rfl⟩
    · rcases List.mem_cons.mp h with z | z
      · exact absurd z.symm e
      · obtain ⟨j, h1, h2, h3⟩ := erase_at z
        refine ⟨j + 1, h1, fun i hi => ?_, ?_⟩
        · cases i with
          | zero =>
            intro q
            exact e (Option.some.inj q)
          | succ i => exact h2 i (by omega)
        · rw [List.erase_cons_tail (by simpa using e), List.eraseIdx_cons_succ, h3]
theorem free_lt {st : List (Nat × Nat)} {left : List Nat} {m : Nat} (h : m ∈ free st left) : m ∈ left := (List.mem_filter.mp h).1
theorem erase_lt {l : List Nat} {m : Nat} (h : l.Pairwise (· < ·)) : (l.erase m).Pairwise (· < ·) := h.sublist List.erase_sublist
end Tv

/-! calls, states, answers -/
namespace Tv
open List
abbrev Cl := List (List Int)
def num (c : Cl) : Int := (c.headD []).headD 0
def args (c : Cl) : List Int := (c.headD []).tail
def ord (c : Cl) : List Int := c.tail.headD []
def OkC (c : Cl) : Prop := PyFlat.okCall PyRc61.shape c
/-- the forms that a call has -/
inductive Form : Cl → Prop
  | begin : Form [[0]]
  | cand (n : Int) : Form [[1, n]]
  | ballot (k : Int) (o : List Int) : Form [[2, k], o]
  | wins (i j : Int) : Form [[3, i, j]]
  | first : Form [[4]]
  | smallest : Form [[5]]
  | uncovered : Form [[6]]
  | heads : Form [[7]]
  | turns (o : List Int) : Form [[8], o]
  | calmest : Form [[9]]
  | ranked : Form [[10]]
theorem len0 {α : Type} {l : List α} (h : 0 = l.length) : l = [] := List.eq_nil_of_length_eq_zero h.symm
theorem len1 {α : Type} {l : List α} (h : 1 = l.length) : ∃ x, l = [x] := by
  match l, h with
  | [x], _ => exact ⟨x, rfl⟩
theorem len2 {α : Type} {l : List α} (h : 2 = l.length) : ∃ x y, l = [x, y] := by
  match l, h with
  | [x, y], _ => exact ⟨x, y, rfl⟩
theorem form_of {c : Cl} (h : OkC c) : Form c := by
  obtain ⟨p, a, xs, rfl, hs⟩ := h
  unfold PyRc61.shape at hs
  by_cases h0 : p = 0
  · subst h0
    rw [if_pos rfl] at hs
    obtain ⟨e1, e2⟩ := Prod.mk.inj (Option.some.inj hs)
    rw [len0 e1, len0 e2]
    exact .begin
  rw [if_neg h0] at hs
  by_cases h1 : p = 1
  · subst h1
    rw [if_pos rfl] at hs
    obtain ⟨e1, e2⟩ := Prod.mk.inj (Option.some.inj hs)
    obtain ⟨x, rfl⟩ := len1 e1
    rw [len0 e2]
    exact .cand x
  rw [if_neg h1] at hs
  by_cases h2 : p = 2
  · subst h2
    rw [if_pos rfl] at hs
    obtain ⟨e1, e2⟩ := Prod.mk.inj (Option.some.inj hs)
    obtain ⟨x, rfl⟩ := len1 e1
    obtain ⟨o, rfl⟩ := len1 e2
    exact .ballot x o
  rw [if_neg h2] at hs
  by_cases h3 : p = 3
  · subst h3
    rw [if_pos rfl] at hs
    obtain ⟨e1, e2⟩ := Prod.mk.inj (Option.some.inj hs)
    obtain ⟨x, y, rfl⟩ := len2 e1
    rw [len0 e2]
    exact .wins x y
  rw [if_neg h3] at hs
  by_cases h4 : p = 4
  · subst h4
    rw [if_pos rfl] at hs
    obtain ⟨e1, e2⟩ := Prod.mk.inj (Option.some.inj hs)
    rw [len0 e1, len0 e2]
    exact .first
  rw [if_neg h4] at hs
  by_cases h5 : p = 5
  · subst h5
    rw [if_pos rfl] at hs
    obtain ⟨e1, e2⟩ := Prod.mk.inj (Option.some.inj hs)
    rw [len0 e1, len0 e2]
    exact .smallest
  rw [if_neg h5] at hs
  by_cases h6 : p = 6
  · subst h6
    rw [if_pos rfl] at hs
    obtain ⟨e1, e2⟩ := Prod.mk.inj (Option.some.inj hs)
    rw [len0 e1, len0 e2]
    exact .uncovered
  rw [if_neg h6] at hs
  by_cases h7 : p = 7
  · subst h7
    rw [if_pos rfl] at hs
    obtain ⟨e1, e2⟩ := Prod.mk.inj (Option.some.inj hs)
    rw [len0 e1, len0 e2]
    exact .heads
  rw [if_neg h7] at hs
  by_cases h8 : p = 8
  · subst h8
    rw [if_pos rfl] at hs
    obtain ⟨e1, e2⟩ := Prod.mk.inj (Option.some.inj hs)
    obtain ⟨o, rfl⟩ := len1 e2
    rw [len0 e1]
    exact .turns o
  rw [if_neg h8] at hs
  by_cases h9 : p = 9
  · subst h9
    rw [if_pos rfl] at hs
    obtain ⟨e1, e2⟩ := Prod.mk.inj (Option.some.inj hs)
    rw [len0 e1, len0 e2]
    exact .calmest
  rw [if_neg h9] at hs
  by_cases h10 : p = 10
  · subst h10
    rw [if_pos rfl] at hs
    obtain ⟨e1, e2⟩ := Prod.mk.inj (Option.some.inj hs)
    rw [len0 e1, len0 e2]
    exact .ranked
  rw [if_neg h10] at hs
  cases hs

/-- what a call makes of a state, and answers -/
def nx (s : Rc61.Abs) (c : Cl) : Rc61.Abs × List Int := Rc61Neutral.step s (PyRc61.whole c)
def nats (o : List Int) : List Nat := o.map Int.toNat
theorem nx_begin (s : Rc61.Abs) : nx s [[0]] = ({}, [0]) := rfl
theorem nx_cand (s : Rc61.Abs) (n : Int) : nx s [[1, n]] = if n < 1 ∨ 12 < n then (s, [-1]) else ({ n := n.toNat }, [0]) := by
  show ((Rc61.does s (.candidates n)).1, (Rc61.does s (.candidates n)).2.value :: (Rc61.does s (.candidates n)).2.numbers.map fun (b : Nat) => (b : Int)) = _
  have e : Rc61.does s (.candidates n) = if n < 1 ∨ (12 : Int) < n then (s, Rc61.refused) else ({ n := n.toNat }, { value := 0 }) := rfl
  rw [e]
  by_cases h : n < 1 ∨ 12 < n
  · rw [if_pos h, if_pos h]
    rfl
  · rw [if_neg h, if_neg h]
    rfl
theorem nx_ballot {s : Rc61.Abs} (h0 : s.n ≠ 0) (k : Int) (o : List Int) : nx s [[2, k], o] = if Rc61.each s.n (nats o) = false then (s, [-1]) else if 256 ≤ s.ballots.length then (s, [-2]) else ({ s with ballots := s.ballots ++ [(nats o, k.toNat)] }, [(s.ballots.length : Int)]) := by
  have e : Rc61.does s (.ballot (nats o) (o.length : Int) k.toNat) = if (o.length : Int) ≠ (s.n : Int) ∨ Rc61.each s.n (nats o) = false then (s, Rc61.refused) else if 256 ≤ s.ballots.length then (s, { value := -2 }) else ({ s with ballots := s.ballots ++ [(nats o, k.toNat)] }, { value := (s.ballots.length : Nat) }) := by
    show (if s.n = 0 then _ else _) = _
    rw [if_neg h0]
    rfl
  show ((Rc61.does s (.ballot (nats o) (o.length : Int) k.toNat)).1, (Rc61.does s (.ballot (nats o) (o.length : Int) k.toNat)).2.value :: (Rc61.does s (.ballot (nats o) (o.length : Int) k.toNat)).2.numbers.map fun (b : Nat) => (b : Int)) = _
  rw [e]
  have hc : ((o.length : Int) ≠ (s.n : Int) ∨ Rc61.each s.n (nats o) = false) ↔ Rc61.each s.n (nats o) = false := by
    constructor
    · rintro (h | h)
      · cases q : Rc61.each s.n (nats o) with
        | false => rfl
        | true =>
          have := (each_perm.mp q).length_eq
          unfold nats at this
          rw [List.length_map, List.length_range] at this
          omega
      · exact h
    · exact .inr
  by_cases h : Rc61.each s.n (nats o) = false
  · rw [if_pos h, if_pos (hc.mpr h)]
    rfl
  · rw [if_neg h, if_neg (fun z => h (hc.mp z))]
    by_cases h2 : 256 ≤ s.ballots.length
    · rw [if_pos h2, if_pos h2]
      rfl
    · rw [if_neg h2, if_neg h2]
      rfl
theorem nx_wins {s : Rc61.Abs} (h0 : s.n ≠ 0) (i j : Int) : nx s [[3, i, j]] = if (0 ≤ i ∧ i < s.n) ∧ (0 ≤ j ∧ j < s.n) then (s, [0, (Rc61.wins s.ballots i.toNat j.toNat : Int)]) else (s, [-1]) := by
  have e : Rc61.does s (.wins i j) = if i < 0 ∨ (s.n : Int) ≤ i ∨ j < 0 ∨ (s.n : Int) ≤ j then (s, Rc61.refused) else (s, { value := 0, numbers := [Rc61.wins s.ballots i.toNat j.toNat] }) := by
    show (if s.n = 0 then _ else _) = _
    rw [if_neg h0]
  show ((Rc61.does s (.wins i j)).1, (Rc61.does s (.wins i j)).2.value :: (Rc61.does s (.wins i j)).2.numbers.map fun (b : Nat) => (b : Int)) = _
  rw [e]
  by_cases h : i < 0 ∨ (s.n : Int) ≤ i ∨ j < 0 ∨ (s.n : Int) ≤ j
  · rw [if_pos h, if_neg (by omega)]
    rfl
  · rw [if_neg h, if_pos (by omega)]
    rfl
theorem nx_first {s : Rc61.Abs} (h0 : s.n ≠ 0) : nx s [[4]] = (s, [match Rc61.first s.n s.ballots with | some i => (i : Int) | none => -2]) := by
  have e : Rc61.does s .first = match Rc61.first s.n s.ballots with | some i => (s, { value := (i : Nat) }) | none => (s, { value := -2 }) := by
    show (if s.n = 0 then _ else _) = _
    rw [if_neg h0]
    cases Rc61.first s.n s.ballots <;> rfl
  show ((Rc61.does s .first).1, (Rc61.does s .first).2.value :: (Rc61.does s .first).2.numbers.map fun (b : Nat) => (b : Int)) = _
  rw [e]
  cases Rc61.first s.n s.ballots with
  | none => rfl
  | some i => rfl
theorem nx_smallest {s : Rc61.Abs} (h0 : s.n ≠ 0) : nx s [[5]] = (s, [(Rc61.smallestOf s.n s.ballots : Int)]) := by
  have e : Rc61.does s .smallest = (s, { value := (Rc61.smallestOf s.n s.ballots : Nat) }) := by
    show (if s.n = 0 then _ else _) = _
    rw [if_neg h0]
  show ((Rc61.does s .smallest).1, (Rc61.does s .smallest).2.value :: (Rc61.does s .smallest).2.numbers.map fun (b : Nat) => (b : Int)) = _
  rw [e]
  rfl
theorem nx_uncovered {s : Rc61.Abs} (h0 : s.n ≠ 0) : nx s [[6]] = (s, [(Rc61.uncovered s.n s.ballots : Int)]) := by
  have e : Rc61.does s .uncovered = (s, { value := (Rc61.uncovered s.n s.ballots : Nat) }) := by
    show (if s.n = 0 then _ else _) = _
    rw [if_neg h0]
  show ((Rc61.does s .uncovered).1, (Rc61.does s .uncovered).2.value :: (Rc61.does s .uncovered).2.numbers.map fun (b : Nat) => (b : Int)) = _
  rw [e]
  rfl
theorem nx_heads {s : Rc61.Abs} (h0 : s.n ≠ 0) : nx s [[7]] = (s, [(Rc61.headsOf s.n s.ballots : Int)]) := by
  have e : Rc61.does s .heads = (s, { value := (Rc61.headsOf s.n s.ballots : Nat) }) := by
    show (if s.n = 0 then _ else _) = _
    rw [if_neg h0]
  show ((Rc61.does s .heads).1, (Rc61.does s .heads).2.value :: (Rc61.does s .heads).2.numbers.map fun (b : Nat) => (b : Int)) = _
  rw [e]
  rfl
theorem nx_turns {s : Rc61.Abs} (h0 : s.n ≠ 0) (o : List Int) : nx s [[8], o] = if Rc61.each s.n (nats o) = false then (s, [-1]) else (s, [(Rc61.turns s.ballots (nats o) : Int)]) := by
  have e : Rc61.does s (.turns (nats o) (o.length : Int)) = if (o.length : Int) ≠ (s.n : Int) ∨ Rc61.each s.n (nats o) = false then (s, Rc61.refused) else (s, { value := (Rc61.turns s.ballots (nats o) : Nat) }) := by
    show (if s.n = 0 then _ else _) = _
    rw [if_neg h0]
  show ((Rc61.does s (.turns (nats o) (o.length : Int))).1, (Rc61.does s (.turns (nats o) (o.length : Int))).2.value :: (Rc61.does s (.turns (nats o) (o.length : Int))).2.numbers.map fun (b : Nat) => (b : Int)) = _
  rw [e]
  have hc : ((o.length : Int) ≠ (s.n : Int) ∨ Rc61.each s.n (nats o) = false) ↔ Rc61.each s.n (nats o) = false := by
    constructor
    · rintro (h | h)
      · cases q : Rc61.each s.n (nats o) with
        | false => rfl
        | true =>
          have := (each_perm.mp q).length_eq
          unfold nats at this
          rw [List.length_map, List.length_range] at this
          omega
      · exact h
    · exact .inr
  by_cases h : Rc61.each s.n (nats o) = false
  · rw [if_pos h, if_pos (hc.mpr h)]
    rfl
  · rw [if_neg h, if_neg (fun z => h (hc.mp z))]
    rfl
/-- an order told: how many, these, 0 to 12 -/
def padI (l : List Nat) : List Int := (l.map fun (i : Nat) => (i : Int)) ++ List.replicate (12 - l.length) 0
theorem pad_eq (l : List Nat) : (Rc61.padded l).map (fun (b : Nat) => (b : Int)) = padI l := by
  unfold Rc61.padded padI
  rw [List.map_append, List.map_replicate]
  rfl
theorem nx_calmest {s : Rc61.Abs} (h0 : s.n ≠ 0) : nx s [[9]] = (s, (s.n : Int) :: padI (Rc61.calmestOf s.n s.ballots)) := by
  have e : Rc61.does s .calmest = (s, { value := (s.n : Nat), numbers := Rc61.padded (Rc61.calmestOf s.n s.ballots) }) := by
    show (if s.n = 0 then _ else _) = _
    rw [if_neg h0]
  show ((Rc61.does s .calmest).1, (Rc61.does s .calmest).2.value :: (Rc61.does s .calmest).2.numbers.map fun (b : Nat) => (b : Int)) = _
  rw [e, ← pad_eq]
theorem nx_ranked {s : Rc61.Abs} (h0 : s.n ≠ 0) : nx s [[10]] = (s, (s.n : Int) :: padI (Rc61.ranked s.n s.ballots)) := by
  have e : Rc61.does s .ranked = (s, { value := (s.n : Nat), numbers := Rc61.padded (Rc61.ranked s.n s.ballots) }) := by
    show (if s.n = 0 then _ else _) = _
    rw [if_neg h0]
  show ((Rc61.does s .ranked).1, (Rc61.does s .ranked).2.value :: (Rc61.does s .ranked).2.numbers.map fun (b : Nat) => (b : Int)) = _
  rw [e, ← pad_eq]
theorem nx_zero {s : Rc61.Abs} (h0 : s.n = 0) {c : Cl} (h : Form c) (h1 : num c ≠ 0) (h2 : num c ≠ 1) : nx s c = (s, [-4]) := by
  have key : ∀ x : Rc61.Call, Rc61Neutral.callOf (PyRc61.whole c) = some x → Rc61.does s x = (s, { value := -4 }) → nx s c = (s, [-4]) := by
    intro x e1 e2
    unfold nx Rc61Neutral.step
    rw [e1]
    dsimp only
    rw [e2]
    rfl
  cases h with
  | begin => exact absurd rfl h1
  | cand n => exact absurd rfl h2
  | ballot k o => exact key _ rfl (if_pos h0)
  | wins i j => exact key _ rfl (if_pos h0)
  | first => exact key _ rfl (if_pos h0)
  | smallest => exact key _ rfl (if_pos h0)
  | uncovered => exact key _ rfl (if_pos h0)
  | heads => exact key _ rfl (if_pos h0)
  | turns o => exact key _ rfl (if_pos h0)
  | calmest => exact key _ rfl (if_pos h0)
  | ranked => exact key _ rfl (if_pos h0)

/-! what is asked of a call -/
def CB (c : Cl) : Prop := PyInside.call PyRc61.bound c = true ∧ Rc61Neutral.asked1 (PyRc61.whole c) = true
theorem cb_cand {n : Int} (h : CB [[1, n]]) : n ≤ 6 ∨ 12 < n := by
  have h2 : (Rc61Neutral.whole32 n && (decide (n ≤ 6) || decide (12 < n))) = true := h.2
  rw [Bool.and_eq_true, Bool.or_eq_true, decide_eq_true_eq, decide_eq_true_eq] at h2
  exact h2.2
theorem all_within {lo hi : Int} {o : List Int} (h : o.all (PyInside.within lo hi) = true) : ∀ x ∈ o, lo ≤ x ∧ x ≤ hi := fun x hx => by
  have := List.all_eq_true.mp h x hx
  unfold PyInside.within at this
  rw [Bool.and_eq_true, decide_eq_true_eq, decide_eq_true_eq] at this
  exact this
theorem cb_ballot {k : Int} {o : List Int} (h : CB [[2, k], o]) : (0 ≤ k ∧ k ≤ 4294967295) ∧ o.length ≤ 12 ∧ ∀ x ∈ o, 0 ≤ x ∧ x ≤ 255 := by
  have h1 : ((PyInside.within 0 4294967295 k && true) && (((decide (0 ≤ o.length) && decide (o.length ≤ 12)) && o.all (PyInside.within 0 255)) && true)) = true := h.1
  rw [Bool.and_true, Bool.and_true, Bool.and_eq_true, Bool.and_eq_true, Bool.and_eq_true, decide_eq_true_eq, decide_eq_true_eq] at h1
  obtain ⟨a, ⟨_, b⟩, c⟩ := h1
  unfold PyInside.within at a
  rw [Bool.and_eq_true, decide_eq_true_eq, decide_eq_true_eq] at a
  exact ⟨a, b, all_within c⟩
theorem cb_turns {o : List Int} (h : CB [[8], o]) : o.length ≤ 12 ∧ ∀ x ∈ o, 0 ≤ x ∧ x ≤ 255 := by
  have h1 : (true && (((decide (0 ≤ o.length) && decide (o.length ≤ 12)) && o.all (PyInside.within 0 255)) && true)) = true := h.1
  rw [Bool.true_and, Bool.and_true, Bool.and_eq_true, Bool.and_eq_true, decide_eq_true_eq, decide_eq_true_eq] at h1
  obtain ⟨⟨_, b⟩, c⟩ := h1
  exact ⟨b, all_within c⟩
/-- what a state bears -/
structure Good (s : Rc61.Abs) : Prop where
  n : s.n ≤ 6
  len : s.ballots.length ≤ 256
  times : ∀ x ∈ s.ballots, x.2 ≤ 4294967295
  zero : s.n = 0 → s.ballots = []
theorem Good.start : Good {} := ⟨by decide, by decide, fun x h => by simp at h, fun _ => rfl⟩
theorem Good.nx {s : Rc61.Abs} (g : Good s) {c : Cl} (h : Form c) (b : CB c) : Good (nx s c).1 := by
  have stay : ∀ {r : List Int}, Tv.nx s c = (s, r) → Good (Tv.nx s c).1 := fun e => by rw [e]; exact g
  by_cases h0 : s.n = 0
  · by_cases h1 : num c = 0
    · cases h with
      | begin => rw [nx_begin]; exact .start
      | _ => exact absurd h1 (by simp [num])
    · by_cases h2 : num c = 1
      · cases h with
        | cand n =>
          rw [nx_cand]
          by_cases q : n < 1 ∨ 12 < n
          · rw [if_pos q]; exact g
          · rw [if_neg q]
            have := cb_cand b
            exact ⟨show n.toNat ≤ 6 by omega, Nat.zero_le _, fun x h => by simp at h, fun _ => rfl⟩
        | begin => exact absurd rfl h1
        | _ => exact absurd h2 (by simp [num])
      · exact stay (nx_zero h0 h h1 h2)
  · cases h with
    | begin => rw [nx_begin]; exact .start
    | cand n =>
      rw [nx_cand]
      by_cases q : n < 1 ∨ 12 < n
      · rw [if_pos q]; exact g
      · rw [if_neg q]
        have := cb_cand b
        exact ⟨show n.toNat ≤ 6 by omega, Nat.zero_le _, fun x h => by simp at h, fun _ => rfl⟩
    | ballot k o =>
      rw [nx_ballot h0]
      split
      · exact g
      · split
        · exact g
        · obtain ⟨⟨_, hk⟩, _⟩ := cb_ballot b
          refine ⟨g.n, ?_, fun x hx => ?_, fun z => absurd z h0⟩
          · show (s.ballots ++ [(nats o, k.toNat)]).length ≤ 256
            rw [List.length_append]
            show s.ballots.length + 1 ≤ 256
            omega
          · rcases List.mem_append.mp hx with z | z
            · exact g.times x z
            · rw [List.mem_singleton.mp z]
              show k.toNat ≤ 4294967295
              omega
    | wins i j =>
      rw [nx_wins h0]
      split <;> exact g
    | first => exact stay (nx_first h0)
    | smallest => exact stay (nx_smallest h0)
    | uncovered => exact stay (nx_uncovered h0)
    | heads => exact stay (nx_heads h0)
    | turns o =>
      rw [nx_turns h0]
      split <;> exact g
    | calmest => exact stay (nx_calmest h0)
    | ranked => exact stay (nx_ranked h0)
/-! a line of calls -/
def stAt (s : Rc61.Abs) (cs : List Cl) : Rc61.Abs := cs.foldl (fun s c => (nx s c).1) s
def played (s : Rc61.Abs) (cs : List Cl) : List (List Int) := PyFlat.played Rc61Neutral.step s (cs.map PyRc61.whole)
theorem played_app (s : Rc61.Abs) (c : Cl) : ∀ (cs : List Cl) (s : Rc61.Abs), played s (cs ++ [c]) = played s cs ++ [(nx (stAt s cs) c).2]
  | [], s => rfl
  | d :: cs, s => by
    show (nx s d).2 :: played (nx s d).1 (cs ++ [c]) = (nx s d).2 :: (played (nx s d).1 cs ++ [(nx (stAt (nx s d).1 cs) c).2])
    rw [played_app s c cs]
theorem stAt_app (s : Rc61.Abs) (cs : List Cl) (c : Cl) : stAt s (cs ++ [c]) = (nx (stAt s cs) c).1 := by
  unfold stAt
  rw [List.foldl_append]
  rfl
theorem told_app (l : List (List Int)) (a : List Int) : PyFlat.told (l ++ [a]) = PyFlat.told l ++ ((a.length : Int) :: a) := by
  unfold PyFlat.told
  rw [List.flatMap_append]
  simp
theorem told_le (s : Rc61.Abs) : ∀ (cs : List Cl) (i : Nat) (s : Rc61.Abs), (PyFlat.told (played s (cs.take i))).length ≤ (PyFlat.told (played s cs)).length
  | cs, 0, s => by
    rw [List.take_zero]
    exact Nat.zero_le _
  | [], i + 1, s => Nat.le_refl _
  | c :: cs, i + 1, s => by
    show (((nx s c).2.length : Int) :: (nx s c).2 ++ PyFlat.told (played (nx s c).1 (cs.take i))).length ≤ (((nx s c).2.length : Int) :: (nx s c).2 ++ PyFlat.told (played (nx s c).1 cs)).length
    rw [List.length_append, List.length_append]
    have := told_le s cs i (nx s c).1
    omega
/-- what is asked of a line gives its calls -/
theorem line_of {l : List Int} (h : PyRc61.answers_asked l = true) : ∃ raw : List Cl, l = PyFlat.put raw ∧ (∀ c ∈ raw, OkC c ∧ CB c) ∧ PyRc61.answers l = PyFlat.told (played {} raw) ∧ (PyFlat.told (played {} raw)).length ≤ 10000000 := by
  unfold PyRc61.answers_asked at h
  cases e : PyFlat.calls PyRc61.shape l.length l with
  | none => rw [e] at h; cases h
  | some raw =>
    rw [e] at h
    dsimp only at h
    rw [Bool.and_eq_true, Bool.and_eq_true, Bool.and_eq_true] at h
    obtain ⟨⟨⟨_, h1⟩, h2⟩, h3⟩ := h
    obtain ⟨p1, p2⟩ := PyFlat.put_calls _ _ _ e
    have ea : PyRc61.answers l = PyFlat.told (played {} raw) := by
      unfold PyRc61.answers PyRc61.calls
      rw [e]
      rfl
    refine ⟨raw, p1, fun c hc => ⟨p2 c hc, ?_, ?_⟩, ea, ?_⟩
    · exact List.all_eq_true.mp h1 c hc
    · unfold Rc61Neutral.asked at h2
      rw [Bool.and_eq_true, Bool.and_eq_true] at h2
      exact List.all_eq_true.mp h2.1.1 _ (List.mem_map.mpr ⟨c, hc, rfl⟩)
    · rw [ea] at h3
      exact of_decide_eq_true h3
end Tv

set_option maxRecDepth 100000
set_option maxHeartbeats 4000000
namespace Tv
open PySem PySem.Spec PyProof.Rows L2
/-! ### the text's places -/
def top (i : Nat) : Stmt := PySem.Challenge.pw_turnvotes_s01_answers.main.body.getD i (.Pass ⟨0, 0, 0, 0⟩)
/-! ### a def of the top that keeps a promise: whoever calls it asks no more -/
structure Dfn (P : Program) (w : World) (K : PySem.W.Frag) (mg : Str → Option Value) (base : Heap) (k : Nat) (x : Str) (ps : List Str) (sp : Sp) : Prop where
  ex : ∃ (f : Addr) (fd : FuncData), FnOk P w K mg base CX0 k f fd ps sp ∧ mg x = some (.ref f) ∧ PySem.W.keepIn K (.ref f) = true ∧ Binds K fd ps []
structure Mth (P : Program) (w : World) (K : PySem.W.Frag) (mg : Str → Option Value) (base : Heap) (C : Addr) (k : Nat) (m : Str) (ps : List Str) (sp : Sp) : Prop where
  ex : ∃ (f : Addr) (fd : FuncData), FnOk P w K mg base CX0 k f fd ps sp ∧ Meth K C m f ∧ Binds K fd ps []
/-! ### the tally: how it lies in the heap -/
def tF (n k : Nat) (wl : Addr) : List (Str × V) := [("size", .int n), ("ballots", .int k), ("wins", .ref wl)]
def nums (l : List Nat) : List V := l.map fun (i : Nat) => V.int (i : Int)
def row (n : Nat) (f : Nat → Nat) : List V := nums ((List.range n).map f)
structure Tab (C : Addr) (H : Hp) (t dx wl : Addr) (rs : List Addr) (n k : Nat) (W : Nat → Nat → Nat) : Prop where
  obj : H t = some (.ins C dx (tF n k wl))
  tab : H wl = some (.lst (rs.map V.ref))
  len : rs.length = n
  nd : rs.Nodup
  rows : ∀ i r, rs[i]? = some r → H r = some (.lst (row n (W i)))
/-- the tally of these ballots; F: the lists that it may change -/
def Tal (C : Addr) (H : Hp) (t : Addr) (F : List Addr) (n : Nat) (b : List Rc61.Ballot) : Prop := ∃ dx wl rs, F = wl :: rs ∧ Tab C H t dx wl rs n b.length (Rc61.wins b)
theorem Tab.same {C : Addr} {H H' : Hp} {t dx wl : Addr} {rs : List Addr} {n k : Nat} {W : Nat → Nat → Nat} (h : Tab C H t dx wl rs n k W) (s : Same H H') : Tab C H' t dx wl rs n k W :=
  ⟨s _ _ h.obj, s _ _ h.tab, h.len, h.nd, fun i r e => s _ _ (h.rows i r e)⟩
theorem Tal.same {C : Addr} {H H' : Hp} {t : Addr} {F : List Addr} {n : Nat} {b : List Rc61.Ballot} (h : Tal C H t F n b) (s : Same H H') : Tal C H' t F n b := by
  obtain ⟨dx, wl, rs, e, x⟩ := h
  exact ⟨dx, wl, rs, e, x.same s⟩
theorem lk_here {k : Str} {v : V} {r : List (Str × V)} : List.lookup k ((k, v) :: r) = some v := by
  have e : (k == k) = true := beq_self_eq_true k
  simp only [List.lookup, e]
theorem lk_past {k g : Str} {v : V} {r : List (Str × V)} (h : (k == g) = false) : List.lookup k ((g, v) :: r) = List.lookup k r := by
  simp only [List.lookup, h]
theorem put_here {f : Str} {v x : V} {r : List (Str × V)} : putF f v ((f, x) :: r) = (f, v) :: r := if_pos rfl
theorem put_past {f g : Str} {v x : V} {r : List (Str × V)} (h : ¬ g = f) : putF f v ((g, x) :: r) = (g, x) :: putF f v r := if_neg h
theorem tF_size (n k : Nat) (wl : Addr) : (tF n k wl).lookup ("size" : Str) = some (.int n) := lk_here
theorem tF_ballots (n k : Nat) (wl : Addr) : (tF n k wl).lookup ("ballots" : Str) = some (.int k) := (lk_past (by decide +kernel)).trans lk_here
theorem tF_wins (n k : Nat) (wl : Addr) : (tF n k wl).lookup ("wins" : Str) = some (.ref wl) := (lk_past (by decide +kernel)).trans ((lk_past (by decide +kernel)).trans lk_here)
/-- a method's name is none of the attributes -/
def NoF (m : Str) : Prop := (m == ("size" : Str)) = false ∧ (m == ("ballots" : Str)) = false ∧ (m == ("wins" : Str)) = false
theorem tF_no {m : Str} (h : NoF m) (n k : Nat) (wl : Addr) : (tF n k wl).lookup m = none := (lk_past h.1).trans ((lk_past h.2.1).trans ((lk_past h.2.2).trans rfl))
/-- what the top has written of the class -/
structure Txt (K : PySem.W.Frag) (C : Addr) : Prop where
  cl : Cls K C
  nS : NoAttr K C "size"
  nB : NoAttr K C "ballots"
  nW : NoAttr K C "wins"
/-! ### readings in short -/
def tC1 (sp : Sp) (t : TA) : TE := fun σ H Q => t σ H fun vs H1 => sp vs H1 Q E0
/-- o.m(..), o the tally in slot i -/
def tM1 (C : Addr) (sp : Sp) (i : Nat) (t : TA) : TE := fun σ H Q => ∃ a dx n k wl, σ[i]? = some (some (.ref a)) ∧ H a = some (.ins C dx (tF n k wl)) ∧ t σ H fun vs H2 => sp (.ref a :: vs) H2 Q E0
def tSz (C : Addr) (i : Nat) : TE := fun σ H Q => ∃ a dx n k wl, σ[i]? = some (some (.ref a)) ∧ H a = some (.ins C dx (tF n k wl)) ∧ Q (.int n) H
def tBs (C : Addr) (i : Nat) : TE := fun σ H Q => ∃ a dx n k wl, σ[i]? = some (some (.ref a)) ∧ H a = some (.ins C dx (tF n k wl)) ∧ Q (.int k) H
def tWs (C : Addr) (i : Nat) : TE := fun σ H Q => ∃ a dx n k wl, σ[i]? = some (some (.ref a)) ∧ H a = some (.ins C dx (tF n k wl)) ∧ Q (.ref wl) H
theorem pe_imp {X : Cx} {e : Expr} {t t' : TE} (h : PE X e t) (i : ∀ σ H Q, t' σ H Q → t σ H Q) : PE X e t' := ⟨fun pins s σ H Q I q => h.run pins s σ H Q I (i _ _ _ q)⟩
section
variable {X : Cx} {C : Addr} {k i : Nat} {x m : Str} {ps : List Str} {sp : Sp} {p pos apos : Pos} {e o : Expr} {es : List Expr} {t : TA}
theorem pe_def (D : Dfn X.prog X.w X.K X.mg X.base k x ps sp) (hr : Room k X.A) (hg : Gl X x) (ha : PA X (e :: es) t) (hdb : (x == ("__debug__" : Str)) = false := by decide)
    (he : starEach (e :: es) X.env = (false, eval e X.env) :: starEach es X.env := by rfl) (hpl : (backTo pos (starEach es X.env)).any (·.1) = false := by rfl) : PE X (.Call (.Name x p) (e :: es) [] pos) (tC1 sp t) := by
  obtain ⟨f, fd, F, g, kp, b⟩ := D.ex
  refine pe_imp (pe_call F hr hg g kp b .nil pass0 ha hdb he hpl) fun σ H Q h => ?_
  have e : (fun (vs : List V) (H1 : Hp) => sp (vs ++ []) H1 Q E0) = fun vs H1 => sp vs H1 Q E0 := by
    funext vs H1
    rw [List.append_nil]
  show t σ H fun vs H1 => sp (vs ++ []) H1 Q E0
  rw [e]
  exact h
theorem pe_mth {pl : Sem Bool} (M : Mth X.prog X.w X.K X.mg X.base C k m ps sp) (T : Txt X.K C) (hn : NoF m) (hr : Room k X.A) (ho : PE X o (tVar i)) (ha : PA X (e :: es) t)
    (hst : starEach (e :: es) X.env = (false, eval e X.env) :: starEach es X.env := by rfl) (hpl : (backTo pos (starEach es X.env)).any (·.1) = false := by rfl)
    (ht : eval (.Call (.Attribute o m apos) (e :: es) [] pos) X.env = (do
      let ov ← eval o X.env
      standAt apos.atName
      let (f, first) ← holding [ov] (getMethod ov m pl)
      callWith pos f first (backTo pos (starEach (e :: es) X.env)) (backToKw pos (keywordEach [] X.env))) := by rfl) :
    PE X (.Call (.Attribute o m apos) (e :: es) [] pos) (tM1 C sp i t) := by
  obtain ⟨f, fd, F, hm, b⟩ := M.ex
  refine pe_imp (pe_meth ho T.cl hm F hr b .nil pass0 ha hst hpl ht) fun σ H Q h => ?_
  obtain ⟨a, dx, n, kb, wl, h1, h2, h3⟩ := h
  refine ⟨.ref a, h1, a, dx, _, rfl, h2, tF_no hn n kb wl, ?_⟩
  have e : (fun (vs : List V) (H1 : Hp) => sp (.ref a :: (vs ++ [])) H1 Q E0) = fun vs H1 => sp (.ref a :: vs) H1 Q E0 := by
    funext vs H1
    rw [List.append_nil]
  rw [e]
  exact h3
theorem pe_sz (T : Txt X.K C) (ho : PE X o (tVar i)) (hb : attributeBase o "size" X.env (eval o X.env) = eval o X.env := by rfl) : PE X (.Attribute o "size" pos) (tSz C i) :=
  pe_imp (pe_fld ho hb) fun _ _ _ ⟨a, dx, n, k, wl, h1, h2, h3⟩ => ⟨.ref a, h1, a, C, dx, _, _, rfl, h2, T.cl, T.nS, tF_size n k wl, h3⟩
theorem pe_bs (T : Txt X.K C) (ho : PE X o (tVar i)) (hb : attributeBase o "ballots" X.env (eval o X.env) = eval o X.env := by rfl) : PE X (.Attribute o "ballots" pos) (tBs C i) :=
  pe_imp (pe_fld ho hb) fun _ _ _ ⟨a, dx, n, k, wl, h1, h2, h3⟩ => ⟨.ref a, h1, a, C, dx, _, _, rfl, h2, T.cl, T.nB, tF_ballots n k wl, h3⟩
theorem pe_ws (T : Txt X.K C) (ho : PE X o (tVar i)) (hb : attributeBase o "wins" X.env (eval o X.env) = eval o X.env := by rfl) : PE X (.Attribute o "wins" pos) (tWs C i) :=
  pe_imp (pe_fld ho hb) fun _ _ _ ⟨a, dx, n, k, wl, h1, h2, h3⟩ => ⟨.ref a, h1, a, C, dx, _, _, rfl, h2, T.cl, T.nW, tF_wins n k wl, h3⟩
end
/-! ### lists of numbers -/
theorem nums_get {l : List Nat} {i : Nat} {v : V} (h : (nums l)[i]? = some v) : ∃ x : Nat, l[i]? = some x ∧ v = .int (x : Int) := by
  unfold nums at h
  rw [List.getElem?_map] at h
  cases e : l[i]? with
  | none => rw [e] at h; cases h
  | some x => rw [e] at h; exact ⟨x, rfl, (Option.some.inj h).symm⟩
theorem nums_at {l : List Nat} {i x : Nat} (h : l[i]? = some x) : (nums l)[i]? = some (.int (x : Int)) := by
  unfold nums
  rw [List.getElem?_map, h]
  rfl
theorem row_at {n i : Nat} {f : Nat → Nat} (h : i < n) : (row n f)[i]? = some (.int (f i : Int)) := by
  refine nums_at ?_
  rw [List.getElem?_map, List.getElem?_range h]
  rfl
theorem row_len (n : Nat) (f : Nat → Nat) : (row n f).length = n := by
  unfold row nums
  rw [List.length_map, List.length_map, List.length_range]
theorem nums_len (l : List Nat) : (nums l).length = l.length := by unfold nums; rw [List.length_map]
theorem nums_ints (l : List Nat) : nums l = (l.map fun (i : Nat) => (i : Int)).map V.int := by
  unfold nums
  rw [List.map_map]
  rfl
theorem sqL {K : PySem.W.Frag} {H : Hp} {a : Addr} {xs : List V} (h : H a = some (.lst xs)) : SqL K H a xs := .inl (.inl h)
theorem sqT {K : PySem.W.Frag} {H : Hp} {a : Addr} {xs : List V} (h : H a = some (.tup xs)) : SqT K H a xs := .inl (.inl h)
theorem same_new {H : Hp} {p : Addr} {o : HO} (h : H p = none) : Same H (upd H p o) := fun b x e => by
  rw [upd_ne (ne_of_none e h)]
  exact e
theorem small {n : Nat} (h : n ≤ 100000) : n < sizeLine := Nat.lt_of_le_of_lt h (by decide)
end Tv

set_option maxRecDepth 100000
set_option maxHeartbeats 4000000
namespace Tv
open PySem PySem.Spec PyProof.Rows L2
/-! ### o[i] op= e of a list -/
theorem get_list {X : Cx} : PGet X (rIxL X.K) := by
  intro pins s σ H o i ov iv Q I ro ri h
  obtain ⟨p, xs, k, z, rfl, rfl, hq, he, q⟩ := h
  cases ro
  obtain ⟨t, rfl⟩ := ri
  obtain ⟨its, r, pl, hz⟩ := I.list hq
  obtain ⟨j, h1, h2, h3, h4, h5⟩ := atI_get he
  obtain ⟨w, ew, rw'⟩ := r.get h2
  have hl := r.length
  have hn := line63
  by_cases h0 : 0 ≤ k
  · have hj : k.toNat = j := by
      rw [seqIndex_of h0 h5] at h1
      exact Option.some.inj h1
    exact wpAny_getItem_list pl.isList h0 (by omega) (by rw [hj]; simpa using ew) ⟨z, H, I, rw', q⟩
  · have hj : (k + (its.toArray.size : Int)).toNat = j := by
      rw [seqIndex_neg (by omega) h4] at h1
      rw [List.size_toArray, ← hl]
      exact Option.some.inj h1
    exact wpAny_getItem_list_neg pl.isList (by omega) (by rw [List.size_toArray] <;> omega) (by omega) (by rw [hj]; simpa using ew) ⟨z, H, I, rw', q⟩
theorem ip_or {X : Cx} : PIp X .BitOr (ipI fun i j => Builtin.bitOr i j) := by
  intro pins s σ H x y v u Q I r1 r2 h
  obtain ⟨i, j, e1, e2, q⟩ := h
  subst e1; subst e2
  obtain ⟨t, rfl⟩ := r1
  obtain ⟨t', rfl⟩ := r2
  exact ior_int ⟨.int _, H, I.tok _, ⟨_, rfl⟩, q⟩
theorem or_nat (a b : Nat) : Builtin.bitOr (a : Int) (b : Int) = ((a ||| b : Nat) : Int) := by
  rw [bitOr_nn (Int.natCast_nonneg _) (Int.natCast_nonneg _), Int.toNat_natCast, Int.toNat_natCast]
theorem xor_nat (a b : Nat) : Builtin.bitXor (a : Int) (b : Int) = ((a ^^^ b : Nat) : Int) := by
  rw [Bits.bitXor_pp (Int.natCast_nonneg _) (Int.natCast_nonneg _), Int.toNat_natCast, Int.toNat_natCast]
theorem bits_lt (g : Nat) : g < 2 ^ Builtin.Int.intBits (g : Int) := by
  unfold Builtin.Int.intBits
  by_cases c : g = 0
  · subst c; decide
  · have e : ((g : Int) == 0) = false := by simpa using c
    rw [e, if_neg (by decide), Int.natAbs_natCast]
    exact Nat.lt_log2_self
theorem bits_le {g n : Nat} (h : g < 2 ^ n) : Builtin.Int.intBits (g : Int) ≤ n := by
  unfold Builtin.Int.intBits
  by_cases c : g = 0
  · subst c; simp
  · have e : ((g : Int) == 0) = false := by simpa using c
    rw [e, if_neg (by decide), Int.natAbs_natCast]
    exact (Nat.log2_lt c).mpr h
def tTru (K : PySem.W.Frag) (ta : TE) : TT := fun σ H Q => ta σ H fun x H' => ∃ k, TruV K x H' k ∧ Q k H'
/-! the same with the written part as a letter (within a comprehension) -/
theorem pt_tru {X : Cx} (K : PySem.W.Frag) {a : Expr} {ta : TE} (ha : PE X a ta) (hK : X.K = K := by rfl) (he : ∀ whole, isTrue a X.env whole = (do let v ← whole; standAt a.pos; holding [v] (truthy v)) := by intro _; rfl) : PT X a (tTru K ta) := by
  subst hK
  exact pt_truth ha he
theorem ix_listK {X : Cx} (K : PySem.W.Frag) (hK : X.K = K := by rfl) : IxR X (rIxL K) := by
  subst hK
  exact ix_list
theorem op_inK {X : Cx} (K : PySem.W.Frag) (hK : X.K = K := by rfl) : OpR X (compareOp .In) (rIn K false) := by
  subst hK
  exact op_in_seq
theorem op_notInK {X : Cx} (K : PySem.W.Frag) (hK : X.K = K := by rfl) : OpR X (compareOp .NotIn) (rIn K true) := by
  subst hK
  exact op_notIn_seq
theorem pg_tupK {X : Cx} (K : PySem.W.Frag) {es : List Expr} {k n : Nat} {pos : Pos} {t : TGs} (hc : X.calm = true) (h : PGs X es t) (hK : X.K = K := by rfl)
    (hn : (assignEach es X.env).length = n := by rfl) (hst : (assignEach es X.env).findIdx? (·.1) = none := by rfl) : PG X (.Tuple es k pos) (gTup K n t) := by
  subst hK
  exact pg_tup hc h hn hst
/-! ### comprehensions -/
/-- all but the list at D is as it was -/
def Kp (D : Addr) (H H' : Hp) : Prop := ∀ b o, b ≠ D → H b = some o → H' b = some o
theorem Kp.of {D : Addr} {H H' : Hp} (s : Same H H') : Kp D H H' := fun b o _ e => s b o e
theorem Kp.upd {D : Addr} {H H' : Hp} {o : HO} (s : Same H H') : Kp D H (upd H' D o) := fun b x hb e => by
  rw [upd_ne hb]
  exact s b x e
theorem pr_snoc {α β : Type} {F : α → β → Prop} : ∀ {l : List α} {m : List β} {a : α} {b : β}, Paired F l m → F a b → Paired F (l ++ [a]) (m ++ [b])
  | _, _, _, _, .nil, h => .cons h .nil
  | _, _, _, _, .cons r t, h => .cons r (pr_snoc t h)
theorem pr_map {α β : Type} {f : α → β} : ∀ {l : List α} {m : List β}, Paired (fun a b => b = f a) l m → m = l.map f
  | _, _, .nil => rfl
  | _, _, .cons r t => by rw [List.map_cons, r, ← pr_map t]
theorem pr_get {α β : Type} {F : α → β → Prop} : ∀ {l : List α} {m : List β} {i : Nat} {b : β}, Paired F l m → m[i]? = some b → ∃ a, l[i]? = some a ∧ F a b
  | _, _, _, _, .nil, h => by simp at h
  | _, _, 0, _, .cons r _, h => by
    have e := Option.some.inj (show some _ = some _ from h)
    subst e
    exact ⟨_, rfl, r⟩
  | _, _, i + 1, b, .cons _ t, h => pr_get (i := i) t (by simpa using h)
theorem pr_getL {α β : Type} {F : α → β → Prop} : ∀ {l : List α} {m : List β} {i : Nat} {a : α}, Paired F l m → l[i]? = some a → ∃ b, m[i]? = some b ∧ F a b
  | _, _, _, _, .nil, h => by simp at h
  | _, _, 0, _, .cons r _, h => by
    have e := Option.some.inj (show some _ = some _ from h)
    subst e
    exact ⟨_, rfl, r⟩
  | _, _, i + 1, b, .cons _ t, h => pr_getL (i := i) t (by simpa using h)
abbrev LcGoal (J : It) (g : TG) (tt : TT) (te : TE) (vs : List Nat) (σ : L2.St) (H1 : Hp) (D : Addr) (Qd : Hp → Prop) : Prop :=
  ∃ W : Nat → Nat → Hp → Prop, (∃ m, W 0 m (upd H1 D (.lst []))) ∧ ∀ i m H, W i m H →
      (J.stop i H ∧ Qd H) ∨ (J.go i H ∧ ∃ Nx : Hp → Prop, (∀ H', Nx H' → ∃ m', m' < m ∧ W (i + 1) m' H') ∧ ∀ x H', J.yld i H x H' → g x (wipe σ vs) H' fun σ2 H2 => wipe σ2 vs = wipe σ vs ∧ tt σ2 H2 fun b H3 =>
        if b = true then te σ2 H3 fun y H4 => ∃ acc, H4 D = some (.lst acc) ∧ acc.length < sizeLine ∧ Nx (upd H4 D (.lst (acc ++ [y]))) else Nx H3)
/-- no test -/
theorem yes {A B : Hp → Prop} {σ : L2.St} {H : Hp} (h : A H) : tYes σ H fun b H3 => if b = true then A H3 else B H3 := by
  show if true = true then A H else B H
  rw [if_pos rfl]
  exact h
section
variable {g : TG} {tt : TT} {te : TE} {vs : List Nat} {σ : L2.St} {H1 : Hp} {D : Addr} {Qd : Hp → Prop}
/-- over range(n): c says which are kept, G what stands for each -/
theorem lc_rngG {n : Nat} (c : Nat → Bool) (G : Nat → V → Hp → Prop) (hD : H1 D = none) (hn : n ≤ 100000) (hG : ∀ i v H H', G i v H → Kp D H H' → G i v H')
    (hs : ∀ i H, i < n → Same H1 H → (∃ acc, H D = some (.lst acc)) → ∀ R : Option V → Hp → Prop, (∀ H', Same H H' → c i = false → R none H') → (∀ v H', Same H H' → c i = true → G i v H' → R (some v) H') →
      g (.int (i : Int)) (wipe σ vs) H fun σ2 H2 => wipe σ2 vs = wipe σ vs ∧ tt σ2 H2 fun b H3 => if b = true then te σ2 H3 fun y H4 => R (some y) H4 else R none H3)
    (hd : ∀ H acc, Same H1 H → Paired (fun i v => G i v H) ((List.range n).filter c) acc → H D = some (.lst acc) → Qd H) : LcGoal (Itr 0 n) g tt te vs σ H1 D Qd := by
  refine lc_range (fun i H => ∃ acc, Same H1 H ∧ Paired (fun i v => G i v H) ((List.range i).filter c) acc ∧ H D = some (.lst acc) ∧ acc.length ≤ i) ⟨[], same_new hD, .nil, upd_same, Nat.le_refl _⟩ (fun i H hi ⟨acc, h1, h2, h3, h4⟩ => ?_) fun H ⟨acc, h1, h2, h3, _⟩ => hd H acc h1 h2 h3
  rw [Int.zero_add]
  refine hs i H hi h1 ⟨acc, h3⟩ (fun o H' => match o with
    | some y => ∃ acc, H' D = some (.lst acc) ∧ acc.length < sizeLine ∧ ∃ acc', Same H1 (upd H' D (.lst (acc ++ [y]))) ∧ Paired (fun i v => G i v (upd H' D (.lst (acc ++ [y])))) ((List.range (i + 1)).filter c) acc' ∧ (upd H' D (.lst (acc ++ [y]))) D = some (.lst acc') ∧ acc'.length ≤ i + 1
    | none => ∃ acc', Same H1 H' ∧ Paired (fun i v => G i v H') ((List.range (i + 1)).filter c) acc' ∧ H' D = some (.lst acc') ∧ acc'.length ≤ i + 1) (fun H' s hc => ?_) fun v H' s hc hv => ?_
  · refine ⟨acc, h1.trans s, ?_, s _ _ h3, by omega⟩
    rw [List.range_succ, List.filter_append, List.filter_cons_of_neg (by rw [hc]; decide), List.filter_nil, List.append_nil]
    exact Paired.mapP h2 fun a b z => hG a b _ _ z (Kp.of s)
  · refine ⟨acc, s _ _ h3, small (by omega), acc ++ [v], fun b x e => ?_, ?_, upd_same, by rw [List.length_append]; simp; omega⟩
    · rw [upd_ne (ne_of_none e hD)]
      exact s _ _ (h1 _ _ e)
    · rw [List.range_succ, List.filter_append, List.filter_cons_of_pos hc, List.filter_nil]
      exact pr_snoc (Paired.mapP h2 fun a b z => hG a b _ _ z (Kp.upd s)) (hG _ _ _ _ hv (Kp.upd (Same.refl _)))
/-- over a list -/
theorem lc_lstG {K : PySem.W.Frag} {a : Addr} {α : Type} {src : List α} {emb : α → V} (c : α → Bool) (G : α → V → Hp → Prop) (hD : H1 D = none) (ha : SqL K H1 a (src.map emb)) (hn : src.length ≤ 100000) (hG : ∀ i v H H', G i v H → Kp D H H' → G i v H')
    (hs : ∀ (i : Nat) (x : α) H, src[i]? = some x → Same H1 H → (∃ acc, H D = some (.lst acc)) → ∀ R : Option V → Hp → Prop, (∀ H', Same H H' → c x = false → R none H') → (∀ v H', Same H H' → c x = true → G x v H' → R (some v) H') →
      g (emb x) (wipe σ vs) H fun σ2 H2 => wipe σ2 vs = wipe σ vs ∧ tt σ2 H2 fun b H3 => if b = true then te σ2 H3 fun y H4 => R (some y) H4 else R none H3)
    (hd : ∀ H acc, Same H1 H → Paired (fun i v => G i v H) (src.filter c) acc → H D = some (.lst acc) → Qd H) : LcGoal (Itl K a) g tt te vs σ H1 D Qd := by
  refine lc_list (xs := src.map emb) (fun i H => ∃ acc, Same H1 H ∧ Paired (fun i v => G i v H) ((src.take i).filter c) acc ∧ H D = some (.lst acc) ∧ acc.length ≤ i) ⟨[], same_new hD, .nil, upd_same, Nat.le_refl _⟩ (fun i H _ ⟨acc, h1, _⟩ => h1.seq ha) (fun i y H hi ⟨acc, h1, h2, h3, h4⟩ => ?_) fun H ⟨acc, h1, h2, h3, _⟩ => ?_
  · obtain ⟨x, hx, rfl⟩ : ∃ x, src[i]? = some x ∧ y = emb x := by
      rw [List.getElem?_map] at hi
      cases e : src[i]? with
      | none => rw [e] at hi; cases hi
      | some x => rw [e] at hi; exact ⟨x, rfl, (Option.some.inj hi).symm⟩
    have hlt : i < src.length := (List.getElem?_eq_some_iff.mp hx).1
    have ht : src.take (i + 1) = src.take i ++ [x] := by
      rw [List.take_add_one, hx]
      rfl
    refine hs i x H hx h1 ⟨acc, h3⟩ (fun o H' => match o with
      | some y => ∃ acc, H' D = some (.lst acc) ∧ acc.length < sizeLine ∧ ∃ acc', Same H1 (upd H' D (.lst (acc ++ [y]))) ∧ Paired (fun i v => G i v (upd H' D (.lst (acc ++ [y])))) ((src.take (i + 1)).filter c) acc' ∧ (upd H' D (.lst (acc ++ [y]))) D = some (.lst acc') ∧ acc'.length ≤ i + 1
      | none => ∃ acc', Same H1 H' ∧ Paired (fun i v => G i v H') ((src.take (i + 1)).filter c) acc' ∧ H' D = some (.lst acc') ∧ acc'.length ≤ i + 1) (fun H' s hc => ?_) fun v H' s hc hv => ?_
    · refine ⟨acc, h1.trans s, ?_, s _ _ h3, by omega⟩
      rw [ht, List.filter_append, List.filter_cons_of_neg (by rw [hc]; decide), List.filter_nil, List.append_nil]
      exact Paired.mapP h2 fun a b z => hG a b _ _ z (Kp.of s)
    · refine ⟨acc, s _ _ h3, small (by omega), acc ++ [v], fun b x e => ?_, ?_, upd_same, by rw [List.length_append]; simp; omega⟩
      · rw [upd_ne (ne_of_none e hD)]
        exact s _ _ (h1 _ _ e)
      · rw [ht, List.filter_append, List.filter_cons_of_pos hc, List.filter_nil]
        exact pr_snoc (Paired.mapP h2 fun a b z => hG a b _ _ z (Kp.upd s)) (hG _ _ _ _ hv (Kp.upd (Same.refl _)))
  · rw [List.length_map, List.take_length] at h2
    exact hd H acc h1 h2 h3
end
end Tv

set_option maxRecDepth 100000
set_option maxHeartbeats 4000000
namespace Tv
open PySem PySem.Spec PyProof.Rows L2
section
variable {P : Program} {w : World} {K : PySem.W.Frag} {mg : Str → Option Value} {base : Heap} {C : Addr}
/-! ### Tally.beats -/
abbrev sBeats : Stmt := inClass (top 14) 5
def spBeats (C : Addr) : Sp := fun vs H Q _ => ∃ (t : Addr) (F : List Addr) (n : Nat) (b : List Rc61.Ballot) (i j : Nat), vs = [.ref t, .int (i : Int), .int (j : Int)] ∧ Tal C H t F n b ∧ i < n ∧ j < n ∧ Q (.bl (Rc61.beats b i j)) H
theorem scBeats : FnScope ["self", "one", "other"] ["self", "one", "other"] (defScope sBeats) := ⟨rfl, rfl, rfl, by decide +kernel, rfl, by decide +kernel, by decide +kernel⟩
theorem ok_beats {f : Addr} {fd : FuncData} (F : Fun K "beats" "Tally.beats" sBeats f fd) (T : Txt K C) : FnOk P w K mg base CX0 1 f fd ["self", "one", "other"] (spBeats C) := by
  refine F.ok scBeats (fun vs H Q E h => ?_) (fun cdv A outer s H vs Q E hr h => ?_)
  · obtain ⟨t, F, n, b, i, j, rfl, _⟩ := h
    rfl
  · obtain ⟨t, F, n, b, i, j, rfl, hT, hi, hj, q⟩ := h
    refine ⟨_, pss_one (ps_ret (pe_cmpR op_gt
      (pe_ix ix_list (pe_ix ix_list (pe_ws T (pv 0)) (pv 1) (fun _ _ => rfl)) (pv 2) (fun _ _ => rfl))
      (pe_ix ix_list (pe_ix ix_list (pe_ws T (pv 0)) (pv 2) (fun _ _ => rfl)) (pv 1) (fun _ _ => rfl)) (nomark _))), ?_⟩
    obtain ⟨dx, wl, rs, _, x⟩ := hT
    have ri : ∃ r, rs[i]? = some r := ⟨_, List.getElem?_eq_getElem (by rw [x.len]; exact hi)⟩
    have rj : ∃ r, rs[j]? = some r := ⟨_, List.getElem?_eq_getElem (by rw [x.len]; exact hj)⟩
    obtain ⟨r1, e1⟩ := ri
    obtain ⟨r2, e2⟩ := rj
    have m1 : (rs.map V.ref)[i]? = some (.ref r1) := by rw [List.getElem?_map, e1]; rfl
    have m2 : (rs.map V.ref)[j]? = some (.ref r2) := by rw [List.getElem?_map, e2]; rfl
    refine ⟨t, dx, _, _, wl, rfl, x.obj, _, rfl, wl, _, _, _, rfl, rfl, sqL x.tab, atI_nat m1, _, rfl, r1, _, _, _, rfl, rfl, sqL (x.rows i r1 e1), atI_nat (row_at hj), ?_⟩
    refine ⟨t, dx, _, _, wl, rfl, x.obj, _, rfl, wl, _, _, _, rfl, rfl, sqL x.tab, atI_nat m2, _, rfl, r2, _, _, _, rfl, rfl, sqL (x.rows j r2 e2), atI_nat (row_at hi), ?_⟩
    refine ⟨_, _, rfl, rfl, ?_⟩
    have e : decide ((Rc61.wins b j i : Int) < (Rc61.wins b i j : Int)) = Rc61.beats b i j := by
      unfold Rc61.beats
      exact decide_eq_decide.mpr (by omega)
    exact (congrArg (fun z => Q (V.bl z) H) e).mpr q
/-! ### group_of -/
abbrev sGroupOf : Stmt := top 1
def spGroupOf (K : PySem.W.Frag) : Sp := fun vs H Q _ => ∃ (a : Addr) (l : List Nat), vs = [.ref a] ∧ SqL K H a (nums l) ∧ (∀ x ∈ l, x ≤ 1000) ∧ l.length ≤ 1000 ∧ ∀ H', Same H H' → Q (.int (gsum l : Nat)) H'
theorem scGroupOf : FnScope ["members", "member"] ["members"] (defScope sGroupOf) := ⟨rfl, rfl, rfl, by decide +kernel, rfl, by decide +kernel, by decide +kernel⟩
theorem gsum_ints (l : List Nat) : ((l.map fun i => ((2 ^ i : Nat) : Int)) : List Int).sum = (gsum l : Nat) := by
  unfold gsum
  induction l with
  | nil => rfl
  | cons x l ih =>
    rw [List.map_cons, List.map_cons, List.sum_cons, List.sum_cons, ih]
    omega
theorem ok_group_of {f : Addr} {fd : FuncData} (F : Fun K "group_of" "group_of" sGroupOf f fd) (m1 : mg "sum" = none) : FnOk P w K mg base CX0 1 f fd ["members"] (spGroupOf K) := by
  refine F.ok scGroupOf (fun vs H Q E h => ?_) (fun cdv A outer s H vs Q E hr h => ?_)
  · obtain ⟨a, l, rfl, _⟩ := h
    rfl
  · obtain ⟨a, l, rfl, hS, hx, hl, q⟩ := h
    refine ⟨_, pss_one (ps_ret (pe_callB (cr_sum rfl) (by rfl) m1 (by decide +kernel) (pa_cons
      (pe_lc (own := [("member", 1)]) (g := gName 1) (by rfl) scGroupOf.nd (pi_list (pv 0)) (blkOk_by (own := [("member", 1)]) (N := ["members", "member"]) (sc := defScope sGroupOf) (by decide +kernel))
        (fun _ _ _ _ _ => pg_name (i := 1) scGroupOf.nd rfl (Or.inl rfl)) (fun _ _ _ _ _ => pts_nil) (fun _ _ _ _ _ => pe_op op_shl pe_int (pv 1))) pa_nil))), ?_⟩
    refine ⟨.ref a, rfl, a, rfl, ⟨_, hS⟩, fun D hD => ?_⟩
    refine lc_lstG (src := l) (emb := fun (i : Nat) => V.int (i : Int)) (fun _ => true) (fun (i : Nat) v _ => v = .int ((2 ^ i : Nat) : Int)) hD hS (by omega) (fun _ _ _ _ h _ => h) (fun i x H2 hi s2 _ R _ R2 => ?_) fun H2 acc s2 hp hA => ?_
    · refine ⟨rfl, yes ⟨_, rfl, _, _, rfl, rfl, ⟨by omega, ?_, by decide⟩, ?_⟩⟩
      · have := hx x (List.mem_of_getElem? hi)
        omega
      · refine R2 _ _ (Same.refl _) rfl ?_
        show V.int (1 * 2 ^ ((x : Int)).toNat) = _
        rw [Int.one_mul, Int.toNat_natCast]
        simp
    · have e := pr_map hp
      rw [List.filter_eq_self.mpr (fun _ _ => rfl)] at e
      refine ⟨D, l.map fun i => ((2 ^ i : Nat) : Int), rfl, ?_, ?_⟩
      · rw [List.map_map]
        rw [e] at hA
        exact sqL hA
      · rw [gsum_ints]
        exact q H2 s2
end
end Tv

set_option maxRecDepth 100000
set_option maxHeartbeats 4000000
namespace Tv
open PySem PySem.Spec PyProof.Rows L2
section
variable {P : Program} {w : World} {K : PySem.W.Frag} {mg : Str → Option Value} {base : Heap} {C : Addr}
/-! ### members_of -/
abbrev sMembers : Stmt := top 2
def spMembers : Sp := fun vs H Q _ => ∃ (g n : Nat), vs = [.int (g : Int)] ∧ g < 2 ^ n ∧ n ≤ 1000 ∧ ∀ H' p, Same H H' → H p = none → H' p = some (.lst (nums (mem n g))) → Q (.ref p) H'
theorem scMembers : FnScope ["group", "member"] ["group"] (defScope sMembers) := ⟨rfl, rfl, rfl, by decide +kernel, rfl, by decide +kernel, by decide +kernel⟩
theorem shr_nat (g i : Nat) : (g : Int) / 2 ^ i = ((g / 2 ^ i : Nat) : Int) := by
  rw [Int.natCast_ediv, Int.natCast_pow]
  rfl
theorem ok_members {f : Addr} {fd : FuncData} (F : Fun K "members_of" "members_of" sMembers f fd) (mr : mg "range" = none) : FnOk P w K mg base CX0 1 f fd ["group"] spMembers := by
  refine F.ok scMembers (fun vs H Q E h => ?_) (fun cdv A outer s H vs Q E hr h => ?_)
  · obtain ⟨g, n, rfl, _⟩ := h
    rfl
  · obtain ⟨g, n, rfl, hg, hn, q⟩ := h
    refine ⟨_, pss_one (ps_ret (pe_lc (own := [("member", 1)]) (g := gName 1) (by rfl) scMembers.nd (pi_range1 (by rfl) mr (pa_cons (pe_bits (pv 0)) pa_nil)) (blkOk_by (own := [("member", 1)]) (N := ["group", "member"]) (sc := defScope sMembers) (by decide +kernel))
        (fun _ _ _ _ _ => pg_name (i := 1) scMembers.nd rfl (Or.inl rfl)) (fun _ _ _ _ _ => pts_one (pt_tru K (pe_op op_odd (pe_op op_shrN (pv 0) (pv 1)) pe_int))) (fun _ _ _ _ _ => pv 1))), ?_⟩
    have hb := bits_le hg
    refine ⟨_, rfl, _, rfl, _, rfl, by omega, by omega, fun D hD => ?_⟩
    refine lc_rngG (n := Builtin.Int.intBits (g : Int)) (fun i => g.testBit i) (fun (i : Nat) v _ => v = .int (i : Int)) hD (by omega) (fun _ _ _ _ h _ => h) (fun i H2 hi s2 _ R R1 R2 => ?_) fun H2 acc s2 hp hA => ?_
    · refine ⟨rfl, _, rfl, _, rfl, _, i, rfl, rfl, g / 2 ^ i, congrArg V.int (shr_nat g i), rfl, g.testBit i, ?_, ?_⟩
      · show g.testBit i = (((g / 2 ^ i % 2 : Nat) : Int) != 0)
        rw [Nat.testBit_eq_decide_div_mod_eq]
        have : g / 2 ^ i % 2 < 2 := Nat.mod_lt _ (by decide)
        generalize g / 2 ^ i % 2 = z at this
        match z, this with
        | 0, _ => rfl
        | 1, _ => rfl
      · refine ite2 (fun c => ⟨_, rfl, R2 _ _ (Same.refl _) c rfl⟩) fun c => R1 _ (Same.refl _) (by simpa using c)
    · have e := pr_map hp
      refine q H2 D s2 hD ?_
      rw [hA, e]
      show some (HO.lst (nums (mem (Builtin.Int.intBits (g : Int)) g))) = _
      rw [mem_any hg (bits_lt g)]
/-! ### unbeaten_by -/
abbrev sUnb : Stmt := top 3
def spUnb (C : Addr) : Sp := fun vs H Q _ => ∃ (t : Addr) (F : List Addr) (n : Nat) (b : List Rc61.Ballot) (i : Nat), vs = [.ref t, .int (i : Int)] ∧ Tal C H t F n b ∧ i < n ∧ n ≤ 12 ∧ ∀ H', Same H H' → Q (.int (unb n b i : Nat)) H'
theorem scUnb : FnScope ["tally", "candidate", "other"] ["tally", "candidate"] (defScope sUnb) := ⟨rfl, rfl, rfl, by decide +kernel, rfl, by decide +kernel, by decide +kernel⟩
theorem noBeats : NoF "beats" := ⟨by decide +kernel, by decide +kernel, by decide +kernel⟩
theorem ok_unb {f : Addr} {fd : FuncData} (F : Fun K "unbeaten_by" "unbeaten_by" sUnb f fd) (T : Txt K C) (mr : mg "range" = none) (MB : Mth P w K mg base C 1 "beats" ["self", "one", "other"] (spBeats C)) (DG : Dfn P w K mg base 1 "group_of" ["members"] (spGroupOf K)) :
    FnOk P w K mg base CX0 2 f fd ["tally", "candidate"] (spUnb C) := by
  refine F.ok scUnb (fun vs H Q E h => ?_) (fun cdv A outer s H vs Q E hr h => ?_)
  · obtain ⟨t, F, n, b, i, rfl, _⟩ := h
    rfl
  · obtain ⟨t, F, n, b, i, rfl, hT, hi, hn, q⟩ := h
    refine ⟨_, pss_one (ps_ret (pe_def DG hr (by rfl) (pa_cons
      (pe_lc (own := [("other", 2)]) (g := gName 2) (by rfl) scUnb.nd (pi_range1 (by rfl) mr (pa_cons (pe_sz T (pv 0)) pa_nil)) (blkOk_by (own := [("other", 2)]) (N := ["tally", "candidate", "other"]) (sc := defScope sUnb) (by decide +kernel))
        (fun _ _ _ _ _ => pg_name (i := 2) scUnb.nd rfl (Or.inl rfl)) (fun _ _ _ _ _ => pts_one (pt_not (pt_val (pe_mth MB T noBeats hr (pv 0) (pa_cons (pv 1) (pa_cons (pv 2) pa_nil)))))) (fun _ _ _ _ _ => pv 2)) pa_nil))), ?_⟩
    have hT0 := hT
    obtain ⟨dx, wl, rs, eF, x⟩ := hT
    refine ⟨t, dx, n, _, wl, rfl, x.obj, n, rfl, by omega, by omega, fun D hD => ?_⟩
    refine lc_rngG (n := n) (fun j => !Rc61.beats b i j) (fun (j : Nat) v _ => v = .int (j : Int)) hD (by omega) (fun _ _ _ _ h _ => h) (fun j H2 hj s2 _ R R1 R2 => ?_) fun H2 acc s2 hp hA => ?_
    · refine ⟨rfl, t, dx, _, _, wl, rfl, s2 _ _ x.obj, _, rfl, _, rfl, t, F, n, b, i, j, rfl, hT0.same s2, hi, hj, _, rfl, ?_⟩
      refine ite2 (fun c => ⟨_, rfl, R2 _ _ (Same.refl _) c rfl⟩) fun c => R1 _ (Same.refl _) (by simpa using c)
    · have e := pr_map hp
      refine ⟨D, (List.range n).filter fun j => !Rc61.beats b i j, rfl, ?_, fun y hy => ?_, ?_, fun H3 s3 => ?_⟩
      · rw [e] at hA
        exact sqL hA
      · have := List.mem_range.mp (List.mem_filter.mp hy).1
        omega
      · have := List.length_filter_le (fun j => !Rc61.beats b i j) (List.range n)
        rw [List.length_range] at this
        omega
      · rw [gsum_filter]
        exact q H3 (s2.trans s3)
/-! ### beater_of_all -/
abbrev sBeater : Stmt := top 4
def spBeater (C : Addr) : Sp := fun vs H Q _ => ∃ (t : Addr) (F : List Addr) (n : Nat) (b : List Rc61.Ballot), vs = [.ref t] ∧ Tal C H t F n b ∧ n ≤ 12 ∧ ∀ H', Same H H' → Q (match Rc61.first n b with | some i => .int (i : Nat) | none => .non) H'
theorem scBeater : FnScope ["tally", "candidate"] ["tally"] (defScope sBeater) := ⟨rfl, rfl, rfl, by decide +kernel, rfl, by decide +kernel, by decide +kernel⟩
theorem first_some {n : Nat} {b : List Rc61.Ballot} {i : Nat} (hi : i < n) (h : unb n b i = 2 ^ i) (hb : ∀ j, j < i → unb n b j ≠ 2 ^ j) : Rc61.first n b = some i := by
  unfold Rc61.first
  refine find_least List.pairwise_lt_range (List.mem_range.mpr hi) ((first_step hi).mp h) fun y hy q => ?_
  rcases Nat.lt_or_ge y i with c | c
  · exact absurd ((first_step (List.mem_range.mp hy)).mpr q) (hb y c)
  · exact c
theorem first_none {n : Nat} {b : List Rc61.Ballot} (hb : ∀ j, j < n → unb n b j ≠ 2 ^ j) : Rc61.first n b = none := by
  unfold Rc61.first
  refine List.find?_eq_none.mpr fun y hy q => ?_
  exact hb y (List.mem_range.mp hy) ((first_step (List.mem_range.mp hy)).mpr q)
theorem ok_beater {f : Addr} {fd : FuncData} (F : Fun K "beater_of_all" "beater_of_all" sBeater f fd) (T : Txt K C) (mr : mg "range" = none) (DU : Dfn P w K mg base 2 "unbeaten_by" ["tally", "candidate"] (spUnb C)) (DG : Dfn P w K mg base 1 "group_of" ["members"] (spGroupOf K)) :
    FnOk P w K mg base CX0 3 f fd ["tally"] (spBeater C) := by
  refine F.ok scBeater (fun vs H Q E h => ?_) (fun cdv A outer s H vs Q E hr h => ?_)
  · obtain ⟨t, F, n, b, rfl, _⟩ := h
    rfl
  · obtain ⟨t, F, n, b, rfl, hT, hn, q⟩ := h
    have hr1 : Room 1 _ := hr.mono (by decide)
    refine ⟨_, pss_cons (ps_for PassesOwn.never rfl (pi_range1 (by rfl) mr (pa_cons (pe_sz T (pv 0)) pa_nil)) (pg_name (i := 1) scBeater.nd rfl (Or.inl rfl))
      (pss_one (ps_if (pt_cmpR op_eq (pe_def DU hr (by rfl) (pa_cons (pv 0) (pa_cons (pv 1) pa_nil))) (pe_def DG hr1 (by rfl) (pa_cons (pe_lst (pa_cons (pv 1) pa_nil)) pa_nil)) (nomark _)) (pss_one (ps_ret (pv 1))) pss_nil)))
      (pss_one (ps_ret pe_non)), ?_⟩
    have hT0 := hT
    obtain ⟨dx, wl, rs, eF, x⟩ := hT
    refine ⟨t, dx, n, _, wl, rfl, x.obj, n, rfl, by omega, by omega, ?_⟩
    refine for_range (lo := 0) (n := n) (fun i σ H' => ∃ v, σ = [some (.ref t), v] ∧ Same H H' ∧ ∀ j, j < i → unb n b j ≠ 2 ^ j) ⟨none, rfl, Same.refl _, fun j h => absurd h (Nat.not_lt_zero j)⟩ (fun i σ H2 hi hP => ?_) fun σ H2 hP => ?_
    · obtain ⟨v, rfl, s2, hb⟩ := hP
      rw [Int.zero_add]
      refine ⟨_, rfl, _, rfl, t, F, n, b, i, rfl, hT0.same s2, hi, hn, fun H3 s3 => ?_⟩
      refine ⟨_, rfl, (by show 1 ≤ sizeLine; decide), fun p hp => ⟨p, [i], rfl, sqL upd_same, fun y hy => by rw [List.mem_singleton.mp hy]; omega, (by show 1 ≤ 1000; decide), fun H4 s4 => ?_⟩⟩
      have sA : Same H H4 := (s2.trans s3).trans ((same_new hp).trans s4)
      rw [gsum_one]
      refine ⟨rfl, _, rfl, ite2 (fun c => ?_) fun c => ?_⟩
      · have e : unb n b i = 2 ^ i := by
          have := of_decide_eq_true c
          injection this with this
          omega
        refine ⟨_, rfl, ?_⟩
        have := q H4 sA
        rw [first_some hi e hb] at this
        exact this
      · refine ⟨_, rfl, sA, fun j hj e => ?_⟩
        rcases Nat.lt_or_eq_of_le (Nat.le_of_lt_succ hj) with z | z
        · exact hb j z e
        · subst z
          exact c (decide_eq_true (by rw [e]))
    · obtain ⟨v, rfl, s2, hb⟩ := hP
      have := q H2 s2
      rw [first_none hb] at this
      exact this
end
end Tv

set_option maxRecDepth 100000
set_option maxHeartbeats 4000000
namespace Tv
open PySem PySem.Spec PyProof.Rows L2
section
variable {P : Program} {w : World} {K : PySem.W.Frag} {mg : Str → Option Value} {base : Heap} {C : Addr}
/-! ### group_around -/
abbrev sAround : Stmt := top 5
def spAround (C : Addr) : Sp := fun vs H Q _ => ∃ (t : Addr) (F : List Addr) (n : Nat) (b : List Rc61.Ballot) (i : Nat), vs = [.ref t, .int (i : Int)] ∧ Tal C H t F n b ∧ i < n ∧ n ≤ 12 ∧ ∀ (g : Nat) H', Around n b i g → Same H H' → Q (.int (g : Int)) H'
theorem scAround : FnScope ["tally", "candidate", "group", "grown", "member"] ["tally", "candidate"] (defScope sAround) := ⟨rfl, rfl, rfl, by decide +kernel, rfl, by decide +kernel, by decide +kernel⟩
theorem ok_around {f : Addr} {fd : FuncData} (F : Fun K "group_around" "group_around" sAround f fd) (DM : Dfn P w K mg base 1 "members_of" ["group"] spMembers) (DU : Dfn P w K mg base 2 "unbeaten_by" ["tally", "candidate"] (spUnb C)) (DG : Dfn P w K mg base 1 "group_of" ["members"] (spGroupOf K)) :
    FnOk P w K mg base CX0 3 f fd ["tally", "candidate"] (spAround C) := by
  refine F.ok scAround (fun vs H Q E h => ?_) (fun cdv A outer s H vs Q E hr h => ?_)
  · obtain ⟨t, F, n, b, i, rfl, _⟩ := h
    rfl
  · obtain ⟨t, F, n, b, i, rfl, hT, hi, hn, q⟩ := h
    have hr1 : Room 1 _ := hr.mono (by decide)
    refine ⟨_, pss_cons (ps_set (i := 2) scAround.nd rfl (Or.inl rfl) pe_int) (pss_cons (ps_set (i := 3) scAround.nd rfl (Or.inl rfl) (pe_def DG hr1 (by rfl) (pa_cons (pe_lst (pa_cons (pv 1) pa_nil)) pa_nil)))
      (pss_cons (ps_while PassesOwn.never (pt_cmpR op_ne (pv 3) (pv 2) (nomark _))
        (pss_cons (ps_set (i := 2) scAround.nd rfl (Or.inl rfl) (pv 3))
        (pss_one (ps_for PassesOwn.never rfl (pi_list (pe_def DM hr1 (by rfl) (pa_cons (pv 2) pa_nil))) (pg_name (i := 4) scAround.nd rfl (Or.inl rfl))
          (pss_one (ps_aug (i := 3) scAround.nd rfl (Or.inl rfl) (pe_def DU hr (by rfl) (pa_cons (pv 0) (pa_cons (pv 4) pa_nil))) ip_or))))))
      (pss_one (ps_ret (pv 2))))), ?_⟩
    refine ⟨_, rfl, (by show 1 ≤ sizeLine; decide), fun p hp => ⟨p, [i], rfl, sqL upd_same, fun y hy => by rw [List.mem_singleton.mp hy]; omega, (by show 1 ≤ 1000; decide), fun H1 s1 => ?_⟩⟩
    rw [gsum_one]
    have sA : Same H H1 := (same_new hp).trans s1
    refine ⟨fun m σ H' => ∃ (g gr : Nat) (v : Option V), σ = [some (.ref t), some (.int (i : Int)), some (.int (g : Int)), some (.int (gr : Int)), v] ∧ m = 2 ^ n - g ∧ GI n b i g gr ∧ Same H H', ⟨_, 0, 2 ^ i, none, rfl, rfl, GI.start hi, sA⟩, fun m σ H2 hW => ?_⟩
    obtain ⟨g, gr, v, rfl, rfl, x, s2⟩ := hW
    refine ⟨_, rfl, _, rfl, rfl, _, rfl, ite2 (fun c => ?_) fun c => ?_⟩
    · have hne : gr ≠ g := fun e => by
        subst e
        simp at c
      refine ⟨fun σ' H' => ∃ m', m' < 2 ^ n - g ∧ ∃ (g gr : Nat) (v : Option V), σ' = [some (.ref t), some (.int (i : Int)), some (.int (g : Int)), some (.int (gr : Int)), v] ∧ m' = 2 ^ n - g ∧ GI n b i g gr ∧ Same H H', fun σ' H' h => h, ?_⟩
      refine ⟨_, rfl, _, rfl, gr, n, rfl, x.lt, by omega, fun H3 p3 s3 hp3 e3 => ?_⟩
      refine ⟨p3, rfl, ⟨_, sqL e3⟩, for_list (K := K) (a := p3) (xs := nums (mem n gr)) (fun k σ H' => ∃ (gk : Nat) (v : Option V), σ = [some (.ref t), some (.int (i : Int)), some (.int (gr : Int)), some (.int (gk : Int)), v] ∧ GL n b i gr k gk ∧ Same H3 H') ⟨gr, v, rfl, GL.start x, Same.refl _⟩ (fun k σ H' _ ⟨_, _, _, _, s4⟩ => s4.seq (sqL e3)) (fun k y σ H4 hk hP => ?_) fun σ H4 hP => ?_⟩
      · obtain ⟨gk, v, rfl, y4, s4⟩ := hP
        obtain ⟨z, hz, rfl⟩ := nums_get hk
        have hzn := (mem_mem.mp (List.mem_of_getElem? hz)).1
        refine ⟨_, rfl, _, rfl, _, rfl, t, F, n, b, z, rfl, hT.same ((s2.trans s3).trans s4), hzn, hn, fun H5 s5 => ?_⟩
        exact ⟨_, _, rfl, rfl, gk ||| unb n b z, some (.int (z : Int)), congrArg (fun (y : Int) => [some (V.ref t), some (V.int (i : Int)), some (V.int (gr : Int)), some (V.int y), some (V.int (z : Int))]) (or_nat gk (unb n b z)), y4.step hz, s4.trans s5⟩
      · obtain ⟨gk, v, rfl, y4, s4⟩ := hP
        rw [nums_len] at y4
        exact ⟨2 ^ n - gr, x.less hne, gr, gk, v, rfl, rfl, y4.done x.lt, (s2.trans s3).trans s4⟩
    · have e : gr = g := by
        have : V.int (gr : Int) = V.int (g : Int) := by simpa using c
        injection this with this
        omega
      subst e
      exact ⟨_, rfl, q gr H2 x.done s2⟩
/-! ### smallest_group -/
abbrev sSmallest : Stmt := top 6
def spSmallest (C : Addr) : Sp := fun vs H Q _ => ∃ (t : Addr) (F : List Addr) (n : Nat) (b : List Rc61.Ballot), vs = [.ref t] ∧ Tal C H t F n b ∧ 0 < n ∧ n ≤ 12 ∧ ∀ H', Same H H' → Q (.int (Rc61.smallestOf n b : Nat)) H'
theorem scSmallest : FnScope ["tally", "candidate"] ["tally"] (defScope sSmallest) := ⟨rfl, rfl, rfl, by decide +kernel, rfl, by decide +kernel, by decide +kernel⟩
theorem pr_nums {α : Type} {G : α → Nat → Prop} : ∀ {l : List α} {m : List V}, Paired (fun a v => ∃ g : Nat, v = V.int (g : Int) ∧ G a g) l m → ∃ ns, m = nums ns ∧ Paired G l ns
  | _, _, .nil => ⟨[], rfl, .nil⟩
  | _, _, .cons ⟨g, e, h⟩ t => by
    obtain ⟨ns, e2, p⟩ := pr_nums t
    exact ⟨g :: ns, by rw [e, e2] <;> rfl, .cons h p⟩
theorem ok_smallest {f : Addr} {fd : FuncData} (F : Fun K "smallest_group" "smallest_group" sSmallest f fd) (T : Txt K C) (mr : mg "range" = none) (mm : mg "min" = none) (DA : Dfn P w K mg base 3 "group_around" ["tally", "candidate"] (spAround C)) :
    FnOk P w K mg base CX0 4 f fd ["tally"] (spSmallest C) := by
  refine F.ok scSmallest (fun vs H Q E h => ?_) (fun cdv A outer s H vs Q E hr h => ?_)
  · obtain ⟨t, F, n, b, rfl, _⟩ := h
    rfl
  · obtain ⟨t, F, n, b, rfl, hT, hn0, hn, q⟩ := h
    refine ⟨_, pss_one (ps_ret (pe_callB (cr_min rfl) (by rfl) mm (by decide +kernel) (pa_cons
      (pe_lc (own := [("candidate", 1)]) (g := gName 1) (by rfl) scSmallest.nd (pi_range1 (by rfl) mr (pa_cons (pe_sz T (pv 0)) pa_nil)) (blkOk_by (own := [("candidate", 1)]) (N := ["tally", "candidate"]) (sc := defScope sSmallest) (by decide +kernel))
        (fun _ _ _ _ _ => pg_name (i := 1) scSmallest.nd rfl (Or.inl rfl)) (fun _ _ _ _ _ => pts_nil) (fun _ _ _ _ _ => pe_def DA hr (by rfl) (pa_cons (pv 0) (pa_cons (pv 1) pa_nil)))) pa_nil))), ?_⟩
    have hT0 := hT
    obtain ⟨dx, wl, rs, eF, x⟩ := hT
    refine ⟨t, dx, n, _, wl, rfl, x.obj, n, rfl, by omega, by omega, fun D hD => ?_⟩
    refine lc_rngG (n := n) (fun _ => true) (fun (i : Nat) v _ => ∃ g : Nat, v = V.int (g : Int) ∧ Around n b i g) hD (by omega) (fun _ _ _ _ h _ => h) (fun j H2 hj s2 _ R R1 R2 => ?_) fun H2 acc s2 hp hA => ?_
    · exact ⟨rfl, yes ⟨_, rfl, _, rfl, t, F, n, b, j, rfl, hT0.same s2, hj, hn, fun g H3 hg s3 => R2 _ _ s3 rfl ⟨g, rfl, hg⟩⟩⟩
    · rw [List.filter_eq_self.mpr (fun _ _ => rfl)] at hp
      obtain ⟨ns, rfl, hns⟩ := pr_nums hp
      have hlen : ns.length = n := by rw [← hns.length, List.length_range]
      rw [nums_ints] at hA
      refine ⟨D, _, rfl, sqL hA, by rw [List.length_map]; omega, fun m hm hl => ?_⟩
      obtain ⟨g, hg, rfl⟩ := List.mem_map.mp hm
      have e : Rc61.smallestOf n b = g := by
        refine smallest_is (f := fun c => ns.getD c 0) (fun c hc => ?_) ?_ fun c hc => ?_
        · obtain ⟨z, hz, ha⟩ := pr_getL hns (show (List.range n)[c]? = some c from List.getElem?_range hc)
          show Around n b c (ns.getD c 0)
          rw [List.getD_eq_getElem?_getD, hz]
          exact ha
        · obtain ⟨c, hc, e⟩ := List.getElem_of_mem hg
          refine ⟨c, by omega, ?_⟩
          show g = ns.getD c 0
          rw [List.getD_eq_getElem?_getD, List.getElem?_eq_getElem hc]
          exact e.symm
        · have hc' : c < ns.length := by omega
          have := hl _ (List.mem_map.mpr ⟨ns[c], List.getElem_mem hc', rfl⟩)
          show g ≤ ns.getD c 0
          rw [List.getD_eq_getElem?_getD, List.getElem?_eq_getElem hc']
          show g ≤ ns[c]
          omega
      rw [← e]
      exact q H2 s2
/-! ### covers -/
abbrev sCovers : Stmt := top 7
def spCovers (C : Addr) : Sp := fun vs H Q _ => ∃ (t : Addr) (F : List Addr) (n : Nat) (b : List Rc61.Ballot) (i j : Nat), vs = [.ref t, .int (i : Int), .int (j : Int)] ∧ Tal C H t F n b ∧ i < n ∧ j < n ∧ n ≤ 12 ∧ ∀ H', Same H H' → Q (.bl (Rc61.covers n b i j)) H'
theorem scCovers : FnScope ["tally", "one", "other", "beaten", "third"] ["tally", "one", "other"] (defScope sCovers) := ⟨rfl, rfl, rfl, by decide +kernel, rfl, by decide +kernel, by decide +kernel⟩
theorem ok_covers {f : Addr} {fd : FuncData} (F : Fun K "covers" "covers" sCovers f fd) (T : Txt K C) (mr : mg "range" = none) (ma : mg "all" = none) (MB : Mth P w K mg base C 1 "beats" ["self", "one", "other"] (spBeats C)) :
    FnOk P w K mg base CX0 2 f fd ["tally", "one", "other"] (spCovers C) := by
  refine F.ok scCovers (fun vs H Q E h => ?_) (fun cdv A outer s H vs Q E hr h => ?_)
  · obtain ⟨t, F, n, b, i, j, rfl, _⟩ := h
    rfl
  · obtain ⟨t, F, n, b, i, j, rfl, hT, hi, hj, hn, q⟩ := h
    refine ⟨_, pss_cons (ps_if (pt_not (pt_val (pe_mth MB T noBeats hr (pv 0) (pa_cons (pv 1) (pa_cons (pv 2) pa_nil))))) (pss_one (ps_ret pe_bl)) pss_nil)
      (pss_cons (ps_setLc (i := 3) (own := [("third", 4)]) (g := gName 4) (by rfl) scCovers.nd rfl rfl (sw_true rfl rfl rfl (by decide +kernel)) (pi_range1 (by rfl) mr (pa_cons (pe_sz T (pv 0)) pa_nil)) (blkOk_by (own := [("third", 4)]) (N := ["tally", "one", "other", "beaten", "third"]) (sc := defScope sCovers) (by decide +kernel))
        (fun _ _ _ _ _ => pg_name (i := 4) scCovers.nd rfl (Or.inl rfl)) (fun _ _ _ _ _ => pts_one (pt_val (pe_mth MB T noBeats hr (pv 0) (pa_cons (pv 2) (pa_cons (pv 4) pa_nil))))) (fun _ _ _ _ _ => pv 4))
      (pss_one (ps_ret (pe_callB (cr_all rfl) (by rfl) ma (by decide +kernel) (pa_cons
        (pe_lc (own := [("third", 4)]) (g := gName 4) (by rfl) scCovers.nd (pi_list (pv 3)) (blkOk_by (own := [("third", 4)]) (N := ["tally", "one", "other", "beaten", "third"]) (sc := defScope sCovers) (by decide +kernel))
        (fun _ _ _ _ _ => pg_name (i := 4) scCovers.nd rfl (Or.inl rfl)) (fun _ _ _ _ _ => pts_nil) (fun _ _ _ _ _ => pe_mth MB T noBeats hr (pv 0) (pa_cons (pv 1) (pa_cons (pv 4) pa_nil)))) pa_nil))))), ?_⟩
    have hT0 := hT
    obtain ⟨dx, wl, rs, eF, x⟩ := hT
    refine ⟨t, dx, _, _, wl, rfl, x.obj, _, rfl, _, rfl, t, F, n, b, i, j, rfl, hT0, hi, hj, _, rfl, ?_⟩
    refine ite2 (fun c => ?_) fun c => ?_
    · have e : Rc61.covers n b i j = false := by
        rw [covers_eq]
        have : Rc61.beats b i j = false := by simpa using c
        rw [this] <;> rfl
      have := q H (Same.refl _)
      rw [e] at this
      exact this
    · have hb : Rc61.beats b i j = true := by simpa using c
      refine ⟨t, dx, n, _, wl, rfl, x.obj, n, rfl, by omega, by omega, fun D hD => ?_⟩
      refine lc_rngG (n := n) (fun k => Rc61.beats b j k) (fun (k : Nat) v _ => v = .int (k : Int)) hD (by omega) (fun _ _ _ _ h _ => h) (fun k H2 hk s2 _ R R1 R2 => ?_) fun H2 acc s2 hp hA => ?_
      · refine ⟨rfl, t, dx, _, _, wl, rfl, s2 _ _ x.obj, _, rfl, _, rfl, t, F, n, b, j, k, rfl, hT0.same s2, hj, hk, _, rfl, ?_⟩
        exact ite2 (fun c => ⟨_, rfl, R2 _ _ (Same.refl _) c rfl⟩) fun c => R1 _ (Same.refl _) (by simpa using c)
      · have e := pr_map hp
        have hA' : H2 D = some (.lst (nums ((List.range n).filter fun k => Rc61.beats b j k))) := by rw [hA, e] <;> rfl
        refine ⟨_, rfl, D, rfl, ⟨_, sqL hA'⟩, fun D2 hD2 => ?_⟩
        have hlen : ((List.range n).filter fun k => Rc61.beats b j k).length ≤ n := by
          have := List.length_filter_le (fun k => Rc61.beats b j k) (List.range n)
          rwa [List.length_range] at this
        refine lc_lstG (src := (List.range n).filter fun k => Rc61.beats b j k) (emb := fun (i : Nat) => V.int (i : Int)) (fun _ => true) (fun (k : Nat) v _ => v = .bl (Rc61.beats b i k)) hD2 (sqL hA') (by omega) (fun _ _ _ _ h _ => h) (fun p k H3 hk s3 _ R R1 R2 => ?_) fun H3 acc3 s3 hp3 hA3 => ?_
        · have hkn := List.mem_range.mp (List.mem_filter.mp (List.mem_of_getElem? hk)).1
          exact ⟨rfl, yes ⟨t, dx, _, _, wl, rfl, s3 _ _ (s2 _ _ x.obj), _, rfl, _, rfl, t, F, n, b, i, k, rfl, hT0.same (s2.trans s3), hi, hkn, R2 _ _ (Same.refl _) rfl rfl⟩⟩
        · have e3 := pr_map hp3
          rw [List.filter_eq_self.mpr (fun _ _ => rfl)] at e3
          refine ⟨D2, ((List.range n).filter fun k => Rc61.beats b j k).map fun k => Rc61.beats b i k, rfl, ?_, ?_⟩
          · rw [List.map_map]
            rw [e3] at hA3
            exact sqL hA3
          · have e4 : (((List.range n).filter fun k => Rc61.beats b j k).map fun k => Rc61.beats b i k).all id = Rc61.covers n b i j := by
              rw [covers_eq, hb, List.all_map]
              rfl
            rw [e4]
            exact q H3 (s2.trans s3)
/-! ### is_covered -/
abbrev sIsCov : Stmt := top 8
def spIsCov (C : Addr) : Sp := fun vs H Q _ => ∃ (t : Addr) (F : List Addr) (n : Nat) (b : List Rc61.Ballot) (i : Nat), vs = [.ref t, .int (i : Int)] ∧ Tal C H t F n b ∧ i < n ∧ n ≤ 12 ∧ ∀ H', Same H H' → Q (.bl ((List.range n).any fun j => Rc61.covers n b j i)) H'
theorem scIsCov : FnScope ["tally", "candidate", "one"] ["tally", "candidate"] (defScope sIsCov) := ⟨rfl, rfl, rfl, by decide +kernel, rfl, by decide +kernel, by decide +kernel⟩
theorem ok_iscov {f : Addr} {fd : FuncData} (F : Fun K "is_covered" "is_covered" sIsCov f fd) (T : Txt K C) (mr : mg "range" = none) (ma : mg "any" = none) (DC : Dfn P w K mg base 2 "covers" ["tally", "one", "other"] (spCovers C)) :
    FnOk P w K mg base CX0 3 f fd ["tally", "candidate"] (spIsCov C) := by
  refine F.ok scIsCov (fun vs H Q E h => ?_) (fun cdv A outer s H vs Q E hr h => ?_)
  · obtain ⟨t, F, n, b, i, rfl, _⟩ := h
    rfl
  · obtain ⟨t, F, n, b, i, rfl, hT, hi, hn, q⟩ := h
    refine ⟨_, pss_one (ps_ret (pe_callB (cr_any rfl) (by rfl) ma (by decide +kernel) (pa_cons
      (pe_lc (own := [("one", 2)]) (g := gName 2) (by rfl) scIsCov.nd (pi_range1 (by rfl) mr (pa_cons (pe_sz T (pv 0)) pa_nil)) (blkOk_by (own := [("one", 2)]) (N := ["tally", "candidate", "one"]) (sc := defScope sIsCov) (by decide +kernel))
        (fun _ _ _ _ _ => pg_name (i := 2) scIsCov.nd rfl (Or.inl rfl)) (fun _ _ _ _ _ => pts_nil) (fun _ _ _ _ _ => pe_def DC hr (by rfl) (pa_cons (pv 0) (pa_cons (pv 2) (pa_cons (pv 1) pa_nil))))) pa_nil))), ?_⟩
    have hT0 := hT
    obtain ⟨dx, wl, rs, eF, x⟩ := hT
    refine ⟨t, dx, n, _, wl, rfl, x.obj, n, rfl, by omega, by omega, fun D hD => ?_⟩
    refine lc_rngG (n := n) (fun _ => true) (fun (j : Nat) v _ => v = .bl (Rc61.covers n b j i)) hD (by omega) (fun _ _ _ _ h _ => h) (fun j H2 hj s2 _ R R1 R2 => ?_) fun H2 acc s2 hp hA => ?_
    · exact ⟨rfl, yes ⟨_, rfl, _, rfl, _, rfl, t, F, n, b, j, i, rfl, hT0.same s2, hj, hi, hn, fun H3 s3 => R2 _ _ s3 rfl rfl⟩⟩
    · have e := pr_map hp
      rw [List.filter_eq_self.mpr (fun _ _ => rfl)] at e
      refine ⟨D, (List.range n).map fun j => Rc61.covers n b j i, rfl, ?_, ?_⟩
      · rw [List.map_map]
        rw [e] at hA
        exact sqL hA
      · have e4 : ((List.range n).map fun j => Rc61.covers n b j i).any id = (List.range n).any fun j => Rc61.covers n b j i := by
          rw [List.any_map]
          rfl
        rw [e4]
        exact q H2 s2
/-! ### uncovered_group -/
abbrev sUncov : Stmt := top 9
def spUncov (C : Addr) : Sp := fun vs H Q _ => ∃ (t : Addr) (F : List Addr) (n : Nat) (b : List Rc61.Ballot), vs = [.ref t] ∧ Tal C H t F n b ∧ n ≤ 12 ∧ ∀ H', Same H H' → Q (.int (Rc61.uncovered n b : Nat)) H'
theorem scUncov : FnScope ["tally", "candidate"] ["tally"] (defScope sUncov) := ⟨rfl, rfl, rfl, by decide +kernel, rfl, by decide +kernel, by decide +kernel⟩
theorem ok_uncov {f : Addr} {fd : FuncData} (F : Fun K "uncovered_group" "uncovered_group" sUncov f fd) (T : Txt K C) (mr : mg "range" = none) (DI : Dfn P w K mg base 3 "is_covered" ["tally", "candidate"] (spIsCov C)) (DG : Dfn P w K mg base 1 "group_of" ["members"] (spGroupOf K)) :
    FnOk P w K mg base CX0 4 f fd ["tally"] (spUncov C) := by
  refine F.ok scUncov (fun vs H Q E h => ?_) (fun cdv A outer s H vs Q E hr h => ?_)
  · obtain ⟨t, F, n, b, rfl, _⟩ := h
    rfl
  · obtain ⟨t, F, n, b, rfl, hT, hn, q⟩ := h
    have hr1 : Room 1 _ := hr.mono (by decide)
    refine ⟨_, pss_one (ps_ret (pe_def DG hr1 (by rfl) (pa_cons
      (pe_lc (own := [("candidate", 1)]) (g := gName 1) (by rfl) scUncov.nd (pi_range1 (by rfl) mr (pa_cons (pe_sz T (pv 0)) pa_nil)) (blkOk_by (own := [("candidate", 1)]) (N := ["tally", "candidate"]) (sc := defScope sUncov) (by decide +kernel))
        (fun _ _ _ _ _ => pg_name (i := 1) scUncov.nd rfl (Or.inl rfl)) (fun _ _ _ _ _ => pts_one (pt_not (pt_val (pe_def DI hr (by rfl) (pa_cons (pv 0) (pa_cons (pv 1) pa_nil)))))) (fun _ _ _ _ _ => pv 1)) pa_nil))), ?_⟩
    have hT0 := hT
    obtain ⟨dx, wl, rs, eF, x⟩ := hT
    refine ⟨t, dx, n, _, wl, rfl, x.obj, n, rfl, by omega, by omega, fun D hD => ?_⟩
    refine lc_rngG (n := n) (fun i => !(List.range n).any fun j => Rc61.covers n b j i) (fun (j : Nat) v _ => v = .int (j : Int)) hD (by omega) (fun _ _ _ _ h _ => h) (fun j H2 hj s2 _ R R1 R2 => ?_) fun H2 acc s2 hp hA => ?_
    · refine ⟨rfl, _, rfl, _, rfl, t, F, n, b, j, rfl, hT0.same s2, hj, hn, fun H3 s3 => ⟨_, rfl, ?_⟩⟩
      exact ite2 (fun c => ⟨_, rfl, R2 _ _ s3 c rfl⟩) fun c => R1 _ s3 (by simpa using c)
    · have e := pr_map hp
      refine ⟨D, (List.range n).filter fun i => !(List.range n).any fun j => Rc61.covers n b j i, rfl, ?_, fun y hy => ?_, ?_, fun H3 s3 => ?_⟩
      · rw [e] at hA
        exact sqL hA
      · have := List.mem_range.mp (List.mem_filter.mp hy).1
        omega
      · have := List.length_filter_le (fun i => !(List.range n).any fun j => Rc61.covers n b j i) (List.range n)
        rw [List.length_range] at this
        omega
      · rw [gsum_filter]
        exact q H3 (s2.trans s3)
end
end Tv

set_option maxRecDepth 100000
set_option maxHeartbeats 4000000
namespace Tv
open PySem PySem.Spec PyProof.Rows L2
section
variable {P : Program} {w : World} {K : PySem.W.Frag} {mg : Str → Option Value} {base : Heap} {C : Addr}
/-! ### beats_each -/
abbrev sBeatsEach : Stmt := top 11
def spBeatsEach (K : PySem.W.Frag) (C : Addr) : Sp := fun vs H Q _ => ∃ (t : Addr) (F : List Addr) (n : Nat) (b : List Rc61.Ballot) (i : Nat) (a : Addr) (c : List Nat), vs = [.ref t, .int (i : Int), .ref a] ∧ Tal C H t F n b ∧ i < n ∧ SqL K H a (nums c) ∧ (∀ x ∈ c, x < n) ∧ c.length ≤ 1000 ∧ ∀ H', Same H H' → Q (.bl (c.all (Rc61.beats b i))) H'
theorem scBeatsEach : FnScope ["tally", "one", "chain", "other"] ["tally", "one", "chain"] (defScope sBeatsEach) := ⟨rfl, rfl, rfl, by decide +kernel, rfl, by decide +kernel, by decide +kernel⟩
theorem ok_beats_each {f : Addr} {fd : FuncData} (F : Fun K "beats_each" "beats_each" sBeatsEach f fd) (T : Txt K C) (ma : mg "all" = none) (MB : Mth P w K mg base C 1 "beats" ["self", "one", "other"] (spBeats C)) :
    FnOk P w K mg base CX0 2 f fd ["tally", "one", "chain"] (spBeatsEach K C) := by
  refine F.ok scBeatsEach (fun vs H Q E h => ?_) (fun cdv A outer s H vs Q E hr h => ?_)
  · obtain ⟨t, F, n, b, i, a, c, rfl, _⟩ := h
    rfl
  · obtain ⟨t, F, n, b, i, a, c, rfl, hT, hi, hS, hc, hl, q⟩ := h
    refine ⟨_, pss_one (ps_ret (pe_callB (cr_all rfl) (by rfl) ma (by decide +kernel) (pa_cons
      (pe_lc (own := [("other", 3)]) (g := gName 3) (by rfl) scBeatsEach.nd (pi_list (pv 2)) (blkOk_by (own := [("other", 3)]) (N := ["tally", "one", "chain", "other"]) (sc := defScope sBeatsEach) (by decide +kernel))
        (fun _ _ _ _ _ => pg_name (i := 3) scBeatsEach.nd rfl (Or.inl rfl)) (fun _ _ _ _ _ => pts_nil) (fun _ _ _ _ _ => pe_mth MB T noBeats hr (pv 0) (pa_cons (pv 1) (pa_cons (pv 3) pa_nil)))) pa_nil))), ?_⟩
    have hT0 := hT
    obtain ⟨dx, wl, rs, eF, x⟩ := hT
    refine ⟨_, rfl, a, rfl, ⟨_, hS⟩, fun D hD => ?_⟩
    refine lc_lstG (src := c) (emb := fun (i : Nat) => V.int (i : Int)) (fun _ => true) (fun (k : Nat) v _ => v = .bl (Rc61.beats b i k)) hD hS (by omega) (fun _ _ _ _ h _ => h) (fun p k H3 hk s3 _ R R1 R2 => ?_) fun H3 acc3 s3 hp3 hA3 => ?_
    · have hkn := hc k (List.mem_of_getElem? hk)
      exact ⟨rfl, yes ⟨t, dx, _, _, wl, rfl, s3 _ _ x.obj, _, rfl, _, rfl, t, F, n, b, i, k, rfl, hT0.same s3, hi, hkn, R2 _ _ (Same.refl _) rfl rfl⟩⟩
    · have e3 := pr_map hp3
      rw [List.filter_eq_self.mpr (fun _ _ => rfl)] at e3
      refine ⟨D, c.map fun k => Rc61.beats b i k, rfl, ?_, ?_⟩
      · rw [List.map_map]
        rw [e3] at hA3
        exact sqL hA3
      · have e4 : (c.map fun k => Rc61.beats b i k).all id = c.all (Rc61.beats b i) := by
          rw [List.all_map]
          rfl
        rw [e4]
        exact q H3 s3
/-! ### group_of_heads -/
abbrev sHeads : Stmt := top 12
def spHeads (C : Addr) : Sp := fun vs H Q _ => ∃ (t : Addr) (F : List Addr) (n : Nat) (b : List Rc61.Ballot), vs = [.ref t] ∧ Tal C H t F n b ∧ n ≤ 6 ∧ ∀ H', Same H H' → Q (.int (Rc61.headsOf n b : Nat)) H'
theorem scHeads : FnScope ["tally", "heads", "chains", "chain", "beaters", "candidate", "one"] ["tally"] (defScope sHeads) := ⟨rfl, rfl, rfl, by decide +kernel, rfl, by decide +kernel, by decide +kernel⟩
/-- v is a list of these numbers, none of the lists in S -/
def NumL (S : List Addr) (c : List Nat) (v : V) (H : Hp) : Prop := ∃ r, v = .ref r ∧ r ∉ S ∧ H r = some (.lst (nums c))
theorem NumL.kp {S : List Addr} {D : Addr} {c : List Nat} {v : V} {H H' : Hp} (h : NumL S c v H) (hD : D ∈ S) (k : Kp D H H') : NumL S c v H' := by
  obtain ⟨r, e, h1, h2⟩ := h
  exact ⟨r, e, h1, k _ _ (fun z => h1 (by rw [z]; exact hD)) h2⟩
theorem pr_last {α β : Type} {F : α → β → Prop} : ∀ {l : List α} {m : List β}, Paired F l m → l ≠ [] → ∃ l0 a m0 b, l = l0 ++ [a] ∧ m = m0 ++ [b] ∧ Paired F l0 m0 ∧ F a b
  | [a], _, .cons r .nil, _ => ⟨[], a, [], _, rfl, rfl, .nil, r⟩
  | a :: c :: l, _, .cons r t, _ => by
    obtain ⟨l0, x, m0, y, e1, e2, p, q⟩ := pr_last t (by simp)
    exact ⟨a :: l0, x, _ :: m0, y, by rw [e1] <;> rfl, by rw [e2] <;> rfl, .cons r p, q⟩
theorem pr_app {α β : Type} {F : α → β → Prop} : ∀ {l l2 : List α} {m m2 : List β}, Paired F l m → Paired F l2 m2 → Paired F (l ++ l2) (m ++ m2)
  | _, _, _, _, .nil, h => h
  | _, _, _, _, .cons r t, h => .cons r (pr_app t h)
theorem pr_lmap {α β γ : Type} {F : γ → β → Prop} {f : α → γ} : ∀ {l : List α} {m : List β}, Paired (fun a b => F (f a) b) l m → Paired F (l.map f) m
  | _, _, .nil => .nil
  | _, _, .cons r t => .cons r (pr_lmap t)
theorem ok_heads {f : Addr} {fd : FuncData} (F : Fun K "group_of_heads" "group_of_heads" sHeads f fd) (T : Txt K C) (mr : mg "range" = none) (DE : Dfn P w K mg base 2 "beats_each" ["tally", "one", "chain"] (spBeatsEach K C)) (DG : Dfn P w K mg base 1 "group_of" ["members"] (spGroupOf K)) :
    FnOk P w K mg base CX0 3 f fd ["tally"] (spHeads C) := by
  refine F.ok scHeads (fun vs H Q E h => ?_) (fun cdv A outer s H vs Q E hr h => ?_)
  · obtain ⟨t, F, n, b, rfl, _⟩ := h
    rfl
  · obtain ⟨t, F, n, b, rfl, hT, hn, q⟩ := h
    have hr1 : Room 1 _ := hr.mono (by decide)
    refine ⟨_, pss_cons (ps_set (i := 1) scHeads.nd rfl (Or.inl rfl) pe_int)
      (pss_cons (ps_setLc (i := 2) (own := [("candidate", 5)]) (g := gName 5) (by rfl) scHeads.nd rfl rfl (sw_true rfl rfl rfl (by decide +kernel)) (pi_range1 (by rfl) mr (pa_cons (pe_sz T (pv 0)) pa_nil)) (blkOk_by (own := [("candidate", 5)]) (N := ["tally", "heads", "chains", "chain", "beaters", "candidate", "one"]) (sc := defScope sHeads) (by decide +kernel))
        (fun _ _ _ _ _ => pg_name (i := 5) scHeads.nd rfl (Or.inl rfl)) (fun _ _ _ _ _ => pts_nil) (fun _ _ _ _ _ => pe_lst (pa_cons (pv 5) pa_nil)))
      (pss_cons (ps_while PassesOwn.never (pt_tru K (pv 2))
        (pss_cons (ps_set (i := 3) scHeads.nd rfl (Or.inr rfl) (pe_bm0 PySem.F.plainAttrs_list PySem.F.slot_list_pop PySem.F.type_list_pop mt_pop (pv 2)))
        (pss_cons (ps_setLc (i := 4) (own := [("one", 6)]) (g := gName 6) (by rfl) scHeads.nd rfl rfl (sw_true rfl rfl rfl (by decide +kernel)) (pi_range1 (by rfl) mr (pa_cons (pe_sz T (pv 0)) pa_nil)) (blkOk_by (own := [("one", 6)]) (N := ["tally", "heads", "chains", "chain", "beaters", "candidate", "one"]) (sc := defScope sHeads) (by decide +kernel))
          (fun _ _ _ _ _ => pg_name (i := 6) scHeads.nd rfl (Or.inl rfl)) (fun _ _ _ _ _ => pts_one (pt_val (pe_def DE hr (by rfl) (pa_cons (pv 0) (pa_cons (pv 6) (pa_cons (pv 3) pa_nil)))))) (fun _ _ _ _ _ => pv 6))
        (pss_cons (ps_if (pt_not (pt_tru K (pv 4))) (pss_one (ps_aug (i := 1) scHeads.nd rfl (Or.inl rfl) (pe_def DG hr1 (by rfl) (pa_cons (pe_lst (pa_cons (pe_ix ix_list (pv 3) pe_int (fun _ _ => rfl)) pa_nil)) pa_nil)) ip_or)) pss_nil)
        (pss_one (ps_expr (pe_bm PySem.F.plainAttrs_list PySem.F.slot_list_extend PySem.F.type_list_extend mt_extend (pv 2) (pa_cons
          (pe_lc (own := [("one", 6)]) (g := gName 6) (by rfl) scHeads.nd (pi_list (pv 4)) (blkOk_by (own := [("one", 6)]) (N := ["tally", "heads", "chains", "chain", "beaters", "candidate", "one"]) (sc := defScope sHeads) (by decide +kernel))
            (fun _ _ _ _ _ => pg_name (i := 6) scHeads.nd rfl (Or.inl rfl)) (fun _ _ _ _ _ => pts_nil) (fun _ _ _ _ _ => pe_op op_cat (pe_lst (pa_cons (pv 6) pa_nil)) (pv 3))) pa_nil))))))))
      (pss_one (ps_ret (pv 1))))), ?_⟩
    have hT0 := hT
    obtain ⟨dx, wl, rs, eF, x⟩ := hT
    -- chains, at cl
    refine ⟨t, dx, n, _, wl, rfl, x.obj, n, rfl, by omega, by omega, fun cl hcl => ?_⟩
    refine lc_rngG (n := n) (fun _ => true) (fun (i : Nat) v H' => NumL [cl] [i] v H') hcl (by omega) (fun _ _ _ _ h k => h.kp (by simp) k) (fun j H2 hj s2 hex R R1 R2 => ?_) fun H2 acc s2 hp hA => ?_
    · obtain ⟨acc, hacc⟩ := hex
      refine ⟨rfl, yes ⟨_, rfl, (by show 1 ≤ sizeLine; decide), fun p hp => R2 _ _ (same_new hp) rfl ⟨p, rfl, ?_, upd_same⟩⟩⟩
      rw [List.mem_singleton]
      exact (ne_of_none hacc hp).symm
    rw [List.filter_eq_self.mpr (fun _ _ => rfl)] at hp
    have hp0 : Paired (fun c v => NumL [cl] c v H2) ((List.range n).map fun i => [i]) acc := pr_lmap hp
    have hw0 := work_start n hn
    refine ⟨fun m σ H' => ∃ (heads : Nat) (cs : List (List Nat)) (vs : List V) (v3 v4 v5 v6 : Option V), σ = [some (.ref t), some (.int (heads : Int)), some (.ref cl), v3, v4, v5, v6] ∧ m = work n cs ∧ work n cs ≤ 2000 ∧ HInv n b heads cs ∧ H' cl = some (.lst vs) ∧ Paired (fun c v => NumL [cl] c v H') cs vs ∧ Same H H',
      ⟨_, 0, _, _, none, none, none, none, rfl, rfl, hw0, HInv.start n b, hA, hp0, s2⟩, fun m σ H3 hW => ?_⟩
    obtain ⟨heads, cs, us, v3, v4, v5, v6, rfl, rfl, hwk, hI, hcl3, hpr, s3⟩ := hW
    refine ⟨_, rfl, _, Or.inl ⟨us, sqL hcl3, rfl⟩, ite2 (fun c => ?_) fun c => ?_⟩
    · have hne : cs ≠ [] := fun e => by
        subst e
        cases hpr
        simp at c
      obtain ⟨cs0, ch, us0, u, rfl, rfl, hpr0, hu⟩ := pr_last hpr hne
      obtain ⟨cr, rfl, hcr, hcrH⟩ := hu
      have hcne : cr ≠ cl := fun e => hcr (by rw [e]; simp)
      have hok : ChainOk n b ch := hI.1 ch (by simp)
      have hless := work_less (cs := cs0) hok
      refine ⟨fun σ' H' => ∃ m', m' < work n (cs0 ++ [ch]) ∧ ∃ (heads : Nat) (cs : List (List Nat)) (vs : List V) (v3 v4 v5 v6 : Option V), σ' = [some (.ref t), some (.int (heads : Int)), some (.ref cl), v3, v4, v5, v6] ∧ m' = work n cs ∧ work n cs ≤ 2000 ∧ HInv n b heads cs ∧ H' cl = some (.lst vs) ∧ Paired (fun c v => NumL [cl] c v H') cs vs ∧ Same H H', fun σ' H' h => h, ?_⟩
      -- chain = chains.pop()
      refine ⟨_, rfl, Or.inl ⟨rfl, _, sqL hcl3⟩, cl, _, .ref cr, rfl, rfl, hcl3, ?_, ?_⟩
      · rw [List.length_append]
        show (us0 ++ [V.ref cr])[us0.length + 1 - 1]? = _
        rw [Nat.add_sub_cancel, List.getElem?_append_right (Nat.le_refl _), Nat.sub_self]
        rfl
      have hdl : (us0 ++ [V.ref cr]).dropLast = us0 := by simp
      rw [hdl]
      have s4 : Same H (upd H3 cl (.lst us0)) := fun b' o e => by
        rw [upd_ne (ne_of_none e hcl)]
        exact s3 _ _ e
      have hpr4 : Paired (fun c v => NumL [cl] c v (upd H3 cl (.lst us0))) cs0 us0 := Paired.mapP hpr0 fun c v z => z.kp (D := cl) (by simp) (fun b' o hb e => by rw [upd_ne hb]; exact e)
      have hcr4 : (upd H3 cl (.lst us0)) cr = some (.lst (nums ch)) := by rw [upd_ne hcne]; exact hcrH
      have hcl4 : (upd H3 cl (.lst us0)) cl = some (.lst us0) := upd_same
      generalize (upd H3 cl (.lst us0)) = H4 at s4 hpr4 hcr4 hcl4 ⊢
      -- beaters
      refine ⟨t, dx, n, _, wl, rfl, s4 _ _ x.obj, n, rfl, by omega, by omega, fun D hD => ?_⟩
      refine lc_rngG (n := n) (fun k => ch.all (Rc61.beats b k)) (fun (k : Nat) v _ => v = .int (k : Int)) hD (by omega) (fun _ _ _ _ h _ => h) (fun k H5 hk s5 _ R R1 R2 => ?_) fun H5 acc5 s5 hp5 hA5 => ?_
      · refine ⟨rfl, _, rfl, _, rfl, _, rfl, t, F, n, b, k, cr, ch, rfl, hT0.same (s4.trans s5), hk, (s5.seq (sqL hcr4)), hok.lt, ?_, fun H6 s6 => ⟨_, rfl, ?_⟩⟩
        · have := hok.len
          omega
        · exact ite2 (fun c => ⟨_, rfl, R2 _ _ s6 c rfl⟩) fun c => R1 _ s6 (by simpa using c)
      have e5 := pr_map hp5
      have hB : H5 D = some (.lst (nums (beatersOf n b ch))) := by rw [hA5, e5] <;> rfl
      have hblen := beaters_len hok
      have hHI := hI.step
      -- what both ways go on to
      have fin : ∀ (hd : Nat) (H6 : Hp), hd = heads ||| found n b ch → Same H5 H6 → (tDrop (tBM K "list" rExtend (tVar 2) (tCons (tLc (iList K (tVar 4)) (gName 6) tYes (tOp rCat (tLst (tCons (tVar 6) tNil)) (tVar 3)) [6]) tNil)))
          { nx := fun σ' H' => ∃ m', m' < work n (cs0 ++ [ch]) ∧ ∃ (heads : Nat) (cs : List (List Nat)) (vs : List V) (v3 v4 v5 v6 : Option V), σ' = [some (.ref t), some (.int (heads : Int)), some (.ref cl), v3, v4, v5, v6] ∧ m' = work n cs ∧ work n cs ≤ 2000 ∧ HInv n b heads cs ∧ H' cl = some (.lst vs) ∧ Paired (fun c v => NumL [cl] c v H') cs vs ∧ Same H H', rt := Q }
          [some (.ref t), some (.int (hd : Int)), some (.ref cl), some (.ref cr), some (.ref D), v5, v6] H6 := by
        intro hd H6 ehd s6
        refine ⟨_, rfl, Or.inl ⟨rfl, _, sqL (s6 _ _ (s5 _ _ hcl4))⟩, _, rfl, D, rfl, ⟨_, sqL (s6 _ _ hB)⟩, fun D2 hD2 => ?_⟩
        refine lc_lstG (src := beatersOf n b ch) (emb := fun (i : Nat) => V.int (i : Int)) (fun _ => true) (fun (k : Nat) v H' => NumL [cl, D2] (k :: ch) v H') hD2 (sqL (s6 _ _ hB)) (by omega) (fun _ _ _ _ h k => h.kp (by simp) k) (fun p k H7 hk s7 hex R R1 R2 => ?_) fun H7 acc7 s7 hp7 hA7 => ?_
        · obtain ⟨acc, hacc⟩ := hex
          have hcr7 : H7 cr = some (.lst (nums ch)) := s7 _ _ (s6 _ _ (s5 _ _ hcr4))
          have hcl7 : H7 cl = some (.lst us0) := s7 _ _ (s6 _ _ (s5 _ _ hcl4))
          refine ⟨rfl, yes ⟨_, rfl, (by show 1 ≤ sizeLine; decide), fun p hp => ⟨_, rfl, p, cr, _, nums ch, rfl, rfl, upd_same, ?_, ?_, fun p2 hp2 => ?_⟩⟩⟩
          · rw [upd_ne (ne_of_none hcr7 hp)]
            exact hcr7
          · rw [nums_len]
            have := hok.len
            have := small (n := 1 + ch.length) (by omega)
            exact Nat.le_of_lt this
          · have hp2' : H7 p2 = none := by
              rcases Nat.decEq p2 p with z | z
              · rwa [upd_ne z] at hp2
              · rw [z, upd_same] at hp2
                cases hp2
            refine R2 _ _ ((same_new hp).trans (same_new hp2)) rfl ⟨p2, rfl, ?_, upd_same⟩
            rw [List.mem_cons, List.mem_singleton]
            rintro (z | z)
            · exact (ne_of_none hcl7 hp2') z.symm
            · exact (ne_of_none hacc hp2') z.symm
        · rw [List.filter_eq_self.mpr (fun _ _ => rfl)] at hp7
          have hcl7 : H7 cl = some (.lst us0) := s7 _ _ (s6 _ _ (s5 _ _ hcl4))
          have hne2 : D2 ≠ cl := fun e => by
            rw [e, s6 _ _ (s5 _ _ hcl4)] at hD2
            cases hD2
          have hl1 : us0.length = cs0.length := hpr4.length.symm
          have hl2 := hp7.length
          have hwl := work_len n (cs0 ++ (beatersOf n b ch).map fun x => x :: ch)
          rw [List.length_append, List.length_map] at hwl
          refine ⟨cl, D2, us0, acc7, rfl, rfl, hcl7, hA7, ?_, ?_⟩
          · have := small (n := us0.length + acc7.length) (by omega)
            exact Nat.le_of_lt this
          · refine ⟨_, hless, hd, _, us0 ++ acc7, some (.ref cr), some (.ref D), v5, v6, rfl, rfl, by omega, by rw [ehd]; exact hHI, upd_same, ?_, fun b' o e => ?_⟩
            · have hk : Kp cl H4 (upd H7 cl (.lst (us0 ++ acc7))) := fun b' o hb e => by
                rw [upd_ne hb]
                exact s7 _ _ (s6 _ _ (s5 _ _ e))
              refine pr_app (Paired.mapP hpr4 fun c v z => z.kp (by simp) hk) (pr_lmap (Paired.mapP hp7 fun k v z => ?_))
              obtain ⟨r, e, h1, h2⟩ := z
              rw [List.mem_cons, List.mem_singleton, not_or] at h1
              exact ⟨r, e, by rw [List.mem_singleton]; exact h1.1, by rw [upd_ne h1.1]; exact h2⟩
            · rw [upd_ne (ne_of_none e hcl)]
              exact s7 _ _ (s6 _ _ (s5 _ _ (s4 _ _ e)))
      refine ⟨_, rfl, _, Or.inl ⟨_, sqL hB, rfl⟩, ite2 (fun c => ?_) fun c => ?_⟩
      · have hz : beatersOf n b ch = [] := by
          cases q : beatersOf n b ch with
          | nil => rfl
          | cons y r => rw [q] at c; simp [nums] at c
        obtain ⟨y, r, rfl⟩ : ∃ y r, ch = y :: r := by
          cases ch with
          | nil => exact absurd rfl hok.ne
          | cons y r => exact ⟨y, r, rfl⟩
        have hyn := hok.lt y List.mem_cons_self
        refine ⟨_, rfl, _, rfl, cr, _, 0, .int (y : Int), rfl, rfl, s5.seq (sqL hcr4), atI_nat (j := 0) rfl, (by show 1 ≤ sizeLine; decide), fun p hp => ?_⟩
        refine ⟨p, [y], rfl, sqL upd_same, fun z hz => by rw [List.mem_singleton.mp hz]; omega, (by show 1 ≤ 1000; decide), fun H6 s6 => ?_⟩
        rw [gsum_one]
        refine ⟨_, _, rfl, rfl, ?_⟩
        have hf : heads ||| 2 ^ y = heads ||| found n b (y :: r) := by
          unfold found
          rw [if_pos hz]
          rfl
        have := fin (heads ||| 2 ^ y) H6 hf ((same_new hp).trans s6)
        rw [← or_nat] at this
        exact this
      · have hz : beatersOf n b ch ≠ [] := fun e => by
          rw [e] at c
          exact c rfl
        exact fin heads H5 (by unfold found; rw [if_neg hz, Nat.or_zero]) (Same.refl _)
    · have hnil : us = [] := by
        cases us with
        | nil => rfl
        | cons y r => exact absurd rfl c
      subst hnil
      cases hpr
      refine ⟨_, rfl, ?_⟩
      rw [hI.done]
      exact q H3 s3
end
end Tv

set_option maxRecDepth 100000
set_option maxHeartbeats 4000000
namespace Tv
open PySem PySem.Spec PyProof.Rows L2
section
variable {P : Program} {w : World} {K : PySem.W.Frag} {mg : Str → Option Value} {base : Heap} {C : Addr}
/-! ### Tally.__init__ -/
abbrev sInit : Stmt := inClass (top 14) 0
def spInit (C : Addr) : Sp := fun vs H Q _ => ∃ (p dx : Addr), vs = [.ref p] ∧ H p = some (.ins C dx []) ∧
  ∀ (H' : Hp) (wl : Addr), H wl = none → Tal C H' p [wl] 0 [] → (∀ b o, H b = some o → b ≠ p → H' b = some o) → Q .non H'
theorem scInit : FnScope ["self"] ["self"] (defScope sInit) := ⟨rfl, rfl, rfl, by decide +kernel, rfl, by decide +kernel, by decide +kernel⟩
theorem tF_new (wl : Addr) : putF "wins" (.ref wl) (putF "ballots" (.int 0) (putF "size" (.int 0) [])) = tF 0 0 wl :=
  ((congrArg (putF "wins" (.ref wl)) (put_past (by decide +kernel))).trans (put_past (by decide +kernel))).trans (congrArg _ (put_past (by decide +kernel)))
theorem ok_init {f : Addr} {fd : FuncData} (F : Fun K "__init__" "Tally.__init__" sInit f fd) (T : Txt K C) : FnOk P w K mg base CX0 1 f fd ["self"] (spInit C) := by
  refine F.ok scInit (fun vs H Q E h => ?_) (fun cdv A outer s H vs Q E hr h => ?_)
  · obtain ⟨p, dx, rfl, _⟩ := h
    rfl
  · obtain ⟨p, dx, rfl, hp, q⟩ := h
    refine ⟨_, pss_cons (ps_fld (pv 0) pe_int rfl) (pss_cons (ps_fld (pv 0) pe_int rfl) (pss_one (ps_fld (pv 0) (pe_lst pa_nil) rfl))), ?_⟩
    refine ⟨_, rfl, p, C, dx, [], rfl, hp, T.cl, T.nS, (by show 0 < 1000; decide), ?_⟩
    refine ⟨_, rfl, p, C, dx, _, rfl, upd_same, T.cl, T.nB, (by show 1 < 1000; decide), ?_⟩
    refine ⟨Nat.zero_le _, fun wl hwl => ⟨_, rfl, p, C, dx, putF "ballots" (.int 0) (putF "size" (.int 0) []), rfl, ?_, T.cl, T.nW, (by show 2 < 1000; decide), ?_⟩⟩
    · rw [upd_ne (ne_of_none upd_same hwl)]
      exact upd_same
    have hwp : wl ≠ p := (ne_of_none upd_same hwl).symm
    have hwl0 : H wl = none := by rwa [upd_ne hwp, upd_ne hwp] at hwl
    refine q _ wl hwl0 ⟨dx, wl, [], rfl, ?_, ?_, rfl, List.nodup_nil, fun i r e => by simp at e⟩ fun b o e hb => ?_
    · rw [tF_new]
      exact upd_same
    · rw [upd_ne hwp]
      exact upd_same
    · rw [upd_ne hb, upd_ne (ne_of_none e hwl0), upd_ne hb, upd_ne hb]
      exact e
/-! ### Tally.start -/
abbrev sStart : Stmt := inClass (top 14) 1
def spStart (C : Addr) : Sp := fun vs H Q _ => ∃ (t dx : Addr) (n0 k0 : Nat) (wl0 : Addr) (n : Nat), vs = [.ref t, .int (n : Int)] ∧ H t = some (.ins C dx (tF n0 k0 wl0)) ∧ n ≤ 12 ∧
  ∀ (H' : Hp) (F : List Addr), (∀ x ∈ F, H x = none) → Tal C H' t F n [] → (∀ b o, H b = some o → b ≠ t → H' b = some o) → Q .non H'
theorem scStart : FnScope ["self", "size", "winner"] ["self", "size"] (defScope sStart) := ⟨rfl, rfl, rfl, by decide +kernel, rfl, by decide +kernel, by decide +kernel⟩
theorem tF_put1 (n k : Nat) (wl : Addr) (m : Nat) : putF "size" (.int m) (tF n k wl) = tF m k wl := put_here
theorem tF_put2 (n k : Nat) (wl : Addr) (m : Nat) : putF "ballots" (.int m) (tF n k wl) = tF n m wl := (put_past (by decide +kernel)).trans (congrArg _ put_here)
theorem tF_put3 (n k : Nat) (wl m : Addr) : putF "wins" (.ref m) (tF n k wl) = tF n k m := (put_past (by decide +kernel)).trans (congrArg _ ((put_past (by decide +kernel)).trans (congrArg _ put_here)))
theorem zeros (n : Nat) : (List.replicate (n : Int).toNat [V.int 0]).flatten = row n (Rc61.wins [] 0) := by
  rw [Int.toNat_natCast]
  unfold row nums
  rw [List.map_map]
  induction n with
  | zero => rfl
  | succ n ih =>
    rw [List.replicate_succ', List.flatten_append, ih, List.range_succ, List.map_append]
    rfl
theorem wins_nil (i j : Nat) : Rc61.wins [] i j = 0 := rfl
theorem ok_start {f : Addr} {fd : FuncData} (F : Fun K "start" "Tally.start" sStart f fd) (T : Txt K C) (mr : mg "range" = none) : FnOk P w K mg base CX0 1 f fd ["self", "size"] (spStart C) := by
  refine F.ok scStart (fun vs H Q E h => ?_) (fun cdv A outer s H vs Q E hr h => ?_)
  · obtain ⟨t, dx, n0, k0, wl0, n, rfl, _⟩ := h
    rfl
  · obtain ⟨t, dx, n0, k0, wl0, n, rfl, ht, hn, q⟩ := h
    refine ⟨_, pss_cons (ps_fld (pv 0) (pv 1) rfl) (pss_cons (ps_fld (pv 0) pe_int rfl) (pss_one (ps_fld (pv 0)
      (pe_lc (own := [("winner", 2)]) (g := gName 2) (by rfl) scStart.nd (pi_range1 (by rfl) mr (pa_cons (pv 1) pa_nil)) (blkOk_by (own := [("winner", 2)]) (N := ["self", "size", "winner"]) (sc := defScope sStart) (by decide +kernel))
        (fun _ _ _ _ _ => pg_name (i := 2) scStart.nd rfl (Or.inl rfl)) (fun _ _ _ _ _ => pts_nil) (fun _ _ _ _ _ => pe_op op_rep (pe_lst (pa_cons pe_int pa_nil)) (pv 1))) rfl))), ?_⟩
    refine ⟨_, rfl, _, rfl, t, C, dx, _, rfl, ht, T.cl, T.nS, (by show 3 < 1000; decide), ?_⟩
    rw [tF_put1]
    refine ⟨_, rfl, t, C, dx, _, rfl, upd_same, T.cl, T.nB, (by show 3 < 1000; decide), ?_⟩
    have e2 : putF "ballots" (.int 0) (tF n k0 wl0) = tF n 0 wl0 := tF_put2 n k0 wl0 0
    rw [e2, upd_upd]
    refine ⟨_, rfl, n, rfl, by omega, by omega, fun D hD => ?_⟩
    have hDt : D ≠ t := (ne_of_none upd_same hD).symm
    have hD0 : H D = none := by rwa [upd_ne hDt] at hD
    refine lc_range (lo := 0) (n := n) (fun i H2 => ∃ rs : List Addr, H2 D = some (.lst (rs.map V.ref)) ∧ rs.length = i ∧ rs.Nodup ∧ (∀ r ∈ rs, r ≠ D ∧ (upd H t (.ins C dx (tF n 0 wl0))) r = none ∧ H2 r = some (.lst (row n (Rc61.wins [] 0)))) ∧ Same (upd H t (.ins C dx (tF n 0 wl0))) H2)
      ⟨[], upd_same, rfl, List.nodup_nil, fun r hr => by simp at hr, same_new hD⟩ (fun i H2 hi hP => ?_) fun H2 hP => ?_
    · obtain ⟨rs, h1, h2, h3, h4, h5⟩ := hP
      refine ⟨rfl, yes ⟨(by show 1 ≤ sizeLine; decide), fun p hp => ⟨_, rfl, p, (n : Int), [.int 0], rfl, rfl, upd_same, by omega, by omega, ?_, fun p2 hp2 => ?_⟩⟩⟩
      · rw [Int.toNat_natCast]
        show 1 * n ≤ sizeLine
        have := small (n := n) (by omega)
        omega
      · have hp2' : H2 p2 = none := by
          rcases Nat.decEq p2 p with z | z
          · rwa [upd_ne z] at hp2
          · rw [z, upd_same] at hp2
            cases hp2
        have sA : Same H2 (upd (upd H2 p (.lst [.int 0])) p2 (.lst (List.replicate (n : Int).toNat [V.int 0]).flatten)) := (same_new hp).trans (same_new hp2)
        refine ⟨rs.map V.ref, sA _ _ h1, by rw [List.length_map]; exact small (by omega), rs ++ [p2], ?_, by rw [List.length_append, h2]; rfl, ?_, fun r hr => ?_, fun b o e => ?_⟩
        · rw [upd_same, List.map_append]
          rfl
        · refine List.nodup_append.mpr ⟨h3, by simp, fun r hr y hy e => ?_⟩
          rw [List.mem_singleton.mp hy] at e
          have := (h4 r hr).2.2
          rw [e, hp2'] at this
          cases this
        · rcases List.mem_append.mp hr with hr | hr
          · obtain ⟨a1, a2, a3⟩ := h4 r hr
            exact ⟨a1, a2, by rw [upd_ne a1]; exact sA _ _ a3⟩
          · rw [List.mem_singleton.mp hr]
            have d1 : p2 ≠ D := (ne_of_none h1 hp2').symm
            refine ⟨d1, h5.free hp2', ?_⟩
            rw [upd_ne d1, upd_same, zeros]
        · rw [upd_ne (ne_of_none e hD)]
          exact sA _ _ (h5 _ _ e)
    · obtain ⟨rs, h1, h2, h3, h4, h5⟩ := hP
      refine ⟨_, rfl, t, C, dx, _, rfl, h5 _ _ upd_same, T.cl, T.nW, (by show 3 < 1000; decide), ?_⟩
      rw [tF_put3]
      have new : ∀ r ∈ rs, H r = none ∧ r ≠ t := fun r hr => by
        have z := (h4 r hr).2.1
        have d : r ≠ t := (ne_of_none upd_same z).symm
        rw [upd_ne d] at z
        exact ⟨z, d⟩
      refine q _ (D :: rs) (fun r hr => ?_) ⟨dx, D, rs, rfl, upd_same, ?_, h2, h3, fun i r e => ?_⟩ fun b o e hb => ?_
      · rcases List.mem_cons.mp hr with z | z
        · rw [z]; exact hD0
        · exact (new r z).1
      · rw [upd_ne hDt]
        exact h1
      · have hr := List.mem_of_getElem? e
        rw [upd_ne (new r hr).2]
        exact (h4 r hr).2.2
      · rw [upd_ne hb]
        refine h5 _ _ ?_
        rw [upd_ne hb]
        exact e
/-! ### Tally.is_order -/
abbrev sIsOrder : Stmt := inClass (top 14) 2
def spIsOrder (K : PySem.W.Frag) (C : Addr) : Sp := fun vs H Q _ => ∃ (t : Addr) (F : List Addr) (n : Nat) (b : List Rc61.Ballot) (a : Addr) (os : List Int), vs = [.ref t, .ref a] ∧ Tal C H t F n b ∧ n ≤ 12 ∧ SqL K H a (os.map V.int) ∧ os.length < 64 ∧ (∀ x ∈ os, 0 ≤ x) ∧ ∀ H', Same H H' → Q (.bl (Rc61.each n (os.map Int.toNat))) H'
theorem scIsOrder : FnScope ["self", "order"] ["self", "order"] (defScope sIsOrder) := ⟨rfl, rfl, rfl, by decide +kernel, rfl, by decide +kernel, by decide +kernel⟩
theorem dp_ints {K : PySem.W.Frag} {H : Hp} : ∀ ns : List Int, DpAll K H (ns.map V.int) (ns.map PyData.int)
  | [] => .nil
  | n :: ns => .cons (.int n) (dp_ints ns)
theorem eqv_ints (ns ms : List Int) : PyData.eqv (.list (ns.map PyData.int)) (.list (ms.map PyData.int)) = decide (ns = ms) := by
  rw [PyData.eqv]
  exact PySem.W.ked_eqvAll ns ms
theorem ok_is_order {f : Addr} {fd : FuncData} (F : Fun K "is_order" "Tally.is_order" sIsOrder f fd) (T : Txt K C) (mr : mg "range" = none) (ms : mg "sorted" = none) (ml : mg "list" = none) : FnOk P w K mg base CX0 1 f fd ["self", "order"] (spIsOrder K C) := by
  refine F.ok scIsOrder (fun vs H Q E h => ?_) (fun cdv A outer s H vs Q E hr h => ?_)
  · obtain ⟨t, F, n, b, a, os, rfl, _⟩ := h
    rfl
  · obtain ⟨t, F, n, b, a, os, rfl, hT, hn, hS, hl, h0, q⟩ := h
    refine ⟨_, pss_one (ps_ret (pe_cmpR (op_eqD hr.units) (pe_callB cr_sorted (by rfl) ms (by decide +kernel) (pa_cons (pv 1) pa_nil)) (pe_listRg (by rfl) (by rfl) ml (prg_1 (by rfl) mr (pe_sz T (pv 0)))) (nomark _))), ?_⟩
    obtain ⟨dx, wl, rs, eF, x⟩ := hT
    refine ⟨_, rfl, a, os, rfl, hS, hl, fun ns' p hperm hsort hp => ?_⟩
    refine ⟨t, dx, n, b.length, wl, rfl, ?_, n, rfl, ⟨by omega, by omega, by omega, by omega, by omega⟩, fun p2 hp2 => ?_⟩
    · rw [upd_ne (ne_of_none x.obj hp)]
      exact x.obj
    · have hne : p ≠ p2 := ne_of_none upd_same hp2
      have e : rgV 0 (n : Int) = ((List.range n).map fun (i : Nat) => (i : Int)).map V.int := by
        unfold rgV
        rw [List.map_map]
        have : ((n : Int) - 0).toNat = n := by omega
        rw [this]
        refine List.map_congr_left fun i _ => ?_
        show V.int (0 + (i : Int)) = V.int (i : Int)
        rw [Int.zero_add]
      rw [e]
      refine ⟨_, _, .lst (.inl (.inl (by rw [upd_ne hne]; exact upd_same))) (dp_ints ns'), .lst (.inl (.inl upd_same)) (dp_ints _), PySem.W.shaped_ints _, PySem.W.shaped_ints _, ?_⟩
      rw [eqv_ints, sorted_is h0 hperm hsort]
      exact q _ ((same_new hp).trans (same_new hp2))
/-! ### Tally.is_candidate -/
abbrev sIsCand : Stmt := inClass (top 14) 4
def spIsCand (C : Addr) : Sp := fun vs H Q _ => ∃ (t : Addr) (F : List Addr) (n : Nat) (b : List Rc61.Ballot) (z : Int), vs = [.ref t, .int z] ∧ Tal C H t F n b ∧ Q (.bl (decide (0 ≤ z ∧ z < n))) H
theorem scIsCand : FnScope ["self", "number"] ["self", "number"] (defScope sIsCand) := ⟨rfl, rfl, rfl, by decide +kernel, rfl, by decide +kernel, by decide +kernel⟩
theorem ok_is_cand {f : Addr} {fd : FuncData} (F : Fun K "is_candidate" "Tally.is_candidate" sIsCand f fd) (T : Txt K C) : FnOk P w K mg base CX0 1 f fd ["self", "number"] (spIsCand C) := by
  refine F.ok scIsCand (fun vs H Q E h => ?_) (fun cdv A outer s H vs Q E hr h => ?_)
  · obtain ⟨t, F, n, b, z, rfl, _⟩ := h
    rfl
  · obtain ⟨t, F, n, b, z, rfl, hT, q⟩ := h
    refine ⟨_, pss_one (ps_ret (pe_chain op_le op_lt pe_int (pv 1) (pe_sz T (pv 0)))), ?_⟩
    obtain ⟨dx, wl, rs, eF, x⟩ := hT
    refine ⟨_, rfl, _, _, rfl, rfl, _, rfl, ite2 (fun c => ?_) fun c => ?_⟩
    · have c := of_decide_eq_true c
      refine ⟨t, dx, n, _, wl, rfl, x.obj, _, _, rfl, rfl, ?_⟩
      have e : decide (z < (n : Int)) = decide (0 ≤ z ∧ z < n) := decide_eq_decide.mpr (by omega)
      exact (congrArg (fun k => Q (V.bl k) H) e).mpr q
    · have e : false = decide (0 ≤ z ∧ z < n) := (decide_eq_false fun k => c (decide_eq_true k.1)).symm
      exact (congrArg (fun k => Q (V.bl k) H) e).mpr q
end
end Tv

set_option maxRecDepth 100000
set_option maxHeartbeats 4000000
namespace Tv
open PySem PySem.Spec PyProof.Rows L2
theorem Tab.congr {C : Addr} {H : Hp} {t dx wl : Addr} {rs : List Addr} {n k : Nat} {W W' : Nat → Nat → Nat} (h : Tab C H t dx wl rs n k W) (e : ∀ i j, i < n → j < n → W i j = W' i j) : Tab C H t dx wl rs n k W' := by
  refine ⟨h.obj, h.tab, h.len, h.nd, fun i r q => ?_⟩
  have hi : i < n := by
    have := (List.getElem?_eq_some_iff.mp q).1
    rw [h.len] at this
    exact this
  rw [h.rows i r q]
  unfold row
  rw [List.map_congr_left fun j hj => e i j hi (List.mem_range.mp hj)]
theorem row_set {n c x : Nat} {f g : Nat → Nat} (hc : c < n) (h : ∀ j, j < n → g j = if j = c then x else f j) : (row n f).set c (.int (x : Int)) = row n g := by
  refine List.ext_getElem? fun j => ?_
  rw [List.getElem?_set]
  by_cases e : c = j
  · subst e
    rw [if_pos rfl, if_pos (by rw [row_len]; exact hc), row_at hc, h c hc, if_pos rfl]
  · rw [if_neg e]
    by_cases q : j < n
    · rw [row_at q, row_at q, h j q, if_neg (fun z => e z.symm)]
    · rw [List.getElem?_eq_none (by rw [row_len]; omega), List.getElem?_eq_none (by rw [row_len]; omega)]
theorem Tab.put {C : Addr} {H : Hp} {t dx wl : Addr} {rs : List Addr} {n k a c x : Nat} {r : Addr} {W W' : Nat → Nat → Nat} (h : Tab C H t dx wl rs n k W) (hr : rs[a]? = some r) (hn : 0 < n) (hc : c < n)
    (e : ∀ i j, i < n → j < n → W' i j = if i = a ∧ j = c then x else W i j) : Tab C (upd H r (.lst ((row n (W a)).set c (.int (x : Int))))) t dx wl rs n k W' := by
  have hR := h.rows a r hr
  have d1 : t ≠ r := ne_of h.obj hR (fun z => by cases z)
  have ha : a < n := by
    have := (List.getElem?_eq_some_iff.mp hr).1
    rw [h.len] at this
    exact this
  have d2 : wl ≠ r := by
    refine ne_of h.tab hR fun z => ?_
    injection z with z
    have z0 := congrArg (fun l : List V => l[0]?) z
    have e1 : (row n (W a))[0]? = some (.int (W a 0 : Int)) := row_at hn
    rw [← h.len] at hn
    have e2 : (rs.map V.ref)[0]? = some (.ref rs[0]) := by rw [List.getElem?_map, List.getElem?_eq_getElem hn]; rfl
    rw [e1, e2] at z0
    cases z0
  refine ⟨by rw [upd_ne d1]; exact h.obj, by rw [upd_ne d2]; exact h.tab, h.len, h.nd, fun i r' q => ?_⟩
  have hi : i < n := by
    have := (List.getElem?_eq_some_iff.mp q).1
    rw [h.len] at this
    exact this
  by_cases z : r' = r
  · subst z
    have hia : i = a := nd_ix h.nd q hr
    subst hia
    rw [upd_same, row_set hc]
    intro j hj
    rw [e i j hi hj]
    by_cases y : j = c
    · rw [if_pos ⟨rfl, y⟩, if_pos y]
    · rw [if_neg (fun y' => y y'.2), if_neg y]
  · rw [upd_ne z, h.rows i r' q]
    unfold row
    rw [List.map_congr_left fun j hj => ?_]
    rw [e i j hi (List.mem_range.mp hj), if_neg]
    rintro ⟨rfl, _⟩
    rw [hr] at q
    exact z (Option.some.inj q).symm
theorem sq_frame {K : PySem.W.Frag} {H H' : Hp} {a : Addr} {xs : List V} (h : SqL K H a xs) (k : ∀ o, H a = some o → H' a = some o) : SqL K H' a xs := by
  rcases h with (h | ⟨o, h⟩) | h
  · exact .inl (.inl (k _ h))
  · exact .inl (.inr ⟨o, k _ h⟩)
  · exact .inr h
theorem cut_from (xs : List V) (k : Nat) : cutV xs (some (k : Int)) none = xs.drop k := by
  unfold cutV
  rw [HT.sIx_nat, HT.sIx_none]
  rcases Nat.le_total k xs.length with c | c
  · rw [Nat.min_eq_left c]
    exact List.take_of_length_le (by rw [List.length_drop]; exact Nat.le_refl _)
  · rw [Nat.min_eq_right c, Nat.sub_self, List.drop_eq_nil_of_le c]
    rfl
theorem nums_drop (l : List Nat) (k : Nat) : (nums l).drop k = nums (l.drop k) := by
  unfold nums
  rw [List.map_drop]
section
variable {P : Program} {w : World} {K : PySem.W.Frag} {mg : Str → Option Value} {base : Heap} {C : Addr}
/-! ### Tally.cast -/
abbrev sCast : Stmt := inClass (top 14) 3
def spCast (K : PySem.W.Frag) (C : Addr) : Sp := fun vs H Q _ => ∃ (t : Addr) (F : List Addr) (n : Nat) (b : List Rc61.Ballot) (a : Addr) (l : List Nat) (k : Nat), vs = [.ref t, .ref a, .int (k : Int)] ∧ Tal C H t F n b ∧ 0 < n ∧ SqL K H a (nums l) ∧ l.Perm (List.range n) ∧ a ≠ t ∧ a ∉ F ∧
  ∀ H', Tal C H' t F n (b ++ [(l, k)]) → (∀ b' o, b' ≠ t → b' ∉ F → H b' = some o → H' b' = some o) → Q .non H'
theorem scCast : FnScope ["self", "order", "times", "place", "winner", "loser"] ["self", "order", "times"] (defScope sCast) := ⟨rfl, rfl, rfl, by decide +kernel, rfl, by decide +kernel, by decide +kernel⟩
theorem ok_cast {f : Addr} {fd : FuncData} (F : Fun K "cast" "Tally.cast" sCast f fd) (T : Txt K C) (me : mg "enumerate" = none) : FnOk P w K mg base CX0 1 f fd ["self", "order", "times"] (spCast K C) := by
  refine F.ok scCast (fun vs H Q E h => ?_) (fun cdv A outer s H vs Q E hr h => ?_)
  · obtain ⟨t, F, n, b, a, l, k, rfl, _⟩ := h
    rfl
  · obtain ⟨t, F, n, b, a, l, k, rfl, hT, hn, hS, hl, hat, haF, q⟩ := h
    refine ⟨_, pss_cons (ps_fldaug (pv 0) pe_int in_add)
      (pss_one (ps_for PassesOwn.never rfl (pi_enum (by rfl) me (pa_cons (pv 1) pa_nil)) (pg_tup rfl (pgs_cons (pg_name (i := 3) scCast.nd rfl (Or.inl rfl)) (pgs_cons (pg_name (i := 4) scCast.nd rfl (Or.inl rfl)) pgs_nil)))
        (pss_one (ps_for PassesOwn.never rfl (pi_list (pe_slice sl_list (pv 1) (po_some (pe_op op_add (pv 3) pe_int)) po_none)) (pg_name (i := 5) scCast.nd rfl (Or.inl rfl))
          (pss_one (ps_augS (pe_ix ix_list (pe_ws T (pv 0)) (pv 4) (fun _ _ => rfl)) (pv 5) get_list (pv 2) ip_add set_list)))))), ?_⟩
    obtain ⟨dx, wl, rs, rfl, x⟩ := hT
    obtain ⟨hlen, hnd, hlt⟩ := perm_range_iff.mp hl
    have hmem : ∀ i, i < n → i ∈ l := fun i hi => hl.mem_iff.mpr (List.mem_range.mpr hi)
    refine ⟨_, rfl, t, C, dx, _, _, rfl, x.obj, T.cl, T.nB, tF_ballots n b.length wl, _, _, rfl, rfl, dx, _, x.obj, (by show 3 < 1000; decide), ?_⟩
    have e1 : putF "ballots" (.int ((b.length : Int) + 1)) (tF n b.length wl) = tF n (b.length + 1) wl := tF_put2 n b.length wl (b.length + 1)
    rw [e1]
    have x1 : Tab C (upd H t (.ins C dx (tF n (b.length + 1) wl))) t dx wl rs n (b.length + 1) (Rc61.wins b) := by
      refine ⟨upd_same, ?_, x.len, x.nd, fun i r e => ?_⟩
      · rw [upd_ne (ne_of x.tab x.obj (fun z => by cases z))]
        exact x.tab
      · rw [upd_ne (ne_of (x.rows i r e) x.obj (fun z => by cases z))]
        exact x.rows i r e
    have f1 : ∀ b' o, b' ≠ t → b' ∉ wl :: rs → H b' = some o → (upd H t (.ins C dx (tF n (b.length + 1) wl))) b' = some o := fun b' o h1 _ e => by
      rw [upd_ne h1]
      exact e
    generalize upd H t (.ins C dx (tF n (b.length + 1) wl)) = H1 at x1 f1
    refine ⟨_, rfl, a, nums l, rfl, sq_frame hS (fun o => f1 a o hat haF), ?_⟩
    refine for_it (walk_enum (K := K) (a := a) (xs := nums l)) (fun p σ H2 => ∃ (v3 v4 v5 : Option V), σ = [some (.ref t), some (.ref a), some (.int (k : Int)), v3, v4, v5] ∧ Tab C H2 t dx wl rs n (b.length + 1) (castW (Rc61.wins b) l k p 0) ∧ ∀ b' o, b' ≠ t → b' ∉ wl :: rs → H b' = some o → H2 b' = some o)
      ⟨none, none, none, rfl, x1.congr fun i j _ _ => (castW_zero _ _ _ _ _).symm, f1⟩ (fun p σ H2 _ hP => ?_) (fun p y σ H2 H3 hp hP hY => ?_) fun σ H2 hP => ?_
    · obtain ⟨v3, v4, v5, rfl, y, f2⟩ := hP
      exact sq_frame hS (fun o => f2 a o hat haF)
    · obtain ⟨v3, v4, v5, rfl, y2, f2⟩ := hP
      obtain ⟨TT, y1, y3, rfl, hTT, rfl, hx1, hx3⟩ := hY
      obtain rfl : V.int (p : Int) = y1 := Option.some.inj hx1
      obtain ⟨win, hwin, rfl⟩ := nums_get hx3
      have hwn := hlt win (List.mem_of_getElem? hwin)
      rw [nums_len] at hp
      refine ⟨TT, _, rfl, .inl (.inl upd_same), rfl, _, _, rfl, _, _, rfl, rfl, ?_⟩
      have y3' : Tab C (upd H2 TT (.tup [.int (p : Int), .int (win : Int)])) t dx wl rs n (b.length + 1) (castW (Rc61.wins b) l k p 0) := y2.same (same_new hTT)
      have f3 : ∀ b' o, b' ≠ t → b' ∉ wl :: rs → H b' = some o → (upd H2 TT (.tup [.int (p : Int), .int (win : Int)])) b' = some o := fun b' o h1 h2 e => same_new hTT _ _ (f2 b' o h1 h2 e)
      generalize upd H2 TT (.tup [.int (p : Int), .int (win : Int)]) = H3 at y3' f3
      refine ⟨_, rfl, _, rfl, _, _, rfl, rfl, _, rfl, a, nums l, rfl, sq_frame hS (fun o => f3 a o hat haF), fun p2 hp2 => ?_⟩
      have ecut : cutV (nums l) (some ((p : Int) + 1)) none = nums (l.drop (p + 1)) := (cut_from (nums l) (p + 1)).trans (nums_drop l (p + 1))
      have ecut' : (upd H3 p2 (.lst (cutV (nums l) (some ((p : Int) + 1)) none))) = upd H3 p2 (.lst (nums (l.drop (p + 1)))) := by rw [ecut]
      rw [ecut']
      have hne : ∀ b' ∈ wl :: rs, b' ≠ p2 := fun b' hb => by
        rcases List.mem_cons.mp hb with z | z
        · rw [z]
          exact ne_of_none y3'.tab hp2
        · obtain ⟨i, hi, e⟩ := List.getElem_of_mem z
          exact ne_of_none (y3'.rows i b' (by rw [← e]; exact List.getElem?_eq_getElem hi)) hp2
      have hp2t : p2 ≠ t := (ne_of_none y3'.obj hp2).symm
      refine ⟨p2, rfl, ⟨_, sqL upd_same⟩, for_list (K := K) (a := p2) (xs := nums (l.drop (p + 1))) (fun r σ H4 => ∃ (v5 : Option V), σ = [some (.ref t), some (.ref a), some (.int (k : Int)), some (.int (p : Int)), some (.int (win : Int)), v5] ∧ Tab C H4 t dx wl rs n (b.length + 1) (castW (Rc61.wins b) l k p r) ∧ H4 p2 = some (.lst (nums (l.drop (p + 1)))) ∧ ∀ b' o, b' ≠ t → b' ∉ wl :: rs → H b' = some o → H4 b' = some o)
        ⟨v5, rfl, y3'.same (same_new hp2), upd_same, fun b' o h1 h2 e => same_new hp2 _ _ (f3 b' o h1 h2 e)⟩ (fun r σ H4 _ ⟨_, _, _, h3, _⟩ => sqL h3) (fun r y σ H4 hr4 hP => ?_) fun σ H4 hP => ?_⟩
      · obtain ⟨v5, rfl, y4, h4, f4⟩ := hP
        obtain ⟨los, hlos, rfl⟩ := nums_get hr4
        have hlos' : l[p + 1 + r]? = some los := by
          rw [List.getElem?_drop] at hlos
          exact hlos
        have hln := hlt los (List.mem_of_getElem? hlos')
        obtain ⟨rr, hrr⟩ : ∃ rr, rs[win]? = some rr := ⟨_, List.getElem?_eq_getElem (by rw [x.len]; exact hwn)⟩
        have mrr : (rs.map V.ref)[win]? = some (.ref rr) := by rw [List.getElem?_map, hrr]; rfl
        have hrow := y4.rows win rr hrr
        refine ⟨t, dx, _, _, wl, rfl, y4.obj, _, rfl, wl, _, _, _, rfl, rfl, sqL y4.tab, atI_nat mrr, _, rfl, rr, _, _, _, rfl, rfl, sqL hrow, atI_nat (row_at hln), _, rfl, _, _, rfl, rfl, rr, _, _, los, rfl, rfl, hrow, ?_, ?_⟩
        · rw [row_len]
          show (if (0 : Int) ≤ (los : Int) then (if (los : Int) < (n : Int) then some ((los : Int)).toNat else none) else _) = some los
          rw [if_pos (by omega), if_pos (by omega), Int.toNat_natCast]
        · refine ⟨some (.int (los : Int)), rfl, ?_, ?_, fun b' o h1 h2 e => ?_⟩
          · refine Tab.put (x := castW (Rc61.wins b) l k p r win los + k) y4 hrr hn hln fun i j hi hj => ?_
            exact castW_step hnd hwin hlos' (hmem i hi) (hmem j hj)
          · rw [upd_ne]
            · exact h4
            · exact (hne rr (List.mem_cons_of_mem _ (List.mem_of_getElem? hrr))).symm
          · rw [upd_ne]
            · exact f4 b' o h1 h2 e
            · rintro rfl
              exact h2 (List.mem_cons_of_mem _ (List.mem_of_getElem? hrr))
      · obtain ⟨v5, rfl, y4, h4, f4⟩ := hP
        rw [nums_len, List.length_drop] at y4
        exact ⟨_, _, v5, rfl, y4.congr fun i j hi hj => castW_turn (hmem j hj), f4⟩
    · obtain ⟨v3, v4, v5, rfl, y, f2⟩ := hP
      rw [nums_len] at y
      refine q H2 ⟨dx, wl, rs, rfl, ?_⟩ f2
      rw [List.length_append]
      exact y.congr fun i j hi hj => castW_done (hmem i hi)
end
end Tv

set_option maxRecDepth 100000
set_option maxHeartbeats 4000000
namespace Tv
open PySem PySem.Spec PyProof.Rows L2
/-! ### min of a list of pairs of numbers, sorted of a list of triples -/
def PairAt (H : Hp) (p : Int × Int) (v : V) : Prop := ∃ r, v = .ref r ∧ H r = some (.tup [.int p.1, .int p.2])
def TripAt (H : Hp) (p : Int × Int × Int) (v : V) : Prop := ∃ r, v = .ref r ∧ H r = some (.tup [.int p.1, .int p.2.1, .int p.2.2])
def encP (p : Int × Int) : PyData := .tuple [.int p.1, .int p.2]
def encT (p : Int × Int × Int) : PyData := .tuple [.int p.1, .int p.2.1, .int p.2.2]
def leP2 (p q : Int × Int) : Prop := p.1 < q.1 ∨ (p.1 = q.1 ∧ p.2 ≤ q.2)
def leT3 (p q : Int × Int × Int) : Prop := p.1 < q.1 ∨ (p.1 = q.1 ∧ (p.2.1 < q.2.1 ∨ (p.2.1 = q.2.1 ∧ p.2.2 ≤ q.2.2)))
theorem dp_pairs {K : PySem.W.Frag} {H : Hp} : ∀ {ps : List (Int × Int)} {xs : List V}, Paired (PairAt H) ps xs → DpAll K H xs (ps.map encP)
  | _, _, .nil => .nil
  | _, _, .cons ⟨r, e, h⟩ t => by
    subst e
    exact .cons (.tup (sqT h) (.cons (.int _) (.cons (.int _) .nil))) (dp_pairs t)
/-- the least of the pairs, the first of them where several are -/
theorem minD_pairs : ∀ (ps : List (Int × Int)) (p : Int × Int), ∃ q, q ∈ p :: ps ∧ PySem.W.minD (encP p) (ps.map encP) = encP q ∧ ∀ z ∈ p :: ps, leP2 q z
  | [], p => ⟨p, List.mem_cons_self, rfl, fun z hz => by
      rw [List.mem_singleton.mp hz]
      exact .inr ⟨rfl, Int.le_refl _⟩⟩
  | a :: ps, p => by
    have e : PySem.W.minD (encP p) ((a :: ps).map encP) = PySem.W.minD (if PySem.W.dataLt (encP a) (encP p) then encP a else encP p) (ps.map encP) := rfl
    have d : PySem.W.dataLt (encP a) (encP p) = decide (a.1 < p.1 ∨ (a.1 = p.1 ∧ a.2 < p.2)) := PySem.W.dataLt_ii _ _ _ _
    rw [e, d]
    by_cases c : a.1 < p.1 ∨ (a.1 = p.1 ∧ a.2 < p.2)
    · rw [if_pos (decide_eq_true c)]
      obtain ⟨q, h1, h2, h3⟩ := minD_pairs ps a
      refine ⟨q, List.mem_cons_of_mem _ h1, h2, fun z hz => ?_⟩
      rcases List.mem_cons.mp hz with z' | z'
      · subst z'
        have := h3 a List.mem_cons_self
        unfold leP2 at this ⊢
        omega
      · exact h3 z z'
    · rw [if_neg (by simpa using c)]
      obtain ⟨q, h1, h2, h3⟩ := minD_pairs ps p
      refine ⟨q, ?_, h2, fun z hz => ?_⟩
      · rcases List.mem_cons.mp h1 with z | z
        · rw [z]; exact List.mem_cons_self
        · exact List.mem_cons_of_mem _ (List.mem_cons_of_mem _ z)
      · rcases List.mem_cons.mp hz with z' | z'
        · rw [z']
          exact h3 p List.mem_cons_self
        · rcases List.mem_cons.mp z' with z' | z'
          · rw [z']
            have := h3 p List.mem_cons_self
            unfold leP2 at this ⊢
            omega
          · exact h3 z (List.mem_cons_of_mem _ z')
theorem depth_pairs : ∀ ps : List (Int × Int), PyData.depthAll (ps.map encP) ≤ 1
  | [] => by simp [PyData.depthAll]
  | p :: ps => by
    have := depth_pairs ps
    show PyData.depthAll (encP p :: ps.map encP) ≤ 1
    rw [PyData.depthAll]
    have e : (encP p).depth ≤ 1 := by simp [encP, PyData.depth, PyData.depthAll]
    omega
def rMinP (K : PySem.W.Frag) : List V → Hp → VK → Prop := fun vs H Q => ∃ (a : Addr) (ps : List (Int × Int)) (xs : List V), vs = [.ref a] ∧ SqL K H a xs ∧ Paired (PairAt H) ps xs ∧ ps ≠ [] ∧
  ∀ p r, p ∈ ps → (∀ z ∈ ps, leP2 p z) → H r = some (.tup [.int p.1, .int p.2]) → Q (.ref r) H
theorem ref_inj {a b : Addr} (h : V.ref a = V.ref b) : a = b := by
  injection h
theorem cr_minP {X : Cx} (hc : X.calm = true) (hu : X.A.units + 64 < cLine) : CallR X (.builtin "min") (rMinP X.K) := by
  intro pins s σ H vs us Q I r h
  obtain ⟨a, ps, xs, rfl, hs, hp, hne, q⟩ := h
  obtain ⟨its, rv, hl, hz⟩ := I.list hs
  rw [Vals.ref1 r]
  cases ps with
  | nil => exact absurd rfl hne
  | cons p ps =>
    obtain ⟨as, hr⟩ := Dp.readsAll I ((p :: ps).map encP) xs its (dp_pairs hp) rv
    have hr' : ReadsAll s.heap its.toArray.toList (encP p :: ps.map encP) as := by
      rw [List.toList_toArray]
      exact hr
    refine PySem.W.min_list_data (I.ok.hd hc) hl.isList hr' ⟨fun x hx y hy => ?_, fun x hx => ?_⟩ ?_ fun i v h' tk bs hv hR hk => ?_
    · obtain ⟨p1, _, rfl⟩ := List.mem_map.mp (show x ∈ (p :: ps).map encP from hx)
      obtain ⟨p2, _, rfl⟩ := List.mem_map.mp (show y ∈ (p :: ps).map encP from hy)
      simp [encP, PySem.W.alike, PySem.W.alikeAll]
    · obtain ⟨p1, _, rfl⟩ := List.mem_map.mp (show x ∈ (p :: ps).map encP from hx)
      simp [encP]
    · have := depth_pairs (p :: ps)
      have e : PyData.depthAll (encP p :: ps.map encP) ≤ 1 := this
      omega
    · have hv' : its[i]? = some v := by simpa using hv
      -- which item it is
      have hi : i < xs.length := by
        rw [rv.length]
        exact (List.getElem?_eq_some_iff.mp hv').1
      obtain ⟨u, hu', ru⟩ := rv.get (List.getElem?_eq_getElem hi)
      rw [hv'] at hu'
      obtain rfl := Option.some.inj hu'
      obtain ⟨z, hz', zr, ez, hzr⟩ := pr_get hp (List.getElem?_eq_getElem hi)
      rw [ez] at ru
      obtain rfl : v = Value.ref zr := ru
      obtain ⟨m, hm1, hm2, hm3⟩ := minD_pairs ps p
      rw [hm2] at hR
      obtain ⟨its2, rv2, ⟨o, ho, hoc, n2, hod⟩, _⟩ := I.tuple (sqT hzr)
      have hm : m = z := by
        unfold encP at hR
        cases hR with
        | @tuple _ o' vs' n' _ _ h1 h2 h3 h4 =>
          have ho' : o' = o := by
            have q := hk _ _ ho
            rw [h1] at q
            exact Option.some.inj q
          subst ho'
          rw [hod] at h3
          injection h3 with h3 _
          subst h3
          obtain ⟨u1, u2, e2, ⟨t1, r1⟩, ⟨t2, r2⟩⟩ := vals2 rv2
          subst e2
          subst r1
          subst r2
          rw [List.toList_toArray] at h4
          cases h4 with
          | cons a1 a2 =>
            cases a2 with
            | cons a3 a4 =>
              have w1 : m.1 = z.1 := by
                generalize m.1 = m1 at a1
                cases a1
                rfl
              have w2 : m.2 = z.2 := by
                generalize m.2 = m1 at a3
                cases a3
                rfl
              exact Prod.ext w1 w2
      subst hm
      exact ⟨.ref zr, H, I.kept hk, rfl, q m zr hm1 hm3 hzr⟩
theorem dataLt_iii (x y z x' y' z' : Int) : PySem.W.dataLt (.tuple [.int x, .int y, .int z]) (.tuple [.int x', .int y', .int z']) = decide (x < x' ∨ (x = x' ∧ (y < y' ∨ (y = y' ∧ z < z')))) := by
  rw [PySem.W.dataLt_tuple, PySem.W.dataLt_cons (by simp [PySem.W.alike]), PySem.W.dataLt_cons (by simp [PySem.W.alike]), PySem.W.dataLt_cons (by simp [PySem.W.alike])]
  have e : PyProof.Rows.lexLt itemOrd (PySem.W.keyToksAll []) (PySem.W.keyToksAll []) = false := lex_irrefl _
  rw [e, PySem.W.dataLt_int, PySem.W.dataLt_int, PySem.W.dataLt_int]
  simp only [PyData.eqv, beq_iff_eq]
  by_cases h1 : x = x' <;> by_cases h2 : y = y' <;> by_cases h3 : z = z' <;> simp [h1, h2, h3]
theorem dataLe_T (p q : Int × Int × Int) : PySem.W.dataLe false encT p q = true ↔ leT3 p q := by
  show (!PySem.W.dataLt (encT q) (encT p)) = true ↔ _
  unfold encT
  rw [dataLt_iii]
  unfold leT3
  rw [Bool.not_eq_true', decide_eq_false_iff_not]
  omega
def rSort3 (K : PySem.W.Frag) : List V → Hp → VK → Prop := fun vs H Q => ∃ (a : Addr) (ps : List (Int × Int × Int)) (xs : List V), vs = [.ref a] ∧ SqL K H a xs ∧ Paired (TripAt H) ps xs ∧ ps.length ≤ 1000 ∧
  ∀ qs ys d, qs.Perm ps → qs.Pairwise leT3 → Paired (TripAt H) qs ys → H d = none → Q (.ref d) (upd H d (.lst ys))
theorem dp_trips {K : PySem.W.Frag} {H : Hp} : ∀ {ps : List (Int × Int × Int)} {xs : List V}, Paired (TripAt H) ps xs → DpAll K H xs (ps.map encT)
  | _, _, .nil => .nil
  | _, _, .cons ⟨r, e, h⟩ t => by
    subst e
    exact .cons (.tup (sqT h) (.cons (.int _) (.cons (.int _) (.cons (.int _) .nil)))) (dp_trips t)
theorem each_of {R : V → Value → Prop} {H : Hp} : ∀ {ps : List (Int × Int × Int)} {xs : List V} {us : List Value}, Paired (TripAt H) ps xs → Vals xs us → PySem.W.EachIs (fun v p => ∃ r, v = Value.ref r ∧ H r = some (.tup [.int p.1, .int p.2.1, .int p.2.2])) us ps
  | _, _, _, .nil, .nil => .nil
  | _, _, _, .cons ⟨r, e, h⟩ t, .cons q u => by
    subst e
    exact .cons ⟨r, q, h⟩ (each_of (R := R) t u)
theorem of_each {H : Hp} : ∀ {us : List Value} {ps : List (Int × Int × Int)}, PySem.W.EachIs (fun v p => ∃ r, v = Value.ref r ∧ H r = some (.tup [.int p.1, .int p.2.1, .int p.2.2])) us ps → ∃ ys, Vals ys us ∧ Paired (TripAt H) ps ys
  | _, _, .nil => ⟨[], .nil, .nil⟩
  | _, _, .cons ⟨r, e, h⟩ t => by
    obtain ⟨ys, a, b⟩ := of_each t
    exact ⟨.ref r :: ys, .cons e a, .cons ⟨r, rfl, h⟩ b⟩
theorem cr_sort3 {X : Cx} (hu : X.A.units + 64 < cLine) : CallR X (.builtin "sorted") (rSort3 X.K) := by
  intro pins s σ H vs us Q I r h
  obtain ⟨a, ps, xs, rfl, hs, hp, hlen, q⟩ := h
  obtain ⟨its, rv, hl, hz⟩ := I.list hs
  rw [Vals.ref1 r]
  obtain ⟨as, hr⟩ := Dp.readsAll I (ps.map encT) xs its (dp_trips hp) rv
  refine PySem.W.sorted_data (β := Int × Int × Int) (enc := encT) hl.isList (each_of (R := fun _ _ => True) hp rv) (PySem.W.readsAll_each encT hr) (PySem.W.AllAlike.of fun b b' => by simp [encT, PySem.W.alike, PySem.W.alikeAll]) (PySem.W.Sortable.tuples fun b => ⟨_, _, rfl⟩)
    (Nat.le_of_lt (small (by omega))) (fun b _ => ?_) fun out hol ho => ?_
  · have e : (encT b).depth ≤ 1 := by simp [encT, PyData.depth, PyData.depthAll]
    omega
  · obtain ⟨ys, h1, h2⟩ := of_each ho
    obtain ⟨ep, he'⟩ := PyProof.Rows.sortedAll_at s.heap its out.toArray
    have hlen2 : ys.length ≤ sizeLine := by
      rw [← h2.length, List.length_mergeSort]
      exact Nat.le_of_lt (small (by omega))
    refine ⟨.ref _, upd H (s.heap.objs.size + 1) (.lst ys), I.laid (t' := s.toks) (fun _ _ => PyProof.Rows.sortedAll_old) (Nat.le_succ _) ⟨hlen2, out, ep, h1, he'⟩, rfl, q _ ys _ (List.mergeSort_perm _ _) ?_ h2 (I.hok.fresh (Nat.le_succ _))⟩
    have hs := List.pairwise_mergeSort (le := PySem.W.dataLe false encT) (fun x y z h1 h2 => ?_) (fun x y => ?_) ps
    · exact hs.imp fun h => (dataLe_T _ _).mp h
    · rw [dataLe_T] at h1 h2 ⊢
      unfold leT3 at h1 h2 ⊢
      omega
    · rw [Bool.or_eq_true, dataLe_T, dataLe_T]
      unfold leT3
      omega
end Tv

set_option maxRecDepth 100000
set_option maxHeartbeats 4000000
namespace Tv
open PySem PySem.Spec PyProof.Rows L2
section
variable {P : Program} {w : World} {K : PySem.W.Frag} {mg : Str → Option Value} {base : Heap} {C : Addr}
/-! ### last_to_stand -/
abbrev sTurns : Stmt := top 16
def spTurns (K : PySem.W.Frag) (C : Addr) : Sp := fun vs H Q _ => ∃ (t : Addr) (F : List Addr) (n : Nat) (b : List Rc61.Ballot) (a : Addr) (l : List Nat), vs = [.ref t, .ref a] ∧ Tal C H t F n b ∧ SqL K H a (nums l) ∧ l ≠ [] ∧ (∀ x ∈ l, x < n) ∧ ∀ H', Same H H' → Q (.int (Rc61.turns b l : Nat)) H'
theorem scTurns : FnScope ["tally", "order", "standing", "candidate"] ["tally", "order"] (defScope sTurns) := ⟨rfl, rfl, rfl, by decide +kernel, rfl, by decide +kernel, by decide +kernel⟩
theorem ok_turns {f : Addr} {fd : FuncData} (F : Fun K "last_to_stand" "last_to_stand" sTurns f fd) (T : Txt K C) (MB : Mth P w K mg base C 1 "beats" ["self", "one", "other"] (spBeats C)) :
    FnOk P w K mg base CX0 2 f fd ["tally", "order"] (spTurns K C) := by
  refine F.ok scTurns (fun vs H Q E h => ?_) (fun cdv A outer s H vs Q E hr h => ?_)
  · obtain ⟨t, F, n, b, a, l, rfl, _⟩ := h
    rfl
  · obtain ⟨t, F, n, b, a, l, rfl, hT, hS, hne, hlt, q⟩ := h
    refine ⟨_, pss_cons (ps_set (i := 2) scTurns.nd rfl (Or.inl rfl) (pe_ix ix_list (pv 1) pe_int (fun _ _ => rfl)))
      (pss_cons (ps_for PassesOwn.never rfl (pi_list (pe_slice sl_list (pv 1) (po_some pe_int) po_none)) (pg_name (i := 3) scTurns.nd rfl (Or.inl rfl))
        (pss_one (ps_if (pt_val (pe_mth MB T noBeats hr (pv 0) (pa_cons (pv 3) (pa_cons (pv 2) pa_nil)))) (pss_one (ps_set (i := 2) scTurns.nd rfl (Or.inl rfl) (pv 3))) pss_nil)))
      (pss_one (ps_ret (pv 2)))), ?_⟩
    have hT0 := hT
    obtain ⟨dx, wl, rs, eF, x⟩ := hT
    obtain ⟨i, r, rfl⟩ : ∃ i r, l = i :: r := by
      cases l with
      | nil => exact absurd rfl hne
      | cons i r => exact ⟨i, r, rfl⟩
    have hin := hlt i List.mem_cons_self
    have hrn : ∀ y ∈ r, y < n := fun y hy => hlt y (List.mem_cons_of_mem _ hy)
    refine ⟨_, rfl, a, _, 0, .int (i : Int), rfl, rfl, hS, atI_nat (j := 0) rfl, ?_⟩
    refine ⟨_, rfl, _, rfl, a, _, rfl, hS, fun p hp => ?_⟩
    have ecut : cutV (nums (i :: r)) (some 1) none = nums r := (cut_from (nums (i :: r)) 1).trans (nums_drop (i :: r) 1)
    rw [ecut]
    have step : ∀ k y, r[k]? = some y → (r.take (k + 1)).foldl (fun (x : Nat) y => if Rc61.beats b y x = true then y else x) i = if Rc61.beats b y ((r.take k).foldl (fun (x : Nat) y => if Rc61.beats b y x = true then y else x) i) = true then y else (r.take k).foldl (fun (x : Nat) y => if Rc61.beats b y x = true then y else x) i := by
      intro k y hk
      rw [List.take_add_one, hk, List.foldl_append]
      rfl
    refine ⟨p, rfl, ⟨_, sqL upd_same⟩, for_list (K := K) (a := p) (xs := nums r) (fun k σ H2 => ∃ (z : Nat) (v3 : Option V), σ = [some (.ref t), some (.ref a), some (.int (z : Int)), v3] ∧ z < n ∧ z = (r.take k).foldl (fun (x : Nat) y => if Rc61.beats b y x = true then y else x) i ∧ Same (upd H p (.lst (nums r))) H2)
      ⟨i, none, rfl, hin, rfl, Same.refl _⟩ (fun k σ H2 _ ⟨_, _, _, _, _, s2⟩ => s2.seq (sqL upd_same)) (fun k y σ H2 hk hP => ?_) fun σ H2 hP => ?_⟩
    · obtain ⟨z, v3, rfl, hz, ez, s2⟩ := hP
      obtain ⟨y, hy, rfl⟩ := nums_get hk
      have hyn := hrn y (List.mem_of_getElem? hy)
      have hst := step k y hy
      rw [← ez] at hst
      have sA : Same H H2 := (same_new hp).trans s2
      refine ⟨t, dx, _, _, wl, rfl, sA _ _ x.obj, _, rfl, _, rfl, t, F, n, b, y, z, rfl, hT0.same sA, hyn, hz, _, rfl, ite2 (fun c => ?_) fun c => ?_⟩
      · rw [if_pos c] at hst
        exact ⟨_, rfl, y, _, rfl, hyn, hst.symm, s2⟩
      · rw [if_neg c] at hst
        exact ⟨z, _, rfl, hz, hst.symm, s2⟩
    · obtain ⟨z, v3, rfl, hz, ez, s2⟩ := hP
      rw [nums_len, List.take_length] at ez
      refine ⟨_, rfl, ?_⟩
      rw [ez, ← turns_cons]
      exact q H2 ((same_new hp).trans s2)
/-! ### without -/
abbrev sWithout : Stmt := top 17
def spWithout : Sp := fun vs H Q _ => ∃ (g c : Nat), vs = [.int (g : Int), .int (c : Int)] ∧ c ≤ 1000 ∧ ∀ H', Same H H' → Q (.int ((g ^^^ 2 ^ c : Nat) : Int)) H'
theorem scWithout : FnScope ["group", "candidate"] ["group", "candidate"] (defScope sWithout) := ⟨rfl, rfl, rfl, by decide +kernel, rfl, by decide +kernel, by decide +kernel⟩
theorem ok_without {f : Addr} {fd : FuncData} (F : Fun K "without" "without" sWithout f fd) (DG : Dfn P w K mg base 1 "group_of" ["members"] (spGroupOf K)) :
    FnOk P w K mg base CX0 2 f fd ["group", "candidate"] spWithout := by
  refine F.ok scWithout (fun vs H Q E h => ?_) (fun cdv A outer s H vs Q E hr h => ?_)
  · obtain ⟨g, c, rfl, _⟩ := h
    rfl
  · obtain ⟨g, c, rfl, hc, q⟩ := h
    refine ⟨_, pss_one (ps_ret (pe_op op_xor (pv 0) (pe_def DG hr (by rfl) (pa_cons (pe_lst (pa_cons (pv 1) pa_nil)) pa_nil)))), ?_⟩
    refine ⟨_, rfl, _, rfl, (by show 1 ≤ sizeLine; decide), fun p hp => ⟨p, [c], rfl, sqL upd_same, fun y hy => by rw [List.mem_singleton.mp hy]; omega, (by show 1 ≤ 1000; decide), fun H1 s1 => ?_⟩⟩
    rw [gsum_one]
    refine ⟨_, _, rfl, rfl, ?_⟩
    have := q H1 ((same_new hp).trans s1)
    rw [← xor_nat] at this
    exact this
/-! ### least_quarrel -/
abbrev sLeast : Stmt := top 18
def headV : List Nat → V
  | [] => .non
  | x :: _ => .int (x : Int)
def spLeast (K : PySem.W.Frag) (C : Addr) : Sp := fun vs H Q _ => ∃ (t : Addr) (F : List Addr) (n : Nat) (b : List Rc61.Ballot) (g x : Nat) (cl : Addr) (us : List V) (r : Addr) (o : List Nat) (v : V), vs = [.ref t, .int (g : Int), .int (x : Int), .ref cl] ∧ Tal C H t F n b ∧ n ≤ 12 ∧ g < 2 ^ n ∧ x ∈ mem n g ∧
  SqL K H cl us ∧ us[g ^^^ 2 ^ x]? = some (.ref r) ∧ H r = some (.tup [.int (Rc61.quarrel b o : Nat), v]) ∧ ∀ H', Same H H' → Q (.int (cost n b g x o : Nat)) H'
theorem scLeast : FnScope ["tally", "group", "front", "calmest", "behind", "with_front", "other"] ["tally", "group", "front", "calmest"] (defScope sLeast) := ⟨rfl, rfl, rfl, by decide +kernel, rfl, by decide +kernel, by decide +kernel⟩
theorem sum_cast (f : Nat → Nat) : ∀ l : List Nat, ((l.map fun k => (f k : Int)) : List Int).sum = ((l.map f).sum : Nat)
  | [] => rfl
  | x :: l => by
    rw [List.map_cons, List.map_cons, List.sum_cons, List.sum_cons, sum_cast f l]
    omega
theorem ok_least {f : Addr} {fd : FuncData} (F : Fun K "least_quarrel" "least_quarrel" sLeast f fd) (T : Txt K C) (ms : mg "sum" = none) (DM : Dfn P w K mg base 1 "members_of" ["group"] spMembers) (DW : Dfn P w K mg base 2 "without" ["group", "candidate"] spWithout) :
    FnOk P w K mg base CX0 3 f fd ["tally", "group", "front", "calmest"] (spLeast K C) := by
  refine F.ok scLeast (fun vs H Q E h => ?_) (fun cdv A outer s H vs Q E hr h => ?_)
  · obtain ⟨t, F, n, b, g, x, cl, us, r, o, v, rfl, _⟩ := h
    rfl
  · obtain ⟨t, F, n, b, g, y, cl, us, r, o, v, rfl, hT, hn, hg, hy, hS, hr1, hr2, q⟩ := h
    have hr' : Room 1 _ := hr.mono (by decide)
    refine ⟨_, pss_cons (ps_set (i := 4) scLeast.nd rfl (Or.inl rfl) (pe_def DW hr (by rfl) (pa_cons (pv 1) (pa_cons (pv 2) pa_nil))))
      (pss_cons (ps_set (i := 5) scLeast.nd rfl (Or.inl rfl) (pe_callB (cr_sum rfl) (by rfl) ms (by decide +kernel) (pa_cons
        (pe_lc (own := [("other", 6)]) (g := gName 6) (by rfl) scLeast.nd (pi_list (pe_def DM hr' (by rfl) (pa_cons (pv 4) pa_nil))) (blkOk_by (own := [("other", 6)]) (N := ["tally", "group", "front", "calmest", "behind", "with_front", "other"]) (sc := defScope sLeast) (by decide +kernel))
          (fun _ _ _ _ _ => pg_name (i := 6) scLeast.nd rfl (Or.inl rfl)) (fun _ _ _ _ _ => pts_nil) (fun _ _ _ _ _ => pe_ix (ix_listK K) (pe_ix (ix_listK K) (pe_ws T (pv 0)) (pv 6) (fun _ _ => rfl)) (pv 2) (fun _ _ => rfl))) pa_nil)))
      (pss_one (ps_ret (pe_op op_add (pv 5) (pe_ix ix_tup (pe_ix ix_list (pv 3) (pv 4) (fun _ _ => rfl)) pe_int (fun _ _ => rfl)))))), ?_⟩
    have hT0 := hT
    obtain ⟨dx, wl, rs, eF, x⟩ := hT
    obtain ⟨hyn, hyb⟩ := mem_mem.mp hy
    have hg' : g ^^^ 2 ^ y < 2 ^ n := Nat.lt_trans (without_lt hyb) hg
    refine ⟨_, rfl, _, rfl, g, y, rfl, by omega, fun H1 s1 => ?_⟩
    refine ⟨_, rfl, _, n, rfl, hg', by omega, fun H2 p s2 hp e2 => ⟨p, rfl, ⟨_, sqL e2⟩, fun D hD => ?_⟩⟩
    have sA : Same H H2 := s1.trans s2
    have hlen : (mem n (g ^^^ 2 ^ y)).length ≤ n := nodup_len (mem_nodup _ _) fun z hz => (mem_mem.mp hz).1
    refine lc_lstG (src := mem n (g ^^^ 2 ^ y)) (emb := fun (i : Nat) => V.int (i : Int)) (fun _ => true) (fun (k : Nat) v _ => v = .int (Rc61.wins b k y : Nat)) hD (sqL e2) (by omega) (fun _ _ _ _ h _ => h) (fun j k H3 hk s3 _ R _ R2 => ?_) fun H3 acc s3 hpr hA => ?_
    · have hkn := (mem_mem.mp (List.mem_of_getElem? hk)).1
      have x3 := (x.same sA).same s3
      obtain ⟨rr, hrr⟩ : ∃ rr, rs[k]? = some rr := ⟨_, List.getElem?_eq_getElem (by rw [x.len]; exact hkn)⟩
      have mrr : (rs.map V.ref)[k]? = some (.ref rr) := by rw [List.getElem?_map, hrr]; rfl
      exact ⟨rfl, yes ⟨t, dx, _, _, wl, rfl, x3.obj, _, rfl, wl, _, _, _, rfl, rfl, sqL x3.tab, atI_nat mrr, _, rfl, rr, _, _, _, rfl, rfl, sqL (x3.rows k rr hrr), atI_nat (row_at hyn), R2 _ _ (Same.refl _) rfl rfl⟩⟩
    · have e := pr_map hpr
      rw [List.filter_eq_self.mpr (fun _ _ => rfl)] at e
      refine ⟨D, (mem n (g ^^^ 2 ^ y)).map fun k => (Rc61.wins b k y : Int), rfl, ?_, ?_⟩
      · rw [List.map_map]
        rw [e] at hA
        exact sqL hA
      · rw [sum_cast]
        have sB : Same H H3 := sA.trans s3
        refine ⟨_, rfl, _, rfl, _, rfl, cl, us, _, .ref r, rfl, rfl, sB.seq hS, atI_nat hr1, r, _, 0, _, rfl, rfl, sqT (sB _ _ hr2), atI_nat (j := 0) rfl, _, _, rfl, rfl, ?_⟩
        exact q H3 sB
end
end Tv

set_option maxRecDepth 100000
set_option maxHeartbeats 4000000
namespace Tv
open PySem PySem.Spec PyProof.Rows L2
/-- the g-th of us tells the best order of group g: its quarrel, its front -/
def Told (n : Nat) (b : List Rc61.Ballot) (S : List Addr) (us : List V) (H : Hp) (g : Nat) : Prop :=
  ∃ r o, us[g]? = some (.ref r) ∧ r ∉ S ∧ Best n b g o ∧ H r = some (.tup [.int (Rc61.quarrel b o : Nat), headV o])
theorem Told.kp {n g : Nat} {b : List Rc61.Ballot} {S : List Addr} {us : List V} {H H' : Hp} {D : Addr} (h : Told n b S us H g) (hD : D ∈ S) (k : Kp D H H') : Told n b S us H' g := by
  obtain ⟨r, o, h1, h2, h3, h4⟩ := h
  exact ⟨r, o, h1, h2, h3, k _ _ (fun z => h2 (by rw [z]; exact hD)) h4⟩
theorem Told.same {n g : Nat} {b : List Rc61.Ballot} {S : List Addr} {us : List V} {H H' : Hp} (h : Told n b S us H g) (s : Same H H') : Told n b S us H' g := by
  obtain ⟨r, o, h1, h2, h3, h4⟩ := h
  exact ⟨r, o, h1, h2, h3, s _ _ h4⟩
theorem pr_mapL {α β γ : Type} {F : γ → β → Prop} {f : α → γ} : ∀ {l : List α} {m : List β}, Paired (fun a b => F (f a) b) l m → Paired F (l.map f) m
  | _, _, .nil => .nil
  | _, _, .cons r t => .cons r (pr_mapL t)
theorem pr_mem {α β : Type} {F G : α → β → Prop} : ∀ {l : List α} {m : List β}, Paired F l m → (∀ a ∈ l, ∀ b, F a b → G a b) → Paired G l m
  | _, _, .nil, _ => .nil
  | _, _, .cons r t, h => .cons (h _ List.mem_cons_self _ r) (pr_mem t fun a ha b => h a (List.mem_cons_of_mem _ ha) b)
section
variable {P : Program} {w : World} {K : PySem.W.Frag} {mg : Str → Option Value} {base : Heap} {C : Addr}
/-! ### calmest_fronts -/
abbrev sFronts : Stmt := top 19
def spFronts (C : Addr) : Sp := fun vs H Q _ => ∃ (t : Addr) (F : List Addr) (n : Nat) (b : List Rc61.Ballot), vs = [.ref t] ∧ Tal C H t F n b ∧ n ≤ 6 ∧
  ∀ H' cl us, Same H H' → H cl = none → H' cl = some (.lst us) → (∀ g, g < 2 ^ n → Told n b [cl] us H' g) → Q (.ref cl) H'
theorem scFronts : FnScope ["tally", "calmest", "group", "fronts", "front"] ["tally"] (defScope sFronts) := ⟨rfl, rfl, rfl, by decide +kernel, rfl, by decide +kernel, by decide +kernel⟩
theorem ok_fronts {f : Addr} {fd : FuncData} (F : Fun K "calmest_fronts" "calmest_fronts" sFronts f fd) (T : Txt K C) (mr : mg "range" = none) (mm : mg "min" = none) (DM : Dfn P w K mg base 1 "members_of" ["group"] spMembers)
    (DL : Dfn P w K mg base 3 "least_quarrel" ["tally", "group", "front", "calmest"] (spLeast K C)) : FnOk P w K mg base CX0 4 f fd ["tally"] (spFronts C) := by
  refine F.ok scFronts (fun vs H Q E h => ?_) (fun cdv A outer s H vs Q E hr h => ?_)
  · obtain ⟨t, F, n, b, rfl, _⟩ := h
    rfl
  · obtain ⟨t, F, n, b, rfl, hT, hn, q⟩ := h
    have hr1 : Room 1 _ := hr.mono (by decide)
    refine ⟨_, pss_cons (ps_set (i := 1) scFronts.nd rfl (Or.inr rfl) (pe_lst (pa_cons (pe_tup (pa_cons pe_int (pa_cons pe_non pa_nil))) pa_nil)))
      (pss_cons (ps_for PassesOwn.never rfl (pi_range2 (by rfl) mr (pa_cons pe_int (pa_cons (pe_op op_oneShl pe_int (pe_sz T (pv 0))) pa_nil))) (pg_name (i := 2) scFronts.nd rfl (Or.inr rfl))
        (pss_cons (ps_setLc (i := 3) (own := [("front", 4)]) (g := gName 4) (by rfl) scFronts.nd rfl rfl (sw_true rfl rfl rfl (by decide +kernel)) (pi_list (pe_def DM hr1 (by rfl) (pa_cons (pv 2) pa_nil))) (blkOk_by (own := [("front", 4)]) (N := ["tally", "calmest", "group", "fronts", "front"]) (sc := defScope sFronts) (by decide +kernel))
          (fun _ _ _ _ _ => pg_name (i := 4) scFronts.nd rfl (Or.inl rfl)) (fun _ _ _ _ _ => pts_nil) (fun _ _ _ _ _ => pe_tup (pa_cons (pe_def DL hr (by rfl) (pa_cons (pv 0) (pa_cons (pv 2) (pa_cons (pv 4) (pa_cons (pv 1) pa_nil))))) (pa_cons (pv 4) pa_nil))))
        (pss_one (ps_expr (pe_bm PySem.F.plainAttrs_list PySem.F.slot_list_append PySem.F.type_list_append mt_append (pv 1) (pa_cons (pe_callB (cr_minP rfl hr.units) (by rfl) mm (by decide +kernel) (pa_cons (pv 3) pa_nil)) pa_nil))))))
      (pss_one (ps_ret (pv 1)))), ?_⟩
    have hT0 := hT
    obtain ⟨dx, wl, rs, eF, x⟩ := hT
    have hN : 2 ^ n ≤ 64 := by
      have : 2 ^ n ≤ 2 ^ 6 := Nat.pow_le_pow_right (by decide) hn
      omega
    have hN1 : 1 ≤ 2 ^ n := Nat.one_le_two_pow
    have eN : (2 : Int) ^ n = ((2 ^ n : Nat) : Int) := by rw [Int.natCast_pow]; rfl
    -- calmest = [(0, None)]
    refine ⟨(by show 2 ≤ sizeLine; decide), fun r0 hr0 => ⟨(by show 1 ≤ sizeLine; decide), fun cl hcl0 => ?_⟩⟩
    have hcr : r0 ≠ cl := ne_of_none upd_same hcl0
    have hcl : H cl = none := by rwa [upd_ne hcr.symm] at hcl0
    have s1 : Same H (upd (upd H r0 (.tup [.int 0, .non])) cl (.lst [.ref r0])) := (same_new hr0).trans (same_new hcl0)
    have t1 : Told n b [cl] [.ref r0] (upd (upd H r0 (.tup [.int 0, .non])) cl (.lst [.ref r0])) 0 := ⟨r0, [], rfl, by rw [List.mem_singleton]; exact hcr, Best.zero n b, by rw [upd_ne hcr]; exact upd_same⟩
    have c1 : (upd (upd H r0 (.tup [.int 0, .non])) cl (.lst [.ref r0])) cl = some (.lst [.ref r0]) := upd_same
    generalize upd (upd H r0 (.tup [.int 0, .non])) cl (.lst [.ref r0]) = H1 at s1 t1 c1
    refine ⟨t, dx, n, _, wl, rfl, s1 _ _ x.obj, n, rfl, rfl, by omega, ?_⟩
    rw [eN]
    refine ⟨1, ((2 ^ n : Nat) : Int), rfl, ⟨by omega, by omega, by omega, by omega⟩, ?_⟩
    have eC : (((2 ^ n : Nat) : Int) - 1).toNat = 2 ^ n - 1 := by omega
    rw [eC]
    refine for_range (lo := 1) (n := 2 ^ n - 1) (fun i σ H' => ∃ (us : List V) (v2 v3 v4 : Option V), σ = [some (.ref t), some (.ref cl), v2, v3, v4] ∧ H' cl = some (.lst us) ∧ us.length = i + 1 ∧ (∀ g, g < i + 1 → Told n b [cl] us H' g) ∧ Same H H')
      ⟨[.ref r0], none, none, none, rfl, c1, rfl, fun g hg => (show g = 0 by omega) ▸ t1, s1⟩ (fun i σ H2 hi hP => ?_) fun σ H2 hP => ?_
    · obtain ⟨us, v2, v3, v4, rfl, c2, hl, ht, s2⟩ := hP
      have eg : (1 : Int) + (i : Int) = ((i + 1 : Nat) : Int) := by omega
      rw [eg]
      have hg : i + 1 < 2 ^ n := by omega
      generalize hgg : i + 1 = g at hg hl ht
      refine ⟨_, rfl, g, n, rfl, hg, by omega, fun H3 p s3 hp e3 => ⟨p, rfl, ⟨_, sqL e3⟩, fun D hD => ?_⟩⟩
      have c3 : H3 cl = some (.lst us) := s3 _ _ c2
      have t3 : ∀ g', g' < g → Told n b [cl] us H3 g' := fun g' h => (ht g' h).same s3
      have sA : Same H H3 := s2.trans s3
      have hlen : (mem n g).length ≤ n := nodup_len (mem_nodup _ _) fun z hz => (mem_mem.mp hz).1
      refine lc_lstG (src := mem n g) (emb := fun (i : Nat) => V.int (i : Int)) (fun _ => true) (fun (y : Nat) v H' => ∃ o, Best n b (g ^^^ 2 ^ y) o ∧ ∃ r, v = .ref r ∧ r ≠ D ∧ H' r = some (.tup [.int (cost n b g y o : Nat), .int (y : Int)])) hD (sqL e3) (by omega)
        (fun y v H' H'' ⟨o, ho, r, e, h1, h2⟩ k => ⟨o, ho, r, e, h1, k _ _ h1 h2⟩) (fun j y H4 hj s4 hex R _ R2 => ?_) fun H4 acc s4 hpr hA => ?_
      · obtain ⟨acc, hacc⟩ := hex
        have hy := List.mem_of_getElem? hj
        have hg' : g ^^^ 2 ^ y < g := without_lt (mem_mem.mp hy).2
        obtain ⟨r, o, h1, h2, h3, h4⟩ := t3 _ hg'
        refine ⟨rfl, yes ⟨_, rfl, _, rfl, _, rfl, _, rfl, t, F, n, b, g, y, cl, us, r, o, headV o, rfl, hT0.same (sA.trans s4), by omega, hg, hy, s4.seq (sqL c3), h1, s4 _ _ h4, fun H5 s5 => ?_⟩⟩
        refine ⟨_, rfl, (by show 2 ≤ sizeLine; decide), fun p5 hp5 => ?_⟩
        exact R2 _ _ (s5.trans (same_new hp5)) rfl ⟨o, h3, p5, rfl, (ne_of_none (s5 _ _ hacc) hp5).symm, upd_same⟩
      · rw [List.filter_eq_self.mpr (fun _ _ => rfl)] at hpr
        have c4 : H4 cl = some (.lst us) := s4 _ _ c3
        -- a best order behind each front
        have hex : ∀ y, y ∈ mem n g → ∃ o, Best n b (g ^^^ 2 ^ y) o := fun y hy => by
          obtain ⟨r, o, _, _, h3, _⟩ := t3 _ (without_lt (mem_mem.mp hy).2)
          exact ⟨o, h3⟩
        let o : Nat → List Nat := fun y => open Classical in if h : ∃ o, Best n b (g ^^^ 2 ^ y) o then h.choose else []
        have ho : ∀ y, y ∈ mem n g → Best n b (g ^^^ 2 ^ y) (o y) := fun y hy => by
          have h := hex y hy
          have e : o y = h.choose := dif_pos h
          rw [e]
          exact h.choose_spec
        have hpp : Paired (PairAt H4) ((mem n g).map fun y => ((cost n b g y (o y) : Int), (y : Int))) acc := by
          refine pr_mapL (pr_mem hpr fun y hy v ⟨o', ho', r, e, _, h2⟩ => ⟨r, e, ?_⟩)
          rw [h2, (ho y hy).uniq ho']
        have hne : mem n g ≠ [] := fun e => by
          have hg0 : g ≠ 0 := by omega
          obtain ⟨i, hi⟩ := ne_zero_bit hg0
          have : i ∈ mem n g := mem_mem.mpr ⟨bit_lt hg hi, hi⟩
          rw [e] at this
          simp at this
        refine ⟨_, rfl, Or.inl ⟨rfl, _, sqL c4⟩, _, rfl, D, _, acc, rfl, sqL hA, hpp, fun e => hne (List.map_eq_nil_iff.mp e), fun p' r hp' hmin hr' => ?_⟩
        obtain ⟨y, hy, rfl⟩ := List.mem_map.mp hp'
        have hB : Best n b g (y :: o y) := by
          refine Best.step ho hy fun z hz => ?_
          have := hmin _ (List.mem_map.mpr ⟨z, hz, rfl⟩)
          unfold leP2 at this
          dsimp only at this
          omega
        have hrD : r ≠ cl := fun e => by
          rw [e, c4] at hr'
          cases hr'
        refine ⟨cl, us, .ref r, rfl, rfl, c4, small (by omega), ?_⟩
        refine ⟨us ++ [.ref r], _, _, _, rfl, upd_same, by rw [List.length_append, hl]; show g + 1 = _; omega, fun g' hg'' => ?_, fun b' o' e => ?_⟩
        · rcases Nat.lt_or_eq_of_le (Nat.le_of_lt_succ hg'') with z | z
          · obtain ⟨r', o', h1, h2, h3, h4⟩ := t3 g' (by omega)
            refine ⟨r', o', ?_, h2, h3, ?_⟩
            · rw [List.getElem?_append_left (by omega)]
              exact h1
            · rw [List.mem_singleton] at h2
              rw [upd_ne h2]
              exact s4 _ _ h4
          · have z : g' = g := by omega
            rw [z]
            refine ⟨r, y :: o y, ?_, by rw [List.mem_singleton]; exact hrD, hB, ?_⟩
            · rw [List.getElem?_append_right (by omega), hl, Nat.sub_self]
              rfl
            · rw [upd_ne hrD, (ho y hy).costs]
              exact hr'
        · rw [upd_ne (ne_of_none e hcl)]
          exact s4 _ _ (sA _ _ e)
    · obtain ⟨us, v2, v3, v4, rfl, c2, hl, ht, s2⟩ := hP
      exact ⟨_, rfl, q H2 cl us s2 hcl c2 fun g hg => ht g (by omega)⟩
/-! ### calmest_order -/
abbrev sCalm : Stmt := top 20
/-- what a state bears: ballots enough for no more than is asked of them -/
structure Few (b : List Rc61.Ballot) : Prop where
  len : b.length ≤ 256
  times : ∀ x ∈ b, x.2 ≤ 4294967295
def spCalm (C : Addr) : Sp := fun vs H Q _ => ∃ (t : Addr) (F : List Addr) (n : Nat) (b : List Rc61.Ballot), vs = [.ref t] ∧ Tal C H t F n b ∧ 0 < n ∧ n ≤ 6 ∧ Few b ∧
  ∀ H' p, Same H H' → H p = none → H' p = some (.lst (nums (Rc61.calmestOf n b))) → (Rc61.calmestOf n b).length = n → Q (.ref p) H'
theorem scCalm : FnScope ["tally", "calmest", "order", "left", "front"] ["tally"] (defScope sCalm) := ⟨rfl, rfl, rfl, by decide +kernel, rfl, by decide +kernel, by decide +kernel⟩
theorem rgV_nums (n : Nat) : rgV 0 (n : Int) = nums (List.range n) := by
  unfold rgV nums
  have : ((n : Int) - 0).toNat = n := by omega
  rw [this]
  refine List.map_congr_left fun i _ => ?_
  show V.int (0 + (i : Int)) = V.int (i : Int)
  rw [Int.zero_add]
theorem ok_calm {f : Addr} {fd : FuncData} (F : Fun K "calmest_order" "calmest_order" sCalm f fd) (T : Txt K C) (mr : mg "range" = none) (ml : mg "list" = none) (DF : Dfn P w K mg base 4 "calmest_fronts" ["tally"] (spFronts C))
    (DG : Dfn P w K mg base 1 "group_of" ["members"] (spGroupOf K)) (DW : Dfn P w K mg base 2 "without" ["group", "candidate"] spWithout) : FnOk P w K mg base CX0 5 f fd ["tally"] (spCalm C) := by
  refine F.ok scCalm (fun vs H Q E h => ?_) (fun cdv A outer s H vs Q E hr h => ?_)
  · obtain ⟨t, F, n, b, rfl, _⟩ := h
    rfl
  · obtain ⟨t, F, n, b, rfl, hT, hn0, hn, hF, q⟩ := h
    have hr1 : Room 1 _ := hr.mono (by decide)
    have hr2 : Room 2 _ := hr.mono (by decide)
    refine ⟨_, pss_cons (ps_set (i := 1) scCalm.nd rfl (Or.inl rfl) (pe_def DF hr (by rfl) (pa_cons (pv 0) pa_nil)))
      (pss_cons (ps_set (i := 2) scCalm.nd rfl (Or.inl rfl) (pe_lst pa_nil))
      (pss_cons (ps_set (i := 3) scCalm.nd rfl (Or.inl rfl) (pe_def DG hr1 (by rfl) (pa_cons (pe_listRg (by rfl) (by rfl) ml (prg_1 (by rfl) mr (pe_sz T (pv 0)))) pa_nil)))
      (pss_cons (ps_while PassesOwn.never (pt_cmpR op_ne (pv 3) pe_int (nomark _))
        (pss_cons (ps_set (i := 4) scCalm.nd rfl (Or.inl rfl) (pe_ix ix_tup (pe_ix ix_list (pv 1) (pv 3) (fun _ _ => rfl)) pe_int (fun _ _ => rfl)))
        (pss_cons (ps_expr (pe_bm PySem.F.plainAttrs_list PySem.F.slot_list_append PySem.F.type_list_append mt_append (pv 2) (pa_cons (pv 4) pa_nil)))
        (pss_one (ps_set (i := 3) scCalm.nd rfl (Or.inl rfl) (pe_def DW hr2 (by rfl) (pa_cons (pv 3) (pa_cons (pv 4) pa_nil))))))))
      (pss_one (ps_ret (pv 2)))))), ?_⟩
    refine ⟨_, rfl, t, F, n, b, rfl, hT, hn, fun H1 cl us s1 hcl c1 t1 => ?_⟩
    refine ⟨Nat.zero_le _, fun ol hol => ?_⟩
    have hclol : cl ≠ ol := ne_of_none c1 hol
    obtain ⟨dx, wl, rs, eF, x⟩ := hT.same (s1.trans (same_new (o := .lst []) hol))
    refine ⟨t, dx, n, _, wl, rfl, x.obj, n, rfl, ⟨by omega, by omega, by omega, by omega, by omega⟩, fun p hp => ?_⟩
    rw [rgV_nums]
    refine ⟨p, List.range n, rfl, sqL upd_same, fun y hy => ?_, ?_, fun H2 s2 => ?_⟩
    · have := List.mem_range.mp hy
      omega
    · rw [List.length_range]
      omega
    rw [gsum_range]
    have sB : Same (upd H1 ol (.lst [])) H2 := (same_new hp).trans s2
    have s12 : Same H1 H2 := (same_new hol).trans sB
    have o2 : H2 ol = some (.lst []) := sB _ _ upd_same
    have hfull : (Rc61.setOf n fun _ => true) < 2 ^ n := setOf_lt _ n
    obtain ⟨_, O, _, _, hO, _⟩ := t1 _ hfull
    have hOlen : O.length = n := by
      have := hO.perm.length_eq
      rw [full_mem, List.length_range] at this
      exact this
    refine ⟨fun m σ H' => ∃ (done o : List Nat) (g : Nat) (v4 : Option V), σ = [some (.ref t), some (.ref cl), some (.ref ol), some (.int (g : Int)), v4] ∧ m = o.length ∧ Best n b g o ∧ g < 2 ^ n ∧ done ++ o = O ∧ H' ol = some (.lst (nums done)) ∧ (∀ b' e, b' ≠ ol → H1 b' = some e → H' b' = some e),
      ⟨_, [], O, _, none, rfl, rfl, hO, hfull, rfl, o2, fun b' e _ h => s12 _ _ h⟩, fun m σ H3 hW => ?_⟩
    obtain ⟨done, o, g, v4, rfl, rfl, hB, hg, hdo, o3, k3⟩ := hW
    refine ⟨_, rfl, rfl, _, rfl, ite2 (fun c => ?_) fun c => ?_⟩
    · have hg0 : g ≠ 0 := fun e => by
        subst e
        simp at c
      obtain ⟨i, hi⟩ := ne_zero_bit hg0
      have him : i ∈ mem n g := mem_mem.mpr ⟨bit_lt hg hi, hi⟩
      obtain ⟨fr, o', rfl⟩ : ∃ fr o', o = fr :: o' := by
        cases o with
        | nil =>
          have := hB.perm.symm.eq_nil
          rw [this] at him
          simp at him
        | cons fr o' => exact ⟨fr, o', rfl⟩
      obtain ⟨r, o2', h1, h2, h3, h4⟩ := t1 g hg
      have e := h3.uniq hB
      subst e
      rw [List.mem_singleton] at h2
      have hrol : r ≠ ol := ne_of_none h4 hol
      obtain ⟨hfm, hB'⟩ := hB.tail
      obtain ⟨hfn, hfb⟩ := mem_mem.mp hfm
      refine ⟨fun σ' H' => ∃ m', m' < (fr :: o').length ∧ ∃ (done o : List Nat) (g : Nat) (v4 : Option V), σ' = [some (.ref t), some (.ref cl), some (.ref ol), some (.int (g : Int)), v4] ∧ m' = o.length ∧ Best n b g o ∧ g < 2 ^ n ∧ done ++ o = O ∧ H' ol = some (.lst (nums done)) ∧ (∀ b' e, b' ≠ ol → H1 b' = some e → H' b' = some e), fun σ' H' h => h, ?_⟩
      refine ⟨_, rfl, _, rfl, cl, us, _, .ref r, rfl, rfl, sqL (k3 _ _ hclol c1), atI_nat h1, r, _, 1, .int (fr : Int), rfl, rfl, sqT (k3 _ _ hrol h4), atI_nat (j := 1) rfl, ?_⟩
      refine ⟨_, rfl, Or.inl ⟨rfl, _, sqL o3⟩, _, rfl, ol, _, _, rfl, rfl, o3, ?_, ?_⟩
      · rw [nums_len]
        have : done.length ≤ O.length := by rw [← hdo, List.length_append]; omega
        exact small (by omega)
      · refine ⟨_, rfl, _, rfl, g, fr, rfl, by omega, fun H4 s4 => ?_⟩
        refine ⟨o'.length, by rw [List.length_cons]; omega, done ++ [fr], o', g ^^^ 2 ^ fr, some (.int (fr : Int)), rfl, rfl, hB', Nat.lt_trans (without_lt hfb) hg, by rw [List.append_assoc]; exact hdo, s4 _ _ ?_, fun b' e hb h => s4 _ _ ?_⟩
        · rw [upd_same]
          unfold nums
          rw [List.map_append]
          rfl
        · rw [upd_ne hb]
          exact k3 _ _ hb h
    · have hg0 : g = 0 := by
        have : V.int (g : Int) = V.int 0 := by simpa using c
        injection this with this
        omega
      subst hg0
      have ho : o = [] := hB.uniq (Best.zero n b)
      subst ho
      rw [List.append_nil] at hdo
      subst hdo
      have e := calmest_is hn0 hn hF.len hF.times hO
      refine ⟨_, rfl, q H3 ol (fun b' z h => k3 _ _ (fun z' => ?_) (s1 _ _ h)) (s1.free hol) (by rw [e]; exact o3) (by rw [e]; exact hOlen)⟩
      subst z'
      rw [s1 _ _ h] at hol
      cases hol
end
end Tv

set_option maxRecDepth 100000
set_option maxHeartbeats 4000000
namespace Tv
open PySem PySem.Spec PyProof.Rows L2
/-- v is the tuple of a pair's two; of how often the first wins (below 0), and these -/
def PairV (S : List Addr) (p : Nat × Nat) (v : V) (H : Hp) : Prop := ∃ r, v = .ref r ∧ r ∉ S ∧ H r = some (.tup [.int (p.1 : Int), .int (p.2 : Int)])
def TripV (S : List Addr) (b : List Rc61.Ballot) (p : Nat × Nat) (v : V) (H : Hp) : Prop := ∃ r, v = .ref r ∧ r ∉ S ∧ H r = some (.tup [.int (-(Rc61.wins b p.1 p.2 : Int)), .int (p.1 : Int), .int (p.2 : Int)])
theorem PairV.kp {S : List Addr} {D : Addr} {p : Nat × Nat} {v : V} {H H' : Hp} (h : PairV S p v H) (hD : D ∈ S) (k : Kp D H H') : PairV S p v H' := by
  obtain ⟨r, e, h1, h2⟩ := h
  exact ⟨r, e, h1, k _ _ (fun z => h1 (by rw [z]; exact hD)) h2⟩
theorem PairV.same {S : List Addr} {p : Nat × Nat} {v : V} {H H' : Hp} (h : PairV S p v H) (k : Same H H') : PairV S p v H' := by
  obtain ⟨r, e, h1, h2⟩ := h
  exact ⟨r, e, h1, k _ _ h2⟩
theorem TripV.kp {S : List Addr} {D : Addr} {b : List Rc61.Ballot} {p : Nat × Nat} {v : V} {H H' : Hp} (h : TripV S b p v H) (hD : D ∈ S) (k : Kp D H H') : TripV S b p v H' := by
  obtain ⟨r, e, h1, h2⟩ := h
  exact ⟨r, e, h1, k _ _ (fun z => h1 (by rw [z]; exact hD)) h2⟩
theorem TripV.same {S : List Addr} {b : List Rc61.Ballot} {p : Nat × Nat} {v : V} {H H' : Hp} (h : TripV S b p v H) (k : Same H H') : TripV S b p v H' := by
  obtain ⟨r, e, h1, h2⟩ := h
  exact ⟨r, e, h1, k _ _ h2⟩
/-- a list that stands for another, walked as pairs of both -/
theorem zip_snd {α β : Type} {F : α → β → Prop} {l : List α} {m : List β} (h : Paired F l m) : (l.zip m).map Prod.snd = m := List.map_snd_zip (Nat.le_of_eq h.length.symm)
theorem zip_fst {α β : Type} {F : α → β → Prop} {l : List α} {m : List β} (h : Paired F l m) : (l.zip m).map Prod.fst = l := List.map_fst_zip (Nat.le_of_eq h.length)
theorem zip_at {α β : Type} {F : α → β → Prop} : ∀ {l : List α} {m : List β} {i : Nat} {x : α × β}, Paired F l m → (l.zip m)[i]? = some x → F x.1 x.2 ∧ l[i]? = some x.1
  | _, _, _, _, .nil, h => by simp at h
  | _, _, 0, x, .cons r _, h => by
    have e := Option.some.inj (show some (_, _) = some x from h)
    subst e
    exact ⟨r, rfl⟩
  | _, _, i + 1, x, .cons _ t, h => zip_at (i := i) t (by simpa using h)
theorem zip_len {α β : Type} {F : α → β → Prop} {l : List α} {m : List β} (h : Paired F l m) : (l.zip m).length = l.length := by
  rw [List.length_zip, ← h.length, Nat.min_self]
section
variable {P : Program} {w : World} {K : PySem.W.Frag} {mg : Str → Option Value} {base : Heap} {C : Addr}
/-! ### pairs_one_by_one -/
abbrev sPairs : Stmt := top 22
def spPairs (C : Addr) : Sp := fun vs H Q _ => ∃ (t : Addr) (F : List Addr) (n : Nat) (b : List Rc61.Ballot), vs = [.ref t] ∧ Tal C H t F n b ∧ n ≤ 6 ∧
  ∀ H' p ys, Same H H' → H p = none → H' p = some (.lst ys) → Paired (fun z v => PairV [p] z v H') (Rc61.pairs n b) ys → Q (.ref p) H'
theorem scPairs : FnScope ["tally", "ranks", "winner", "loser", "often"] ["tally"] (defScope sPairs) := ⟨rfl, rfl, rfl, by decide +kernel, rfl, by decide +kernel, by decide +kernel⟩
theorem ok_pairs {f : Addr} {fd : FuncData} (F : Fun K "pairs_one_by_one" "pairs_one_by_one" sPairs f fd) (T : Txt K C) (mr : mg "range" = none) (ms : mg "sorted" = none) (MB : Mth P w K mg base C 1 "beats" ["self", "one", "other"] (spBeats C)) :
    FnOk P w K mg base CX0 2 f fd ["tally"] (spPairs C) := by
  refine F.ok scPairs (fun vs H Q E h => ?_) (fun cdv A outer s H vs Q E hr h => ?_)
  · obtain ⟨t, F, n, b, rfl, _⟩ := h
    rfl
  · obtain ⟨t, F, n, b, rfl, hT, hn, q⟩ := h
    refine ⟨_, pss_cons (ps_set (i := 1) scPairs.nd rfl (Or.inl rfl) (pe_lst pa_nil))
      (pss_cons (ps_for PassesOwn.never rfl (pi_range1 (by rfl) mr (pa_cons (pe_sz T (pv 0)) pa_nil)) (pg_name (i := 2) scPairs.nd rfl (Or.inl rfl))
        (pss_one (ps_for PassesOwn.never rfl (pi_range1 (by rfl) mr (pa_cons (pe_sz T (pv 0)) pa_nil)) (pg_name (i := 3) scPairs.nd rfl (Or.inl rfl))
          (pss_one (ps_if (pt_val (pe_mth MB T noBeats hr (pv 0) (pa_cons (pv 2) (pa_cons (pv 3) pa_nil))))
            (pss_one (ps_expr (pe_bm PySem.F.plainAttrs_list PySem.F.slot_list_append PySem.F.type_list_append mt_append (pv 1) (pa_cons
              (pe_tup (pa_cons (pe_un un_neg (pe_ix ix_list (pe_ix ix_list (pe_ws T (pv 0)) (pv 2) (fun _ _ => rfl)) (pv 3) (fun _ _ => rfl))) (pa_cons (pv 2) (pa_cons (pv 3) pa_nil)))) pa_nil)))) pss_nil)))))
      (pss_one (ps_ret (pe_lc (own := [("often", 4), ("winner", 2), ("loser", 3)]) (g := gTup K 3 (gCons (gName 4) (gCons (gName 2) (gCons (gName 3) gNil)))) (by rfl) scPairs.nd (pi_list (pe_callB (cr_sort3 hr.units) (by rfl) ms (by decide +kernel) (pa_cons (pv 1) pa_nil)))
        (blkOk_by (own := [("often", 4), ("winner", 2), ("loser", 3)]) (N := ["tally", "ranks", "winner", "loser", "often"]) (sc := defScope sPairs) (by decide +kernel))
        (fun _ _ _ _ _ => pg_tupK K rfl (pgs_cons (pg_name (i := 4) scPairs.nd rfl (Or.inl rfl)) (pgs_cons (pg_name (i := 2) scPairs.nd rfl (Or.inl rfl)) (pgs_cons (pg_name (i := 3) scPairs.nd rfl (Or.inl rfl)) pgs_nil)))) (fun _ _ _ _ _ => pts_nil)
        (fun _ _ _ _ _ => pe_tup (pa_cons (pv 2) (pa_cons (pv 3) pa_nil))))))), ?_⟩
    have hT0 := hT
    obtain ⟨dx, wl, rs, eF, x⟩ := hT
    refine ⟨Nat.zero_le _, fun rl hrl => ?_⟩
    refine ⟨t, dx, n, _, wl, rfl, same_new hrl _ _ x.obj, n, rfl, by omega, by omega, ?_⟩
    refine for_range (lo := 0) (n := n) (fun i σ H' => ∃ (ys : List V) (v2 v3 v4 : Option V), σ = [some (.ref t), some (.ref rl), v2, v3, v4] ∧ H' rl = some (.lst ys) ∧ Paired (fun z v => TripV [rl] b z v H') (upTo n b i) ys ∧ Same H H')
      ⟨[], none, none, none, rfl, upd_same, .nil, same_new hrl⟩ (fun i σ H2 hi hP => ?_) fun σ H2 hP => ?_
    · obtain ⟨ys0, v2, v3, v4, rfl, c2, p2, s2⟩ := hP
      rw [Int.zero_add]
      refine ⟨t, dx, n, _, wl, rfl, s2 _ _ x.obj, n, rfl, by omega, by omega, ?_⟩
      refine for_range (lo := 0) (n := n) (fun j σ H' => ∃ (ys : List V) (v3 v4 : Option V), σ = [some (.ref t), some (.ref rl), some (.int (i : Int)), v3, v4] ∧ H' rl = some (.lst ys) ∧ Paired (fun z v => TripV [rl] b z v H') (upTo n b i ++ ((List.range j).filter fun j => Rc61.beats b i j).map fun j => (i, j)) ys ∧ Same H H')
        ⟨ys0, v3, v4, rfl, c2, by simpa using p2, s2⟩ (fun j σ H3 hj hP => ?_) fun σ H3 hP => ?_
      · obtain ⟨ys, v3, v4, rfl, c3, p3, s3⟩ := hP
        rw [Int.zero_add]
        have x3 := x.same s3
        refine ⟨t, dx, _, _, wl, rfl, x3.obj, _, rfl, _, rfl, t, F, n, b, i, j, rfl, hT0.same s3, hi, hj, _, rfl, ite2 (fun c => ?_) fun c => ?_⟩
        · obtain ⟨rr, hrr⟩ : ∃ rr, rs[i]? = some rr := ⟨_, List.getElem?_eq_getElem (by rw [x.len]; exact hi)⟩
          have mrr : (rs.map V.ref)[i]? = some (.ref rr) := by rw [List.getElem?_map, hrr]; rfl
          refine ⟨_, rfl, Or.inl ⟨rfl, _, sqL c3⟩, t, dx, _, _, wl, rfl, x3.obj, _, rfl, wl, _, _, _, rfl, rfl, sqL x3.tab, atI_nat mrr, _, rfl, rr, _, _, _, rfl, rfl, sqL (x3.rows i rr hrr), atI_nat (row_at hj), _, rfl, _, rfl, _, rfl, (by show 3 ≤ sizeLine; decide), fun p hp => ?_⟩
          have hne : p ≠ rl := (ne_of_none c3 hp).symm
          refine ⟨rl, ys, .ref p, rfl, rfl, same_new hp _ _ c3, ?_, ys ++ [.ref p], _, _, rfl, upd_same, ?_, fun b' o e => ?_⟩
          · have h1 := p3.length
            rw [List.length_append, List.length_map] at h1
            have h2 := base_len n b i
            have h3 := List.length_filter_le (fun j => Rc61.beats b i j) (List.range j)
            rw [List.length_range] at h3
            have h4 : i * n ≤ 6 * 6 := Nat.mul_le_mul (by omega) hn
            exact small (by omega)
          · rw [part_yes (n := n) c, ← List.append_assoc]
            refine pr_snoc (Paired.mapP p3 fun z v h => h.kp (D := rl) (by simp) fun b' o hb e => ?_) ⟨p, rfl, by rw [List.mem_singleton]; exact hne, by rw [upd_ne hne]; exact upd_same⟩
            rw [upd_ne hb]
            exact same_new hp _ _ e
          · rw [upd_ne (ne_of_none e hrl)]
            exact same_new hp _ _ (s3 _ _ e)
        · refine ⟨ys, _, _, rfl, c3, ?_, s3⟩
          rw [part_no (n := n) c]
          exact p3
      · obtain ⟨ys, v3, v4, rfl, c3, p3, s3⟩ := hP
        rw [← upTo_succ] at p3
        exact ⟨ys, _, _, _, rfl, c3, p3, s3⟩
    · obtain ⟨ys, v2, v3, v4, rfl, c2, p2, s2⟩ := hP
      rw [upTo_all] at p2
      have hlen : ((Tv.base n b).map (trip b)).length ≤ 1000 := by
        rw [List.length_map, ← upTo_all]
        have h2 := base_len n b n
        have h4 : n * n ≤ 6 * 6 := Nat.mul_le_mul hn hn
        omega
      refine ⟨_, rfl, rl, (Tv.base n b).map (trip b), ys, rfl, sqL c2, pr_mapL (Paired.mapP p2 fun z v ⟨r, e, _, h⟩ => ⟨r, e, h⟩), hlen, fun qs us d hperm hsort hpq hd => ?_⟩
      have e := trips_are hperm hsort
      subst e
      have hpq' : Paired (fun z v => TripV [] b z v H2) (Rc61.pairs n b) us := by
        have back : ∀ {l : List (Nat × Nat)} {m : List V}, Paired (TripAt H2) (l.map (trip b)) m → Paired (fun z v => TripV [] b z v H2) l m := by
          intro l
          induction l with
          | nil => intro m h; cases h; exact .nil
          | cons z l ih =>
            intro m h
            cases h with
            | cons r t =>
              obtain ⟨a, e1, e2⟩ := r
              exact .cons ⟨a, e1, by simp, e2⟩ (ih t)
        exact back hpq
      refine ⟨d, rfl, ⟨_, sqL upd_same⟩, fun D hD => ?_⟩
      have hlen2 := pairs_len n b
      have h4 : n * n ≤ 6 * 6 := Nat.mul_le_mul hn hn
      refine lc_lstG (src := (Rc61.pairs n b).zip us) (emb := Prod.snd) (fun _ => true) (fun (z : (Nat × Nat) × V) v H' => PairV [D] z.1 v H') hD (by rw [zip_snd hpq']; exact sqL upd_same) (by rw [zip_len hpq']; omega) (fun _ _ _ _ h k => h.kp (by simp) k) (fun i z H4 hi s4 hex R _ R2 => ?_) fun H4 acc s4 hpr hA => ?_
      · obtain ⟨acc, hacc⟩ := hex
        obtain ⟨hz, _⟩ := zip_at hpq' hi
        obtain ⟨r, er, _, hr'⟩ := hz
        have hr4 : H4 r = some (.tup [.int (-(Rc61.wins b z.1.1 z.1.2 : Int)), .int (z.1.1 : Int), .int (z.1.2 : Int)]) := s4 _ _ (same_new hd _ _ hr')
        rw [er]
        refine ⟨r, _, rfl, sqT hr4, rfl, _, _, rfl, _, _, rfl, _, _, rfl, rfl, rfl, yes ⟨_, rfl, _, rfl, (by show 2 ≤ sizeLine; decide), fun p hp => R2 _ _ (same_new hp) rfl ⟨p, rfl, ?_, upd_same⟩⟩⟩
        rw [List.mem_singleton]
        exact (ne_of_none hacc hp).symm
      · rw [List.filter_eq_self.mpr (fun _ _ => rfl)] at hpr
        have hpr' : Paired (fun z v => PairV [D] z v H4) (Rc61.pairs n b) acc := by
          have := pr_mapL (F := fun z v => PairV [D] z v H4) (f := Prod.fst) hpr
          rwa [zip_fst hpq'] at this
        have sA : Same H H4 := (s2.trans (same_new hd)).trans s4
        exact q H4 D acc sA ((s2.trans (same_new hd)).free hD) hA hpr'
/-! ### led_on -/
abbrev sLed : Stmt := top 24
def spLed : Sp := fun vs H Q _ => ∃ (a c : Addr) (x y : List Nat) (wn : Nat), vs = [.ref a, .int (wn : Int), .ref c] ∧ H a = some (.lst (nums x)) ∧ H c = some (.lst (nums y)) ∧ x.length ≤ 1000 ∧ y.length ≤ 1000 ∧
  ∀ H' p, Same H H' → (p = a ∨ H p = none) → H' p = some (.lst (nums (ledOn x wn y))) → Q (.ref p) H'
theorem scLed : FnScope ["those", "winner", "behind", "candidate"] ["those", "winner", "behind"] (defScope sLed) := ⟨rfl, rfl, rfl, by decide +kernel, rfl, by decide +kernel, by decide +kernel⟩
theorem flat_nums : ∀ l : List Nat, (nums l).all flatV = true
  | [] => rfl
  | x :: l => by
    show (flatV (.int (x : Int)) && (nums l).all flatV) = true
    rw [flat_nums l]
    rfl
theorem in_nums (c : Nat) : ∀ l : List Nat, inV (.int (c : Int)) (nums l) = l.contains c
  | [] => rfl
  | x :: l => by
    have ih := in_nums c l
    unfold inV at ih ⊢
    show (eqV (.int (x : Int)) (.int (c : Int)) || (nums l).any fun y => eqV y (.int (c : Int))) = (x :: l).contains c
    rw [ih, List.contains_cons]
    congr 1
    show eqV (.int (x : Int)) (.int (c : Int)) = (c == x)
    have e : eqV (.int (x : Int)) (.int (c : Int)) = decide ((x : Int) = (c : Int)) := by
      first | rfl | simp [eqV]
    rw [e, Bool.eq_iff_iff, decide_eq_true_eq, beq_iff_eq]
    omega
theorem ok_led {f : Addr} {fd : FuncData} (F : Fun K "led_on" "led_on" sLed f fd) : FnOk P w K mg base CX0 1 f fd ["those", "winner", "behind"] spLed := by
  refine F.ok scLed (fun vs H Q E h => ?_) (fun cdv A outer s H vs Q E hr h => ?_)
  · obtain ⟨a, c, x, y, wn, rfl, _⟩ := h
    rfl
  · obtain ⟨a, c, x, y, wn, rfl, ha, hc, hx, hy, q⟩ := h
    refine ⟨_, pss_cons (ps_if (pt_cmpR op_notIn_seq (pv 1) (pv 0) rfl) (pss_one (ps_ret (pv 0))) pss_nil)
      (pss_one (ps_ret (pe_op op_cat (pv 0)
        (pe_lc (own := [("candidate", 3)]) (g := gName 3) (by rfl) scLed.nd (pi_list (pv 2)) (blkOk_by (own := [("candidate", 3)]) (N := ["those", "winner", "behind", "candidate"]) (sc := defScope sLed) (by decide +kernel))
          (fun _ _ _ _ _ => pg_name (i := 3) scLed.nd rfl (Or.inl rfl)) (fun _ _ _ _ _ => pts_one (pt_cmpR (op_notInK K) (pv 3) (pv 0) rfl)) (fun _ _ _ _ _ => pv 3))))), ?_⟩
    refine ⟨_, rfl, _, rfl, a, _, rfl, .inl (sqL ha), rfl, flat_nums x, _, rfl, ?_⟩
    rw [if_pos rfl, in_nums]
    refine ite2 (fun z => ?_) fun z => ?_
    · have e : ledOn x wn y = x := by
        unfold ledOn
        rw [if_neg]
        intro k
        rw [k] at z
        cases z
      exact ⟨_, rfl, q H a (Same.refl _) (.inl rfl) (by rw [e]; exact ha)⟩
    · have z' : x.contains wn = true := by
        cases k : x.contains wn with
        | true => rfl
        | false => rw [k] at z; exact absurd rfl z
      refine ⟨_, rfl, _, rfl, c, rfl, ⟨_, sqL hc⟩, fun D hD => ?_⟩
      refine lc_lstG (src := y) (emb := fun (i : Nat) => V.int (i : Int)) (fun k => !x.contains k) (fun (k : Nat) v _ => v = .int (k : Int)) hD (sqL hc) (by omega) (fun _ _ _ _ h _ => h) (fun j k H3 hk s3 _ R R1 R2 => ?_) fun H3 acc s3 hpr hA => ?_
      · refine ⟨rfl, _, rfl, _, rfl, a, _, rfl, .inl (sqL (s3 _ _ ha)), rfl, flat_nums x, _, rfl, ?_⟩
        rw [if_pos rfl, in_nums]
        exact ite2 (fun c => ⟨_, rfl, R2 _ _ (Same.refl _) c rfl⟩) fun c => R1 _ (Same.refl _) (by simpa using c)
      · have e := pr_map hpr
        have hA' : H3 D = some (.lst (nums (y.filter fun k => !x.contains k))) := by rw [hA, e]; rfl
        refine ⟨a, D, _, _, rfl, rfl, s3 _ _ ha, hA', ?_, fun p hp => ?_⟩
        · rw [nums_len, nums_len]
          have := List.length_filter_le (fun k => !x.contains k) y
          exact Nat.le_of_lt (small (by omega))
        · refine q _ p (s3.trans (same_new hp)) (.inr (s3.free hp)) ?_
          rw [upd_same]
          unfold ledOn
          rw [if_pos z']
          unfold nums
          rw [List.map_append]
end
end Tv

set_option maxRecDepth 100000
set_option maxHeartbeats 4000000
namespace Tv
open PySem PySem.Spec PyProof.Rows L2
theorem NumL.less {S S' : List Addr} {c : List Nat} {v : V} {H : Hp} (h : NumL S c v H) (k : ∀ x ∈ S', x ∈ S) : NumL S' c v H := by
  obtain ⟨r, e, h1, h2⟩ := h
  exact ⟨r, e, fun z => h1 (k _ z), h2⟩
theorem NumL.same {S : List Addr} {c : List Nat} {v : V} {H H' : Hp} (h : NumL S c v H) (k : Same H H') : NumL S c v H' := by
  obtain ⟨r, e, h1, h2⟩ := h
  exact ⟨r, e, h1, k _ _ h2⟩
theorem PairV.less {S S' : List Addr} {p : Nat × Nat} {v : V} {H : Hp} (h : PairV S p v H) (k : ∀ x ∈ S', x ∈ S) : PairV S' p v H := by
  obtain ⟨r, e, h1, h2⟩ := h
  exact ⟨r, e, fun z => h1 (k _ z), h2⟩
theorem drop_map {α β : Type} (f : α → β) : ∀ (l : List α) (j : Nat), (l.map f).eraseIdx j = (l.eraseIdx j).map f
  | [], _ => rfl
  | _ :: _, 0 => rfl
  | x :: l, j + 1 => by
    show f x :: (l.map f).eraseIdx j = f x :: (l.eraseIdx j).map f
    rw [drop_map f l j]
section
variable {P : Program} {w : World} {K : PySem.W.Frag} {mg : Str → Option Value} {base : Heap} {C : Addr}
/-! ### standing_pairs -/
abbrev sStanding : Stmt := top 23
def spStanding (C : Addr) : Sp := fun vs H Q _ => ∃ (t : Addr) (F : List Addr) (n : Nat) (b : List Rc61.Ballot), vs = [.ref t] ∧ Tal C H t F n b ∧ n ≤ 6 ∧
  ∀ H' p ys, Same H H' → H p = none → H' p = some (.lst ys) → Paired (fun z v => PairV [p] z v H') (Rc61.standing n b) ys → Q (.ref p) H'
theorem scStanding : FnScope ["tally", "standing", "reached", "winner", "loser", "behind", "candidate", "those"] ["tally"] (defScope sStanding) := ⟨rfl, rfl, rfl, by decide +kernel, rfl, by decide +kernel, by decide +kernel⟩
theorem ok_standing {f : Addr} {fd : FuncData} (F : Fun K "standing_pairs" "standing_pairs" sStanding f fd) (T : Txt K C) (mr : mg "range" = none) (DP : Dfn P w K mg base 2 "pairs_one_by_one" ["tally"] (spPairs C)) (DL : Dfn P w K mg base 1 "led_on" ["those", "winner", "behind"] spLed) :
    FnOk P w K mg base CX0 3 f fd ["tally"] (spStanding C) := by
  refine F.ok scStanding (fun vs H Q E h => ?_) (fun cdv A outer s H vs Q E hr h => ?_)
  · obtain ⟨t, F, n, b, rfl, _⟩ := h
    rfl
  · obtain ⟨t, F, n, b, rfl, hT, hn, q⟩ := h
    have hr1 : Room 1 _ := hr.mono (by decide)
    refine ⟨_, pss_cons (ps_set (i := 1) scStanding.nd rfl (Or.inl rfl) (pe_lst pa_nil))
      (pss_cons (ps_setLc (i := 2) (own := [("candidate", 6)]) (g := gName 6) (by rfl) scStanding.nd rfl rfl (sw_true rfl rfl rfl (by decide +kernel)) (pi_range1 (by rfl) mr (pa_cons (pe_sz T (pv 0)) pa_nil)) (blkOk_by (own := [("candidate", 6)]) (N := ["tally", "standing", "reached", "winner", "loser", "behind", "candidate", "those"]) (sc := defScope sStanding) (by decide +kernel))
        (fun _ _ _ _ _ => pg_name (i := 6) scStanding.nd rfl (Or.inl rfl)) (fun _ _ _ _ _ => pts_nil) (fun _ _ _ _ _ => pe_lst (pa_cons (pv 6) pa_nil)))
      (pss_cons (ps_for PassesOwn.never rfl (pi_list (pe_def DP hr (by rfl) (pa_cons (pv 0) pa_nil))) (pg_tup rfl (pgs_cons (pg_name (i := 3) scStanding.nd rfl (Or.inr rfl)) (pgs_cons (pg_name (i := 4) scStanding.nd rfl (Or.inl rfl)) pgs_nil)))
        (pss_cons (ps_set (i := 5) scStanding.nd rfl (Or.inr rfl) (pe_ix ix_list (pv 2) (pv 4) (fun _ _ => rfl)))
        (pss_one (ps_if (pt_cmpR op_notIn_seq (pv 3) (pv 5) rfl)
          (pss_cons (ps_expr (pe_bm PySem.F.plainAttrs_list PySem.F.slot_list_append PySem.F.type_list_append mt_append (pv 1) (pa_cons (pe_tup (pa_cons (pv 3) (pa_cons (pv 4) pa_nil))) pa_nil)))
          (pss_one (ps_setLc (i := 2) (own := [("those", 7)]) (g := gName 7) (by rfl) scStanding.nd rfl rfl (sw_true rfl rfl rfl (by decide +kernel)) (pi_list (pv 2)) (blkOk_by (own := [("those", 7)]) (N := ["tally", "standing", "reached", "winner", "loser", "behind", "candidate", "those"]) (sc := defScope sStanding) (by decide +kernel))
            (fun _ _ _ _ _ => pg_name (i := 7) scStanding.nd rfl (Or.inl rfl)) (fun _ _ _ _ _ => pts_nil) (fun _ _ _ _ _ => pe_def DL hr1 (by rfl) (pa_cons (pv 7) (pa_cons (pv 3) (pa_cons (pv 5) pa_nil))))))) pss_nil))))
      (pss_one (ps_ret (pv 1))))), ?_⟩
    have hT0 := hT
    obtain ⟨dx, wl, rs, eF, x⟩ := hT
    refine ⟨Nat.zero_le _, fun sl hsl => ?_⟩
    have s0 : Same H (upd H sl (.lst [])) := same_new hsl
    have c0 : (upd H sl (.lst [])) sl = some (.lst []) := upd_same
    generalize upd H sl (.lst []) = H0 at s0 c0
    refine ⟨t, dx, n, _, wl, rfl, s0 _ _ x.obj, n, rfl, by omega, by omega, fun rl hrl => ?_⟩
    refine lc_rngG (n := n) (fun _ => true) (fun (i : Nat) v H' => NumL [sl, rl] [i] v H') hrl (by omega) (fun _ _ _ _ h k => h.kp (by simp) k) (fun j H2 hj s2 hex R R1 R2 => ?_) fun H2 acc s2 hp hA => ?_
    · obtain ⟨acc, hacc⟩ := hex
      refine ⟨rfl, yes ⟨_, rfl, (by show 1 ≤ sizeLine; decide), fun p hp => R2 _ _ (same_new hp) rfl ⟨p, rfl, ?_, upd_same⟩⟩⟩
      rw [List.mem_cons, List.mem_singleton, not_or]
      exact ⟨(ne_of_none (s2 _ _ c0) hp).symm, (ne_of_none hacc hp).symm⟩
    rw [List.filter_eq_self.mpr (fun _ _ => rfl)] at hp
    refine ⟨_, rfl, t, F, n, b, rfl, (hT0.same s0).same s2, hn, fun H3 pl ys s3 hpl c3 hpr => ?_⟩
    have hp3 : Paired (fun i v => NumL [sl] [i] v H3) (List.range n) acc := Paired.mapP hp fun i v h => (h.less (by simp)).same s3
    have sl3 : H3 sl = some (.lst []) := s3 _ _ (s2 _ _ c0)
    have rl3 : H3 rl = some (.lst acc) := s3 _ _ hA
    have sA : Same H H3 := (s0.trans s2).trans s3
    have hne : pl ≠ sl := (ne_of_none (s2 _ _ c0) hpl).symm
    have hplen := pairs_len n b
    have hnn : n * n ≤ 6 * 6 := Nat.mul_le_mul hn hn
    refine ⟨pl, rfl, ⟨_, sqL c3⟩, for_list (K := K) (a := pl) (xs := ys) (fun i σ H' => ∃ (rl : Addr) (ss us : List V) (rc : Nat → List Nat) (v3 v4 v5 v6 v7 : Option V), σ = [some (.ref t), some (.ref sl), some (.ref rl), v3, v4, v5, v6, v7] ∧ H' sl = some (.lst ss) ∧ Paired (fun z v => PairV [sl] z v H') (stUp n b i) ss ∧
        H' rl = some (.lst us) ∧ Paired (fun c v => NumL [sl] (rc c) v H') (List.range n) us ∧ SInv n (stUp n b i) rc ∧ rl ≠ sl ∧ ∀ b' e, b' ≠ sl → H3 b' = some e → H' b' = some e)
      ⟨rl, [], acc, fun c => [c], none, none, none, none, none, rfl, sl3, .nil, rl3, hp3, SInv.start n, (ne_of_none c0 hrl).symm, fun _ _ _ e => e⟩ (fun i σ H' _ ⟨_, _, _, _, _, _, _, _, _, _, _, _, _, _, _, _, k⟩ => sqL (k _ _ hne c3)) (fun i y σ H4 hi hP => ?_) fun σ H4 hP => ?_⟩
    · obtain ⟨rl, ss, us, rc, v3, v4, v5, v6, v7, rfl, c4, pst, r4, prc, hS, hrs, k4⟩ := hP
      obtain ⟨⟨wn, ls⟩, hz, r, er, hrn, hr3⟩ := pr_get hpr hi
      subst er
      have hil : i < (Rc61.pairs n b).length := (List.getElem?_eq_some_iff.mp hz).1
      have hrs' : r ≠ sl := ne_of hr3 sl3 (fun z => by cases z)
      obtain ⟨hw, hl, _⟩ := mem_pairs.mp (List.mem_of_getElem? hz)
      have hr4' := k4 _ _ hrs' hr3
      refine ⟨r, _, rfl, sqT hr4', rfl, _, _, rfl, _, _, rfl, rfl, ?_⟩
      obtain ⟨bv, hb, bl, rfl, hbs, hbl⟩ := pr_getL prc (show (List.range n)[ls]? = some ls from List.getElem?_range hl)
      refine ⟨_, rfl, _, rfl, rl, us, _, .ref bl, rfl, rfl, sqL r4, atI_nat hb, ?_⟩
      refine ⟨_, rfl, _, rfl, bl, _, rfl, .inl (sqL hbl), rfl, flat_nums _, _, rfl, ?_⟩
      rw [if_pos rfl, in_nums]
      have hst : stUp n b (i + 1) = if (rc ls).contains wn = true then stUp n b i else stUp n b i ++ [(wn, ls)] := by
        rw [stUp_succ hz]
        exact stand_eq hS hl
      refine ite2 (fun c => ?_) fun c => ?_
      · have cf : (rc ls).contains wn = false := by simpa using c
        rw [if_neg (by rw [cf]; decide)] at hst
        refine ⟨_, rfl, Or.inl ⟨rfl, _, sqL c4⟩, _, rfl, _, rfl, (by show 2 ≤ sizeLine; decide), fun p hp => ?_⟩
        have hpsl : p ≠ sl := (ne_of_none c4 hp).symm
        refine ⟨sl, ss, .ref p, rfl, rfl, same_new hp _ _ c4, ?_, ?_⟩
        · have h1 := pst.length
          have h2 := st_len (n := n) (b := b) i
          exact small (by omega)
        have k5 : Kp sl H4 (upd (upd H4 p (.tup [.int (wn : Int), .int (ls : Int)])) sl (.lst (ss ++ [.ref p]))) := fun b' o hb e => by
          rw [upd_ne hb]
          exact same_new hp _ _ e
        have c5 : (upd (upd H4 p (.tup [.int (wn : Int), .int (ls : Int)])) sl (.lst (ss ++ [.ref p]))) sl = some (.lst (ss ++ [.ref p])) := upd_same
        have pv5 : PairV [sl] (wn, ls) (.ref p) (upd (upd H4 p (.tup [.int (wn : Int), .int (ls : Int)])) sl (.lst (ss ++ [.ref p]))) := ⟨p, rfl, by rw [List.mem_singleton]; exact hpsl, by rw [upd_ne hpsl]; exact upd_same⟩
        generalize upd (upd H4 p (.tup [.int (wn : Int), .int (ls : Int)])) sl (.lst (ss ++ [.ref p])) = H5 at k5 c5 pv5
        have r5 : H5 rl = some (.lst us) := k5 _ _ hrs r4
        have prc5 : Paired (fun c v => NumL [sl] (rc c) v H5) (List.range n) us := Paired.mapP prc fun c v h => h.kp (D := sl) (by simp) k5
        have hbl5 : H5 bl = some (.lst (nums (rc ls))) := k5 _ _ (by rw [List.mem_singleton] at hbs; exact hbs) hbl
        refine ⟨_, rfl, rl, rfl, ⟨_, sqL r5⟩, fun D hD => ?_⟩
        refine lc_lstG (src := (List.range n).zip us) (emb := Prod.snd) (fun _ => true) (fun (z : Nat × V) v H' => NumL [sl, D] (ledOn (rc z.1) wn (rc ls)) v H') hD (by rw [zip_snd prc5]; exact sqL r5) (by rw [zip_len prc5, List.length_range]; omega) (fun _ _ _ _ h k => h.kp (by simp) k) (fun j z H6 hj s6 hex R _ R2 => ?_) fun H6 acc6 s6 hpr6 hA6 => ?_
        · obtain ⟨acc6, hacc⟩ := hex
          obtain ⟨hz6, hzr⟩ := zip_at prc5 hj
          obtain ⟨a, ea, ha1, ha2⟩ := hz6
          have hzn : z.1 < n := List.mem_range.mp (List.mem_of_getElem? hzr)
          rw [ea]
          refine ⟨rfl, yes ⟨_, rfl, _, rfl, _, rfl, a, bl, rc z.1, rc ls, wn, rfl, s6 _ _ ha2, s6 _ _ hbl5, ?_, ?_, fun H7 p7 s7 hp7 e7 => R2 _ _ s7 rfl ⟨p7, rfl, ?_, e7⟩⟩⟩
          · have := hS.len hzn
            omega
          · have : (rc ls).length ≤ n := hS.len hl
            omega
          · rw [List.mem_cons, List.mem_singleton, not_or]
            rcases hp7 with hp7 | hp7
            · subst hp7
              rw [List.mem_singleton] at ha1
              exact ⟨ha1, ne_of_none ha2 hD⟩
            · exact ⟨(ne_of_none (s6 _ _ c5) hp7).symm, (ne_of_none hacc hp7).symm⟩
        · rw [List.filter_eq_self.mpr (fun _ _ => rfl)] at hpr6
          have hpr7 : Paired (fun c v => NumL [sl] (ledOn (rc c) wn (rc ls)) v H6) (List.range n) acc6 := by
            have := pr_mapL (F := fun c v => NumL [sl, D] (ledOn (rc c) wn (rc ls)) v H6) (f := Prod.fst) hpr6
            rw [zip_fst prc5] at this
            exact Paired.mapP this fun c v h => h.less (by simp)
          refine ⟨D, ss ++ [.ref p], acc6, fun c => ledOn (rc c) wn (rc ls), _, _, _, _, _, rfl, s6 _ _ c5, ?_, hA6, hpr7, ?_, (ne_of_none c5 hD).symm, fun b' e hb h => s6 _ _ (k5 _ _ hb (k4 _ _ hb h))⟩
          · rw [hst]
            exact pr_snoc (Paired.mapP pst fun z v h => (h.kp (D := sl) (by simp) k5).same s6) (pv5.same s6)
          · rw [hst]
            exact hS.step hw hl cf
      · have cf : (rc ls).contains wn = true := by
          cases k : (rc ls).contains wn with
          | true => rfl
          | false => rw [k] at c; exact absurd rfl c
        rw [if_pos cf] at hst
        refine ⟨rl, ss, us, rc, _, _, _, _, _, rfl, c4, ?_, r4, prc, ?_, hrs, k4⟩
        · rw [hst]
          exact pst
        · rw [hst]
          exact hS
    · obtain ⟨rl', ss, us, rc, v3, v4, v5, v6, v7, rfl, c4, pst, r4, prc, hS, hrs, k4⟩ := hP
      rw [← hpr.length, stUp_all] at pst
      refine ⟨_, rfl, q H4 sl ss (fun b' e h => k4 _ _ (fun z => ?_) (sA _ _ h)) hsl c4 pst⟩
      subst z
      rw [hsl] at h
      cases h
/-! ### order_by_pairs -/
abbrev sRanked : Stmt := top 25
def spRanked (C : Addr) : Sp := fun vs H Q _ => ∃ (t : Addr) (F : List Addr) (n : Nat) (b : List Rc61.Ballot), vs = [.ref t] ∧ Tal C H t F n b ∧ n ≤ 6 ∧
  ∀ H' p, Same H H' → H p = none → H' p = some (.lst (nums (Rc61.ranked n b))) → (Rc61.ranked n b).length = n → Q (.ref p) H'
theorem scRanked : FnScope ["tally", "standing", "order", "left", "losers", "least", "winner", "loser", "candidate"] ["tally"] (defScope sRanked) := ⟨rfl, rfl, rfl, by decide +kernel, rfl, by decide +kernel, by decide +kernel⟩
theorem ok_ranked {f : Addr} {fd : FuncData} (F : Fun K "order_by_pairs" "order_by_pairs" sRanked f fd) (T : Txt K C) (mr : mg "range" = none) (ml : mg "list" = none) (mm : mg "min" = none) (DS : Dfn P w K mg base 3 "standing_pairs" ["tally"] (spStanding C)) :
    FnOk P w K mg base CX0 4 f fd ["tally"] (spRanked C) := by
  refine F.ok scRanked (fun vs H Q E h => ?_) (fun cdv A outer s H vs Q E hr h => ?_)
  · obtain ⟨t, F, n, b, rfl, _⟩ := h
    rfl
  · obtain ⟨t, F, n, b, rfl, hT, hn, q⟩ := h
    refine ⟨_, pss_cons (ps_set (i := 1) scRanked.nd rfl (Or.inl rfl) (pe_def DS hr (by rfl) (pa_cons (pv 0) pa_nil)))
      (pss_cons (ps_set (i := 2) scRanked.nd rfl (Or.inl rfl) (pe_lst pa_nil))
      (pss_cons (ps_set (i := 3) scRanked.nd rfl (Or.inr rfl) (pe_listRg (by rfl) (by rfl) ml (prg_1 (by rfl) mr (pe_sz T (pv 0)))))
      (pss_cons (ps_while PassesOwn.never (pt_tru K (pv 3))
        (pss_cons (ps_set (i := 4) scRanked.nd rfl (Or.inr rfl)
          (pe_lc (own := [("winner", 6), ("loser", 7)]) (g := gTup K 2 (gCons (gName 6) (gCons (gName 7) gNil))) (by rfl) scRanked.nd (pi_list (pv 1)) (blkOk_by (own := [("winner", 6), ("loser", 7)]) (N := ["tally", "standing", "order", "left", "losers", "least", "winner", "loser", "candidate"]) (sc := defScope sRanked) (by decide +kernel))
            (fun _ _ _ _ _ => pg_tupK K rfl (pgs_cons (pg_name (i := 6) scRanked.nd rfl (Or.inl rfl)) (pgs_cons (pg_name (i := 7) scRanked.nd rfl (Or.inl rfl)) pgs_nil))) (fun _ _ _ _ _ => pts_one (pt_cmpR (op_inK K) (pv 6) (pv 3) rfl)) (fun _ _ _ _ _ => pv 7)))
        (pss_cons (ps_set (i := 5) scRanked.nd rfl (Or.inl rfl) (pe_callB (cr_min rfl) (by rfl) mm (by decide +kernel) (pa_cons
          (pe_lc (own := [("candidate", 8)]) (g := gName 8) (by rfl) scRanked.nd (pi_list (pv 3)) (blkOk_by (own := [("candidate", 8)]) (N := ["tally", "standing", "order", "left", "losers", "least", "winner", "loser", "candidate"]) (sc := defScope sRanked) (by decide +kernel))
            (fun _ _ _ _ _ => pg_name (i := 8) scRanked.nd rfl (Or.inl rfl)) (fun _ _ _ _ _ => pts_one (pt_cmpR (op_notInK K) (pv 8) (pv 4) rfl)) (fun _ _ _ _ _ => pv 8)) pa_nil)))
        (pss_cons (ps_expr (pe_bm PySem.F.plainAttrs_list PySem.F.slot_list_append PySem.F.type_list_append mt_append (pv 2) (pa_cons (pv 5) pa_nil)))
        (pss_one (ps_expr (pe_bm PySem.F.plainAttrs_list PySem.F.slot_list_remove PySem.F.type_list_remove mt_remove (pv 3) (pa_cons (pv 5) pa_nil))))))))
      (pss_one (ps_ret (pv 2)))))), ?_⟩
    refine ⟨_, rfl, t, F, n, b, rfl, hT, hn, fun H1 sl ss s1 hsl c1 p1 => ?_⟩
    refine ⟨Nat.zero_le _, fun ol hol => ?_⟩
    obtain ⟨dx, wl, rs, eF, x⟩ := hT.same (s1.trans (same_new (o := .lst []) hol))
    refine ⟨t, dx, n, _, wl, rfl, x.obj, n, rfl, ⟨by omega, by omega, by omega, by omega, by omega⟩, fun ll hll => ?_⟩
    rw [rgV_nums]
    have hslol : sl ≠ ol := ne_of_none c1 hol
    have holll : ol ≠ ll := ne_of_none upd_same hll
    have hslll : sl ≠ ll := ne_of_none (same_new (o := .lst []) hol _ _ c1) hll
    have hrk := standing_rk n b
    have hslen : (Rc61.standing n b).length ≤ 36 := by
      have h2 := st_len (n := n) (b := b) (Rc61.pairs n b).length
      rw [stUp_all] at h2
      have := pairs_len n b
      have hnn : n * n ≤ 6 * 6 := Nat.mul_le_mul hn hn
      omega
    refine ⟨fun m σ H' => ∃ (done left : List Nat) (v4 v5 v6 v7 v8 : Option V), σ = [some (.ref t), some (.ref sl), some (.ref ol), some (.ref ll), v4, v5, v6, v7, v8] ∧ m = left.length ∧ done ++ Rc61.row (Rc61.standing n b) left.length left = Rc61.ranked n b ∧ done.length + left.length = n ∧ left.Pairwise (· < ·) ∧ (∀ y ∈ left, y < n) ∧
        H' ol = some (.lst (nums done)) ∧ H' ll = some (.lst (nums left)) ∧ (∀ b' e, b' ≠ ol → b' ≠ ll → H1 b' = some e → H' b' = some e),
      ⟨_, [], List.range n, none, none, none, none, none, rfl, rfl, by rw [List.length_range]; rfl, by rw [List.length_range]; simp, List.pairwise_lt_range, fun y hy => List.mem_range.mp hy, ?_, upd_same, fun b' e h1 h2 h => ?_⟩, fun m σ H3 hW => ?_⟩
    · rw [upd_ne holll]
      exact upd_same
    · rw [upd_ne h2, upd_ne h1]
      exact h
    obtain ⟨done, left, v4, v5, v6, v7, v8, rfl, rfl, hdo, hlen, hpw, hlt, o3, l3, k3⟩ := hW
    refine ⟨_, rfl, _, Or.inl ⟨_, sqL l3, rfl⟩, ite2 (fun c => ?_) fun c => ?_⟩
    · have hne : left ≠ [] := fun e => by
        subst e
        simp [nums] at c
      have sl3 : H3 sl = some (.lst ss) := k3 _ _ hslol hslll c1
      have p3 : Paired (fun z v => PairV [sl] z v H3) (Rc61.standing n b) ss := Paired.mapP p1 fun z v ⟨r, e, h1, h2⟩ => by
        refine ⟨r, e, h1, k3 _ _ (ne_of_none h2 hol) (ne_of_none (same_new (o := .lst []) hol _ _ h2) hll) h2⟩
      refine ⟨fun σ' H' => ∃ m', m' < left.length ∧ ∃ (done left : List Nat) (v4 v5 v6 v7 v8 : Option V), σ' = [some (.ref t), some (.ref sl), some (.ref ol), some (.ref ll), v4, v5, v6, v7, v8] ∧ m' = left.length ∧ done ++ Rc61.row (Rc61.standing n b) left.length left = Rc61.ranked n b ∧ done.length + left.length = n ∧ left.Pairwise (· < ·) ∧ (∀ y ∈ left, y < n) ∧
        H' ol = some (.lst (nums done)) ∧ H' ll = some (.lst (nums left)) ∧ (∀ b' e, b' ≠ ol → b' ≠ ll → H1 b' = some e → H' b' = some e), fun σ' H' h => h, ?_⟩
      -- losers
      refine ⟨_, rfl, sl, rfl, ⟨_, sqL sl3⟩, fun D hD => ?_⟩
      refine lc_lstG (src := (Rc61.standing n b).zip ss) (emb := Prod.snd) (fun z => left.contains z.1.1) (fun (z : (Nat × Nat) × V) v _ => v = .int (z.1.2 : Int)) hD (by rw [zip_snd p3]; exact sqL sl3) (by rw [zip_len p3]; omega) (fun _ _ _ _ h _ => h) (fun j z H4 hj s4 _ R R1 R2 => ?_) fun H4 acc s4 hpr hA => ?_
      · obtain ⟨⟨r, er, _, hr⟩, _⟩ := zip_at p3 hj
        rw [er]
        refine ⟨r, _, rfl, sqT (s4 _ _ hr), rfl, _, _, rfl, _, _, rfl, rfl, rfl, _, rfl, _, rfl, ll, _, rfl, .inl (sqL (s4 _ _ l3)), rfl, flat_nums left, _, rfl, ?_⟩
        rw [if_neg Bool.false_ne_true, in_nums]
        exact ite2 (fun c => ⟨_, rfl, R2 _ _ (Same.refl _) c rfl⟩) fun c => R1 _ (Same.refl _) (by simpa using c)
      have elo : acc = nums (losers (Rc61.standing n b) left) := by
        have e := pr_map hpr
        rw [e]
        unfold losers nums
        rw [List.map_map]
        have ez : (Rc61.standing n b).filter (fun p => left.contains p.1) = (((Rc61.standing n b).zip ss).filter fun z => left.contains z.1.1).map Prod.fst := by
          conv => lhs; rw [← zip_fst p3]
          rw [List.filter_map]
          rfl
        rw [ez, List.map_map]
        rfl
      subst elo
      -- least
      have l4 : H4 ll = some (.lst (nums left)) := s4 _ _ l3
      refine ⟨_, rfl, ll, rfl, ⟨_, sqL l4⟩, fun D2 hD2 => ?_⟩
      refine lc_lstG (src := left) (emb := fun (i : Nat) => V.int (i : Int)) (fun y => !(losers (Rc61.standing n b) left).contains y) (fun (y : Nat) v _ => v = .int (y : Int)) hD2 (sqL l4) (by omega) (fun _ _ _ _ h _ => h) (fun j y H5 hj s5 _ R R1 R2 => ?_) fun H5 acc5 s5 hpr5 hA5 => ?_
      · refine ⟨rfl, _, rfl, _, rfl, D, _, rfl, .inl (sqL (s5 _ _ hA)), rfl, flat_nums _, _, rfl, ?_⟩
        rw [if_pos rfl, in_nums]
        exact ite2 (fun c => ⟨_, rfl, R2 _ _ (Same.refl _) c rfl⟩) fun c => R1 _ (Same.refl _) (by simpa using c)
      have e5 := pr_map hpr5
      have hA5' : H5 D2 = some (.lst (((free (Rc61.standing n b) left).map fun (i : Nat) => (i : Int)).map V.int)) := by
        rw [hA5, e5, List.map_map]
        rfl
      refine ⟨D2, _, rfl, sqL hA5', ?_, fun m hm hmin => ?_⟩
      · rw [List.length_map]
        have := free_ne hrk hne
        exact List.length_pos_iff.mpr this
      obtain ⟨y, hy, rfl⟩ := List.mem_map.mp hm
      have hmin' : ∀ z ∈ free (Rc61.standing n b) left, y ≤ z := fun z hz => by
        have := hmin _ (List.mem_map.mpr ⟨z, hz, rfl⟩)
        omega
      have hyl := free_lt hy
      obtain ⟨lm, hlm⟩ : ∃ lm, left.length = lm + 1 := ⟨left.length - 1, by have := List.length_pos_iff.mpr hne; omega⟩
      have hrow := row_step (k := lm) hpw hy hmin'
      have hel : (left.erase y).length = lm := by
        rw [List.length_erase_of_mem hyl, hlm]
        rfl
      -- order.append(least)
      have o5 : H5 ol = some (.lst (nums done)) := s5 _ _ (s4 _ _ o3)
      have l5 : H5 ll = some (.lst (nums left)) := s5 _ _ l4
      refine ⟨_, rfl, Or.inl ⟨rfl, _, sqL o5⟩, _, rfl, ol, _, _, rfl, rfl, o5, by rw [nums_len]; exact small (by omega), ?_⟩
      -- left.remove(least)
      have l6 : (upd H5 ol (.lst (nums done ++ [.int (y : Int)]))) ll = some (.lst (nums left)) := by
        rw [upd_ne holll.symm]
        exact l5
      obtain ⟨j, hj1, hj2, hj3⟩ := erase_at hyl
      refine ⟨_, rfl, Or.inl ⟨rfl, _, sqL l6⟩, _, rfl, ll, left.map fun (i : Nat) => (i : Int), (y : Int), j, rfl, rfl, by rw [l6, nums_ints], ?_, fun i hi h => ?_, ?_⟩
      · rw [List.getElem?_map, hj1]
        rfl
      · rw [List.getElem?_map] at h
        cases e : left[i]? with
        | none => rw [e] at h; cases h
        | some z =>
          rw [e] at h
          have h := Option.some.inj h
          have : z = y := by
            have h : (z : Int) = (y : Int) := h
            omega
          rw [this] at e
          exact hj2 i hi e
      · refine ⟨lm, by omega, done ++ [y], left.erase y, _, _, _, _, _, rfl, hel.symm, ?_, ?_, erase_lt hpw, fun z hz => hlt z (List.mem_of_mem_erase hz), ?_, ?_, fun b' e h1 h2 h => ?_⟩
        · rw [hlm, hrow] at hdo
          rw [hel, List.append_assoc]
          exact hdo
        · rw [List.length_append, hel]
          show done.length + 1 + lm = n
          omega
        · rw [upd_ne holll, upd_same]
          unfold nums
          rw [List.map_append]
          rfl
        · rw [upd_same, nums_ints, ← hj3, drop_map]
        · rw [upd_ne h2, upd_ne h1]
          exact s5 _ _ (s4 _ _ (k3 _ _ h1 h2 h))
    · have hnil : left = [] := by
        cases left with
        | nil => rfl
        | cons y r => exact absurd rfl c
      subst hnil
      have hd : done = Rc61.ranked n b := by
        rw [← hdo, row_nil, List.append_nil]
      subst hd
      refine ⟨_, rfl, q H3 ol (fun b' z h => k3 _ _ (fun z' => ?_) (fun z' => ?_) (s1 _ _ h)) (s1.free hol) o3 hlen⟩
      · subst z'
        rw [s1 _ _ h] at hol
        cases hol
      · subst z'
        rw [upd_ne holll.symm, s1 _ _ h] at hll
        cases hll
end
end Tv

set_option maxRecDepth 100000
set_option maxHeartbeats 4000000
namespace Tv
open PySem PySem.Spec PyProof.Rows L2
def iv (l : List Int) : List V := l.map V.int
theorem iv_len (l : List Int) : (iv l).length = l.length := by unfold iv; rw [List.length_map]
theorem cut_mid (pre x post : List V) : cutV (pre ++ (x ++ post)) (some ((pre.length : Nat) : Int)) (some (((pre.length + x.length : Nat)) : Int)) = x := by
  unfold cutV
  rw [HT.sIx_nat, HT.sIx_nat]
  have h1 : pre.length ≤ (pre ++ (x ++ post)).length := by rw [List.length_append]; omega
  have h2 : pre.length + x.length ≤ (pre ++ (x ++ post)).length := by rw [List.length_append, List.length_append]; omega
  rw [Nat.min_eq_left h1, Nat.min_eq_left h2, List.drop_left, Nat.add_sub_cancel_left, List.take_left]
/-- how many plain numbers a call has, by its number -/
def plainN : List Nat := [0, 1, 1, 2, 0, 0, 0, 0, 0, 0, 0]
theorem form_parts {c : Cl} (h : Form c) : ∃ p : Nat, num c = (p : Int) ∧ plainN[p]? = some (args c).length ∧
    (((p = 2 ∨ p = 8) ∧ PyFlat.put1 c = (p : Int) :: (args c ++ (((ord c).length : Int) :: ord c))) ∨ (¬ (p = 2 ∨ p = 8) ∧ ord c = [] ∧ PyFlat.put1 c = (p : Int) :: args c)) := by
  cases h with
  | begin => exact ⟨0, rfl, rfl, .inr ⟨by decide, rfl, rfl⟩⟩
  | cand n => exact ⟨1, rfl, rfl, .inr ⟨by decide, rfl, rfl⟩⟩
  | ballot k o =>
    refine ⟨2, rfl, rfl, .inl ⟨.inl rfl, ?_⟩⟩
    show (2 : Int) :: k :: ((o.length : Int) :: o ++ []) = (2 : Int) :: k :: ((o.length : Int) :: o)
    rw [List.append_nil]
  | wins i j => exact ⟨3, rfl, rfl, .inr ⟨by decide, rfl, rfl⟩⟩
  | first => exact ⟨4, rfl, rfl, .inr ⟨by decide, rfl, rfl⟩⟩
  | smallest => exact ⟨5, rfl, rfl, .inr ⟨by decide, rfl, rfl⟩⟩
  | uncovered => exact ⟨6, rfl, rfl, .inr ⟨by decide, rfl, rfl⟩⟩
  | heads => exact ⟨7, rfl, rfl, .inr ⟨by decide, rfl, rfl⟩⟩
  | turns o =>
    refine ⟨8, rfl, rfl, .inl ⟨.inr rfl, ?_⟩⟩
    show (8 : Int) :: ((o.length : Int) :: o ++ []) = (8 : Int) :: ((o.length : Int) :: o)
    rw [List.append_nil]
  | calmest => exact ⟨9, rfl, rfl, .inr ⟨by decide, rfl, rfl⟩⟩
  | ranked => exact ⟨10, rfl, rfl, .inr ⟨by decide, rfl, rfl⟩⟩
theorem put_app : ∀ (a b : List Cl), PyFlat.put (a ++ b) = PyFlat.put a ++ PyFlat.put b
  | [], _ => rfl
  | c :: a, b => by
    show PyFlat.put1 c ++ PyFlat.put (a ++ b) = (PyFlat.put1 c ++ PyFlat.put a) ++ PyFlat.put b
    rw [put_app a b, List.append_assoc]
/-- a constant of the text -/
def Cst (mg : Str → Option Value) (x : Str) (z : Int) : Prop := ∃ t, mg x = some (.int z t)
section
variable {P : Program} {w : World} {K : PySem.W.Frag} {mg : Str → Option Value} {base : Heap} {C : Addr}
/-! ### has_order -/
abbrev sHas : Stmt := top 39
def spHas : Sp := fun vs H Q _ => ∃ z : Int, vs = [.int z] ∧ Q (.bl (decide (z = 2 ∨ z = 8))) H
theorem scHas : FnScope ["number"] ["number"] (defScope sHas) := ⟨rfl, rfl, rfl, by decide +kernel, rfl, by decide +kernel, by decide +kernel⟩
theorem ok_has {f : Addr} {fd : FuncData} (F : Fun K "has_order" "has_order" sHas f fd) (g2 : Cst mg "BALLOT" 2) (g8 : Cst mg "TURNS" 8) : FnOk P w K mg base CX0 1 f fd ["number"] spHas := by
  obtain ⟨t2, g2⟩ := g2
  obtain ⟨t8, g8⟩ := g8
  refine F.ok scHas (fun vs H Q E h => ?_) (fun cdv A outer s H vs Q E hr h => ?_)
  · obtain ⟨z, rfl, _⟩ := h
    rfl
  · obtain ⟨z, rfl, q⟩ := h
    refine ⟨_, pss_one (ps_ret (pe_or (pe_cmpR op_eq (pv 0) (pe_glob (v := .int 2) (by rfl) g2 ⟨_, rfl⟩) (nomark _)) (pe_one (pe_cmpR op_eq (pv 0) (pe_glob (v := .int 8) (by rfl) g8 ⟨_, rfl⟩) (nomark _))))), ?_⟩
    refine ⟨_, rfl, rfl, _, rfl, ite2 (fun c => ?_) fun c => ?_⟩
    · have c : V.int z = V.int 2 := of_decide_eq_true c
      injection c with c
      have e : true = decide (z = 2 ∨ z = 8) := (decide_eq_true (.inl c)).symm
      exact (congrArg (fun k => Q (V.bl k) H) e).mpr q
    · refine ⟨_, rfl, rfl, ?_⟩
      have e : decide (V.int z = V.int 8) = decide (z = 2 ∨ z = 8) := by
        refine decide_eq_decide.mpr ⟨fun h => ?_, fun h => ?_⟩
        · injection h with h
          exact .inr h
        · rcases h with h | h
          · subst h
            exact absurd (decide_eq_true rfl) c
          · rw [h]
      exact (congrArg (fun k => Q (V.bl k) H) e).mpr q
/-! ### read_row -/
abbrev sRow : Stmt := top 40
def spRow (K : PySem.W.Frag) : Sp := fun vs H Q _ => ∃ (a : Addr) (pre x post : List Int), vs = [.ref a, .int (pre.length : Int)] ∧ SqL K H a (iv (pre ++ ((x.length : Int) :: x ++ post))) ∧
  ∀ H' p, Same H H' → H p = none → H' p = some (.lst (iv x)) → Q (.ref p) H'
theorem scRow : FnScope ["calls", "at"] ["calls", "at"] (defScope sRow) := ⟨rfl, rfl, rfl, by decide +kernel, rfl, by decide +kernel, by decide +kernel⟩
theorem ok_row {f : Addr} {fd : FuncData} (F : Fun K "read_row" "read_row" sRow f fd) : FnOk P w K mg base CX0 1 f fd ["calls", "at"] (spRow K) := by
  refine F.ok scRow (fun vs H Q E h => ?_) (fun cdv A outer s H vs Q E hr h => ?_)
  · obtain ⟨a, pre, x, post, rfl, _⟩ := h
    rfl
  · obtain ⟨a, pre, x, post, rfl, hS, q⟩ := h
    refine ⟨_, pss_one (ps_ret (pe_slice sl_list (pv 0) (po_some (pe_op op_add (pv 1) pe_int)) (po_some (pe_op op_add (pe_op op_add (pv 1) pe_int) (pe_ix ix_list (pv 0) (pv 1) (fun _ _ => rfl)))))), ?_⟩
    have hat : (iv (pre ++ ((x.length : Int) :: x ++ post)))[pre.length]? = some (.int (x.length : Int)) := by
      unfold iv
      rw [List.getElem?_map, List.getElem?_append_right (Nat.le_refl _), Nat.sub_self]
      rfl
    refine ⟨_, rfl, _, rfl, _, _, rfl, rfl, _, rfl, _, rfl, _, _, rfl, rfl, _, rfl, _, rfl, a, _, _, .int (x.length : Int), rfl, rfl, hS, atI_nat hat, _, _, rfl, rfl, _, rfl, a, _, rfl, hS, fun p hp => ?_⟩
    refine q _ p (same_new hp) hp ?_
    rw [upd_same]
    have e : cutV (iv (pre ++ ((x.length : Int) :: x ++ post))) (some ((pre.length : Int) + 1)) (some ((pre.length : Int) + 1 + (x.length : Int))) = iv x := by
      have h := cut_mid (iv (pre ++ [(x.length : Int)])) (iv x) (iv post)
      have e1 : iv (pre ++ [(x.length : Int)]) ++ (iv x ++ iv post) = iv (pre ++ ((x.length : Int) :: x ++ post)) := by
        unfold iv
        rw [← List.map_append, ← List.map_append]
        congr 1
        simp
      rw [e1, iv_len, iv_len, List.length_append] at h
      exact h
    exact congrArg (fun z => some (HO.lst z)) e
/-! ### read_calls -/
abbrev sRead : Stmt := top 38
/-- v tells a call: its number, its plain numbers, its order; all of it new behind H0 -/
def CallV (H0 : Hp) (S : List Addr) (c : Cl) (v : V) (H : Hp) : Prop := ∃ r pl od, v = .ref r ∧ (∀ z ∈ [r, pl, od], z ∉ S ∧ H0 z = none) ∧ H r = some (.tup [.int (num c), .ref pl, .ref od]) ∧ H pl = some (.lst (iv (args c))) ∧ H od = some (.lst (iv (ord c)))
theorem CallV.kp {H0 : Hp} {S : List Addr} {D : Addr} {c : Cl} {v : V} {H H' : Hp} (h : CallV H0 S c v H) (hD : D ∈ S) (k : Kp D H H') : CallV H0 S c v H' := by
  obtain ⟨r, pl, od, e, h1, h2, h3, h4⟩ := h
  have ne : ∀ z ∈ [r, pl, od], z ≠ D := fun z hz e => (h1 z hz).1 (by rw [e]; exact hD)
  exact ⟨r, pl, od, e, h1, k _ _ (ne _ (by simp)) h2, k _ _ (ne _ (by simp)) h3, k _ _ (ne _ (by simp)) h4⟩
def spRead (K : PySem.W.Frag) : Sp := fun vs H Q _ => ∃ (a : Addr) (raw : List Cl), vs = [.ref a] ∧ SqL K H a (iv (PyFlat.put raw)) ∧ (∀ c ∈ raw, Form c) ∧ (PyFlat.put raw).length ≤ 30000 ∧
  ∀ H' p ys, Same H H' → H p = none → H' p = some (.lst ys) → Paired (fun c v => CallV H [p] c v H') raw ys → Q (.ref p) H'
theorem scRead : FnScope ["calls", "read", "at", "number", "behind", "plain", "order"] ["calls"] (defScope sRead) := ⟨rfl, rfl, rfl, by decide +kernel, rfl, by decide +kernel, by decide +kernel⟩
theorem ok_read {f pn : Addr} {fd : FuncData} (F : Fun K "read_calls" "read_calls" sRead f fd) (ml : mg "len" = none) (gp : mg "PLAIN_NUMBERS" = some (.ref pn)) (hpn : ∀ H, SqT K H pn (nums plainN))
    (DH : Dfn P w K mg base 1 "has_order" ["number"] spHas) (DR : Dfn P w K mg base 1 "read_row" ["calls", "at"] (spRow K)) : FnOk P w K mg base CX0 2 f fd ["calls"] (spRead K) := by
  refine F.ok scRead (fun vs H Q E h => ?_) (fun cdv A outer s H vs Q E hr h => ?_)
  · obtain ⟨a, raw, rfl, _⟩ := h
    rfl
  · obtain ⟨a, raw, rfl, hS, hF, hlen, q⟩ := h
    refine ⟨_, pss_cons (ps_set (i := 1) scRead.nd rfl (Or.inl rfl) (pe_lst pa_nil)) (pss_cons (ps_set (i := 2) scRead.nd rfl (Or.inl rfl) pe_int)
      (pss_cons (ps_while PassesOwn.never (pt_cmpR op_lt (pv 2) (pe_callB call_len_seq (by rfl) ml PySem.boot_len (pa_cons (pv 0) pa_nil)) (nomark _))
        (pss_cons (ps_set (i := 3) scRead.nd rfl (Or.inl rfl) (pe_ix ix_list (pv 0) (pv 2) (fun _ _ => rfl)))
        (pss_cons (ps_set (i := 4) scRead.nd rfl (Or.inl rfl) (pe_op op_add (pe_op op_add (pv 2) pe_int) (pe_ix ix_tup (pe_glob (v := .ref pn) (by rfl) gp rfl) (pv 3) (fun _ _ => rfl))))
        (pss_cons (ps_set (i := 5) scRead.nd rfl (Or.inl rfl) (pe_slice sl_list (pv 0) (po_some (pe_op op_add (pv 2) pe_int)) (po_some (pv 4))))
        (pss_cons (ps_set (i := 6) scRead.nd rfl (Or.inl rfl) (pe_lst pa_nil))
        (pss_cons (ps_if (pt_val (pe_def DH hr (by rfl) (pa_cons (pv 3) pa_nil)))
          (pss_cons (ps_set (i := 6) scRead.nd rfl (Or.inl rfl) (pe_def DR hr (by rfl) (pa_cons (pv 0) (pa_cons (pv 4) pa_nil))))
          (pss_one (ps_aug (i := 4) scRead.nd rfl (Or.inl rfl) (pe_op op_add pe_int (pe_callB call_len_seq (by rfl) ml PySem.boot_len (pa_cons (pv 6) pa_nil))) ip_add))) pss_nil)
        (pss_cons (ps_expr (pe_bm PySem.F.plainAttrs_list PySem.F.slot_list_append PySem.F.type_list_append mt_append (pv 1) (pa_cons (pe_tup (pa_cons (pv 3) (pa_cons (pv 5) (pa_cons (pv 6) pa_nil)))) pa_nil)))
        (pss_one (ps_set (i := 2) scRead.nd rfl (Or.inl rfl) (pv 4))))))))))
      (pss_one (ps_ret (pv 1))))), ?_⟩
    refine ⟨Nat.zero_le _, fun rl hrl => ?_⟩
    refine ⟨fun m σ H' => ∃ (done rest : List Cl) (ys : List V) (v3 v4 v5 v6 : Option V), σ = [some (.ref a), some (.ref rl), some (.int ((PyFlat.put done).length : Int)), v3, v4, v5, v6] ∧ m = rest.length ∧ raw = done ++ rest ∧ H' rl = some (.lst ys) ∧ Paired (fun c v => CallV H [rl] c v H') done ys ∧ Same H H',
      ⟨_, [], raw, [], none, none, none, none, rfl, rfl, rfl, upd_same, .nil, same_new hrl⟩, fun m σ H2 hW => ?_⟩
    obtain ⟨done, rest, ys, v3, v4, v5, v6, rfl, rfl, hraw, c2, p2, s2⟩ := hW
    have hput : PyFlat.put raw = PyFlat.put done ++ PyFlat.put rest := by rw [hraw, put_app]
    refine ⟨_, rfl, _, rfl, a, _, rfl, .inl (s2.seq hS), _, _, rfl, rfl, _, rfl, ite2 (fun c => ?_) fun c => ?_⟩
    · have c := of_decide_eq_true c
      rw [iv_len, hput, List.length_append] at c
      obtain ⟨cl, rest', rfl⟩ : ∃ cl rest', rest = cl :: rest' := by
        cases rest with
        | nil =>
          exfalso
          have : (PyFlat.put ([] : List Cl)).length = 0 := rfl
          omega
        | cons cl rest' => exact ⟨cl, rest', rfl⟩
      have hform : Form cl := hF cl (by rw [hraw]; simp)
      obtain ⟨p, hp, hpl, hcase⟩ := form_parts hform
      -- what stands at this place
      have hput2 : PyFlat.put (cl :: rest') = PyFlat.put1 cl ++ PyFlat.put rest' := rfl
      have hp1 : ∃ tl, PyFlat.put1 cl = (p : Int) :: (args cl ++ tl) := by
        rcases hcase with ⟨_, e⟩ | ⟨_, _, e⟩
        · exact ⟨_, e⟩
        · exact ⟨[], by rw [e, List.append_nil]⟩
      obtain ⟨tl, htl⟩ := hp1
      have hall : PyFlat.put raw = PyFlat.put done ++ ((p : Int) :: (args cl ++ (tl ++ PyFlat.put rest'))) := by
        rw [hput, hput2, htl]
        simp
      have hlenall : (PyFlat.put done).length + 1 + (args cl).length + tl.length + (PyFlat.put rest').length = (PyFlat.put raw).length := by
        rw [hall]
        simp
        omega
      have hat : (iv (PyFlat.put raw))[(PyFlat.put done).length]? = some (.int (p : Int)) := by
        unfold iv
        rw [List.getElem?_map, hall, List.getElem?_append_right (Nat.le_refl _), Nat.sub_self]
        rfl
      refine ⟨fun σ' H' => ∃ m', m' < (cl :: rest').length ∧ ∃ (done rest : List Cl) (ys : List V) (v3 v4 v5 v6 : Option V), σ' = [some (.ref a), some (.ref rl), some (.int ((PyFlat.put done).length : Int)), v3, v4, v5, v6] ∧ m' = rest.length ∧ raw = done ++ rest ∧ H' rl = some (.lst ys) ∧ Paired (fun c v => CallV H [rl] c v H') done ys ∧ Same H H', fun σ' H' h => h, ?_⟩
      -- number
      refine ⟨_, rfl, _, rfl, a, _, _, _, rfl, rfl, s2.seq hS, atI_nat hat, ?_⟩
      -- behind
      refine ⟨_, rfl, _, _, rfl, rfl, _, rfl, pn, _, _, .int ((args cl).length : Int), rfl, rfl, hpn _, atI_nat (nums_at hpl), _, _, rfl, rfl, ?_⟩
      -- plain
      refine ⟨_, rfl, _, rfl, _, _, rfl, rfl, _, rfl, _, rfl, _, rfl, a, _, rfl, s2.seq hS, fun plA hplA => ?_⟩
      have ecut : cutV (iv (PyFlat.put raw)) (some (((PyFlat.put done).length : Int) + 1)) (some (((PyFlat.put done).length : Int) + 1 + ((args cl).length : Int))) = iv (args cl) := by
        have h := cut_mid (iv (PyFlat.put done ++ [(p : Int)])) (iv (args cl)) (iv (tl ++ PyFlat.put rest'))
        have e1 : iv (PyFlat.put done ++ [(p : Int)]) ++ (iv (args cl) ++ iv (tl ++ PyFlat.put rest')) = iv (PyFlat.put raw) := by
          unfold iv
          rw [← List.map_append, ← List.map_append, hall]
          congr 1
          simp
        rw [e1, iv_len, iv_len, List.length_append] at h
        exact h
      have e3 : (upd H2 plA (.lst (cutV (iv (PyFlat.put raw)) (some (((PyFlat.put done).length : Int) + 1)) (some (((PyFlat.put done).length : Int) + 1 + ((args cl).length : Int)))))) = upd H2 plA (.lst (iv (args cl))) := by rw [ecut]
      rw [e3]
      have s3 : Same H2 (upd H2 plA (.lst (iv (args cl)))) := same_new hplA
      have pl3 : (upd H2 plA (.lst (iv (args cl)))) plA = some (.lst (iv (args cl))) := upd_same
      generalize upd H2 plA (.lst (iv (args cl))) = H3 at s3 pl3
      -- order = []
      refine ⟨Nat.zero_le _, fun od0 hod0 => ?_⟩
      have s4 : Same H3 (upd H3 od0 (.lst [])) := same_new hod0
      have od4 : (upd H3 od0 (.lst [])) od0 = some (.lst []) := upd_same
      generalize upd H3 od0 (.lst []) = H4 at s4 od4
      have sA : Same H H4 := (s2.trans s3).trans s4
      -- what both ways go on to
      have fin : ∀ (od : Addr) (z : Int) (H5 : Hp), z = ((PyFlat.put (done ++ [cl])).length : Int) → Same H4 H5 → H3 od = none → H5 od = some (.lst (iv (ord cl))) →
          (tSeq (tDrop (tBM K "list" rAppend (tVar 1) (tCons (tTup (tCons (tVar 3) (tCons (tVar 5) (tCons (tVar 6) tNil)))) tNil))) (tAsg (tVar 4) (gName 2)))
          { nx := fun σ' H' => ∃ m', m' < (cl :: rest').length ∧ ∃ (done rest : List Cl) (ys : List V) (v3 v4 v5 v6 : Option V), σ' = [some (.ref a), some (.ref rl), some (.int ((PyFlat.put done).length : Int)), v3, v4, v5, v6] ∧ m' = rest.length ∧ raw = done ++ rest ∧ H' rl = some (.lst ys) ∧ Paired (fun c v => CallV H [rl] c v H') done ys ∧ Same H H', rt := Q }
          [some (.ref a), some (.ref rl), some (.int ((PyFlat.put done).length : Int)), some (.int (p : Int)), some (.int z), some (.ref plA), some (.ref od)] H5 := by
        intro od z H5 hz s5 hodn hod
        subst hz
        have c5 : H5 rl = some (.lst ys) := s5 _ _ (s4 _ _ (s3 _ _ c2))
        refine ⟨_, rfl, Or.inl ⟨rfl, _, sqL c5⟩, _, rfl, _, rfl, _, rfl, (by show 3 ≤ sizeLine; decide), fun tp htp => ?_⟩
        have htprl : tp ≠ rl := (ne_of_none c5 htp).symm
        refine ⟨rl, ys, .ref tp, rfl, rfl, same_new htp _ _ c5, ?_, ?_⟩
        · have h1 := p2.length
          have h2 : done.length ≤ (PyFlat.put done).length := by
            have : ∀ d : List Cl, (∀ c ∈ d, Form c) → d.length ≤ (PyFlat.put d).length := by
              intro d
              induction d with
              | nil => intro _; exact Nat.zero_le _
              | cons x d ih =>
                intro hx
                have := ih fun c hc => hx c (List.mem_cons_of_mem _ hc)
                obtain ⟨p', _, _, hc⟩ := form_parts (hx x List.mem_cons_self)
                show d.length + 1 ≤ (PyFlat.put1 x ++ PyFlat.put d).length
                rw [List.length_append]
                have : 1 ≤ (PyFlat.put1 x).length := by
                  rcases hc with ⟨_, e⟩ | ⟨_, _, e⟩ <;> rw [e] <;> exact Nat.succ_le_succ (Nat.zero_le _)
                omega
            exact this done fun c hc => hF c (by rw [hraw]; exact List.mem_append_left _ hc)
          exact small (by omega)
        · have k6 : Kp rl H5 (upd (upd H5 tp (.tup [.int (p : Int), .ref plA, .ref od])) rl (.lst (ys ++ [.ref tp]))) := fun b' o hb e => by
            rw [upd_ne hb]
            exact same_new htp _ _ e
          have s25 : Same H2 H5 := (s3.trans s4).trans s5
          have hn0 : H plA = none := s2.free hplA
          have hrlH : ∀ z, H z = none → z = plA ∨ z = od ∨ z = tp → True := fun _ _ _ => trivial
          refine ⟨_, rfl, rest'.length, by rw [List.length_cons]; omega, done ++ [cl], rest', ys ++ [.ref tp], _, _, _, _, rfl, rfl, by rw [hraw]; simp, upd_same, pr_snoc (Paired.mapP p2 fun c v h => (h.kp (D := rl) (by simp) fun b' o hb e => k6 _ _ hb (s25 _ _ e))) ?_, fun b' o e => ?_⟩
          · have hpls : plA ≠ rl := (ne_of_none c2 hplA).symm
            have hods : od ≠ rl := fun e => by
              rw [e, s3 _ _ c2] at hodn
              cases hodn
            refine ⟨tp, plA, od, rfl, fun z hz => ?_, ?_, ?_, ?_⟩
            · rw [List.mem_singleton]
              rcases List.mem_cons.mp hz with e | hz
              · rw [e]
                exact ⟨htprl, (sA.trans s5).free htp⟩
              rcases List.mem_cons.mp hz with e | hz
              · rw [e]
                exact ⟨hpls, hn0⟩
              · rw [List.mem_singleton.mp hz]
                exact ⟨hods, (s2.trans s3).free hodn⟩
            · rw [upd_ne htprl, upd_same, hp]
            · exact k6 _ _ hpls (s5 _ _ (s4 _ _ pl3))
            · exact k6 _ _ hods hod
          · rw [upd_ne (ne_of_none e hrl)]
            exact same_new htp _ _ (s5 _ _ (sA _ _ e))
      refine ⟨_, rfl, (p : Int), rfl, _, rfl, ite2 (fun hc => ?_) fun hc => ?_⟩
      · have hc := of_decide_eq_true hc
        have hc' : p = 2 ∨ p = 8 := by omega
        rcases hcase with ⟨_, e⟩ | ⟨hn, _⟩
        · -- the row
          have htl' : tl = ((ord cl).length : Int) :: ord cl := by
            rw [htl] at e
            injection e with _ e
            exact List.append_cancel_left e
          have hrow : PyFlat.put raw = (PyFlat.put done ++ ((p : Int) :: args cl)) ++ (((ord cl).length : Int) :: ord cl ++ PyFlat.put rest') := by
            rw [hall, htl']
            simp
          have hSS : SqL K H4 a (iv ((PyFlat.put done ++ ((p : Int) :: args cl)) ++ (((ord cl).length : Int) :: ord cl ++ PyFlat.put rest'))) := by
            rw [← hrow]
            exact sA.seq hS
          have hpos : ((PyFlat.put done).length : Int) + 1 + ((args cl).length : Int) = ((PyFlat.put done ++ ((p : Int) :: args cl)).length : Int) := by
            rw [List.length_append, List.length_cons]
            omega
          refine ⟨_, rfl, _, rfl, a, PyFlat.put done ++ ((p : Int) :: args cl), ord cl, PyFlat.put rest', by rw [← hpos], hSS, fun H5 od s5 hodn hod => ?_⟩
          refine ⟨_, rfl, _, rfl, od, _, rfl, .inl (sqL hod), _, _, rfl, rfl, _, _, rfl, rfl, ?_⟩
          refine fin od _ H5 ?_ s5 (s4.free hodn) hod
          rw [put_app, List.length_append, iv_len]
          have : (PyFlat.put [cl]).length = 1 + (args cl).length + (1 + (ord cl).length) := by
            show (PyFlat.put1 cl ++ []).length = _
            rw [List.append_nil, htl, htl']
            simp
            omega
          rw [this]
          dsimp only
          omega
        · exact absurd hc' hn
      · have hc : ¬ ((p : Int) = 2 ∨ (p : Int) = 8) := fun z => hc (decide_eq_true z)
        have hc' : ¬ (p = 2 ∨ p = 8) := by omega
        rcases hcase with ⟨hn, _⟩ | ⟨_, ho, e⟩
        · exact absurd hn hc'
        · refine fin od0 _ H4 ?_ (Same.refl _) hod0 (by rw [ho]; exact od4)
          rw [put_app, List.length_append]
          have : (PyFlat.put [cl]).length = 1 + (args cl).length := by
            show (PyFlat.put1 cl ++ []).length = _
            rw [List.append_nil, e, List.length_cons]
            omega
          rw [this]
          omega
    · have c : ¬ (((PyFlat.put done).length : Int) < ((iv (PyFlat.put raw)).length : Int)) := fun z => c (decide_eq_true z)
      rw [iv_len, hput, List.length_append] at c
      have hnil : rest = [] := by
        cases rest with
        | nil => rfl
        | cons cl rest' =>
          exfalso
          obtain ⟨p', _, _, hc⟩ := form_parts (hF cl (by rw [hraw]; simp))
          have : 1 ≤ (PyFlat.put1 cl).length := by
            rcases hc with ⟨_, e⟩ | ⟨_, _, e⟩ <;> rw [e] <;> exact Nat.succ_le_succ (Nat.zero_le _)
          have e : (PyFlat.put (cl :: rest')).length = (PyFlat.put1 cl).length + (PyFlat.put rest').length := by
            show (PyFlat.put1 cl ++ PyFlat.put rest').length = _
            rw [List.length_append]
          omega
      subst hnil
      rw [List.append_nil] at hraw
      subst hraw
      exact ⟨_, rfl, q H2 rl ys s2 hrl c2 p2⟩
end
end Tv

set_option maxRecDepth 100000
set_option maxHeartbeats 4000000
namespace Tv
open PySem PySem.Spec PyProof.Rows L2
/-- a new list of these numbers is handed back, all else stands -/
def RO (H : Hp) (Q : VK) (l : List Int) : Prop := ∀ H' p, Same H H' → H p = none → H' p = some (.lst (iv l)) → Q (.ref p) H'
/-- a new list of these numbers is handed back, the tally is that of this state -/
def Done (C : Addr) (H : Hp) (Q : VK) (t : Addr) (F : List Addr) (s : Rc61.Abs) (l : List Int) : Prop :=
  ∀ H' F' p, Tal C H' t F' s.n s.ballots → (∀ x ∈ F', x ∈ F ∨ H x = none) → (∀ b o, b ≠ t → b ∉ F → H b = some o → H' b = some o) → H p = none → H' p = some (.lst (iv l)) → p ∉ F' → Q (.ref p) H'
theorem Tal.old {C : Addr} {H : Hp} {t : Addr} {F : List Addr} {n : Nat} {b : List Rc61.Ballot} (h : Tal C H t F n b) : ∀ x ∈ F, ∃ o, H x = some o := by
  obtain ⟨dx, wl, rs, rfl, x⟩ := h
  intro y hy
  rcases List.mem_cons.mp hy with z | z
  · rw [z]
    exact ⟨_, x.tab⟩
  · obtain ⟨i, hi, e⟩ := List.getElem_of_mem z
    exact ⟨_, x.rows i y (by rw [← e]; exact List.getElem?_eq_getElem hi)⟩
theorem Done.ro {C : Addr} {H : Hp} {Q : VK} {t : Addr} {F : List Addr} {s : Rc61.Abs} {l : List Int} (q : Done C H Q t F s l) (hT : Tal C H t F s.n s.ballots) : RO H Q l := fun H' p hs hp e =>
  q H' F p (hT.same hs) (fun x hx => .inl hx) (fun b o _ _ h => hs b o h) hp e fun z => by
    obtain ⟨o, h⟩ := hT.old p z
    rw [hp] at h
    cases h
theorem same_none {H H' : Hp} {p : Addr} (s : Same H H') (h : H' p = none) : H p = none := s.free h
/-- a known test -/
theorem no {A B : Prop} {a b : Int} (h : a ≠ b) (x : B) : if decide (V.int a = V.int b) = true then A else B := by
  rw [if_neg]
  · exact x
  · intro z
    have z := of_decide_eq_true z
    injection z with z
    exact h z
theorem yep {A B : Prop} {a b : Int} (h : a = b) (x : A) : if decide (V.int a = V.int b) = true then A else B := by
  rw [if_pos]
  · exact x
  · exact decide_eq_true (by rw [h])
section
variable {P : Program} {w : World} {K : PySem.W.Frag} {mg : Str → Option Value} {base : Heap} {C : Addr}
/-! ### answer_order -/
abbrev sAnsOrder : Stmt := top 54
def spAnsOrder : Sp := fun vs H Q _ => ∃ (a : Addr) (l : List Nat), vs = [.ref a] ∧ H a = some (.lst (nums l)) ∧ l.length ≤ 12 ∧ RO H Q ((l.length : Int) :: padI l)
theorem scAnsOrder : FnScope ["order"] ["order"] (defScope sAnsOrder) := ⟨rfl, rfl, rfl, by decide +kernel, rfl, by decide +kernel, by decide +kernel⟩
theorem rep_iv (k : Nat) : (List.replicate k [V.int 0]).flatten = iv (List.replicate k 0) := by
  unfold iv
  rw [List.map_replicate]
  induction k with
  | zero => rfl
  | succ k ih =>
    rw [List.replicate_succ, List.flatten_cons, ih]
    rfl
theorem ok_ans_order {f : Addr} {fd : FuncData} (F : Fun K "answer_order" "answer_order" sAnsOrder f fd) (ml : mg "len" = none) (g : Cst mg "MOST_CANDIDATES" 12) : FnOk P w K mg base CX0 1 f fd ["order"] spAnsOrder := by
  obtain ⟨tk, g⟩ := g
  refine F.ok scAnsOrder (fun vs H Q E h => ?_) (fun cdv A outer s H vs Q E hr h => ?_)
  · obtain ⟨a, l, rfl, _⟩ := h
    rfl
  · obtain ⟨a, l, rfl, ha, hl, q⟩ := h
    refine ⟨_, pss_one (ps_ret (pe_op op_cat (pe_op op_cat (pe_lst (pa_cons (pe_callB call_len_seq (by rfl) ml PySem.boot_len (pa_cons (pv 0) pa_nil)) pa_nil)) (pv 0))
      (pe_op op_rep (pe_lst (pa_cons pe_int pa_nil)) (pe_op op_sub (pe_glob (v := .int 12) (by rfl) g ⟨_, rfl⟩) (pe_callB call_len_seq (by rfl) ml PySem.boot_len (pa_cons (pv 0) pa_nil)))))), ?_⟩
    refine ⟨_, rfl, a, _, rfl, .inl (sqL ha), (by show 1 ≤ sizeLine; decide), fun p1 hp1 => ?_⟩
    have a1 := same_new (o := .lst [.int ((nums l).length : Int)]) hp1 _ _ ha
    refine ⟨_, rfl, p1, a, _, _, rfl, rfl, upd_same, a1, ?_, fun p2 hp2 => ?_⟩
    · rw [nums_len]
      exact Nat.le_of_lt (small (by show 1 + l.length ≤ _; omega))
    have a2 := same_new (o := .lst ([.int ((nums l).length : Int)] ++ nums l)) hp2 _ _ a1
    have s2 : Same H (upd (upd H p1 (.lst [.int ((nums l).length : Int)])) p2 (.lst ([.int ((nums l).length : Int)] ++ nums l))) := (same_new hp1).trans (same_new hp2)
    have e2 : (upd (upd H p1 (.lst [.int ((nums l).length : Int)])) p2 (.lst ([.int ((nums l).length : Int)] ++ nums l))) p2 = some (.lst ([.int ((nums l).length : Int)] ++ nums l)) := upd_same
    generalize upd (upd H p1 (.lst [.int ((nums l).length : Int)])) p2 (.lst ([.int ((nums l).length : Int)] ++ nums l)) = H2 at a2 s2 e2
    refine ⟨(by show 1 ≤ sizeLine; decide), fun p3 hp3 => ?_⟩
    have a3 := same_new (o := .lst [.int 0]) hp3 _ _ a2
    refine ⟨_, rfl, a, _, rfl, .inl (sqL a3), _, _, rfl, rfl, p3, (12 : Int) - ((nums l).length : Int), [.int 0], rfl, rfl, upd_same, ?_, ?_, ?_, fun p4 hp4 => ?_⟩
    · rw [nums_len]; omega
    · rw [nums_len]; omega
    · rw [nums_len]
      show 1 * ((12 : Int) - (l.length : Int)).toNat ≤ sizeLine
      have := small (n := 12) (by omega)
      omega
    have s4 := (same_new (o := .lst [.int 0]) hp3).trans (same_new (o := .lst (List.replicate ((12 : Int) - ((nums l).length : Int)).toNat [V.int 0]).flatten) hp4)
    refine ⟨p2, p4, _, _, rfl, rfl, s4 _ _ e2, upd_same, ?_, fun p5 hp5 => ?_⟩
    · rw [nums_len, rep_iv, iv_len, List.length_replicate, List.length_append, nums_len]
      exact Nat.le_of_lt (small (by show 1 + l.length + ((12 : Int) - (l.length : Int)).toNat ≤ _; omega))
    refine q _ p5 ((s2.trans s4).trans (same_new hp5)) ((s2.trans s4).free hp5) ?_
    rw [upd_same, nums_len, rep_iv]
    have e : ((12 : Int) - (l.length : Int)).toNat = 12 - l.length := by omega
    rw [e]
    unfold padI iv nums
    simp
/-! ### answer_begin, answer_candidates -/
abbrev sAnsBegin : Stmt := top 48
def spAnsBegin (C : Addr) : Sp := fun vs H Q _ => ∃ (t : Addr) (F : List Addr) (n : Nat) (b : List Rc61.Ballot), vs = [.ref t] ∧ Tal C H t F n b ∧ Done C H Q t F {} [0]
theorem scAnsBegin : FnScope ["tally"] ["tally"] (defScope sAnsBegin) := ⟨rfl, rfl, rfl, by decide +kernel, rfl, by decide +kernel, by decide +kernel⟩
theorem noStart : NoF "start" := ⟨by decide +kernel, by decide +kernel, by decide +kernel⟩
theorem ok_ans_begin {f : Addr} {fd : FuncData} (F : Fun K "answer_begin" "answer_begin" sAnsBegin f fd) (T : Txt K C) (MS : Mth P w K mg base C 1 "start" ["self", "size"] (spStart C)) : FnOk P w K mg base CX0 2 f fd ["tally"] (spAnsBegin C) := by
  refine F.ok scAnsBegin (fun vs H Q E h => ?_) (fun cdv A outer s H vs Q E hr h => ?_)
  · obtain ⟨t, F, n, b, rfl, _⟩ := h
    rfl
  · obtain ⟨t, F, n, b, rfl, hT, q⟩ := h
    refine ⟨_, pss_cons (ps_expr (pe_mth MS T noStart hr (pv 0) (pa_cons pe_int pa_nil))) (pss_one (ps_ret (pe_lst (pa_cons pe_int pa_nil)))), ?_⟩
    obtain ⟨dx, wl, rs, eF, x⟩ := hT
    refine ⟨t, dx, _, _, wl, rfl, x.obj, t, dx, n, b.length, wl, 0, rfl, x.obj, by omega, fun H1 F1 hF1 hT1 k1 => ?_⟩
    refine ⟨(by show 1 ≤ sizeLine; decide), fun p hp => ?_⟩
    have ht1 : ∃ o, H1 t = some o := by
      obtain ⟨dx', wl', rs', _, y⟩ := hT1
      exact ⟨_, y.obj⟩
    obtain ⟨o1, ht1⟩ := ht1
    have hpt : p ≠ t := (ne_of_none ht1 hp).symm
    refine q _ F1 p (hT1.same (same_new hp)) (fun y hy => .inr (hF1 y hy)) (fun b' o h1 _ h => same_new hp _ _ (k1 b' o h h1)) ?_ upd_same fun z => ?_
    · cases e : H p with
      | none => rfl
      | some o =>
        have := k1 p o e hpt
        rw [hp] at this
        cases this
    · obtain ⟨o, h⟩ := hT1.old p z
      rw [hp] at h
      cases h
abbrev sAnsCand : Stmt := top 49
def spAnsCand (C : Addr) : Sp := fun vs H Q _ => ∃ (t : Addr) (F : List Addr) (s : Rc61.Abs) (n : Int), vs = [.ref t, .int n] ∧ Tal C H t F s.n s.ballots ∧ Done C H Q t F (nx s [[1, n]]).1 (nx s [[1, n]]).2
theorem scAnsCand : FnScope ["tally", "size"] ["tally", "size"] (defScope sAnsCand) := ⟨rfl, rfl, rfl, by decide +kernel, rfl, by decide +kernel, by decide +kernel⟩
theorem ok_ans_cand {f : Addr} {fd : FuncData} (F : Fun K "answer_candidates" "answer_candidates" sAnsCand f fd) (T : Txt K C) (g : Cst mg "MOST_CANDIDATES" 12) (MS : Mth P w K mg base C 1 "start" ["self", "size"] (spStart C)) : FnOk P w K mg base CX0 2 f fd ["tally", "size"] (spAnsCand C) := by
  obtain ⟨tk, g⟩ := g
  refine F.ok scAnsCand (fun vs H Q E h => ?_) (fun cdv A outer s H vs Q E hr h => ?_)
  · obtain ⟨t, F, st, n, rfl, _⟩ := h
    rfl
  · obtain ⟨t, F, st, n, rfl, hT, q⟩ := h
    refine ⟨_, pss_cons (ps_if (pt_not (pt_chain op_le op_le pe_int (pv 1) (pe_glob (v := .int 12) (by rfl) g ⟨_, rfl⟩))) (pss_one (ps_ret (pe_lst (pa_cons (pe_un un_neg pe_int) pa_nil)))) pss_nil)
      (pss_cons (ps_expr (pe_mth MS T noStart hr (pv 0) (pa_cons (pv 1) pa_nil))) (pss_one (ps_ret (pe_lst (pa_cons pe_int pa_nil))))), ?_⟩
    rw [nx_cand] at q
    have bad : (n < 1 ∨ 12 < n) → (tRet (tLst (tCons (tUn (rU fun i => .int (-i)) (tC (.int 1))) tNil))) { nx := fun _ H' => Q .non H', rt := Q } (L2.start ["tally", "size"] [.ref t, .int n]) H := fun hn => by
      rw [if_pos hn] at q
      exact ⟨_, rfl, (by show 1 ≤ sizeLine; decide), fun p hp => q.ro hT _ p (same_new hp) hp upd_same⟩
    refine ⟨_, rfl, _, _, rfl, rfl, _, rfl, ite2 (fun c => ?_) fun c => ?_⟩
    · have c := of_decide_eq_true c
      refine ⟨_, _, rfl, rfl, _, rfl, ite2 (fun c2 => ?_) fun c2 => ?_⟩
      · have c2 : ¬ n ≤ 12 := by simpa using c2
        exact bad (.inr (by omega))
      · have c2 : n ≤ 12 := by simpa using c2
        rw [if_neg (by omega)] at q
        have hT0 := hT
        obtain ⟨dx, wl, rs, eF, x⟩ := hT
        obtain ⟨m, rfl⟩ : ∃ m : Nat, n = (m : Int) := ⟨n.toNat, by omega⟩
        rw [Int.toNat_natCast] at q
        refine ⟨t, dx, _, _, wl, rfl, x.obj, _, rfl, t, dx, st.n, st.ballots.length, wl, m, rfl, x.obj, by omega, fun H1 F1 hF1 hT1 k1 => ?_⟩
        refine ⟨(by show 1 ≤ sizeLine; decide), fun p hp => ?_⟩
        have ht1 : ∃ o, H1 t = some o := by
          obtain ⟨dx', wl', rs', _, y⟩ := hT1
          exact ⟨_, y.obj⟩
        obtain ⟨o1, ht1⟩ := ht1
        have hpt : p ≠ t := (ne_of_none ht1 hp).symm
        refine q _ F1 p (hT1.same (same_new hp)) (fun y hy => .inr (hF1 y hy)) (fun b' o h1 _ h => same_new hp _ _ (k1 b' o h h1)) ?_ upd_same fun z => ?_
        · cases e : H p with
          | none => rfl
          | some o =>
            have := k1 p o e hpt
            rw [hp] at this
            cases this
        · obtain ⟨o, h⟩ := hT1.old p z
          rw [hp] at h
          cases h
    · have c : ¬ (1 : Int) ≤ n := fun z => c (decide_eq_true z)
      refine ⟨_, rfl, ite2 (fun _ => ?_) fun c2 => ?_⟩
      · exact bad (.inl (by omega))
      · exact absurd rfl c2
/-! ### answer_ballot -/
abbrev sAnsBallot : Stmt := top 50
def spAnsBallot (C : Addr) : Sp := fun vs H Q _ => ∃ (t : Addr) (F : List Addr) (s : Rc61.Abs) (od : Addr) (k : Int) (o : List Int), vs = [.ref t, .ref od, .int k] ∧ Tal C H t F s.n s.ballots ∧ s.n ≠ 0 ∧ s.n ≤ 12 ∧ H od = some (.lst (iv o)) ∧ od ∉ F ∧ o.length ≤ 12 ∧ (∀ x ∈ o, 0 ≤ x) ∧ 0 ≤ k ∧ s.ballots.length ≤ 256 ∧
  Done C H Q t F (nx s [[2, k], o]).1 (nx s [[2, k], o]).2
theorem scAnsBallot : FnScope ["tally", "order", "times", "before"] ["tally", "order", "times"] (defScope sAnsBallot) := ⟨rfl, rfl, rfl, by decide +kernel, rfl, by decide +kernel, by decide +kernel⟩
theorem noIsOrder : NoF "is_order" := ⟨by decide +kernel, by decide +kernel, by decide +kernel⟩
theorem noCast : NoF "cast" := ⟨by decide +kernel, by decide +kernel, by decide +kernel⟩
theorem iv_nats {o : List Int} (h : ∀ x ∈ o, 0 ≤ x) : iv o = nums (nats o) := by
  unfold iv nums nats
  rw [List.map_map]
  refine List.map_congr_left fun x hx => ?_
  have := h x hx
  show V.int x = V.int ((x.toNat : Nat) : Int)
  congr 1
  omega
theorem ok_ans_ballot {f : Addr} {fd : FuncData} (F : Fun K "answer_ballot" "answer_ballot" sAnsBallot f fd) (T : Txt K C) (g : Cst mg "MOST_BALLOTS" 256) (MO : Mth P w K mg base C 1 "is_order" ["self", "order"] (spIsOrder K C)) (MC : Mth P w K mg base C 1 "cast" ["self", "order", "times"] (spCast K C)) :
    FnOk P w K mg base CX0 2 f fd ["tally", "order", "times"] (spAnsBallot C) := by
  obtain ⟨tk, g⟩ := g
  refine F.ok scAnsBallot (fun vs H Q E h => ?_) (fun cdv A outer s H vs Q E hr h => ?_)
  · obtain ⟨t, F, st, od, k, o, rfl, _⟩ := h
    rfl
  · obtain ⟨t, F, st, od, k, o, rfl, hT, h0, hn, hod, hodF, hlen, hpos, hk, hbl, q⟩ := h
    refine ⟨_, pss_cons (ps_if (pt_not (pt_val (pe_mth MO T noIsOrder hr (pv 0) (pa_cons (pv 1) pa_nil)))) (pss_one (ps_ret (pe_lst (pa_cons (pe_un un_neg pe_int) pa_nil)))) pss_nil)
      (pss_cons (ps_if (pt_cmpR op_eq (pe_bs T (pv 0)) (pe_glob (v := .int 256) (by rfl) g ⟨_, rfl⟩) (nomark _)) (pss_one (ps_ret (pe_lst (pa_cons (pe_un un_neg pe_int) pa_nil)))) pss_nil)
      (pss_cons (ps_set (i := 3) scAnsBallot.nd rfl (Or.inl rfl) (pe_bs T (pv 0)))
      (pss_cons (ps_expr (pe_mth MC T noCast hr (pv 0) (pa_cons (pv 1) (pa_cons (pv 2) pa_nil))))
      (pss_one (ps_ret (pe_lst (pa_cons (pv 3) pa_nil))))))), ?_⟩
    rw [nx_ballot h0] at q
    have hT0 := hT
    obtain ⟨dx, wl, rs, eF, x⟩ := hT
    refine ⟨t, dx, _, _, wl, rfl, x.obj, _, rfl, t, F, st.n, st.ballots, od, o, rfl, hT0, hn, sqL hod, by omega, hpos, fun H1 s1 => ⟨_, rfl, ite2 (fun c => ?_) fun c => ?_⟩⟩
    · have c : Rc61.each st.n (nats o) = false := by
        have : Rc61.each st.n (o.map Int.toNat) = false := by simpa using c
        exact this
      rw [if_pos c] at q
      exact ⟨_, rfl, (by show 1 ≤ sizeLine; decide), fun p hp => q.ro hT0 _ p (s1.trans (same_new hp)) (s1.free hp) upd_same⟩
    · have c : Rc61.each st.n (nats o) = true := by
        cases e : Rc61.each st.n (nats o) with
        | true => rfl
        | false =>
          have e' : Rc61.each st.n (o.map Int.toNat) = false := e
          rw [e'] at c
          exact absurd rfl c
      rw [if_neg (by rw [c]; decide)] at q
      have x1 := x.same s1
      refine ⟨t, dx, _, _, wl, rfl, x1.obj, rfl, _, rfl, ite2 (fun c2 => ?_) fun c2 => ?_⟩
      · have c2 : (st.ballots.length : Int) = 256 := by
          have := of_decide_eq_true c2
          injection this
        rw [if_pos (by omega)] at q
        exact ⟨_, rfl, (by show 1 ≤ sizeLine; decide), fun p hp => q.ro hT0 _ p (s1.trans (same_new hp)) (s1.free hp) upd_same⟩
      · have c2 : ¬ 256 ≤ st.ballots.length := fun z => c2 (decide_eq_true (by rw [show st.ballots.length = 256 by omega]; rfl))
        rw [if_neg c2] at q
        have hperm := each_perm.mp c
        have hodt : od ≠ t := ne_of hod x.obj (fun z => by cases z)
        obtain ⟨kk, rfl⟩ : ∃ kk : Nat, k = (kk : Int) := ⟨k.toNat, by omega⟩
        rw [Int.toNat_natCast] at q
        have hod1 : SqL K H1 od (nums (nats o)) := by
          rw [← iv_nats hpos]
          exact sqL (s1 _ _ hod)
        refine ⟨t, dx, _, _, wl, rfl, x1.obj, t, dx, _, _, wl, rfl, x1.obj, _, rfl, _, rfl, t, F, st.n, st.ballots, od, nats o, kk, rfl, hT0.same s1, by omega, hod1, hperm, hodt, hodF, fun H2 hT2 k2 => ?_⟩
        refine ⟨_, rfl, (by show 1 ≤ sizeLine; decide), fun p hp => ?_⟩
        have ht2 : ∃ o, H2 t = some o := by
          obtain ⟨dx', wl', rs', _, y⟩ := hT2
          exact ⟨_, y.obj⟩
        obtain ⟨o2, ht2⟩ := ht2
        have hpt : p ≠ t := (ne_of_none ht2 hp).symm
        have hpF : p ∉ F := fun z => by
          obtain ⟨o', h⟩ := hT2.old p z
          rw [hp] at h
          cases h
        refine q _ F p (hT2.same (same_new hp)) (fun y hy => .inl hy) (fun b' o' h1 h2 h => same_new hp _ _ (k2 b' o' h1 h2 (s1 _ _ h))) ?_ upd_same hpF
        cases e : H p with
        | none => rfl
        | some o' =>
          have := k2 p o' hpt hpF (s1 _ _ e)
          rw [hp] at this
          cases this
end
end Tv

set_option maxRecDepth 100000
set_option maxHeartbeats 4000000
namespace Tv
open PySem PySem.Spec PyProof.Rows L2
section
variable {P : Program} {w : World} {K : PySem.W.Frag} {mg : Str → Option Value} {base : Heap} {C : Addr}
/-! ### answer_wins -/
abbrev sAnsWins : Stmt := top 51
def spAnsWins (C : Addr) : Sp := fun vs H Q _ => ∃ (t : Addr) (F : List Addr) (s : Rc61.Abs) (i j : Int), vs = [.ref t, .int i, .int j] ∧ Tal C H t F s.n s.ballots ∧ s.n ≠ 0 ∧ RO H Q (nx s [[3, i, j]]).2
theorem scAnsWins : FnScope ["tally", "winner", "loser"] ["tally", "winner", "loser"] (defScope sAnsWins) := ⟨rfl, rfl, rfl, by decide +kernel, rfl, by decide +kernel, by decide +kernel⟩
theorem noIsCand : NoF "is_candidate" := ⟨by decide +kernel, by decide +kernel, by decide +kernel⟩
theorem ok_ans_wins {f : Addr} {fd : FuncData} (F : Fun K "answer_wins" "answer_wins" sAnsWins f fd) (T : Txt K C) (MI : Mth P w K mg base C 1 "is_candidate" ["self", "number"] (spIsCand C)) : FnOk P w K mg base CX0 2 f fd ["tally", "winner", "loser"] (spAnsWins C) := by
  refine F.ok scAnsWins (fun vs H Q E h => ?_) (fun cdv A outer s H vs Q E hr h => ?_)
  · obtain ⟨t, F, st, i, j, rfl, _⟩ := h
    rfl
  · obtain ⟨t, F, st, i, j, rfl, hT, h0, q⟩ := h
    refine ⟨_, pss_cons (ps_if (PW.pt (pw_or (pt_not (pt_val (pe_mth MI T noIsCand hr (pv 0) (pa_cons (pv 1) pa_nil)))) (pw_or1 (pt_not (pt_val (pe_mth MI T noIsCand hr (pv 0) (pa_cons (pv 2) pa_nil)))))))
        (pss_one (ps_ret (pe_lst (pa_cons (pe_un un_neg pe_int) pa_nil)))) pss_nil)
      (pss_one (ps_ret (pe_lst (pa_cons pe_int (pa_cons (pe_ix ix_list (pe_ix ix_list (pe_ws T (pv 0)) (pv 1) (fun _ _ => rfl)) (pv 2) (fun _ _ => rfl)) pa_nil))))), ?_⟩
    rw [nx_wins h0] at q
    have hT0 := hT
    obtain ⟨dx, wl, rs, eF, x⟩ := hT
    have bad : ¬ ((0 ≤ i ∧ i < st.n) ∧ (0 ≤ j ∧ j < st.n)) → (tRet (tLst (tCons (tUn (rU fun i => .int (-i)) (tC (.int 1))) tNil))) { nx := fun _ H' => Q .non H', rt := Q } (L2.start ["tally", "winner", "loser"] [.ref t, .int i, .int j]) H := fun hn => by
      rw [if_neg hn] at q
      exact ⟨_, rfl, (by show 1 ≤ sizeLine; decide), fun p hp => q _ p (same_new hp) hp upd_same⟩
    refine ⟨t, dx, _, _, wl, rfl, x.obj, _, rfl, t, F, st.n, st.ballots, i, rfl, hT0, _, rfl, ite2 (fun c => ?_) fun c => ?_⟩
    · have c : ¬ (0 ≤ i ∧ i < st.n) := by
        intro z
        rw [decide_eq_true z] at c
        cases c
      exact iteT (bad fun z => c z.1)
    · have c : 0 ≤ i ∧ i < st.n := by simpa using c
      refine ⟨t, dx, _, _, wl, rfl, x.obj, _, rfl, t, F, st.n, st.ballots, j, rfl, hT0, _, rfl, ite2 (fun c2 => ?_) fun c2 => ?_⟩
      · have c2 : ¬ (0 ≤ j ∧ j < st.n) := by
          intro z
          rw [decide_eq_true z] at c2
          cases c2
        exact bad fun z => c2 z.2
      · have c2 : 0 ≤ j ∧ j < st.n := by simpa using c2
        rw [if_pos ⟨c, c2⟩] at q
        obtain ⟨a, rfl⟩ : ∃ a : Nat, i = (a : Int) := ⟨i.toNat, by omega⟩
        obtain ⟨b, rfl⟩ : ∃ b : Nat, j = (b : Int) := ⟨j.toNat, by omega⟩
        have ha : a < st.n := by omega
        have hb : b < st.n := by omega
        obtain ⟨rr, hrr⟩ : ∃ rr, rs[a]? = some rr := ⟨_, List.getElem?_eq_getElem (by rw [x.len]; exact ha)⟩
        have mrr : (rs.map V.ref)[a]? = some (.ref rr) := by rw [List.getElem?_map, hrr]; rfl
        refine ⟨t, dx, _, _, wl, rfl, x.obj, _, rfl, wl, _, _, _, rfl, rfl, sqL x.tab, atI_nat mrr, _, rfl, rr, _, _, _, rfl, rfl, sqL (x.rows a rr hrr), atI_nat (row_at hb), (by show 2 ≤ sizeLine; decide), fun p hp => ?_⟩
        exact q _ p (same_new hp) hp upd_same
/-! ### answer_first -/
abbrev sAnsFirst : Stmt := top 52
def spAnsFirst (C : Addr) : Sp := fun vs H Q _ => ∃ (t : Addr) (F : List Addr) (s : Rc61.Abs), vs = [.ref t] ∧ Tal C H t F s.n s.ballots ∧ s.n ≠ 0 ∧ s.n ≤ 12 ∧ RO H Q (nx s [[4]]).2
theorem scAnsFirst : FnScope ["tally", "candidate"] ["tally"] (defScope sAnsFirst) := ⟨rfl, rfl, rfl, by decide +kernel, rfl, by decide +kernel, by decide +kernel⟩
theorem ok_ans_first {f : Addr} {fd : FuncData} (F : Fun K "answer_first" "answer_first" sAnsFirst f fd) (DB : Dfn P w K mg base 3 "beater_of_all" ["tally"] (spBeater C)) : FnOk P w K mg base CX0 4 f fd ["tally"] (spAnsFirst C) := by
  refine F.ok scAnsFirst (fun vs H Q E h => ?_) (fun cdv A outer s H vs Q E hr h => ?_)
  · obtain ⟨t, F, st, rfl, _⟩ := h
    rfl
  · obtain ⟨t, F, st, rfl, hT, h0, hn, q⟩ := h
    refine ⟨_, pss_cons (ps_set (i := 1) scAnsFirst.nd rfl (Or.inl rfl) (pe_def DB hr (by rfl) (pa_cons (pv 0) pa_nil)))
      (pss_cons (ps_if (pt_cmp (pc_isN (pv 1))) (pss_one (ps_ret (pe_lst (pa_cons (pe_un un_neg pe_int) pa_nil)))) pss_nil)
      (pss_one (ps_ret (pe_lst (pa_cons (pv 1) pa_nil))))), ?_⟩
    rw [nx_first h0] at q
    refine ⟨_, rfl, t, F, st.n, st.ballots, rfl, hT, hn, fun H1 s1 => ?_⟩
    cases e : Rc61.first st.n st.ballots with
    | none =>
      rw [e] at q
      refine ⟨_, rfl, _, rfl, ite2 (fun c => ?_) fun c => ?_⟩
      · exact ⟨_, rfl, (by show 1 ≤ sizeLine; decide), fun p hp => q _ p (s1.trans (same_new hp)) (s1.free hp) upd_same⟩
      · exact absurd (decide_eq_true rfl) c
    | some i =>
      rw [e] at q
      refine ⟨_, rfl, _, rfl, ite2 (fun c => ?_) fun c => ?_⟩
      · have c := of_decide_eq_true c
        cases c
      · exact ⟨_, rfl, (by show 1 ≤ sizeLine; decide), fun p hp => q _ p (s1.trans (same_new hp)) (s1.free hp) upd_same⟩
/-! ### answer_turns -/
abbrev sAnsTurns : Stmt := top 53
def spAnsTurns (C : Addr) : Sp := fun vs H Q _ => ∃ (t : Addr) (F : List Addr) (s : Rc61.Abs) (od : Addr) (o : List Int), vs = [.ref t, .ref od] ∧ Tal C H t F s.n s.ballots ∧ s.n ≠ 0 ∧ s.n ≤ 12 ∧ H od = some (.lst (iv o)) ∧ o.length ≤ 12 ∧ (∀ x ∈ o, 0 ≤ x) ∧ RO H Q (nx s [[8], o]).2
theorem scAnsTurns : FnScope ["tally", "order"] ["tally", "order"] (defScope sAnsTurns) := ⟨rfl, rfl, rfl, by decide +kernel, rfl, by decide +kernel, by decide +kernel⟩
theorem ok_ans_turns {f : Addr} {fd : FuncData} (F : Fun K "answer_turns" "answer_turns" sAnsTurns f fd) (T : Txt K C) (MO : Mth P w K mg base C 1 "is_order" ["self", "order"] (spIsOrder K C)) (DT : Dfn P w K mg base 2 "last_to_stand" ["tally", "order"] (spTurns K C)) :
    FnOk P w K mg base CX0 3 f fd ["tally", "order"] (spAnsTurns C) := by
  refine F.ok scAnsTurns (fun vs H Q E h => ?_) (fun cdv A outer s H vs Q E hr h => ?_)
  · obtain ⟨t, F, st, od, o, rfl, _⟩ := h
    rfl
  · obtain ⟨t, F, st, od, o, rfl, hT, h0, hn, hod, hlen, hpos, q⟩ := h
    have hr1 : Room 1 _ := hr.mono (by decide)
    refine ⟨_, pss_cons (ps_if (pt_not (pt_val (pe_mth MO T noIsOrder hr1 (pv 0) (pa_cons (pv 1) pa_nil)))) (pss_one (ps_ret (pe_lst (pa_cons (pe_un un_neg pe_int) pa_nil)))) pss_nil)
      (pss_one (ps_ret (pe_lst (pa_cons (pe_def DT hr (by rfl) (pa_cons (pv 0) (pa_cons (pv 1) pa_nil))) pa_nil)))), ?_⟩
    rw [nx_turns h0] at q
    have hT0 := hT
    obtain ⟨dx, wl, rs, eF, x⟩ := hT
    refine ⟨t, dx, _, _, wl, rfl, x.obj, _, rfl, t, F, st.n, st.ballots, od, o, rfl, hT0, hn, sqL hod, by omega, hpos, fun H1 s1 => ⟨_, rfl, ite2 (fun c => ?_) fun c => ?_⟩⟩
    · have c : Rc61.each st.n (nats o) = false := by
        have : Rc61.each st.n (o.map Int.toNat) = false := by simpa using c
        exact this
      rw [if_pos c] at q
      exact ⟨_, rfl, (by show 1 ≤ sizeLine; decide), fun p hp => q _ p (s1.trans (same_new hp)) (s1.free hp) upd_same⟩
    · have c : Rc61.each st.n (nats o) = true := by
        cases e : Rc61.each st.n (nats o) with
        | true => rfl
        | false =>
          have e' : Rc61.each st.n (o.map Int.toNat) = false := e
          rw [e'] at c
          exact absurd rfl c
      rw [if_neg (by rw [c]; decide)] at q
      obtain ⟨hl, _, hlt⟩ := perm_range_iff.mp (each_perm.mp c)
      have hod1 : SqL K H1 od (nums (nats o)) := by
        rw [← iv_nats hpos]
        exact sqL (s1 _ _ hod)
      refine ⟨_, rfl, _, rfl, t, F, st.n, st.ballots, od, nats o, rfl, hT0.same s1, hod1, fun z => ?_, hlt, fun H2 s2 => ?_⟩
      · rw [z] at hl
        exact h0 hl.symm
      · exact ⟨(by show 1 ≤ sizeLine; decide), fun p hp => q _ p ((s1.trans s2).trans (same_new hp)) ((s1.trans s2).free hp) upd_same⟩
/-! ### group_asked_for -/
abbrev sGroup : Stmt := top 47
def grp (s : Rc61.Abs) (z : Int) : Nat := if z = 5 then Rc61.smallestOf s.n s.ballots else if z = 6 then Rc61.uncovered s.n s.ballots else Rc61.headsOf s.n s.ballots
def spGroup (C : Addr) : Sp := fun vs H Q _ => ∃ (t : Addr) (F : List Addr) (s : Rc61.Abs) (z : Int), vs = [.ref t, .int z] ∧ Tal C H t F s.n s.ballots ∧ s.n ≠ 0 ∧ s.n ≤ 6 ∧ ∀ H', Same H H' → Q (.int (grp s z : Nat)) H'
theorem scGroup : FnScope ["tally", "number"] ["tally", "number"] (defScope sGroup) := ⟨rfl, rfl, rfl, by decide +kernel, rfl, by decide +kernel, by decide +kernel⟩
theorem ok_group {f : Addr} {fd : FuncData} (F : Fun K "group_asked_for" "group_asked_for" sGroup f fd) (g5 : Cst mg "SMALLEST" 5) (g6 : Cst mg "UNCOVERED" 6) (DS : Dfn P w K mg base 4 "smallest_group" ["tally"] (spSmallest C)) (DU : Dfn P w K mg base 4 "uncovered_group" ["tally"] (spUncov C))
    (DH : Dfn P w K mg base 3 "group_of_heads" ["tally"] (spHeads C)) : FnOk P w K mg base CX0 5 f fd ["tally", "number"] (spGroup C) := by
  obtain ⟨t5, g5⟩ := g5
  obtain ⟨t6, g6⟩ := g6
  refine F.ok scGroup (fun vs H Q E h => ?_) (fun cdv A outer s H vs Q E hr h => ?_)
  · obtain ⟨t, F, st, z, rfl, _⟩ := h
    rfl
  · obtain ⟨t, F, st, z, rfl, hT, h0, hn, q⟩ := h
    have hr3 : Room 3 _ := hr.mono (by decide)
    refine ⟨_, pss_cons (ps_if (pt_cmpR op_eq (pv 1) (pe_glob (v := .int 5) (by rfl) g5 ⟨_, rfl⟩) (nomark _)) (pss_one (ps_ret (pe_def DS hr (by rfl) (pa_cons (pv 0) pa_nil)))) pss_nil)
      (pss_cons (ps_if (pt_cmpR op_eq (pv 1) (pe_glob (v := .int 6) (by rfl) g6 ⟨_, rfl⟩) (nomark _)) (pss_one (ps_ret (pe_def DU hr (by rfl) (pa_cons (pv 0) pa_nil)))) pss_nil)
      (pss_one (ps_ret (pe_def DH hr3 (by rfl) (pa_cons (pv 0) pa_nil))))), ?_⟩
    unfold grp at q
    refine ⟨_, rfl, rfl, _, rfl, ite2 (fun c => ?_) fun c => ?_⟩
    · have c : z = 5 := by
        have := of_decide_eq_true c
        injection this
      rw [if_pos c] at q
      exact ⟨_, rfl, t, F, st.n, st.ballots, rfl, hT, by omega, by omega, q⟩
    · have c : ¬ z = 5 := fun e => c (decide_eq_true (by rw [e]))
      rw [if_neg c] at q
      refine ⟨_, rfl, rfl, _, rfl, ite2 (fun c => ?_) fun c => ?_⟩
      · have c : z = 6 := by
          have := of_decide_eq_true c
          injection this
        rw [if_pos c] at q
        exact ⟨_, rfl, t, F, st.n, st.ballots, rfl, hT, by omega, q⟩
      · have c : ¬ z = 6 := fun e => c (decide_eq_true (by rw [e]))
        rw [if_neg c] at q
        exact ⟨_, rfl, t, F, st.n, st.ballots, rfl, hT, hn, q⟩
/-! ### answer_with_candidates -/
abbrev sWith : Stmt := top 46
structure Asked (C : Addr) (H : Hp) (t : Addr) (F : List Addr) (s : Rc61.Abs) (pl od : Addr) (c : Cl) : Prop where
  tal : Tal C H t F s.n s.ballots
  good : Good s
  form : Form c
  cb : CB c
  plain : H pl = some (.lst (iv (args c)))
  order : H od = some (.lst (iv (ord c)))
  apart : od ∉ F
def spWith (C : Addr) : Sp := fun vs H Q _ => ∃ (t : Addr) (F : List Addr) (s : Rc61.Abs) (c : Cl) (pl od : Addr) (z : Int), vs = [.ref t, .int z, .ref pl, .ref od] ∧ z = num c ∧ Asked C H t F s pl od c ∧ s.n ≠ 0 ∧ num c ≠ 0 ∧ num c ≠ 1 ∧ Done C H Q t F (nx s c).1 (nx s c).2
theorem scWith : FnScope ["tally", "number", "plain", "order"] ["tally", "number", "plain", "order"] (defScope sWith) := ⟨rfl, rfl, rfl, by decide +kernel, rfl, by decide +kernel, by decide +kernel⟩
theorem ok_with {f : Addr} {fd : FuncData} (F : Fun K "answer_with_candidates" "answer_with_candidates" sWith f fd)
    (g2 : Cst mg "BALLOT" 2) (g3 : Cst mg "WINS" 3) (g4 : Cst mg "FIRST" 4) (g8 : Cst mg "TURNS" 8) (g9 : Cst mg "CALMEST" 9) (g10 : Cst mg "RANKED" 10)
    (D2 : Dfn P w K mg base 2 "answer_ballot" ["tally", "order", "times"] (spAnsBallot C)) (D3 : Dfn P w K mg base 2 "answer_wins" ["tally", "winner", "loser"] (spAnsWins C)) (D4 : Dfn P w K mg base 4 "answer_first" ["tally"] (spAnsFirst C))
    (D8 : Dfn P w K mg base 3 "answer_turns" ["tally", "order"] (spAnsTurns C)) (DO : Dfn P w K mg base 1 "answer_order" ["order"] spAnsOrder) (D9 : Dfn P w K mg base 5 "calmest_order" ["tally"] (spCalm C)) (D10 : Dfn P w K mg base 4 "order_by_pairs" ["tally"] (spRanked C))
    (DG : Dfn P w K mg base 5 "group_asked_for" ["tally", "number"] (spGroup C)) : FnOk P w K mg base CX0 6 f fd ["tally", "number", "plain", "order"] (spWith C) := by
  obtain ⟨t2, g2⟩ := g2
  obtain ⟨t3, g3⟩ := g3
  obtain ⟨t4, g4⟩ := g4
  obtain ⟨t8, g8⟩ := g8
  obtain ⟨t9, g9⟩ := g9
  obtain ⟨t10, g10⟩ := g10
  refine F.ok scWith (fun vs H Q E h => ?_) (fun cdv A outer s H vs Q E hr h => ?_)
  · obtain ⟨t, F, st, c, pl, od, z, rfl, _⟩ := h
    rfl
  · obtain ⟨t, F, st, c, pl, od, z, rfl, hz, hA, h0, hn0, hn1, q⟩ := h
    have hr1 : Room 1 _ := hr.mono (by decide)
    have hr2 : Room 2 _ := hr.mono (by decide)
    have hr3 : Room 3 _ := hr.mono (by decide)
    have hr4 : Room 4 _ := hr.mono (by decide)
    refine ⟨_, pss_cons (ps_if (pt_cmpR op_eq (pv 1) (pe_glob (v := .int 2) (by rfl) g2 ⟨_, rfl⟩) (nomark _)) (pss_one (ps_ret (pe_def D2 hr2 (by rfl) (pa_cons (pv 0) (pa_cons (pv 3) (pa_cons (pe_ix ix_list (pv 2) pe_int (fun _ _ => rfl)) pa_nil)))))) pss_nil)
      (pss_cons (ps_if (pt_cmpR op_eq (pv 1) (pe_glob (v := .int 3) (by rfl) g3 ⟨_, rfl⟩) (nomark _)) (pss_one (ps_ret (pe_def D3 hr2 (by rfl) (pa_cons (pv 0) (pa_cons (pe_ix ix_list (pv 2) pe_int (fun _ _ => rfl)) (pa_cons (pe_ix ix_list (pv 2) pe_int (fun _ _ => rfl)) pa_nil)))))) pss_nil)
      (pss_cons (ps_if (pt_cmpR op_eq (pv 1) (pe_glob (v := .int 4) (by rfl) g4 ⟨_, rfl⟩) (nomark _)) (pss_one (ps_ret (pe_def D4 hr4 (by rfl) (pa_cons (pv 0) pa_nil)))) pss_nil)
      (pss_cons (ps_if (pt_cmpR op_eq (pv 1) (pe_glob (v := .int 8) (by rfl) g8 ⟨_, rfl⟩) (nomark _)) (pss_one (ps_ret (pe_def D8 hr3 (by rfl) (pa_cons (pv 0) (pa_cons (pv 3) pa_nil))))) pss_nil)
      (pss_cons (ps_if (pt_cmpR op_eq (pv 1) (pe_glob (v := .int 9) (by rfl) g9 ⟨_, rfl⟩) (nomark _)) (pss_one (ps_ret (pe_def DO hr1 (by rfl) (pa_cons (pe_def D9 hr (by rfl) (pa_cons (pv 0) pa_nil)) pa_nil)))) pss_nil)
      (pss_cons (ps_if (pt_cmpR op_eq (pv 1) (pe_glob (v := .int 10) (by rfl) g10 ⟨_, rfl⟩) (nomark _)) (pss_one (ps_ret (pe_def DO hr1 (by rfl) (pa_cons (pe_def D10 hr4 (by rfl) (pa_cons (pv 0) pa_nil)) pa_nil)))) pss_nil)
      (pss_one (ps_ret (pe_lst (pa_cons (pe_def DG hr (by rfl) (pa_cons (pv 0) (pa_cons (pv 1) pa_nil))) pa_nil))))))))), ?_⟩
    have hn := hA.good.n
    have grpCase : ∀ (k : Int), z = k → (∀ H', Same H H' → ∀ p, H' p = none → Q (.ref p) (upd H' p (.lst [.int (grp st k : Nat)]))) →
        tRet (tLst (tCons (tC1 (spGroup C) (tCons (tVar 0) (tCons (tVar 1) tNil))) tNil)) { nx := fun _ H' => Q .non H', rt := Q } (L2.start ["tally", "number", "plain", "order"] [.ref t, .int z, .ref pl, .ref od]) H := fun k hk hq => by
      subst hk
      exact ⟨_, rfl, _, rfl, t, F, st, z, rfl, hA.tal, h0, hn, fun H1 s1 => ⟨(by show 1 ≤ sizeLine; decide), fun p hp => hq H1 s1 p hp⟩⟩
    have hform := hA.form
    cases hform with
    | begin => exact absurd rfl hn0
    | cand n => exact absurd rfl hn1
    | ballot k o =>
      obtain rfl : z = 2 := hz
      obtain ⟨⟨k0, k1⟩, ol, ob⟩ := cb_ballot hA.cb
      refine ⟨_, rfl, rfl, _, rfl, yep rfl ?_⟩
      exact ⟨_, rfl, _, rfl, _, rfl, pl, _, 0, .int k, rfl, rfl, sqL hA.plain, atI_nat (j := 0) rfl, t, F, st, od, k, o, rfl, hA.tal, h0, by omega, hA.order, hA.apart, ol, fun x hx => (ob x hx).1, k0, hA.good.len, q⟩
    | wins i j =>
      obtain rfl : z = 3 := hz
      refine ⟨_, rfl, rfl, _, rfl, no (by decide) ⟨_, rfl, rfl, _, rfl, yep rfl ?_⟩⟩
      have es : (nx st [[3, i, j]]).1 = st := by
        rw [nx_wins h0]
        split <;> rfl
      rw [es] at q
      exact ⟨_, rfl, _, rfl, pl, _, 0, .int i, rfl, rfl, sqL hA.plain, atI_nat (j := 0) rfl, _, rfl, pl, _, 1, .int j, rfl, rfl, sqL hA.plain, atI_nat (j := 1) rfl, t, F, st, i, j, rfl, hA.tal, h0, q.ro hA.tal⟩
    | first =>
      obtain rfl : z = 4 := hz
      refine ⟨_, rfl, rfl, _, rfl, no (by decide) ⟨_, rfl, rfl, _, rfl, no (by decide) ⟨_, rfl, rfl, _, rfl, yep rfl ?_⟩⟩⟩
      have es : (nx st [[4]]).1 = st := by rw [nx_first h0]
      rw [es] at q
      exact ⟨_, rfl, t, F, st, rfl, hA.tal, h0, by omega, q.ro hA.tal⟩
    | turns o =>
      obtain rfl : z = 8 := hz
      obtain ⟨ol, ob⟩ := cb_turns hA.cb
      refine ⟨_, rfl, rfl, _, rfl, no (by decide) ⟨_, rfl, rfl, _, rfl, no (by decide) ⟨_, rfl, rfl, _, rfl, no (by decide) ⟨_, rfl, rfl, _, rfl, yep rfl ?_⟩⟩⟩⟩
      have es : (nx st [[8], o]).1 = st := by
        rw [nx_turns h0]
        split <;> rfl
      rw [es] at q
      exact ⟨_, rfl, _, rfl, t, F, st, od, o, rfl, hA.tal, h0, by omega, hA.order, ol, fun x hx => (ob x hx).1, q.ro hA.tal⟩
    | calmest =>
      obtain rfl : z = 9 := hz
      refine ⟨_, rfl, rfl, _, rfl, no (by decide) ⟨_, rfl, rfl, _, rfl, no (by decide) ⟨_, rfl, rfl, _, rfl, no (by decide) ⟨_, rfl, rfl, _, rfl, no (by decide) ⟨_, rfl, rfl, _, rfl, yep rfl ?_⟩⟩⟩⟩⟩
      rw [nx_calmest h0] at q
      refine ⟨_, rfl, t, F, st.n, st.ballots, rfl, hA.tal, by omega, hn, ⟨hA.good.len, hA.good.times⟩, fun H1 p s1 hp e hl => ⟨p, _, rfl, e, by omega, fun H2 p2 s2 hp2 e2 => ?_⟩⟩
      rw [hl] at e2
      exact q.ro hA.tal H2 p2 (s1.trans s2) (s1.free hp2) e2
    | ranked =>
      obtain rfl : z = 10 := hz
      refine ⟨_, rfl, rfl, _, rfl, no (by decide) ⟨_, rfl, rfl, _, rfl, no (by decide) ⟨_, rfl, rfl, _, rfl, no (by decide) ⟨_, rfl, rfl, _, rfl, no (by decide) ⟨_, rfl, rfl, _, rfl, no (by decide) ⟨_, rfl, rfl, _, rfl, yep rfl ?_⟩⟩⟩⟩⟩⟩
      rw [nx_ranked h0] at q
      refine ⟨_, rfl, t, F, st.n, st.ballots, rfl, hA.tal, hn, fun H1 p s1 hp e hl => ⟨p, _, rfl, e, by omega, fun H2 p2 s2 hp2 e2 => ?_⟩⟩
      rw [hl] at e2
      exact q.ro hA.tal H2 p2 (s1.trans s2) (s1.free hp2) e2
    | smallest =>
      obtain hz : z = 5 := hz
      rw [nx_smallest h0] at q
      have hg := grpCase 5 hz fun H1 s1 p hp => q.ro hA.tal _ p (s1.trans (same_new hp)) (s1.free hp) upd_same
      subst hz
      exact ⟨_, rfl, rfl, _, rfl, no (by decide) ⟨_, rfl, rfl, _, rfl, no (by decide) ⟨_, rfl, rfl, _, rfl, no (by decide) ⟨_, rfl, rfl, _, rfl, no (by decide) ⟨_, rfl, rfl, _, rfl, no (by decide) ⟨_, rfl, rfl, _, rfl, no (by decide) hg⟩⟩⟩⟩⟩⟩
    | uncovered =>
      obtain hz : z = 6 := hz
      rw [nx_uncovered h0] at q
      have hg := grpCase 6 hz fun H1 s1 p hp => q.ro hA.tal _ p (s1.trans (same_new hp)) (s1.free hp) upd_same
      subst hz
      exact ⟨_, rfl, rfl, _, rfl, no (by decide) ⟨_, rfl, rfl, _, rfl, no (by decide) ⟨_, rfl, rfl, _, rfl, no (by decide) ⟨_, rfl, rfl, _, rfl, no (by decide) ⟨_, rfl, rfl, _, rfl, no (by decide) ⟨_, rfl, rfl, _, rfl, no (by decide) hg⟩⟩⟩⟩⟩⟩
    | heads =>
      obtain hz : z = 7 := hz
      rw [nx_heads h0] at q
      have hg := grpCase 7 hz fun H1 s1 p hp => q.ro hA.tal _ p (s1.trans (same_new hp)) (s1.free hp) upd_same
      subst hz
      exact ⟨_, rfl, rfl, _, rfl, no (by decide) ⟨_, rfl, rfl, _, rfl, no (by decide) ⟨_, rfl, rfl, _, rfl, no (by decide) ⟨_, rfl, rfl, _, rfl, no (by decide) ⟨_, rfl, rfl, _, rfl, no (by decide) ⟨_, rfl, rfl, _, rfl, no (by decide) hg⟩⟩⟩⟩⟩⟩
end
end Tv

set_option maxRecDepth 100000
set_option maxHeartbeats 4000000
namespace Tv
open PySem PySem.Spec PyProof.Rows L2
theorem Tal.kp {C : Addr} {H H' : Hp} {t D : Addr} {F : List Addr} {n : Nat} {b : List Rc61.Ballot} (h : Tal C H t F n b) (k : Kp D H H') (h1 : D ≠ t) (h2 : D ∉ F) : Tal C H' t F n b := by
  obtain ⟨dx, wl, rs, rfl, x⟩ := h
  rw [List.mem_cons, not_or] at h2
  refine ⟨dx, wl, rs, rfl, k _ _ (Ne.symm h1) x.obj, k _ _ (Ne.symm h2.1) x.tab, x.len, x.nd, fun i r e => k _ _ (fun z => h2.2 ?_) (x.rows i r e)⟩
  rw [← z]
  exact List.mem_of_getElem? e
section
variable {P : Program} {w : World} {K : PySem.W.Frag} {mg : Str → Option Value} {base : Heap} {C : Addr}
/-! ### answer_call -/
abbrev sCall : Stmt := top 45
def spCall (C : Addr) : Sp := fun vs H Q _ => ∃ (t : Addr) (F : List Addr) (s : Rc61.Abs) (c : Cl) (pl od : Addr) (z : Int), vs = [.ref t, .int z, .ref pl, .ref od] ∧ z = num c ∧ Asked C H t F s pl od c ∧ Done C H Q t F (nx s c).1 (nx s c).2
theorem scCall : FnScope ["tally", "number", "plain", "order"] ["tally", "number", "plain", "order"] (defScope sCall) := ⟨rfl, rfl, rfl, by decide +kernel, rfl, by decide +kernel, by decide +kernel⟩
theorem ok_call {f : Addr} {fd : FuncData} (F : Fun K "answer_call" "answer_call" sCall f fd) (T : Txt K C) (g0 : Cst mg "BEGIN" 0) (g1 : Cst mg "CANDIDATES" 1)
    (D0 : Dfn P w K mg base 2 "answer_begin" ["tally"] (spAnsBegin C)) (D1 : Dfn P w K mg base 2 "answer_candidates" ["tally", "size"] (spAnsCand C)) (DW : Dfn P w K mg base 6 "answer_with_candidates" ["tally", "number", "plain", "order"] (spWith C)) :
    FnOk P w K mg base CX0 7 f fd ["tally", "number", "plain", "order"] (spCall C) := by
  obtain ⟨t0, g0⟩ := g0
  obtain ⟨t1, g1⟩ := g1
  refine F.ok scCall (fun vs H Q E h => ?_) (fun cdv A outer s H vs Q E hr h => ?_)
  · obtain ⟨t, F, st, c, pl, od, z, rfl, _⟩ := h
    rfl
  · obtain ⟨t, F, st, c, pl, od, z, rfl, hz, hA, q⟩ := h
    have hr2 : Room 2 _ := hr.mono (by decide)
    refine ⟨_, pss_cons (ps_if (pt_cmpR op_eq (pv 1) (pe_glob (v := .int 0) (by rfl) g0 ⟨_, rfl⟩) (nomark _)) (pss_one (ps_ret (pe_def D0 hr2 (by rfl) (pa_cons (pv 0) pa_nil)))) pss_nil)
      (pss_cons (ps_if (pt_cmpR op_eq (pv 1) (pe_glob (v := .int 1) (by rfl) g1 ⟨_, rfl⟩) (nomark _)) (pss_one (ps_ret (pe_def D1 hr2 (by rfl) (pa_cons (pv 0) (pa_cons (pe_ix ix_list (pv 2) pe_int (fun _ _ => rfl)) pa_nil))))) pss_nil)
      (pss_cons (ps_if (pt_cmpR op_eq (pe_sz T (pv 0)) pe_int (nomark _)) (pss_one (ps_ret (pe_lst (pa_cons (pe_un un_neg pe_int) pa_nil)))) pss_nil)
      (pss_one (ps_ret (pe_def DW hr (by rfl) (pa_cons (pv 0) (pa_cons (pv 1) (pa_cons (pv 2) (pa_cons (pv 3) pa_nil)))))))))  , ?_⟩
    have hform := hA.form
    by_cases e0 : num c = 0
    · have ec : c = [[0]] := by
        cases hform with
        | begin => rfl
        | _ => exact absurd e0 (by simp [num])
      subst ec
      obtain rfl : z = 0 := hz
      rw [nx_begin] at q
      exact ⟨_, rfl, rfl, _, rfl, yep rfl ⟨_, rfl, t, F, st.n, st.ballots, rfl, hA.tal, q⟩⟩
    by_cases e1 : num c = 1
    · obtain ⟨n, ec⟩ : ∃ n, c = [[1, n]] := by
        cases hform with
        | cand n => exact ⟨n, rfl⟩
        | _ => exact absurd e1 (by simp [num])
      subst ec
      obtain rfl : z = 1 := hz
      exact ⟨_, rfl, rfl, _, rfl, no (by decide) ⟨_, rfl, rfl, _, rfl, yep rfl ⟨_, rfl, _, rfl, pl, _, 0, .int n, rfl, rfl, sqL hA.plain, atI_nat (j := 0) rfl, t, F, st, n, rfl, hA.tal, q⟩⟩⟩
    subst hz
    refine ⟨_, rfl, rfl, _, rfl, no e0 ⟨_, rfl, rfl, _, rfl, no e1 ?_⟩⟩
    have hT0 := hA.tal
    have hT := hA.tal
    obtain ⟨dx, wl, rs, eF, x⟩ := hT
    refine ⟨t, dx, _, _, wl, rfl, x.obj, rfl, _, rfl, ite2 (fun c0 => ?_) fun c0 => ?_⟩
    · have h0 : st.n = 0 := by
        have := of_decide_eq_true c0
        injection this with this
        omega
      rw [nx_zero h0 hform e0 e1] at q
      exact ⟨_, rfl, (by show 1 ≤ sizeLine; decide), fun p hp => q.ro hT0 _ p (same_new hp) hp upd_same⟩
    · have h0 : st.n ≠ 0 := fun e => c0 (decide_eq_true (by rw [e]; rfl))
      exact ⟨_, rfl, _, rfl, _, rfl, _, rfl, t, F, st, c, pl, od, num c, rfl, rfl, hA, h0, e0, e1, q⟩
/-! ### answers -/
abbrev sAll : Stmt := top 44
def spAns (K : PySem.W.Frag) : Sp := fun vs H Q _ => ∃ (a : Addr) (ns : List Int), vs = [.ref a] ∧ SqL K H a (iv ns) ∧ PyRc61.answers_asked ns = true ∧ ns.length ≤ 30000 ∧
  ∀ H' p, H' p = some (.lst (iv (PyRc61.answers ns))) → Q (.ref p) H'
theorem scAll : FnScope ["calls", "tally", "told", "number", "plain", "order", "answer"] ["calls"] (defScope sAll) := ⟨rfl, rfl, rfl, by decide +kernel, rfl, by decide +kernel, by decide +kernel⟩
theorem take_next {α : Type} {l : List α} {i : Nat} {x : α} (h : l[i]? = some x) : l.take (i + 1) = l.take i ++ [x] := by
  rw [List.take_succ, h]
  rfl
theorem ok_all {f fI : Addr} {fd fdI : FuncData} (F : Fun K "answers" "answers" sAll f fd) (gC : mg "Tally" = some (.ref C)) (M : Mk K C fI) (GI : FnOk P w K mg base CX0 1 fI fdI ["self"] (spInit C)) (bI : Binds K fdI ["self"] []) (ml : mg "len" = none)
    (DR : Dfn P w K mg base 2 "read_calls" ["calls"] (spRead K)) (DC : Dfn P w K mg base 7 "answer_call" ["tally", "number", "plain", "order"] (spCall C)) : FnOk P w K mg base CX0 8 f fd ["calls"] (spAns K) := by
  refine F.ok scAll (fun vs H Q E h => ?_) (fun cdv A outer s H vs Q E hr h => ?_)
  · obtain ⟨a, ns, rfl, _⟩ := h
    rfl
  · obtain ⟨a, ns, rfl, hS, hask, hlen, q⟩ := h
    have hr2 : Room 2 _ := hr.mono (by decide)
    refine ⟨_, pss_cons (ps_set (i := 1) scAll.nd rfl (Or.inl rfl) (pe_make0 M GI hr2 rfl gC bI .nil pass0))
      (pss_cons (ps_set (i := 2) scAll.nd rfl (Or.inl rfl) (pe_lst pa_nil))
      (pss_cons (ps_for PassesOwn.never rfl (pi_list (pe_def DR hr2 (by rfl) (pa_cons (pv 0) pa_nil)))
        (pg_tup rfl (pgs_cons (pg_name (i := 3) scAll.nd rfl (Or.inl rfl)) (pgs_cons (pg_name (i := 4) scAll.nd rfl (Or.inl rfl)) (pgs_cons (pg_name (i := 5) scAll.nd rfl (Or.inl rfl)) pgs_nil))))
        (pss_cons (ps_set (i := 6) scAll.nd rfl (Or.inl rfl) (pe_def DC hr (by rfl) (pa_cons (pv 1) (pa_cons (pv 3) (pa_cons (pv 4) (pa_cons (pv 5) pa_nil))))))
        (pss_cons (ps_expr (pe_bm PySem.F.plainAttrs_list PySem.F.slot_list_append PySem.F.type_list_append mt_append (pv 2) (pa_cons (pe_callB call_len_seq (by rfl) ml PySem.boot_len (pa_cons (pv 6) pa_nil)) pa_nil)))
        (pss_one (ps_expr (pe_bm PySem.F.plainAttrs_list PySem.F.slot_list_extend PySem.F.type_list_extend mt_extend (pv 2) (pa_cons (pv 6) pa_nil)))))))
      (pss_one (ps_ret (pv 2))))), ?_⟩
    obtain ⟨raw, eraw, hraw, eans, hle⟩ := line_of hask
    subst eraw
    rw [eans] at q
    have hforms : ∀ c ∈ raw, Form c := fun c hc => form_of (hraw c hc).1
    -- tally = Tally()
    intro t dx0 ht hdx hne0
    refine ⟨t, dx0, rfl, upd_same, fun H1 wl hwl hT1 k1 => ⟨rfl, ?_⟩⟩
    have s1 : Same H H1 := fun b o e => by
      refine k1 b o ?_ (ne_of_none e ht)
      rw [upd_ne (ne_of_none e ht), upd_ne (ne_of_none e hdx)]
      exact e
    -- told = []
    refine ⟨Nat.zero_le _, fun ol hol => ?_⟩
    have s2 : Same H1 (upd H1 ol (.lst [])) := same_new hol
    have c2 : (upd H1 ol (.lst [])) ol = some (.lst []) := upd_same
    generalize upd H1 ol (.lst []) = H2 at s2 c2
    have hT2 := hT1.same s2
    obtain ⟨ot, ht2⟩ : ∃ o, H2 t = some o := by
      obtain ⟨dx, wl', rs, _, x⟩ := hT2
      exact ⟨_, x.obj⟩
    obtain ⟨ow, hw2⟩ := hT2.old wl (by simp)
    have holt : ol ≠ t := fun e => by
      obtain ⟨dx, wl', rs, _, x⟩ := hT1
      rw [e, x.obj] at hol
      cases hol
    have holw : ol ≠ wl := fun e => by
      obtain ⟨o, h⟩ := hT1.old wl (by simp)
      rw [e, h] at hol
      cases hol
    -- read_calls(calls)
    refine ⟨_, rfl, a, raw, rfl, (s1.trans s2).seq hS, hforms, hlen, fun H3 p ys s3 hp e3 hpr => ?_⟩
    have old : ∀ {z : Addr} {o : HO}, H2 z = none → H3 z = some o → z ≠ t ∧ z ≠ wl ∧ z ≠ ol := fun hz _ => ⟨(ne_of_none ht2 hz).symm, (ne_of_none hw2 hz).symm, (ne_of_none c2 hz).symm⟩
    refine ⟨p, rfl, ⟨_, sqL e3⟩, for_list (K := K) (a := p) (xs := ys) (fun i σ H' => ∃ (F : List Addr) (v3 v4 v5 v6 : Option V), σ = [some (.ref a), some (.ref t), some (.ref ol), v3, v4, v5, v6] ∧
        Tal C H' t F (stAt {} (raw.take i)).n (stAt {} (raw.take i)).ballots ∧ Good (stAt {} (raw.take i)) ∧ H' ol = some (.lst (iv (PyFlat.told (played {} (raw.take i))))) ∧ ol ∉ F ∧ (∀ y ∈ F, y = wl ∨ H3 y = none) ∧
        (∀ b o, b ≠ t → b ≠ wl → b ≠ ol → H3 b = some o → H' b = some o))
      ⟨[wl], none, none, none, none, rfl, hT2.same s3, Good.start, s3 _ _ c2, by rw [List.mem_singleton]; exact holw, fun y hy => .inl (List.mem_singleton.mp hy), fun _ _ _ _ _ e => e⟩
      (fun i σ H' _ ⟨_, _, _, _, _, _, _, _, _, _, _, k⟩ => by
        obtain ⟨a1, a2, a3⟩ := old hp e3
        exact sqL (k _ _ a1 a2 a3 e3)) (fun i y σ H4 hi hP => ?_) fun σ H4 hP => ?_⟩
    · obtain ⟨F, v3, v4, v5, v6, rfl, hT4, hG, c4, hoF, hF, k4⟩ := hP
      obtain ⟨c, hc, r, pl, od, ey, hnew, hr3, hpl3, hod3⟩ := pr_get hpr hi
      subst ey
      have hcm : c ∈ raw := List.mem_of_getElem? hc
      have up : ∀ {z : Addr} {o : HO}, H2 z = none → H3 z = some o → H4 z = some o := fun hz e => by
        obtain ⟨a1, a2, a3⟩ := old hz e
        exact k4 _ _ a1 a2 a3 e
      have hr4 := up (hnew r (by simp)).2 hr3
      have hpl4 := up (hnew pl (by simp)).2 hpl3
      have hod4 := up (hnew od (by simp)).2 hod3
      have hodF : od ∉ F := fun z => by
        rcases hF _ z with e | e
        · exact (old (hnew od (by simp)).2 hod3).2.1 e
        · rw [hod3] at e
          cases e
      refine ⟨r, _, rfl, sqT hr4, rfl, _, _, rfl, _, _, rfl, _, _, rfl, rfl, ?_⟩
      -- answer = answer_call(..)
      refine ⟨_, rfl, _, rfl, _, rfl, _, rfl, t, F, stAt {} (raw.take i), c, pl, od, num c, rfl, rfl, ⟨hT4, hG, hforms c hcm, (hraw c hcm).2, hpl4, hod4, hodF⟩, fun H5 F5 pa hT5 hF5 k5 hpa c5 hpaF => ?_⟩
      have hpao : pa ≠ ol := (ne_of_none c4 hpa).symm
      have o5 := k5 ol _ holt hoF c4
      have step : PyFlat.told (played {} (raw.take (i + 1))) = PyFlat.told (played {} (raw.take i)) ++ (((nx (stAt {} (raw.take i)) c).2.length : Int) :: (nx (stAt {} (raw.take i)) c).2) := by
        rw [take_next hc, played_app {}, told_app]
      have hle2 : (PyFlat.told (played {} (raw.take i))).length + (1 + (nx (stAt {} (raw.take i)) c).2.length) ≤ 10000000 := by
        have h := Nat.le_trans (told_le {} raw (i + 1) {}) hle
        rw [step, List.length_append, List.length_cons] at h
        omega
      -- told.append(len(answer))
      refine ⟨_, rfl, Or.inl ⟨rfl, _, sqL o5⟩, _, rfl, pa, _, rfl, .inl (sqL c5), ol, _, _, rfl, rfl, o5, ?_, ?_⟩
      · rw [iv_len]
        exact Nat.lt_of_lt_of_le (show (PyFlat.told (played {} (raw.take i))).length < 10000000 by omega) (by show 10000000 ≤ sizeLine; decide)
      have k6 : Kp ol H5 (upd H5 ol (.lst (iv (PyFlat.told (played {} (raw.take i))) ++ [.int ((iv (nx (stAt {} (raw.take i)) c).2).length : Int)]))) := fun b o hb e => by
        rw [upd_ne hb]
        exact e
      have c6 : (upd H5 ol (.lst (iv (PyFlat.told (played {} (raw.take i))) ++ [.int ((iv (nx (stAt {} (raw.take i)) c).2).length : Int)]))) ol = some (.lst (iv (PyFlat.told (played {} (raw.take i))) ++ [.int ((iv (nx (stAt {} (raw.take i)) c).2).length : Int)])) := upd_same
      generalize upd H5 ol (.lst (iv (PyFlat.told (played {} (raw.take i))) ++ [.int ((iv (nx (stAt {} (raw.take i)) c).2).length : Int)])) = H6 at k6 c6
      -- told.extend(answer)
      refine ⟨_, rfl, Or.inl ⟨rfl, _, sqL c6⟩, _, rfl, ol, pa, _, _, rfl, rfl, c6, k6 _ _ hpao c5, ?_, ?_⟩
      · rw [List.length_append, iv_len, iv_len]
        exact Nat.le_trans (show (PyFlat.told (played {} (raw.take i))).length + 1 + (nx (stAt {} (raw.take i)) c).2.length ≤ 10000000 by omega) (by show 10000000 ≤ sizeLine; decide)
      · have hoF5 : ol ∉ F5 := fun z => by
          rcases hF5 _ z with e | e
          · exact hoF e
          · rw [c4] at e
            cases e
        have k7 : Kp ol H5 (upd H6 ol (.lst (iv (PyFlat.told (played {} (raw.take i))) ++ [.int ((iv (nx (stAt {} (raw.take i)) c).2).length : Int)] ++ iv (nx (stAt {} (raw.take i)) c).2))) := fun b o hb e => by
          rw [upd_ne hb]
          exact k6 _ _ hb e
        refine ⟨F5, _, _, _, _, rfl, ?_, ?_, ?_, hoF5, fun y hy => ?_, fun b o h1 h2 h3 e => ?_⟩
        · rw [take_next hc, stAt_app]
          exact hT5.kp k7 holt hoF5
        · rw [take_next hc, stAt_app]
          exact hG.nx (hforms c hcm) (hraw c hcm).2
        · rw [upd_same, step, iv_len]
          unfold iv
          rw [List.map_append, List.map_cons, List.append_assoc]
          rfl
        · rcases hF5 _ hy with e | e
          · exact hF _ e
          · by_cases hyw : y = wl
            · exact .inl hyw
            · refine .inr ?_
              cases h : H3 y with
              | none => rfl
              | some o =>
                exfalso
                have hyt : y ≠ t := fun z => by
                  obtain ⟨dx, wl', rs, _, x⟩ := hT4
                  rw [z, x.obj] at e
                  cases e
                have hyo : y ≠ ol := fun z => by
                  rw [z, c4] at e
                  cases e
                have := k4 _ _ hyt hyw hyo h
                rw [this] at e
                cases e
        · refine k7 _ _ h3 (k5 _ _ h1 (fun z => ?_) (k4 _ _ h1 h2 h3 e))
          rcases hF _ z with z | z
          · exact h2 z
          · rw [e] at z
            cases z
    · obtain ⟨F, v3, v4, v5, v6, rfl, hT4, hG, c4, hoF, hF, k4⟩ := hP
      rw [← hpr.length, List.take_length] at c4
      exact ⟨_, rfl, q H4 ol c4⟩
end
end Tv

set_option maxRecDepth 100000
set_option maxHeartbeats 8000000
namespace Tv
open PySem PySem.Spec PyProof.Rows L2
/-- a def that stands in the text -/
structure InText (K : PySem.W.Frag) (x : Str) (st : Stmt) : Prop where
  ex : ∃ (f : Addr) (fd : FuncData), Fun K x x st f fd ∧ PySem.W.nsIn K mainGlobals x = some (some (.ref f))
theorem InText.mk' {K : PySem.W.Frag} {x : Str} {st : Stmt} {f : Addr} {od an : Option Addr} {oc kV dc pm cd ct : Value} {sl : Array (Option Value)} (a : PySem.W.nsIn K mainGlobals x = some (some (.ref f)))
    (l : K.lookup f = some ⟨oc, od, .func (PySem.W.fnOf x x (defArgs st) (defBody st) (defScope st) .none kV dc pm an cd ct), sl⟩) (c : PySem.W.codeIn K cd x = true) (k : PySem.W.keepIn K (.ref f) = true) : InText K x st := ⟨f, _, fun_mk l c k, a⟩
/-- a method that stands in the class -/
structure InCls (K : PySem.W.Frag) (C : Addr) (x q : Str) (st : Stmt) : Prop where
  ex : ∃ (f : Addr) (fd : FuncData), Fun K x q st f fd ∧ Meth K C x f
theorem InCls.mk' {K : PySem.W.Frag} {C : Addr} {x q : Str} {st : Stmt} {f : Addr} {od an : Option Addr} {oc kV dc pm cd ct : Value} {sl : Array (Option Value)} (a : PySem.W.findIn K (.ref C) x = some (some (.ref f))) (i : PySem.W.isFn K (.ref f) = true)
    (l : K.lookup f = some ⟨oc, od, .func (PySem.W.fnOf x q (defArgs st) (defBody st) (defScope st) .none kV dc pm an cd ct), sl⟩) (c : PySem.W.codeIn K cd q = true) (k : PySem.W.keepIn K (.ref f) = true) : InCls K C x q st := ⟨f, _, fun_mk l c k, a, i, k⟩
theorem txt_mk {K : PySem.W.Frag} {C : Addr} (pg : PySem.W.plainGet K C Str.empty = true) (hd : PySem.W.hasDictIn K C = true) (po : PySem.W.plainOver K C = true) (sa : PySem.W.findIn K (.ref C) "__setattr__" = some (some (.builtin "object.__setattr__")))
    (nS : PySem.W.findIn K (.ref C) "size" = some none) (nB : PySem.W.findIn K (.ref C) "ballots" = some none) (nW : PySem.W.findIn K (.ref C) "wins" = some none) : Txt K C := ⟨⟨pg, hd, po, sa⟩, nS, nB, nW⟩
def Num (K : PySem.W.Frag) (x : Str) (z : Int) : Prop := ∃ t, PySem.W.nsIn K mainGlobals x = some (some (.int z t))
theorem Num.mk' {K : PySem.W.Frag} {x : Str} {z : Int} {t : Tok} (h : PySem.W.nsIn K mainGlobals x = some (some (.int z t))) : Num K x z := ⟨t, h⟩
theorem dfn_mk {P : Program} {w : World} {K : PySem.W.Frag} {mg : Str → Option Value} {base h : Heap} {k : Nat} {x : Str} {st : Stmt} {ps : List Str} {sp : Sp} (X : K.In h) (G : h.Ns mainGlobals mg) (a : InText K x st)
    (b : ∀ (f : Addr) (fd : FuncData), Fun K x x st f fd → Binds K fd ps []) (ok : ∀ (f : Addr) (fd : FuncData), Fun K x x st f fd → FnOk P w K mg base CX0 k f fd ps sp) : Dfn P w K mg base k x ps sp := by
  obtain ⟨f, fd, F, e⟩ := a.ex
  exact ⟨⟨f, fd, ok f fd F, PySem.W.mg_of X G e, F.kp, b f fd F⟩⟩
theorem mth_mk {P : Program} {w : World} {K : PySem.W.Frag} {mg : Str → Option Value} {base : Heap} {C : Addr} {k : Nat} {x q : Str} {st : Stmt} {ps : List Str} {sp : Sp} (a : InCls K C x q st)
    (b : ∀ (f : Addr) (fd : FuncData), Fun K x q st f fd → Binds K fd ps []) (ok : ∀ (f : Addr) (fd : FuncData), Fun K x q st f fd → FnOk P w K mg base CX0 k f fd ps sp) : Mth P w K mg base C k x ps sp := by
  obtain ⟨f, fd, F, e⟩ := a.ex
  exact ⟨⟨f, fd, ok f fd F, e, b f fd F⟩⟩
theorem plain_is {K : PySem.W.Frag} {pn : Addr} {oc : Value} {od : Option Addr} {its : Array Value} {n : Nat} {sl : Array (Option Value)} (l : K.lookup pn = some ⟨oc, od, .seq its n, sl⟩) (h1 : oc = .type "tuple") (h2 : ∃ t0 t1 t2 t3 t4 t5 t6 t7 t8 t9 t10, its = #[.int 0 t0, .int 1 t1, .int 1 t2, .int 2 t3, .int 0 t4, .int 0 t5, .int 0 t6, .int 0 t7, .int 0 t8, .int 0 t9, .int 0 t10]) (H : Hp) : SqT K H pn (nums plainN) := by
  obtain ⟨t0, t1, t2, t3, t4, t5, t6, t7, t8, t9, t10, rfl⟩ := h2
  refine .inr ⟨_, _, _, l, h1, rfl, (by show 11 ≤ sizeLine; decide), ?_⟩
  exact .cons ⟨_, rfl⟩ (.cons ⟨_, rfl⟩ (.cons ⟨_, rfl⟩ (.cons ⟨_, rfl⟩ (.cons ⟨_, rfl⟩ (.cons ⟨_, rfl⟩ (.cons ⟨_, rfl⟩ (.cons ⟨_, rfl⟩ (.cons ⟨_, rfl⟩ (.cons ⟨_, rfl⟩ (.cons ⟨_, rfl⟩ .nil))))))))))
theorem all_mk {P : Program} {w : World} {K : PySem.W.Frag} {h : Heap} {mg : Str → Option Value} {fa C pn : Addr} (X : K.In h) (G : h.Ns mainGlobals mg) (hfa : mg "answers" = some (.ref fa))
    (T : Txt K C) (aC : PySem.W.nsIn K mainGlobals "Tally" = some (some (.ref C))) (mk : PySem.W.makesIn K C = true) (kc : PySem.W.keepIn K (.ref C) = true)
    (aP : PySem.W.nsIn K mainGlobals "PLAIN_NUMBERS" = some (some (.ref pn))) (hpn : ∀ H, SqT K H pn (nums plainN))
    (z_sum : PySem.W.nsIn K mainGlobals "sum" = some none)
    (z_range : PySem.W.nsIn K mainGlobals "range" = some none)
    (z_min : PySem.W.nsIn K mainGlobals "min" = some none)
    (z_all : PySem.W.nsIn K mainGlobals "all" = some none)
    (z_any : PySem.W.nsIn K mainGlobals "any" = some none)
    (z_sorted : PySem.W.nsIn K mainGlobals "sorted" = some none)
    (z_list : PySem.W.nsIn K mainGlobals "list" = some none)
    (z_enumerate : PySem.W.nsIn K mainGlobals "enumerate" = some none)
    (z_len : PySem.W.nsIn K mainGlobals "len" = some none)
    (n_BEGIN : Num K "BEGIN" 0)
    (n_CANDIDATES : Num K "CANDIDATES" 1)
    (n_BALLOT : Num K "BALLOT" 2)
    (n_WINS : Num K "WINS" 3)
    (n_FIRST : Num K "FIRST" 4)
    (n_SMALLEST : Num K "SMALLEST" 5)
    (n_UNCOVERED : Num K "UNCOVERED" 6)
    (n_TURNS : Num K "TURNS" 8)
    (n_CALMEST : Num K "CALMEST" 9)
    (n_RANKED : Num K "RANKED" 10)
    (n_MOST_CANDIDATES : Num K "MOST_CANDIDATES" 12)
    (n_MOST_BALLOTS : Num K "MOST_BALLOTS" 256)
    (t_answers : InText K "answers" sAll)
    (c_init : InCls K C "__init__" "Tally.__init__" sInit)
    (t_group_of : InText K "group_of" sGroupOf)
    (t_members_of : InText K "members_of" sMembers)
    (t_unbeaten_by : InText K "unbeaten_by" sUnb)
    (t_beater_of_all : InText K "beater_of_all" sBeater)
    (t_group_around : InText K "group_around" sAround)
    (t_smallest_group : InText K "smallest_group" sSmallest)
    (t_covers : InText K "covers" sCovers)
    (t_is_covered : InText K "is_covered" sIsCov)
    (t_uncovered_group : InText K "uncovered_group" sUncov)
    (t_beats_each : InText K "beats_each" sBeatsEach)
    (t_group_of_heads : InText K "group_of_heads" sHeads)
    (t_last_to_stand : InText K "last_to_stand" sTurns)
    (t_without : InText K "without" sWithout)
    (t_least_quarrel : InText K "least_quarrel" sLeast)
    (t_calmest_fronts : InText K "calmest_fronts" sFronts)
    (t_calmest_order : InText K "calmest_order" sCalm)
    (t_pairs_one_by_one : InText K "pairs_one_by_one" sPairs)
    (t_led_on : InText K "led_on" sLed)
    (t_standing_pairs : InText K "standing_pairs" sStanding)
    (t_order_by_pairs : InText K "order_by_pairs" sRanked)
    (t_has_order : InText K "has_order" sHas)
    (t_read_row : InText K "read_row" sRow)
    (t_read_calls : InText K "read_calls" sRead)
    (t_answer_order : InText K "answer_order" sAnsOrder)
    (t_answer_begin : InText K "answer_begin" sAnsBegin)
    (t_answer_candidates : InText K "answer_candidates" sAnsCand)
    (t_answer_ballot : InText K "answer_ballot" sAnsBallot)
    (t_answer_wins : InText K "answer_wins" sAnsWins)
    (t_answer_first : InText K "answer_first" sAnsFirst)
    (t_answer_turns : InText K "answer_turns" sAnsTurns)
    (t_group_asked_for : InText K "group_asked_for" sGroup)
    (t_answer_with_candidates : InText K "answer_with_candidates" sWith)
    (t_answer_call : InText K "answer_call" sCall)
    (c_start : InCls K C "start" "Tally.start" sStart)
    (c_is_order : InCls K C "is_order" "Tally.is_order" sIsOrder)
    (c_cast : InCls K C "cast" "Tally.cast" sCast)
    (c_is_candidate : InCls K C "is_candidate" "Tally.is_candidate" sIsCand)
    (c_beats : InCls K C "beats" "Tally.beats" sBeats)
    : ∃ fd : FuncData, (∀ (s : Shared) (us : List Value), us.length = (["calls"] : List Str).length → BindsTo s fd ⟨us, []⟩ ((["calls"] : List Str).zip us)) ∧ ∀ base : Heap, K.In base → base.Ns mainGlobals mg → FnOk P w K mg base CX0 8 fa fd ["calls"] (spAns K) := by
  obtain ⟨fb, fd, FA, ea⟩ := t_answers.ex
  have e := hfa.symm.trans (PySem.W.mg_of X G ea)
  cases e
  have bA := FA.binds (ps := ["calls"]) fun _ _ _ _ _ _ us hl => match us, hl with | [_], _ => rfl
  refine ⟨fd, fun s us hu => ?_, fun base _ _ => ?_⟩
  · obtain ⟨oc, od, kV, doc, pm, an, cdv, ct, osl, e, _, _⟩ := FA.ex
    subst e
    exact match us, hu with | [_], _ => .of_eq rfl
  have m_sum : mg "sum" = none := PySem.W.mg_none_of X G z_sum
  have m_range : mg "range" = none := PySem.W.mg_none_of X G z_range
  have m_min : mg "min" = none := PySem.W.mg_none_of X G z_min
  have m_all : mg "all" = none := PySem.W.mg_none_of X G z_all
  have m_any : mg "any" = none := PySem.W.mg_none_of X G z_any
  have m_sorted : mg "sorted" = none := PySem.W.mg_none_of X G z_sorted
  have m_list : mg "list" = none := PySem.W.mg_none_of X G z_list
  have m_enumerate : mg "enumerate" = none := PySem.W.mg_none_of X G z_enumerate
  have m_len : mg "len" = none := PySem.W.mg_none_of X G z_len
  have g_BEGIN : Cst mg "BEGIN" 0 := n_BEGIN.imp fun _ h => PySem.W.mg_of X G h
  have g_CANDIDATES : Cst mg "CANDIDATES" 1 := n_CANDIDATES.imp fun _ h => PySem.W.mg_of X G h
  have g_BALLOT : Cst mg "BALLOT" 2 := n_BALLOT.imp fun _ h => PySem.W.mg_of X G h
  have g_WINS : Cst mg "WINS" 3 := n_WINS.imp fun _ h => PySem.W.mg_of X G h
  have g_FIRST : Cst mg "FIRST" 4 := n_FIRST.imp fun _ h => PySem.W.mg_of X G h
  have g_SMALLEST : Cst mg "SMALLEST" 5 := n_SMALLEST.imp fun _ h => PySem.W.mg_of X G h
  have g_UNCOVERED : Cst mg "UNCOVERED" 6 := n_UNCOVERED.imp fun _ h => PySem.W.mg_of X G h
  have g_TURNS : Cst mg "TURNS" 8 := n_TURNS.imp fun _ h => PySem.W.mg_of X G h
  have g_CALMEST : Cst mg "CALMEST" 9 := n_CALMEST.imp fun _ h => PySem.W.mg_of X G h
  have g_RANKED : Cst mg "RANKED" 10 := n_RANKED.imp fun _ h => PySem.W.mg_of X G h
  have g_MOST_CANDIDATES : Cst mg "MOST_CANDIDATES" 12 := n_MOST_CANDIDATES.imp fun _ h => PySem.W.mg_of X G h
  have g_MOST_BALLOTS : Cst mg "MOST_BALLOTS" 256 := n_MOST_BALLOTS.imp fun _ h => PySem.W.mg_of X G h
  have g_PLAIN : mg "PLAIN_NUMBERS" = some (.ref pn) := PySem.W.mg_of X G aP
  have Mstart : Mth P w K mg base C 1 "start" ["self", "size"] (spStart C) := mth_mk c_start (fun _ _ F => F.binds fun _ _ _ _ _ _ us hl => match us, hl with | [_, _], _ => rfl) fun _ _ F => ok_start F T m_range
  have Mis_order : Mth P w K mg base C 1 "is_order" ["self", "order"] (spIsOrder K C) := mth_mk c_is_order (fun _ _ F => F.binds fun _ _ _ _ _ _ us hl => match us, hl with | [_, _], _ => rfl) fun _ _ F => ok_is_order F T m_range m_sorted m_list
  have Mcast : Mth P w K mg base C 1 "cast" ["self", "order", "times"] (spCast K C) := mth_mk c_cast (fun _ _ F => F.binds fun _ _ _ _ _ _ us hl => match us, hl with | [_, _, _], _ => rfl) fun _ _ F => ok_cast F T m_enumerate
  have Mis_candidate : Mth P w K mg base C 1 "is_candidate" ["self", "number"] (spIsCand C) := mth_mk c_is_candidate (fun _ _ F => F.binds fun _ _ _ _ _ _ us hl => match us, hl with | [_, _], _ => rfl) fun _ _ F => ok_is_cand F T
  have Mbeats : Mth P w K mg base C 1 "beats" ["self", "one", "other"] (spBeats C) := mth_mk c_beats (fun _ _ F => F.binds fun _ _ _ _ _ _ us hl => match us, hl with | [_, _, _], _ => rfl) fun _ _ F => ok_beats F T
  have Dgroup_of : Dfn P w K mg base 1 "group_of" ["members"] (spGroupOf K) := dfn_mk X G t_group_of (fun _ _ F => F.binds fun _ _ _ _ _ _ us hl => match us, hl with | [_], _ => rfl) fun _ _ F => ok_group_of F m_sum
  have Dmembers_of : Dfn P w K mg base 1 "members_of" ["group"] (spMembers) := dfn_mk X G t_members_of (fun _ _ F => F.binds fun _ _ _ _ _ _ us hl => match us, hl with | [_], _ => rfl) fun _ _ F => ok_members F m_range
  have Dunbeaten_by : Dfn P w K mg base 2 "unbeaten_by" ["tally", "candidate"] (spUnb C) := dfn_mk X G t_unbeaten_by (fun _ _ F => F.binds fun _ _ _ _ _ _ us hl => match us, hl with | [_, _], _ => rfl) fun _ _ F => ok_unb F T m_range Mbeats Dgroup_of
  have Dbeater_of_all : Dfn P w K mg base 3 "beater_of_all" ["tally"] (spBeater C) := dfn_mk X G t_beater_of_all (fun _ _ F => F.binds fun _ _ _ _ _ _ us hl => match us, hl with | [_], _ => rfl) fun _ _ F => ok_beater F T m_range Dunbeaten_by Dgroup_of
  have Dgroup_around : Dfn P w K mg base 3 "group_around" ["tally", "candidate"] (spAround C) := dfn_mk X G t_group_around (fun _ _ F => F.binds fun _ _ _ _ _ _ us hl => match us, hl with | [_, _], _ => rfl) fun _ _ F => ok_around F Dmembers_of Dunbeaten_by Dgroup_of
  have Dsmallest_group : Dfn P w K mg base 4 "smallest_group" ["tally"] (spSmallest C) := dfn_mk X G t_smallest_group (fun _ _ F => F.binds fun _ _ _ _ _ _ us hl => match us, hl with | [_], _ => rfl) fun _ _ F => ok_smallest F T m_range m_min Dgroup_around
  have Dcovers : Dfn P w K mg base 2 "covers" ["tally", "one", "other"] (spCovers C) := dfn_mk X G t_covers (fun _ _ F => F.binds fun _ _ _ _ _ _ us hl => match us, hl with | [_, _, _], _ => rfl) fun _ _ F => ok_covers F T m_range m_all Mbeats
  have Dis_covered : Dfn P w K mg base 3 "is_covered" ["tally", "candidate"] (spIsCov C) := dfn_mk X G t_is_covered (fun _ _ F => F.binds fun _ _ _ _ _ _ us hl => match us, hl with | [_, _], _ => rfl) fun _ _ F => ok_iscov F T m_range m_any Dcovers
  have Duncovered_group : Dfn P w K mg base 4 "uncovered_group" ["tally"] (spUncov C) := dfn_mk X G t_uncovered_group (fun _ _ F => F.binds fun _ _ _ _ _ _ us hl => match us, hl with | [_], _ => rfl) fun _ _ F => ok_uncov F T m_range Dis_covered Dgroup_of
  have Dbeats_each : Dfn P w K mg base 2 "beats_each" ["tally", "one", "chain"] (spBeatsEach K C) := dfn_mk X G t_beats_each (fun _ _ F => F.binds fun _ _ _ _ _ _ us hl => match us, hl with | [_, _, _], _ => rfl) fun _ _ F => ok_beats_each F T m_all Mbeats
  have Dgroup_of_heads : Dfn P w K mg base 3 "group_of_heads" ["tally"] (spHeads C) := dfn_mk X G t_group_of_heads (fun _ _ F => F.binds fun _ _ _ _ _ _ us hl => match us, hl with | [_], _ => rfl) fun _ _ F => ok_heads F T m_range Dbeats_each Dgroup_of
  have Dlast_to_stand : Dfn P w K mg base 2 "last_to_stand" ["tally", "order"] (spTurns K C) := dfn_mk X G t_last_to_stand (fun _ _ F => F.binds fun _ _ _ _ _ _ us hl => match us, hl with | [_, _], _ => rfl) fun _ _ F => ok_turns F T Mbeats
  have Dwithout : Dfn P w K mg base 2 "without" ["group", "candidate"] (spWithout) := dfn_mk X G t_without (fun _ _ F => F.binds fun _ _ _ _ _ _ us hl => match us, hl with | [_, _], _ => rfl) fun _ _ F => ok_without F Dgroup_of
  have Dleast_quarrel : Dfn P w K mg base 3 "least_quarrel" ["tally", "group", "front", "calmest"] (spLeast K C) := dfn_mk X G t_least_quarrel (fun _ _ F => F.binds fun _ _ _ _ _ _ us hl => match us, hl with | [_, _, _, _], _ => rfl) fun _ _ F => ok_least F T m_sum Dmembers_of Dwithout
  have Dcalmest_fronts : Dfn P w K mg base 4 "calmest_fronts" ["tally"] (spFronts C) := dfn_mk X G t_calmest_fronts (fun _ _ F => F.binds fun _ _ _ _ _ _ us hl => match us, hl with | [_], _ => rfl) fun _ _ F => ok_fronts F T m_range m_min Dmembers_of Dleast_quarrel
  have Dcalmest_order : Dfn P w K mg base 5 "calmest_order" ["tally"] (spCalm C) := dfn_mk X G t_calmest_order (fun _ _ F => F.binds fun _ _ _ _ _ _ us hl => match us, hl with | [_], _ => rfl) fun _ _ F => ok_calm F T m_range m_list Dcalmest_fronts Dgroup_of Dwithout
  have Dpairs_one_by_one : Dfn P w K mg base 2 "pairs_one_by_one" ["tally"] (spPairs C) := dfn_mk X G t_pairs_one_by_one (fun _ _ F => F.binds fun _ _ _ _ _ _ us hl => match us, hl with | [_], _ => rfl) fun _ _ F => ok_pairs F T m_range m_sorted Mbeats
  have Dled_on : Dfn P w K mg base 1 "led_on" ["those", "winner", "behind"] (spLed) := dfn_mk X G t_led_on (fun _ _ F => F.binds fun _ _ _ _ _ _ us hl => match us, hl with | [_, _, _], _ => rfl) fun _ _ F => ok_led F 
  have Dstanding_pairs : Dfn P w K mg base 3 "standing_pairs" ["tally"] (spStanding C) := dfn_mk X G t_standing_pairs (fun _ _ F => F.binds fun _ _ _ _ _ _ us hl => match us, hl with | [_], _ => rfl) fun _ _ F => ok_standing F T m_range Dpairs_one_by_one Dled_on
  have Dorder_by_pairs : Dfn P w K mg base 4 "order_by_pairs" ["tally"] (spRanked C) := dfn_mk X G t_order_by_pairs (fun _ _ F => F.binds fun _ _ _ _ _ _ us hl => match us, hl with | [_], _ => rfl) fun _ _ F => ok_ranked F T m_range m_list m_min Dstanding_pairs
  have Dhas_order : Dfn P w K mg base 1 "has_order" ["number"] (spHas) := dfn_mk X G t_has_order (fun _ _ F => F.binds fun _ _ _ _ _ _ us hl => match us, hl with | [_], _ => rfl) fun _ _ F => ok_has F g_BALLOT g_TURNS
  have Dread_row : Dfn P w K mg base 1 "read_row" ["calls", "at"] (spRow K) := dfn_mk X G t_read_row (fun _ _ F => F.binds fun _ _ _ _ _ _ us hl => match us, hl with | [_, _], _ => rfl) fun _ _ F => ok_row F 
  have Dread_calls : Dfn P w K mg base 2 "read_calls" ["calls"] (spRead K) := dfn_mk X G t_read_calls (fun _ _ F => F.binds fun _ _ _ _ _ _ us hl => match us, hl with | [_], _ => rfl) fun _ _ F => ok_read F m_len g_PLAIN hpn Dhas_order Dread_row
  have Danswer_order : Dfn P w K mg base 1 "answer_order" ["order"] (spAnsOrder) := dfn_mk X G t_answer_order (fun _ _ F => F.binds fun _ _ _ _ _ _ us hl => match us, hl with | [_], _ => rfl) fun _ _ F => ok_ans_order F m_len g_MOST_CANDIDATES
  have Danswer_begin : Dfn P w K mg base 2 "answer_begin" ["tally"] (spAnsBegin C) := dfn_mk X G t_answer_begin (fun _ _ F => F.binds fun _ _ _ _ _ _ us hl => match us, hl with | [_], _ => rfl) fun _ _ F => ok_ans_begin F T Mstart
  have Danswer_candidates : Dfn P w K mg base 2 "answer_candidates" ["tally", "size"] (spAnsCand C) := dfn_mk X G t_answer_candidates (fun _ _ F => F.binds fun _ _ _ _ _ _ us hl => match us, hl with | [_, _], _ => rfl) fun _ _ F => ok_ans_cand F T g_MOST_CANDIDATES Mstart
  have Danswer_ballot : Dfn P w K mg base 2 "answer_ballot" ["tally", "order", "times"] (spAnsBallot C) := dfn_mk X G t_answer_ballot (fun _ _ F => F.binds fun _ _ _ _ _ _ us hl => match us, hl with | [_, _, _], _ => rfl) fun _ _ F => ok_ans_ballot F T g_MOST_BALLOTS Mis_order Mcast
  have Danswer_wins : Dfn P w K mg base 2 "answer_wins" ["tally", "winner", "loser"] (spAnsWins C) := dfn_mk X G t_answer_wins (fun _ _ F => F.binds fun _ _ _ _ _ _ us hl => match us, hl with | [_, _, _], _ => rfl) fun _ _ F => ok_ans_wins F T Mis_candidate
  have Danswer_first : Dfn P w K mg base 4 "answer_first" ["tally"] (spAnsFirst C) := dfn_mk X G t_answer_first (fun _ _ F => F.binds fun _ _ _ _ _ _ us hl => match us, hl with | [_], _ => rfl) fun _ _ F => ok_ans_first F Dbeater_of_all
  have Danswer_turns : Dfn P w K mg base 3 "answer_turns" ["tally", "order"] (spAnsTurns C) := dfn_mk X G t_answer_turns (fun _ _ F => F.binds fun _ _ _ _ _ _ us hl => match us, hl with | [_, _], _ => rfl) fun _ _ F => ok_ans_turns F T Mis_order Dlast_to_stand
  have Dgroup_asked_for : Dfn P w K mg base 5 "group_asked_for" ["tally", "number"] (spGroup C) := dfn_mk X G t_group_asked_for (fun _ _ F => F.binds fun _ _ _ _ _ _ us hl => match us, hl with | [_, _], _ => rfl) fun _ _ F => ok_group F g_SMALLEST g_UNCOVERED Dsmallest_group Duncovered_group Dgroup_of_heads
  have Danswer_with_candidates : Dfn P w K mg base 6 "answer_with_candidates" ["tally", "number", "plain", "order"] (spWith C) := dfn_mk X G t_answer_with_candidates (fun _ _ F => F.binds fun _ _ _ _ _ _ us hl => match us, hl with | [_, _, _, _], _ => rfl) fun _ _ F => ok_with F g_BALLOT g_WINS g_FIRST g_TURNS g_CALMEST g_RANKED Danswer_ballot Danswer_wins Danswer_first Danswer_turns Danswer_order Dcalmest_order Dorder_by_pairs Dgroup_asked_for
  have Danswer_call : Dfn P w K mg base 7 "answer_call" ["tally", "number", "plain", "order"] (spCall C) := dfn_mk X G t_answer_call (fun _ _ F => F.binds fun _ _ _ _ _ _ us hl => match us, hl with | [_, _, _, _], _ => rfl) fun _ _ F => ok_call F T g_BEGIN g_CANDIDATES Danswer_begin Danswer_candidates Danswer_with_candidates
  obtain ⟨fI, fdI, FI, mI⟩ := c_init.ex
  exact ok_all FA (PySem.W.mg_of X G aC) ⟨mk, mI.at_, mI.fn, kc⟩ (ok_init FI T) (FI.binds fun _ _ _ _ _ _ us hl => match us, hl with | [_], _ => rfl) m_len Dread_calls Danswer_call
end Tv

open PySem PySem.W PyProof.Rows
set_option maxRecDepth 100000 in
set_option maxHeartbeats 40000000 in
theorem PySem.Challenge.cw_turnvotes_s01_answers_holds : PySem.Challenge.rw_turnvotes_s01_answers.Holds := by
  w_on; k_headS; (case hw => exact ⟨[.list []], by decide +kernel, by decide +kernel⟩)
  k_fillS
  refine L2.walk_specK (r := PySem.Challenge.rw_turnvotes_s01_answers) (k := 8) (CX := L2.CX0) (ps := ["calls"]) (sp := Tv.spAns) (by decide +kernel) rfl rfl ⟨rfl, by decide, by decide⟩ (fun w h Y => PySem.W.kIn_of Y) ?F ?S (fun _ _ _ _ z => z)
  case F =>
    intro w mg fa h Y KX G hmg
    refine' Tv.all_mk KX G hmg ?T ?aC ?mk ?kc ?aP ?hpn ?z_sum ?z_range ?z_min ?z_all ?z_any ?z_sorted ?z_list ?z_enumerate ?z_len ?n_BEGIN ?n_CANDIDATES ?n_BALLOT ?n_WINS ?n_FIRST ?n_SMALLEST ?n_UNCOVERED ?n_TURNS ?n_CALMEST ?n_RANKED ?n_MOST_CANDIDATES ?n_MOST_BALLOTS ?t_answers ?c_init ?t_group_of ?t_members_of ?t_unbeaten_by ?t_beater_of_all ?t_group_around ?t_smallest_group ?t_covers ?t_is_covered ?t_uncovered_group ?t_beats_each ?t_group_of_heads ?t_last_to_stand ?t_without ?t_least_quarrel ?t_calmest_fronts ?t_calmest_order ?t_pairs_one_by_one ?t_led_on ?t_standing_pairs ?t_order_by_pairs ?t_has_order ?t_read_row ?t_read_calls ?t_answer_order ?t_answer_begin ?t_answer_candidates ?t_answer_ballot ?t_answer_wins ?t_answer_first ?t_answer_turns ?t_group_asked_for ?t_answer_with_candidates ?t_answer_call ?c_start ?c_is_order ?c_cast ?c_is_candidate ?c_beats
    (case aC => k_is)
    (case T => (refine' Tv.txt_mk ?pg ?hd ?po ?sa ?nS ?nB ?nW; (case pg => k_is); (case hd => k_is); (case po => k_is); (case sa => k_is); (case nS => k_is); (case nB => k_is); (case nW => k_is)))
    (case mk => k_is); (case kc => k_is); (case aP => k_is)
    (case hpn => (refine' Tv.plain_is ?l ?h1 ?h2; (case l => k_is); (case h1 => rfl); (case h2 => exact ⟨_, _, _, _, _, _, _, _, _, _, _, rfl⟩)))
    (case z_sum => k_is)
    (case z_range => k_is)
    (case z_min => k_is)
    (case z_all => k_is)
    (case z_any => k_is)
    (case z_sorted => k_is)
    (case z_list => k_is)
    (case z_enumerate => k_is)
    (case z_len => k_is)
    (case n_BEGIN => (refine' Tv.Num.mk' ?nq; (case nq => k_is)))
    (case n_CANDIDATES => (refine' Tv.Num.mk' ?nq; (case nq => k_is)))
    (case n_BALLOT => (refine' Tv.Num.mk' ?nq; (case nq => k_is)))
    (case n_WINS => (refine' Tv.Num.mk' ?nq; (case nq => k_is)))
    (case n_FIRST => (refine' Tv.Num.mk' ?nq; (case nq => k_is)))
    (case n_SMALLEST => (refine' Tv.Num.mk' ?nq; (case nq => k_is)))
    (case n_UNCOVERED => (refine' Tv.Num.mk' ?nq; (case nq => k_is)))
    (case n_TURNS => (refine' Tv.Num.mk' ?nq; (case nq => k_is)))
    (case n_CALMEST => (refine' Tv.Num.mk' ?nq; (case nq => k_is)))
    (case n_RANKED => (refine' Tv.Num.mk' ?nq; (case nq => k_is)))
    (case n_MOST_CANDIDATES => (refine' Tv.Num.mk' ?nq; (case nq => k_is)))
    (case n_MOST_BALLOTS => (refine' Tv.Num.mk' ?nq; (case nq => k_is)))
    (case t_answers => (refine' Tv.InText.mk' ?a ?l ?c ?k; (case a => k_is); (case l => k_is); (case c => k_is); (case k => k_is)))
    (case t_group_of => (refine' Tv.InText.mk' ?a ?l ?c ?k; (case a => k_is); (case l => k_is); (case c => k_is); (case k => k_is)))
    (case t_members_of => (refine' Tv.InText.mk' ?a ?l ?c ?k; (case a => k_is); (case l => k_is); (case c => k_is); (case k => k_is)))
    (case t_unbeaten_by => (refine' Tv.InText.mk' ?a ?l ?c ?k; (case a => k_is); (case l => k_is); (case c => k_is); (case k => k_is)))
    (case t_beater_of_all => (refine' Tv.InText.mk' ?a ?l ?c ?k; (case a => k_is); (case l => k_is); (case c => k_is); (case k => k_is)))
    (case t_group_around => (refine' Tv.InText.mk' ?a ?l ?c ?k; (case a => k_is); (case l => k_is); (case c => k_is); (case k => k_is)))
    (case t_smallest_group => (refine' Tv.InText.mk' ?a ?l ?c ?k; (case a => k_is); (case l => k_is); (case c => k_is); (case k => k_is)))
    (case t_covers => (refine' Tv.InText.mk' ?a ?l ?c ?k; (case a => k_is); (case l => k_is); (case c => k_is); (case k => k_is)))
    (case t_is_covered => (refine' Tv.InText.mk' ?a ?l ?c ?k; (case a => k_is); (case l => k_is); (case c => k_is); (case k => k_is)))
    (case t_uncovered_group => (refine' Tv.InText.mk' ?a ?l ?c ?k; (case a => k_is); (case l => k_is); (case c => k_is); (case k => k_is)))
    (case t_beats_each => (refine' Tv.InText.mk' ?a ?l ?c ?k; (case a => k_is); (case l => k_is); (case c => k_is); (case k => k_is)))
    (case t_group_of_heads => (refine' Tv.InText.mk' ?a ?l ?c ?k; (case a => k_is); (case l => k_is); (case c => k_is); (case k => k_is)))
    (case t_last_to_stand => (refine' Tv.InText.mk' ?a ?l ?c ?k; (case a => k_is); (case l => k_is); (case c => k_is); (case k => k_is)))
    (case t_without => (refine' Tv.InText.mk' ?a ?l ?c ?k; (case a => k_is); (case l => k_is); (case c => k_is); (case k => k_is)))
    (case t_least_quarrel => (refine' Tv.InText.mk' ?a ?l ?c ?k; (case a => k_is); (case l => k_is); (case c => k_is); (case k => k_is)))
    (case t_calmest_fronts => (refine' Tv.InText.mk' ?a ?l ?c ?k; (case a => k_is); (case l => k_is); (case c => k_is); (case k => k_is)))
    (case t_calmest_order => (refine' Tv.InText.mk' ?a ?l ?c ?k; (case a => k_is); (case l => k_is); (case c => k_is); (case k => k_is)))
    (case t_pairs_one_by_one => (refine' Tv.InText.mk' ?a ?l ?c ?k; (case a => k_is); (case l => k_is); (case c => k_is); (case k => k_is)))
    (case t_led_on => (refine' Tv.InText.mk' ?a ?l ?c ?k; (case a => k_is); (case l => k_is); (case c => k_is); (case k => k_is)))
    (case t_standing_pairs => (refine' Tv.InText.mk' ?a ?l ?c ?k; (case a => k_is); (case l => k_is); (case c => k_is); (case k => k_is)))
    (case t_order_by_pairs => (refine' Tv.InText.mk' ?a ?l ?c ?k; (case a => k_is); (case l => k_is); (case c => k_is); (case k => k_is)))
    (case t_has_order => (refine' Tv.InText.mk' ?a ?l ?c ?k; (case a => k_is); (case l => k_is); (case c => k_is); (case k => k_is)))
    (case t_read_row => (refine' Tv.InText.mk' ?a ?l ?c ?k; (case a => k_is); (case l => k_is); (case c => k_is); (case k => k_is)))
    (case t_read_calls => (refine' Tv.InText.mk' ?a ?l ?c ?k; (case a => k_is); (case l => k_is); (case c => k_is); (case k => k_is)))
    (case t_answer_order => (refine' Tv.InText.mk' ?a ?l ?c ?k; (case a => k_is); (case l => k_is); (case c => k_is); (case k => k_is)))
    (case t_answer_begin => (refine' Tv.InText.mk' ?a ?l ?c ?k; (case a => k_is); (case l => k_is); (case c => k_is); (case k => k_is)))
    (case t_answer_candidates => (refine' Tv.InText.mk' ?a ?l ?c ?k; (case a => k_is); (case l => k_is); (case c => k_is); (case k => k_is)))
    (case t_answer_ballot => (refine' Tv.InText.mk' ?a ?l ?c ?k; (case a => k_is); (case l => k_is); (case c => k_is); (case k => k_is)))
    (case t_answer_wins => (refine' Tv.InText.mk' ?a ?l ?c ?k; (case a => k_is); (case l => k_is); (case c => k_is); (case k => k_is)))
    (case t_answer_first => (refine' Tv.InText.mk' ?a ?l ?c ?k; (case a => k_is); (case l => k_is); (case c => k_is); (case k => k_is)))
    (case t_answer_turns => (refine' Tv.InText.mk' ?a ?l ?c ?k; (case a => k_is); (case l => k_is); (case c => k_is); (case k => k_is)))
    (case t_group_asked_for => (refine' Tv.InText.mk' ?a ?l ?c ?k; (case a => k_is); (case l => k_is); (case c => k_is); (case k => k_is)))
    (case t_answer_with_candidates => (refine' Tv.InText.mk' ?a ?l ?c ?k; (case a => k_is); (case l => k_is); (case c => k_is); (case k => k_is)))
    (case t_answer_call => (refine' Tv.InText.mk' ?a ?l ?c ?k; (case a => k_is); (case l => k_is); (case c => k_is); (case k => k_is)))
    (case c_init => (refine' Tv.InCls.mk' ?a ?i ?l ?c ?k; (case a => k_is); (case i => k_is); (case l => k_is); (case c => k_is); (case k => k_is)))
    (case c_start => (refine' Tv.InCls.mk' ?a ?i ?l ?c ?k; (case a => k_is); (case i => k_is); (case l => k_is); (case c => k_is); (case k => k_is)))
    (case c_is_order => (refine' Tv.InCls.mk' ?a ?i ?l ?c ?k; (case a => k_is); (case i => k_is); (case l => k_is); (case c => k_is); (case k => k_is)))
    (case c_cast => (refine' Tv.InCls.mk' ?a ?i ?l ?c ?k; (case a => k_is); (case i => k_is); (case l => k_is); (case c => k_is); (case k => k_is)))
    (case c_is_candidate => (refine' Tv.InCls.mk' ?a ?i ?l ?c ?k; (case a => k_is); (case i => k_is); (case l => k_is); (case c => k_is); (case k => k_is)))
    (case c_beats => (refine' Tv.InCls.mk' ?a ?i ?l ?c ?k; (case a => k_is); (case i => k_is); (case l => k_is); (case c => k_is); (case k => k_is)))
  case S =>
    intro K H xs a hO hwi hask hx
    cases hx with
    | cons h1 h2 =>
      cases h2
      cases h1 with
      | lst hs ha =>
        have e := L2.ints_dw a.1 _ ha
        subst e
        refine ⟨_, a.1, rfl, hs, ?_, ?_, fun H' p hp => .lst (L2.SqL.of hp) (L2.dw_ints _)⟩
        · exact hask
        · have q : ((Codec.inLen 0 30000 a.1 && a.1.all (Codec.inInt (Int.negSucc 2147483647) (Int.ofNat 4294967295))) && true) = true := hwi
          rw [Bool.and_eq_true, Bool.and_eq_true] at q
          exact (Codec.inNat_iff.mp q.1.1).2

