import PyProof.Rows.All
import Wide.All
import OpenK.AllK
import Wide.FinOn
import KE.KDictZip
import HandS.Base
import HandS.Call
import HandS.List
import HandS.Iter
import HandS.Words
import HandS.WordsList
import KE.OsArith
import HandS.WideBits
import KE.DatumOrd
import HandS.SortKw
import HandS.Comp
import Open.SpecLaws
import KE.OsGo
import HandS.ForSpec
import PySem.Challenge.RW_guestcircles_s04_fewest
set_option maxRecDepth 100000
namespace Gc
open Kzf1 (net knows has pairsOf okNet)

/-! ### bits -/
theorem has_bit (m i : Nat) : has m i = m.testBit i := by
  unfold has
  rw [Nat.testBit_eq_decide_div_mod_eq]
  by_cases h : m / 2 ^ i % 2 = 1
  · rw [decide_eq_true h, h]; rfl
  · rw [decide_eq_false h]
    exact beq_eq_false_iff_ne.mpr h

/-- how_many: the bits of a number, added up -/
def hm (m : Nat) : Nat := if h : m = 0 then 0 else m % 2 + hm (m / 2)
termination_by m
decreasing_by omega
theorem hm_zero : hm 0 = 0 := by rw [hm, dif_pos rfl]
theorem hm_half (m : Nat) : hm m = m % 2 + hm (m / 2) := by
  by_cases h : m = 0
  · subst h
    show hm 0 = 0 + hm 0
    rw [hm_zero]
  · rw [hm, dif_neg h]

theorem size_succ (n m : Nat) : Kzf3.size (n + 1) m = m % 2 + Kzf3.size n (m / 2) := by
  unfold Kzf3.size
  have e : (has m ∘ Nat.succ) = has (m / 2) := by
    funext i
    show has m (i + 1) = has (m / 2) i
    rw [has_bit, has_bit, Nat.testBit_succ]
  rw [List.range_succ_eq_map, List.filter_cons, List.filter_map, e]
  have e0 : has m 0 = (m % 2 == 1) := by
    unfold has
    rw [Nat.pow_zero, Nat.div_one]
  rw [e0]
  rcases Nat.mod_two_eq_zero_or_one m with h | h
  · rw [h, if_neg (by decide), List.length_map, Nat.zero_add]
  · rw [h, if_pos (by decide), List.length_cons, List.length_map, Nat.add_comm]
theorem size_hm : ∀ (n m : Nat), m < 2 ^ n → Kzf3.size n m = hm m
  | 0, m, h => by
    have h0 : m = 0 := by simpa using h
    rw [h0, hm_zero]; rfl
  | n + 1, m, h => by
    rw [size_succ, hm_half m, size_hm n (m / 2) (by rw [Nat.pow_succ] at h; omega)]

/-! ### is_as_told -/
theorem net_len : ∀ l : List Nat, (net l).length = l.length / 2
  | [] => rfl
  | [_] => by
    show 0 = 1 / 2
    decide
  | a :: b :: l => by
    show (net l).length + 1 = (l.length + 1 + 1) / 2
    rw [net_len l]; omega
def told (n : Nat) (l : List Nat) : Bool := !(decide (n < 1) || decide (8 < n)) && (!(decide (l.length % 2 = 1) || decide (56 < l.length)) && (net l).all fun e => !(decide (n ≤ e.1) || decide (n ≤ e.2) || decide (e.1 = e.2)))
theorem good_told (n : Nat) (l : List Nat) : Kzf3.good n l = told n l := by
  unfold Kzf3.good Kzf1.good Kzf1.okNet told
  rw [net_len]
  have ea : ((net l).all fun e => decide (e.1 < n) && decide (e.2 < n) && e.1 != e.2) = (net l).all fun e => !(decide (n ≤ e.1) || decide (n ≤ e.2) || decide (e.1 = e.2)) := by
    refine congrArg (List.all (net l)) (funext fun e => ?_)
    rw [Bool.eq_iff_iff]
    simp
  rw [ea]
  rw [Bool.eq_iff_iff]
  simp only [Bool.and_eq_true, decide_eq_true_eq, Bool.not_eq_true', Bool.or_eq_false_iff, decide_eq_false_iff_not]
  constructor
  · rintro ⟨h1, ⟨⟨h2, h3⟩, h4⟩, h5⟩
    exact ⟨⟨by omega, by omega⟩, ⟨by omega, by omega⟩, h5⟩
  · rintro ⟨⟨h1, h2⟩, ⟨h3, h4⟩, h5⟩
    exact ⟨by omega, ⟨⟨by omega, by omega⟩, by omega⟩, h5⟩

/-! ### known_by_each -/
def mark (K : List Nat) (a b : Nat) : List Nat := K.set a (K.getD a 0 ||| 2 ^ b)
def meet (K : List Nat) (e : Nat × Nat) : List Nat := mark (mark K e.1 e.2) e.2 e.1
def known (n : Nat) (g : List (Nat × Nat)) : List Nat := g.foldl meet (List.replicate n 0)
theorem mark_len (K : List Nat) (a b : Nat) : (mark K a b).length = K.length := List.length_set
theorem meet_len (K : List Nat) (e : Nat × Nat) : (meet K e).length = K.length := by
  unfold meet; rw [mark_len, mark_len]
theorem meets_len : ∀ (g : List (Nat × Nat)) (K : List Nat), (g.foldl meet K).length = K.length
  | [], _ => rfl
  | e :: g, K => by rw [List.foldl_cons, meets_len g, meet_len]
theorem known_len (n : Nat) (g : List (Nat × Nat)) : (known n g).length = n := by
  unfold known; rw [meets_len, List.length_replicate]
theorem mark_bit (K : List Nat) (a b i j : Nat) (ha : a < K.length) :
    ((mark K a b).getD i 0).testBit j = ((K.getD i 0).testBit j || (a == i && b == j)) := by
  unfold mark
  rw [List.getD_eq_getElem?_getD, List.getD_eq_getElem?_getD, List.getD_eq_getElem?_getD, List.getElem?_set]
  by_cases h : a = i
  · subst h
    rw [if_pos rfl, if_pos ha, Option.getD_some, Nat.testBit_or, Nat.testBit_two_pow, beq_self_eq_true, Bool.true_and]
    rfl
  · rw [if_neg h, beq_eq_false_iff_ne.mpr h, Bool.false_and, Bool.or_false]
theorem meet_bit (K : List Nat) (e : Nat × Nat) (i j : Nat) (h1 : e.1 < K.length) (h2 : e.2 < K.length) :
    ((meet K e).getD i 0).testBit j = ((K.getD i 0).testBit j || ((e.1 == i && e.2 == j) || (e.1 == j && e.2 == i))) := by
  unfold meet
  rw [mark_bit _ _ _ _ _ (by rw [mark_len]; exact h2), mark_bit _ _ _ _ _ h1, Bool.or_assoc, Bool.and_comm (e.2 == i)]
theorem meets_bit : ∀ (g : List (Nat × Nat)) (K : List Nat) (i j : Nat), (∀ e ∈ g, e.1 < K.length ∧ e.2 < K.length) →
    ((g.foldl meet K).getD i 0).testBit j = ((K.getD i 0).testBit j || g.any fun e => (e.1 == i && e.2 == j) || (e.1 == j && e.2 == i))
  | [], K, i, j, _ => by rw [List.foldl_nil, List.any_nil, Bool.or_false]
  | e :: g, K, i, j, h => by
    have he := h e List.mem_cons_self
    rw [List.foldl_cons, meets_bit g (meet K e) i j (fun x hx => by rw [meet_len]; exact h x (List.mem_cons_of_mem _ hx)), meet_bit K e i j he.1 he.2, List.any_cons, Bool.or_assoc]
/-- each pair is of two different guests who are there -/
def Fine (n : Nat) (g : List (Nat × Nat)) : Prop := ∀ e ∈ g, e.1 < n ∧ e.2 < n ∧ e.1 ≠ e.2
theorem known_bit {n : Nat} {g : List (Nat × Nat)} (h : Fine n g) (i j : Nat) : ((known n g).getD i 0).testBit j = knows g i j := by
  unfold known
  rw [meets_bit g _ i j (fun e he => by rw [List.length_replicate]; exact ⟨(h e he).1, (h e he).2.1⟩)]
  have e0 : (List.replicate n 0).getD i 0 = 0 := by
    rw [List.getD_eq_getElem?_getD, List.getElem?_replicate]
    by_cases hi : i < n
    · rw [if_pos hi]; rfl
    · rw [if_neg hi]; rfl
  rw [e0, Nat.zero_testBit, Bool.false_or]
  unfold knows
  by_cases hij : i = j
  · subst hij
    rw [bne_self_eq_false, Bool.false_and]
    refine List.any_eq_false.mpr fun e he => ?_
    have := (h e he).2.2
    simp
    omega
  · rw [bne_iff_ne.mpr hij, Bool.true_and]
theorem fine_of_told {n : Nat} {l : List Nat} (h : told n l = true) : Fine n (net l) := by
  unfold told at h
  rw [Bool.and_eq_true, Bool.and_eq_true] at h
  intro e he
  have q := List.all_eq_true.mp h.2.2 e he
  simp at q
  omega
theorem n_of_told {n : Nat} {l : List Nat} (h : told n l = true) : 1 ≤ n ∧ n ≤ 8 := by
  unfold told at h
  rw [Bool.and_eq_true] at h
  have q := h.1
  simp at q
  omega

/-! ### the pairs of a group -/
theorem mem_pairsOf {n : Nat} {p : Nat × Nat} : p ∈ pairsOf n ↔ p.1 < p.2 ∧ p.2 < n := by
  unfold Kzf1.pairsOf
  rw [List.mem_flatMap]
  constructor
  · rintro ⟨i, hi, hp⟩
    rw [List.mem_map] at hp
    obtain ⟨j, hj, rfl⟩ := hp
    rw [List.mem_filter] at hj
    exact ⟨of_decide_eq_true hj.2, List.mem_range.mp hj.1⟩
  · rintro ⟨h1, h2⟩
    refine ⟨p.1, List.mem_range.mpr (by omega), List.mem_map.mpr ⟨p.2, List.mem_filter.mpr ⟨List.mem_range.mpr h2, decide_eq_true h1⟩, rfl⟩⟩
theorem mem_inside {n m : Nat} {p : Nat × Nat} : p ∈ Kzf3.inside n m ↔ p.1 < p.2 ∧ p.2 < n ∧ m.testBit p.1 = true ∧ m.testBit p.2 = true := by
  unfold Kzf3.inside
  rw [List.mem_filter, mem_pairsOf, Bool.and_eq_true, has_bit, has_bit, and_assoc]
theorem knows_comm (g : Kzf1.Net) (i j : Nat) : knows g i j = knows g j i := by
  unfold knows
  have e1 : (i != j) = (j != i) := by
    rw [Bool.eq_iff_iff, bne_iff_ne, bne_iff_ne]
    exact ⟨Ne.symm, Ne.symm⟩
  rw [e1]
  congr 2
  funext e
  rw [Bool.or_comm]
theorem bit_lt {n m i : Nat} (hm : m < 2 ^ n) (hi : m.testBit i = true) : i < n := by
  rcases Nat.lt_or_ge i n with h | h
  · exact h
  · have := Nat.testBit_lt_two_pow (x := m) (i := i) (Nat.lt_of_lt_of_le hm (Nat.pow_le_pow_right (by omega) h))
    rw [this] at hi
    cases hi
theorem allKnow_iff (n : Nat) (g : Kzf1.Net) (m : Nat) (hm : m < 2 ^ n) : Kzf3.allKnow n g m = true ↔ ∀ i j, i ≠ j → m.testBit i = true → m.testBit j = true → knows g i j = true := by
  unfold Kzf3.allKnow
  rw [List.all_eq_true]
  constructor
  · intro h i j hij hi hj
    rcases Nat.lt_or_gt_of_ne hij with q | q
    · exact h (i, j) (mem_inside.mpr ⟨q, bit_lt hm hj, hi, hj⟩)
    · rw [knows_comm]
      exact h (j, i) (mem_inside.mpr ⟨q, bit_lt hm hi, hj, hi⟩)
  · intro h p hp
    obtain ⟨h1, h2, h3, h4⟩ := mem_inside.mp hp
    exact h p.1 p.2 (by omega) h3 h4
/-! ### is_circle -/
/-- the guest i of a group, with those whom it knows -/
def atEase (m i f : Nat) : Bool := !(decide (0 < m &&& 2 ^ i)) || ((m - 2 ^ i) &&& f == m - 2 ^ i)
theorem sub_bit : ∀ (i : Nat) {m : Nat}, m.testBit i = true → ∀ j, (m - 2 ^ i).testBit j = (m.testBit j && i != j)
  | 0, m, h, 0 => by
    rw [Nat.testBit_zero] at h
    have h := of_decide_eq_true h
    rw [Nat.testBit_zero, decide_eq_false (by rw [Nat.pow_zero]; omega), bne_self_eq_false, Bool.and_false]
  | 0, m, h, j + 1 => by
    rw [Nat.testBit_zero] at h
    have h := of_decide_eq_true h
    rw [Nat.testBit_succ, Nat.testBit_succ, Nat.pow_zero, show (m - 1) / 2 = m / 2 by omega, bne_iff_ne.mpr (by omega), Bool.and_true]
  | i + 1, m, h, 0 => by
    have hl := Nat.ge_two_pow_of_testBit h
    rw [Nat.pow_succ] at hl ⊢
    rw [Nat.testBit_zero, Nat.testBit_zero, bne_iff_ne.mpr (by omega), Bool.and_true, show (m - 2 ^ i * 2) % 2 = m % 2 by omega]
  | i + 1, m, h, j + 1 => by
    have hl := Nat.ge_two_pow_of_testBit h
    rw [Nat.testBit_succ] at h
    rw [Nat.pow_succ] at hl ⊢
    rw [Nat.testBit_succ, Nat.testBit_succ, show (m - 2 ^ i * 2) / 2 = m / 2 - 2 ^ i by omega, sub_bit i h j]
    congr 1
    rw [Bool.eq_iff_iff, bne_iff_ne, bne_iff_ne]
    omega
theorem bit_pos (m i : Nat) : decide (0 < m &&& 2 ^ i) = m.testBit i := by
  rw [Bool.eq_iff_iff, decide_eq_true_eq]
  constructor
  · intro h
    cases q : m.testBit i with
    | true => rfl
    | false =>
      have e : m &&& 2 ^ i = 0 := by
        refine Nat.eq_of_testBit_eq fun k => ?_
        rw [Nat.testBit_and, Nat.testBit_two_pow, Nat.zero_testBit]
        by_cases z : i = k
        · subst z
          rw [q, Bool.false_and]
        · rw [decide_eq_false z, Bool.and_false]
      omega
  · intro h
    refine Nat.pos_of_ne_zero fun e => ?_
    have q : (m &&& 2 ^ i).testBit i = Nat.testBit 0 i := by rw [e]
    rw [Nat.testBit_and, h, Nat.testBit_two_pow, decide_eq_true rfl, Nat.zero_testBit] at q
    cases q
theorem atEase_iff (m i f : Nat) : atEase m i f = true ↔ (m.testBit i = true → ∀ j, i ≠ j → m.testBit j = true → f.testBit j = true) := by
  unfold atEase
  rw [bit_pos]
  cases h : m.testBit i with
  | false => simp
  | true =>
    rw [Bool.not_true, Bool.false_or, beq_iff_eq]
    constructor
    · intro e _ j hij hj
      have q : ((m - 2 ^ i) &&& f).testBit j = (m - 2 ^ i).testBit j := by rw [e]
      rw [Nat.testBit_and, sub_bit i h j, hj, bne_iff_ne.mpr hij, Bool.true_and, Bool.true_and] at q
      exact q
    · intro q
      refine Nat.eq_of_testBit_eq fun j => ?_
      rw [Nat.testBit_and, sub_bit i h j]
      cases hj : m.testBit j with
      | false => rfl
      | true =>
        by_cases hij : i = j
        · subst hij
          rw [bne_self_eq_false]; rfl
        · rw [bne_iff_ne.mpr hij, q rfl j hij hj]; rfl
def isCircle (m : Nat) (K : List Nat) : Bool := (List.range K.length).all fun i => atEase m i (K.getD i 0)
theorem isCircle_eq {n : Nat} {g : List (Nat × Nat)} (h : Fine n g) {m : Nat} (hm : m < 2 ^ n) : isCircle m (known n g) = Kzf3.allKnow n g m := by
  rw [Bool.eq_iff_iff, allKnow_iff n g m hm]
  unfold isCircle
  rw [known_len, List.all_eq_true]
  constructor
  · intro q i j hij hi hj
    have q1 := q i (List.mem_range.mpr (bit_lt hm hi))
    rw [atEase_iff] at q1
    have q2 := q1 hi j hij hj
    rw [known_bit h] at q2
    exact q2
  · intro q i _
    rw [atEase_iff]
    intro hi j hij hj
    rw [known_bit h]
    exact q i j hij hi hj

/-! ### largest_circle -/
def better (K : List Nat) (b m : Nat) : Nat := if (decide (hm b < hm m) && isCircle m K) = true then m else b
def largest (K : List Nat) : Nat := (List.range' 1 (2 ^ K.length - 1)).foldl (better K) 0
theorem fold_same {α β : Type} (f f' : β → α → β) (P : β → Prop) : ∀ (l : List α) (b : β), P b → (∀ b x, x ∈ l → P b → f b x = f' b x ∧ P (f b x)) → l.foldl f b = l.foldl f' b
  | [], _, _, _ => rfl
  | x :: l, b, hb, h => by
    obtain ⟨e, p⟩ := h b x List.mem_cons_self hb
    rw [List.foldl_cons, List.foldl_cons, ← e]
    exact fold_same f f' P l (f b x) p fun b y hy hb => h b y (List.mem_cons_of_mem _ hy) hb
theorem largest_eq {n : Nat} {g : List (Nat × Nat)} (h : Fine n g) : largest (known n g) = Kzf3.circle n g := by
  unfold largest Kzf3.circle Kzf3.largest
  rw [known_len]
  have hp : 2 ^ n = (2 ^ n - 1) + 1 := by
    have := Nat.two_pow_pos n
    omega
  have e : List.range (2 ^ n) = 0 :: List.range' 1 (2 ^ n - 1) := by
    rw [hp, List.range_eq_range', List.range'_succ, Nat.add_sub_cancel]
  rw [e, List.foldl_cons, if_neg (fun z => Nat.lt_irrefl _ z.2)]
  refine fold_same _ _ (fun b => b < 2 ^ n) _ 0 (Nat.two_pow_pos n) fun b m hmem hb => ?_
  have hm' : m < 2 ^ n := by
    have := (List.mem_range'_1.mp hmem).2
    omega
  unfold better
  rw [isCircle_eq h hm', size_hm n b hb, size_hm n m hm']
  refine ⟨?_, ?_⟩
  · by_cases c : Kzf3.allKnow n g m = true ∧ hm b < hm m
    · rw [if_pos c, if_pos (by rw [c.1, decide_eq_true c.2]; rfl)]
    · rw [if_neg c, if_neg (fun z => c (by rw [Bool.and_eq_true] at z; exact ⟨z.2, of_decide_eq_true z.1⟩))]
  · split
    · exact hm'
    · exact hb
theorem largest_lt {n : Nat} {g : List (Nat × Nat)} (h : Fine n g) : largest (known n g) < 2 ^ n := by
  rw [largest_eq h]
  unfold Kzf3.circle Kzf3.largest
  have key : ∀ (l : List Nat) (b : Nat) (f : Nat → Nat → Nat), b < 2 ^ n → (∀ b m, m ∈ l → b < 2 ^ n → f b m < 2 ^ n) → l.foldl f b < 2 ^ n := by
    intro l
    induction l with
    | nil => intro b f hb _; exact hb
    | cons x l ih =>
      intro b f hb hf
      exact ih _ f (hf b x List.mem_cons_self hb) fun b m hmem hb => hf b m (List.mem_cons_of_mem _ hmem) hb
  refine key _ 0 _ (Nat.two_pow_pos n) fun b m hmem hb => ?_
  split
  · exact List.mem_range.mp hmem
  · exact hb

/-! ### circle -/
def circle (n : Nat) (l : List Nat) : List Int :=
  if told n l = true then [((hm (largest (known n (net l))) : Nat) : Int), ((largest (known n (net l)) : Nat) : Int)] else [-22]
theorem circle_eq (n : Nat) (l : List Int) : PyKzf3.circle (n : Int) l = circle n (l.map Int.toNat) := by
  show (Kzf3.answer (.circle (n : Int).toNat (l.map Int.toNat))).value :: Kzf3Neutral.ints (Kzf3.answer (.circle (n : Int).toNat (l.map Int.toNat))).nums = _
  rw [Int.toNat_natCast]
  unfold circle
  generalize l.map Int.toNat = t
  show (Kzf3.answer (.circle n t)).value :: Kzf3Neutral.ints (Kzf3.answer (.circle n t)).nums = _
  have ea : Kzf3.answer (.circle n t) = if Kzf3.good n t = false then Kzf1.say (-22) else ⟨(Kzf3.size n (Kzf3.circle n (net t)) : Nat), [Kzf3.circle n (net t)]⟩ := rfl
  rw [ea, good_told]
  by_cases h : told n t = true
  · rw [if_pos h, if_neg (by rw [h]; decide), largest_eq (fine_of_told h)]
    have hl := largest_lt (fine_of_told h)
    rw [largest_eq (fine_of_told h)] at hl
    rw [size_hm n _ hl]
    rfl
  · rw [if_neg h, if_pos (by simpa using h)]
    rfl
end Gc
set_option maxRecDepth 100000
namespace Gc
open Kzf1 (net knows has pairsOf okNet)
/-! ### unknown_to_each -/
def unknown (K : List Nat) : List Nat := (List.range K.length).map fun i => 2 ^ K.length - 1 - 2 ^ i - K.getD i 0
theorem unknown_len (K : List Nat) : (unknown K).length = K.length := by
  unfold unknown
  rw [List.length_map, List.length_range]
theorem unknown_at {K : List Nat} {i : Nat} (h : i < K.length) : (unknown K).getD i 0 = 2 ^ K.length - 1 - 2 ^ i - K.getD i 0 := by
  unfold unknown
  rw [List.getD_eq_getElem?_getD, List.getElem?_map, List.getElem?_range h]
  rfl
/-- a number's bits taken out of a greater one that has them all -/
theorem sub_bits : ∀ (n : Nat) {a b : Nat}, b < 2 ^ n → (∀ j, b.testBit j = true → a.testBit j = true) → b ≤ a ∧ ∀ j, (a - b).testBit j = (a.testBit j && !b.testBit j)
  | 0, a, b, hb, _ => by
    have e : b = 0 := by simpa using hb
    subst e
    exact ⟨Nat.zero_le a, fun j => by rw [Nat.sub_zero, Nat.zero_testBit, Bool.not_false, Bool.and_true]⟩
  | n + 1, a, b, hb, h => by
    have hq : ∀ j, (b / 2).testBit j = true → (a / 2).testBit j = true := fun j => by
      rw [← Nat.testBit_succ, ← Nat.testBit_succ]
      exact h (j + 1)
    have h0 : b % 2 = 1 → a % 2 = 1 := fun z => by
      have := h 0 (by rw [Nat.testBit_zero, decide_eq_true z])
      rw [Nat.testBit_zero] at this
      exact of_decide_eq_true this
    obtain ⟨hle, ih⟩ := sub_bits n (a := a / 2) (b := b / 2) (by rw [Nat.pow_succ] at hb; omega) hq
    refine ⟨by omega, fun j => ?_⟩
    cases j with
    | zero =>
      rw [Nat.testBit_zero, Nat.testBit_zero, Nat.testBit_zero]
      rcases Nat.mod_two_eq_zero_or_one b with z | z
      · rw [z, show (a - b) % 2 = a % 2 by omega]
        simp
      · have := h0 z
        rw [z, this, show (a - b) % 2 = 0 by omega]
        rfl
    | succ j =>
      rw [Nat.testBit_succ, Nat.testBit_succ, Nat.testBit_succ, ← ih j, show (a - b) / 2 = a / 2 - b / 2 by omega]
theorem known_lt {n : Nat} {g : List (Nat × Nat)} (h : Fine n g) (i : Nat) : (known n g).getD i 0 < 2 ^ n := by
  refine Nat.lt_pow_two_of_testBit _ fun j hj => ?_
  rw [known_bit h]
  unfold knows
  rw [Bool.and_eq_false_iff]
  right
  refine List.any_eq_false.mpr fun e he => ?_
  have := h e he
  simp
  omega
theorem all_bit (n j : Nat) : (2 ^ n - 1).testBit j = decide (j < n) := Nat.testBit_two_pow_sub_one n j
/-- the three steps of a row: all, without oneself, without friends -/
theorem unknown_step {n : Nat} {g : List (Nat × Nat)} (h : Fine n g) {i : Nat} (hi : i < n) :
    2 ^ i ≤ 2 ^ n - 1 ∧ (known n g).getD i 0 ≤ 2 ^ n - 1 - 2 ^ i ∧ ∀ j, (2 ^ n - 1 - 2 ^ i - (known n g).getD i 0).testBit j = (decide (j < n) && i != j && !knows g i j) := by
  have b1 : ∀ j, (2 ^ n - 1 - 2 ^ i).testBit j = (decide (j < n) && i != j) := fun j => by
    rw [sub_bit i (by rw [all_bit]; exact decide_eq_true hi), all_bit]
  have c := sub_bits n (a := 2 ^ n - 1 - 2 ^ i) (b := (known n g).getD i 0) (known_lt h i) fun j hj => by
    rw [b1]
    have hjn := bit_lt (known_lt h i) hj
    rw [known_bit h] at hj
    unfold knows at hj
    rw [Bool.and_eq_true] at hj
    rw [decide_eq_true hjn, hj.1]
    rfl
  refine ⟨?_, c.1, fun j => ?_⟩
  · exact Nat.ge_two_pow_of_testBit (by rw [all_bit]; exact decide_eq_true hi)
  · rw [c.2, b1, known_bit h]
theorem unknown_bit {n : Nat} {g : List (Nat × Nat)} (h : Fine n g) {i : Nat} (hi : i < n) (j : Nat) :
    ((unknown (known n g)).getD i 0).testBit j = (decide (j < n) && i != j && !knows g i j) := by
  rw [unknown_at (by rw [known_len]; exact hi), known_len]
  exact (unknown_step h hi).2.2 j
/-! ### strangers -/
theorem noneKnow_iff (n : Nat) (g : Kzf1.Net) (m : Nat) (hm : m < 2 ^ n) : Kzf3.noneKnow n g m = true ↔ ∀ i j, i ≠ j → m.testBit i = true → m.testBit j = true → knows g i j = false := by
  unfold Kzf3.noneKnow
  rw [List.all_eq_true]
  constructor
  · intro h i j hij hi hj
    rcases Nat.lt_or_gt_of_ne hij with q | q
    · exact Bool.not_eq_true' _ |>.mp (h (i, j) (mem_inside.mpr ⟨q, bit_lt hm hj, hi, hj⟩))
    · rw [knows_comm]
      exact Bool.not_eq_true' _ |>.mp (h (j, i) (mem_inside.mpr ⟨q, bit_lt hm hi, hj, hi⟩))
  · intro h p hp
    obtain ⟨h1, h2, h3, h4⟩ := mem_inside.mp hp
    exact Bool.not_eq_true' _ |>.mpr (h p.1 p.2 (by omega) h3 h4)
theorem isCircle_iff {n m : Nat} {K : List Nat} (hK : K.length = n) (hm : m < 2 ^ n) : isCircle m K = true ↔ ∀ i j, i < n → j < n → i ≠ j → m.testBit i = true → m.testBit j = true → (K.getD i 0).testBit j = true := by
  unfold isCircle
  rw [hK, List.all_eq_true]
  constructor
  · intro q i j hi _ hij bi bj
    have q1 := q i (List.mem_range.mpr hi)
    rw [atEase_iff] at q1
    exact q1 bi j hij bj
  · intro q i hi
    rw [atEase_iff]
    intro bi j hij bj
    exact q i j (List.mem_range.mp hi) (bit_lt hm bj) hij bi bj
theorem isStrange_eq {n : Nat} {g : List (Nat × Nat)} (h : Fine n g) {m : Nat} (hm : m < 2 ^ n) : isCircle m (unknown (known n g)) = Kzf3.noneKnow n g m := by
  rw [Bool.eq_iff_iff, noneKnow_iff n g m hm, isCircle_iff (by rw [unknown_len, known_len]) hm]
  constructor
  · intro q i j hij bi bj
    have z := q i j (bit_lt hm bi) (bit_lt hm bj) hij bi bj
    rw [unknown_bit h (bit_lt hm bi), Bool.and_eq_true] at z
    exact Bool.not_eq_true' _ |>.mp z.2
  · intro q i j hi hj hij bi bj
    rw [unknown_bit h hi, decide_eq_true hj, bne_iff_ne.mpr hij, q i j hij bi bj]
    rfl
theorem largest_of {n : Nat} {K : List Nat} {f : Nat → Bool} (hK : K.length = n) (hf : ∀ m, m < 2 ^ n → isCircle m K = f m) : largest K = Kzf3.largest n f ∧ largest K < 2 ^ n := by
  have key : ∀ (l : List Nat) (b : Nat) (f : Nat → Nat → Nat), b < 2 ^ n → (∀ b m, m ∈ l → b < 2 ^ n → f b m < 2 ^ n) → l.foldl f b < 2 ^ n := by
    intro l
    induction l with
    | nil => intro b f hb _; exact hb
    | cons x l ih =>
      intro b f hb hf
      exact ih _ f (hf b x List.mem_cons_self hb) fun b m hmem hb => hf b m (List.mem_cons_of_mem _ hmem) hb
  have hp : 2 ^ n = (2 ^ n - 1) + 1 := by
    have := Nat.two_pow_pos n
    omega
  have hmem' : ∀ m, m ∈ List.range' 1 (2 ^ n - 1) → m < 2 ^ n := fun m hm => by
    have := (List.mem_range'_1.mp hm).2
    omega
  refine ⟨?_, ?_⟩
  · unfold largest Kzf3.largest
    rw [hK]
    have e : List.range (2 ^ n) = 0 :: List.range' 1 (2 ^ n - 1) := by
      rw [hp, List.range_eq_range', List.range'_succ, Nat.add_sub_cancel]
    rw [e, List.foldl_cons, if_neg (fun z => Nat.lt_irrefl _ z.2)]
    refine fold_same _ _ (fun b => b < 2 ^ n) _ 0 (Nat.two_pow_pos n) fun b m hmem hb => ?_
    have hm' := hmem' m hmem
    unfold better
    rw [hf m hm', size_hm n b hb, size_hm n m hm']
    refine ⟨?_, ?_⟩
    · by_cases c : f m = true ∧ hm b < hm m
      · rw [if_pos c, if_pos (by rw [c.1, decide_eq_true c.2]; rfl)]
      · rw [if_neg c, if_neg (fun z => c (by rw [Bool.and_eq_true] at z; exact ⟨z.2, of_decide_eq_true z.1⟩))]
    · split
      · exact hm'
      · exact hb
  · unfold largest
    rw [hK]
    refine key _ 0 _ (Nat.two_pow_pos n) fun b m hmem hb => ?_
    unfold better
    split
    · exact hmem' m hmem
    · exact hb
theorem largest_strange {n : Nat} {g : List (Nat × Nat)} (h : Fine n g) : largest (unknown (known n g)) = Kzf3.strange n g ∧ largest (unknown (known n g)) < 2 ^ n :=
  largest_of (by rw [unknown_len, known_len]) fun _ hm => isStrange_eq h hm
/-! ### strange -/
def strange (n : Nat) (l : List Nat) : List Int :=
  if told n l = true then [((hm (largest (unknown (known n (net l)))) : Nat) : Int), ((largest (unknown (known n (net l))) : Nat) : Int)] else [-22]
theorem strange_eq (n : Nat) (l : List Int) : PyKzf3.strange (n : Int) l = strange n (l.map Int.toNat) := by
  show (Kzf3.answer (.strange (n : Int).toNat (l.map Int.toNat))).value :: Kzf3Neutral.ints (Kzf3.answer (.strange (n : Int).toNat (l.map Int.toNat))).nums = _
  rw [Int.toNat_natCast]
  unfold strange
  generalize l.map Int.toNat = t
  show (Kzf3.answer (.strange n t)).value :: Kzf3Neutral.ints (Kzf3.answer (.strange n t)).nums = _
  have ea : Kzf3.answer (.strange n t) = if Kzf3.good n t = false then Kzf1.say (-22) else ⟨(Kzf3.size n (Kzf3.strange n (net t)) : Nat), [Kzf3.strange n (net t)]⟩ := rfl
  rw [ea, good_told]
  by_cases h : told n t = true
  · obtain ⟨e, hl⟩ := largest_strange (fine_of_told h)
    rw [if_pos h, if_neg (by rw [h]; decide), ← e, size_hm n _ hl]
    rfl
  · rw [if_neg h, if_pos (by simpa using h)]
    rfl
end Gc
set_option maxRecDepth 100000
namespace Gc
open Kzf1 (net knows has pairsOf okNet)
/-! ### sizes -/
theorem hm_le : ∀ (n m : Nat), m < 2 ^ n → hm m ≤ n
  | 0, m, h => by
    have e : m = 0 := by simpa using h
    rw [e, hm_zero]
    exact Nat.le_refl 0
  | n + 1, m, h => by
    have q := hm_le n (m / 2) (by rw [Nat.pow_succ] at h; omega)
    rw [hm_half]
    omega
theorem hm_ones : ∀ k : Nat, hm (2 ^ k - 1) = k
  | 0 => hm_zero
  | k + 1 => by
    have p := Nat.two_pow_pos k
    rw [hm_half, Nat.pow_succ, show (2 ^ k * 2 - 1) % 2 = 1 by omega, show (2 ^ k * 2 - 1) / 2 = 2 ^ k - 1 by omega, hm_ones k]
    omega
theorem hm_pos {m : Nat} (h : 0 < m) : 0 < hm m := by
  rw [hm_half]
  rcases Nat.mod_two_eq_zero_or_one m with z | z
  · have := hm_pos (m := m / 2) (by omega)
    omega
  · omega
termination_by m
decreasing_by omega
/-- the least number of k bits -/
theorem ones_le : ∀ (m : Nat), 2 ^ hm m - 1 ≤ m := by
  intro m
  induction m using Nat.strongRecOn with
  | _ m ih =>
    by_cases h : m = 0
    · subst h
      rw [hm_zero]
      exact Nat.le_refl 0
    · have q := ih (m / 2) (by omega)
      rw [hm_half]
      rcases Nat.mod_two_eq_zero_or_one m with z | z
      · rw [z, Nat.zero_add]
        omega
      · rw [z, Nat.add_comm, Nat.pow_succ]
        have := Nat.two_pow_pos (hm (m / 2))
        omega
/-! ### fewest: what the specification's fold finds -/
/-- m is a group of k that lacks fewest, the least number of like ones, among those below u -/
def Few (n k : Nat) (g : Kzf1.Net) (u : Nat) (o : Option Nat) : Prop := match o with
  | none => ∀ x, x < u → x < 2 ^ n → hm x ≠ k
  | some m => m < u ∧ m < 2 ^ n ∧ hm m = k ∧ ∀ x, x < u → x < 2 ^ n → hm x = k → Kzf3.lacks n g m < Kzf3.lacks n g x ∨ (Kzf3.lacks n g m = Kzf3.lacks n g x ∧ m ≤ x)
def fewStep (n k : Nat) (g : Kzf1.Net) (b : Option Nat) (m : Nat) : Option Nat := if Kzf3.size n m ≠ k then b else match b with
  | none => some m
  | some x => if Kzf3.lacks n g m < Kzf3.lacks n g x then some m else b
theorem few_fold (n k : Nat) (g : Kzf1.Net) : ∀ u, u ≤ 2 ^ n → Few n k g u ((List.range u).foldl (fewStep n k g) none)
  | 0, _ => fun x hx => absurd hx (Nat.not_lt_zero x)
  | u + 1, hu => by
    have ih := few_fold n k g u (by omega)
    rw [List.range_succ, List.foldl_append]
    generalize (List.range u).foldl (fewStep n k g) none = b at ih
    show Few n k g (u + 1) (fewStep n k g b u)
    unfold fewStep
    rw [size_hm n u (by omega)]
    by_cases c : hm u = k
    · rw [if_neg (fun z => z c)]
      cases b with
      | none =>
        refine ⟨by omega, by omega, c, fun x h1 h2 h3 => ?_⟩
        rcases Nat.lt_or_ge x u with z | z
        · exact absurd h3 (ih x z h2)
        · obtain rfl : x = u := by omega
          exact .inr ⟨rfl, Nat.le_refl x⟩
      | some m =>
        obtain ⟨a1, a2, a3, a4⟩ := ih
        show Few n k g (u + 1) (if Kzf3.lacks n g u < Kzf3.lacks n g m then some u else some m)
        split
        · rename_i l
          refine ⟨by omega, by omega, c, fun x h1 h2 h3 => ?_⟩
          rcases Nat.lt_or_ge x u with z | z
          · rcases a4 x z h2 h3 with y | y <;> exact .inl (by omega)
          · obtain rfl : x = u := by omega
            exact .inr ⟨rfl, Nat.le_refl x⟩
        · rename_i l
          refine ⟨by omega, a2, a3, fun x h1 h2 h3 => ?_⟩
          rcases Nat.lt_or_ge x u with z | z
          · exact a4 x z h2 h3
          · obtain rfl : x = u := by omega
            omega
    · rw [if_pos c]
      cases b with
      | none =>
        intro x h1 h2
        rcases Nat.lt_or_ge x u with z | z
        · exact ih x z h2
        · obtain rfl : x = u := by omega
          exact c
      | some m =>
        obtain ⟨a1, a2, a3, a4⟩ := ih
        refine ⟨by omega, a2, a3, fun x h1 h2 h3 => ?_⟩
        rcases Nat.lt_or_ge x u with z | z
        · exact a4 x z h2 h3
        · obtain rfl : x = u := by omega
          exact absurd h3 c
theorem few_spec (n k : Nat) (g : Kzf1.Net) : Few n k g (2 ^ n) (Kzf3.fewest n k g) := few_fold n k g (2 ^ n) (Nat.le_refl _)
theorem few_one {n k : Nat} {g : Kzf1.Net} {a b : Option Nat} (ha : Few n k g (2 ^ n) a) (hb : Few n k g (2 ^ n) b) : a = b := by
  cases a with
  | none =>
    cases b with
    | none => rfl
    | some y => exact absurd hb.2.2.1 (ha y hb.2.1 hb.2.1)
  | some x =>
    cases b with
    | none => exact absurd ha.2.2.1 (hb x ha.2.1 ha.2.1)
    | some y =>
      obtain ⟨a1, a2, a3, a4⟩ := ha
      obtain ⟨b1, b2, b3, b4⟩ := hb
      have p := a4 y b2 b2 b3
      have q := b4 x a2 a2 a3
      have e : x = y := by omega
      rw [e]
theorem fewest_of {n k : Nat} {g : Kzf1.Net} {o : Option Nat} (h : Few n k g (2 ^ n) o) : Kzf3.fewest n k g = o := few_one (few_spec n k g) h
theorem fewest_none {n k : Nat} (g : Kzf1.Net) (h : n < k) : Kzf3.fewest n k g = none :=
  fewest_of (o := none) fun x _ hx e => by
    have := hm_le n x hx
    omega
theorem fewest_some {n k : Nat} (g : Kzf1.Net) (h : k ≤ n) : ∃ m, Kzf3.fewest n k g = some m ∧ Few n k g (2 ^ n) (some m) := by
  have q := few_spec n k g
  cases e : Kzf3.fewest n k g with
  | none =>
    rw [e] at q
    have p := Nat.two_pow_pos k
    have l : 2 ^ k ≤ 2 ^ n := Nat.pow_le_pow_right (by decide) h
    exact absurd (hm_ones k) (q (2 ^ k - 1) (by omega) (by omega))
  | some m =>
    rw [e] at q
    exact ⟨m, rfl, q⟩
/-! ### lacks, guest by guest -/
theorem lacks_eq (n : Nat) (g : Kzf1.Net) (m : Nat) : Kzf3.lacks n g m = ((List.range n).map fun i => ((List.range n).filter fun j => decide (i < j) && (m.testBit i && m.testBit j && !knows g i j)).length).sum := by
  unfold Kzf3.lacks Kzf3.inside Kzf1.pairsOf
  rw [List.filter_filter, List.filter_flatMap, List.length_flatMap]
  congr 1
  refine List.map_congr_left fun i _ => ?_
  rw [List.filter_map, List.length_map, List.filter_filter]
  congr 1
  refine List.filter_congr fun j _ => ?_
  show ((!knows g i j) && (has m i && has m j) && decide (i < j)) = _
  rw [has_bit, has_bit, Bool.and_comm (!knows g i j), Bool.and_comm _ (decide (i < j))]
end Gc
set_option maxRecDepth 100000
namespace Gc
open Kzf1 (net knows has pairsOf okNet)
/-! ### sums -/
def sm : Nat → (Nat → Nat) → Nat
  | 0, _ => 0
  | n + 1, f => sm n f + f n
theorem sm_congr : ∀ {n : Nat} {f f' : Nat → Nat}, (∀ i, i < n → f i = f' i) → sm n f = sm n f'
  | 0, _, _, _ => rfl
  | n + 1, f, f', h => by
    show sm n f + f n = sm n f' + f' n
    rw [sm_congr fun i hi => h i (by omega), h n (by omega)]
theorem sm_add : ∀ (n : Nat) (f f' : Nat → Nat), sm n (fun i => f i + f' i) = sm n f + sm n f'
  | 0, _, _ => rfl
  | n + 1, f, f' => by
    show sm n (fun i => f i + f' i) + (f n + f' n) = (sm n f + f n) + (sm n f' + f' n)
    rw [sm_add n]
    omega
theorem sm_zero : ∀ n : Nat, sm n (fun _ => 0) = 0
  | 0 => rfl
  | n + 1 => by
    show sm n (fun _ => 0) + 0 = 0
    rw [sm_zero n]
theorem sm_swap (f : Nat → Nat → Nat) : ∀ n k : Nat, sm n (fun i => sm k (f i)) = sm k (fun j => sm n fun i => f i j)
  | 0, k => (sm_zero k).symm
  | n + 1, k => by
    show sm n (fun i => sm k (f i)) + sm k (f n) = sm k (fun j => sm n (fun i => f i j) + f n j)
    rw [sm_add, sm_swap f n k]
theorem sum_range (f : Nat → Nat) : ∀ n : Nat, ((List.range n).map f).sum = sm n f
  | 0 => rfl
  | n + 1 => by
    rw [List.range_succ, List.map_append, List.sum_append, sum_range f n]
    show sm n f + (f n + 0) = sm n f + f n
    rw [Nat.add_zero]
theorem len_filter (p : Nat → Bool) : ∀ n : Nat, ((List.range n).filter p).length = sm n fun j => (p j).toNat
  | 0 => rfl
  | n + 1 => by
    rw [List.range_succ, List.filter_append, List.length_append, len_filter p n]
    show sm n _ + _ = sm n _ + (p n).toNat
    congr 1
    cases h : p n with
    | true => rw [List.filter_cons_of_pos h]; rfl
    | false => rw [List.filter_cons_of_neg (by rw [h]; exact Bool.false_ne_true)]; rfl
theorem hm_sm {n m : Nat} (h : m < 2 ^ n) : hm m = sm n fun j => (m.testBit j).toNat := by
  rw [← size_hm n m h]
  unfold Kzf3.size
  rw [len_filter]
  exact sm_congr fun i _ => by rw [has_bit]
/-! ### lacks, guest by guest -/
/-- i and j of m don't know one another -/
def apart (g : Kzf1.Net) (m i j : Nat) : Bool := m.testBit i && m.testBit j && i != j && !knows g i j
theorem apart_comm (g : Kzf1.Net) (m i j : Nat) : apart g m i j = apart g m j i := by
  unfold apart
  rw [knows_comm g i j, Bool.and_comm (m.testBit i)]
  congr 2
  rw [Bool.eq_iff_iff, bne_iff_ne, bne_iff_ne]
  exact ⟨Ne.symm, Ne.symm⟩
theorem lacks_sm (n : Nat) (g : Kzf1.Net) (m : Nat) : Kzf3.lacks n g m = sm n fun i => sm n fun j => (decide (i < j) && apart g m i j).toNat := by
  rw [lacks_eq, sum_range]
  refine sm_congr fun i _ => ?_
  rw [len_filter]
  refine sm_congr fun j _ => ?_
  congr 1
  unfold apart
  by_cases h : i < j
  · rw [bne_iff_ne.mpr (by omega : i ≠ j), Bool.and_true]
  · rw [decide_eq_false h, Bool.false_and, Bool.false_and]
/-- every pair is counted from both sides -/
theorem lacks_twice (n : Nat) (g : Kzf1.Net) (m : Nat) : (sm n fun i => sm n fun j => (apart g m i j).toNat) = 2 * Kzf3.lacks n g m := by
  have e1 : (sm n fun i => sm n fun j => (apart g m i j).toNat) = (sm n fun i => (sm n fun j => (decide (i < j) && apart g m i j).toNat) + sm n fun j => (decide (j < i) && apart g m i j).toNat) := by
    refine sm_congr fun i _ => ?_
    rw [← sm_add]
    refine sm_congr fun j _ => ?_
    rcases Nat.lt_trichotomy i j with h | h | h
    · rw [decide_eq_true h, decide_eq_false (by omega : ¬ j < i), Bool.true_and, Bool.false_and]
      rfl
    · subst h
      have : apart g m i i = false := by
        unfold apart
        rw [bne_self_eq_false, Bool.and_false, Bool.false_and]
      rw [this, Bool.and_false]
      rfl
    · rw [decide_eq_true h, decide_eq_false (by omega : ¬ i < j), Bool.true_and, Bool.false_and]
      exact (Nat.zero_add _).symm
  have e2 : (sm n fun i => sm n fun j => (decide (j < i) && apart g m i j).toNat) = sm n fun i => sm n fun j => (decide (i < j) && apart g m i j).toNat := by
    rw [sm_swap]
    refine sm_congr fun i _ => sm_congr fun j _ => ?_
    rw [apart_comm]
  rw [e1, sm_add, e2, ← lacks_sm]
  omega
end Gc
set_option maxRecDepth 100000
namespace Gc
open Kzf1 (net knows has pairsOf okNet)
/-! ### threes -/
/-- a three in which p -/
def three (p : Nat → Bool) (m : Nat) : Bool := decide (hm m = 3) && p m
theorem filter_step (p : Nat → Bool) (u : Nat) : (List.range (u + 1)).filter p = (List.range u).filter p ++ if p u = true then [u] else [] := by
  rw [List.range_succ, List.filter_append]
  congr 1
  by_cases h : p u = true
  · rw [if_pos h, List.filter_cons_of_pos h]; rfl
  · rw [if_neg h, List.filter_cons_of_neg h]; rfl
theorem threesOf_filter (n : Nat) (f p : Nat → Bool) (h : ∀ m, m < 2 ^ n → f m = p m) : (Kzf3.threesOf n).filter f = (List.range (2 ^ n)).filter (three p) := by
  unfold Kzf3.threesOf
  rw [List.filter_filter]
  refine List.filter_congr fun m hm' => ?_
  have l := List.mem_range.mp hm'
  unfold three
  rw [size_hm n m l, h m l, Bool.and_comm]
  congr 1
theorem threes_filter {n : Nat} {g : List (Nat × Nat)} (h : Fine n g) : Kzf3.threes n g = (List.range (2 ^ n)).filter (three fun m => isCircle m (known n g)) :=
  threesOf_filter n _ _ fun _ hm' => (isCircle_eq h hm').symm
theorem strangeThrees_filter {n : Nat} {g : List (Nat × Nat)} (h : Fine n g) : Kzf3.strangeThrees n g = (List.range (2 ^ n)).filter (three fun m => isCircle m (unknown (known n g))) :=
  threesOf_filter n _ _ fun _ hm' => (isStrange_eq h hm').symm
theorem headD_append (l : List Nat) (u : Nat) : (l ++ [u]).headD 0 = if l = [] then u else l.headD 0 := by
  cases l with
  | nil => rfl
  | cons a l => rfl
/-- the least of those found so far is 0 only where none is found: a three is never 0 -/
theorem headD_pos {p : Nat → Bool} {u : Nat} : ((List.range u).filter (three p)).headD 0 = 0 ↔ (List.range u).filter (three p) = [] := by
  constructor
  · intro h
    cases e : (List.range u).filter (three p) with
    | nil => rfl
    | cons a l =>
      rw [e] at h
      have h : a = 0 := h
      have q := (List.mem_filter.mp (by rw [e]; exact List.mem_cons_self : a ∈ (List.range u).filter (three p))).2
      unfold three at q
      rw [h, hm_zero] at q
      simp at q
  · intro h
    rw [h]; rfl
theorem threes_eq (n : Nat) (l : List Int) : PyKzf3.threes (n : Int) l = if told n (l.map Int.toNat) = true then
    [(((Kzf3.threes n (net (l.map Int.toNat))).length : Nat) : Int), (((Kzf3.strangeThrees n (net (l.map Int.toNat))).length : Nat) : Int), (((Kzf3.threes n (net (l.map Int.toNat))).headD 0 : Nat) : Int)] else [-22] := by
  show (Kzf3.answer (.threes (n : Int).toNat (l.map Int.toNat))).value :: Kzf3Neutral.ints (Kzf3.answer (.threes (n : Int).toNat (l.map Int.toNat))).nums = _
  rw [Int.toNat_natCast]
  generalize l.map Int.toNat = t
  show (Kzf3.answer (.threes n t)).value :: Kzf3Neutral.ints (Kzf3.answer (.threes n t)).nums = _
  have ea : Kzf3.answer (.threes n t) = if Kzf3.good n t = false then Kzf1.say (-22) else ⟨((Kzf3.threes n (net t)).length : Nat), [(Kzf3.strangeThrees n (net t)).length, (Kzf3.threes n (net t)).headD 0]⟩ := rfl
  rw [ea, good_told]
  by_cases h : told n t = true
  · rw [if_pos h, if_neg (by rw [h]; decide)]
    rfl
  · rw [if_neg h, if_pos (by simpa using h)]
    rfl
theorem fewest_eq (n k : Nat) (l : List Int) : PyKzf3.fewest (n : Int) (k : Int) l = if told n (l.map Int.toNat) = true ∧ k ≤ 8 then
    (match Kzf3.fewest n k (net (l.map Int.toNat)) with
      | none => [-33]
      | some m => [((Kzf3.lacks n (net (l.map Int.toNat)) m : Nat) : Int), ((m : Nat) : Int)]) else [-22] := by
  show (Kzf3.answer (.fewest (n : Int).toNat (k : Int).toNat (l.map Int.toNat))).value :: Kzf3Neutral.ints (Kzf3.answer (.fewest (n : Int).toNat (k : Int).toNat (l.map Int.toNat))).nums = _
  rw [Int.toNat_natCast, Int.toNat_natCast]
  generalize l.map Int.toNat = t
  show (Kzf3.answer (.fewest n k t)).value :: Kzf3Neutral.ints (Kzf3.answer (.fewest n k t)).nums = _
  have ea : Kzf3.answer (.fewest n k t) = if Kzf3.good n t = false ∨ 8 < k then Kzf1.say (-22) else match Kzf3.fewest n k (net t) with
    | none => Kzf1.say (-33)
    | some m => ⟨(Kzf3.lacks n (net t) m : Nat), [m]⟩ := rfl
  rw [ea, good_told]
  by_cases h : told n t = true ∧ k ≤ 8
  · rw [if_pos h, if_neg (by rw [h.1]; rintro (z | z); cases z; omega)]
    cases Kzf3.fewest n k (net t) with
    | none => rfl
    | some m => rfl
  · rw [if_neg h, if_pos (by
      by_cases c : told n t = true
      · exact .inr (Nat.lt_of_not_le fun z => h ⟨c, z⟩)
      · exact .inl (by simpa using c))]
    rfl
end Gc
set_option maxRecDepth 100000
namespace Gc
open Kzf1 (net knows has pairsOf okNet)
/-! ### groups_of, circles_of -/
def groupsOf (k n : Nat) : List Nat := (List.range (2 ^ n)).filter fun m => decide (hm m = k)
def circlesOf (k : Nat) (K : List Nat) : List Nat := (groupsOf k K.length).filter fun m => isCircle m K
theorem mem_groupsOf {k n m : Nat} : m ∈ groupsOf k n ↔ m < 2 ^ n ∧ hm m = k := by
  unfold groupsOf
  rw [List.mem_filter, List.mem_range, decide_eq_true_eq]
theorem groupsOf_len (k n : Nat) : (groupsOf k n).length ≤ 2 ^ n := by
  unfold groupsOf
  refine Nat.le_trans (List.length_filter_le _ _) ?_
  rw [List.length_range]
  exact Nat.le_refl _
theorem circlesOf_len (k : Nat) (K : List Nat) : (circlesOf k K).length ≤ 2 ^ K.length := by
  unfold circlesOf
  exact Nat.le_trans (List.length_filter_le _ _) (groupsOf_len k K.length)
theorem circlesOf_filter (K : List Nat) : circlesOf 3 K = (List.range (2 ^ K.length)).filter (three fun m => isCircle m K) := by
  unfold circlesOf groupsOf
  rw [List.filter_filter]
  refine List.filter_congr fun m _ => ?_
  unfold three
  rw [Bool.and_comm]
theorem circlesOf_known {n : Nat} {g : List (Nat × Nat)} (h : Fine n g) : circlesOf 3 (known n g) = Kzf3.threes n g := by
  rw [circlesOf_filter, threes_filter h, known_len]
theorem circlesOf_unknown {n : Nat} {g : List (Nat × Nat)} (h : Fine n g) : circlesOf 3 (unknown (known n g)) = Kzf3.strangeThrees n g := by
  rw [circlesOf_filter, strangeThrees_filter h, unknown_len, known_len]
theorem rising_least : ∀ {l : List Nat}, l.Pairwise (· < ·) → ∀ m, m ∈ l → (∀ y, y ∈ l → m ≤ y) → m = l.headD 0
  | [], _, m, h, _ => by cases h
  | a :: l, hp, m, h, hl => by
    show m = a
    have h1 := hl a List.mem_cons_self
    rcases List.mem_cons.mp h with e | e
    · exact e
    · have h2 := (List.pairwise_cons.mp hp).1 m e
      omega
theorem circlesOf_least {k : Nat} {K : List Nat} {m : Nat} (h : m ∈ circlesOf k K) (hl : ∀ y, y ∈ circlesOf k K → m ≤ y) : m = (circlesOf k K).headD 0 := by
  refine rising_least ?_ m h hl
  unfold circlesOf groupsOf
  rw [List.filter_filter]
  exact List.Pairwise.filter _ List.pairwise_lt_range
/-! ### threes -/
def threes (n : Nat) (l : List Nat) : List Int := if told n l = true then
  [(((circlesOf 3 (known n (net l))).length : Nat) : Int), (((circlesOf 3 (unknown (known n (net l)))).length : Nat) : Int), (((circlesOf 3 (known n (net l))).headD 0 : Nat) : Int)] else [-22]
theorem threes_is (n : Nat) (l : List Int) : PyKzf3.threes (n : Int) l = threes n (l.map Int.toNat) := by
  rw [threes_eq]
  unfold threes
  by_cases h : told n (l.map Int.toNat) = true
  · rw [if_pos h, if_pos h, circlesOf_known (fine_of_told h), circlesOf_unknown (fine_of_told h)]
  · rw [if_neg h, if_neg h]
/-! ### lacked -/
def seen (m : Nat) (U : List Nat) (i : Nat) : Nat := if m.testBit i = true then hm (m &&& U.getD i 0) else 0
def lacked (m : Nat) (U : List Nat) : Nat := sm U.length (seen m U) / 2
theorem seen_eq {n : Nat} {g : List (Nat × Nat)} (h : Fine n g) {m : Nat} (hm' : m < 2 ^ n) {i : Nat} (hi : i < n) : seen m (unknown (known n g)) i = sm n fun j => (apart g m i j).toNat := by
  unfold seen
  cases c : m.testBit i with
  | false =>
    rw [if_neg Bool.false_ne_true]
    refine ((sm_congr fun j _ => ?_).trans (sm_zero n)).symm
    unfold apart
    rw [c, Bool.false_and, Bool.false_and, Bool.false_and]
    rfl
  | true =>
    rw [if_pos rfl, hm_sm (n := n) (Nat.lt_of_le_of_lt Nat.and_le_left hm')]
    refine sm_congr fun j hj => ?_
    rw [Nat.testBit_and, unknown_bit h hi, decide_eq_true hj]
    unfold apart
    rw [c, Bool.true_and, Bool.true_and, Bool.and_assoc]
theorem lacked_eq {n : Nat} {g : List (Nat × Nat)} (h : Fine n g) {m : Nat} (hm' : m < 2 ^ n) : lacked m (unknown (known n g)) = Kzf3.lacks n g m := by
  unfold lacked
  rw [unknown_len, known_len, sm_congr fun i hi => seen_eq h hm' hi, lacks_twice]
  omega
/-! ### fewest -/
def fewest (n k : Nat) (l : List Nat) : List Int := if told n l = true ∧ k ≤ 8 then
    (match Kzf3.fewest n k (net l) with
      | none => [-33]
      | some m => [((Kzf3.lacks n (net l) m : Nat) : Int), ((m : Nat) : Int)]) else [-22]
theorem fewest_is (n k : Nat) (l : List Int) : PyKzf3.fewest (n : Int) (k : Int) l = fewest n k (l.map Int.toNat) := fewest_eq n k l
theorem fewest_bad {n k : Nat} {l : List Nat} (h : ¬ (told n l = true ∧ k ≤ 8)) : fewest n k l = [-22] := by
  unfold fewest
  rw [if_neg h]
theorem fewest_more {n k : Nat} {l : List Nat} (h : told n l = true) (hk : k ≤ 8) (hn : n < k) : fewest n k l = [-33] := by
  unfold fewest
  rw [if_pos ⟨h, hk⟩, fewest_none _ hn]
/-- the program's answer: the least pair of what a group lacks and its number -/
theorem fewest_at {n k m : Nat} {l : List Nat} (h : told n l = true) (hk : k ≤ n) (hm' : m ∈ groupsOf k n)
    (hb : ∀ x, x ∈ groupsOf k n → lacked m (unknown (known n (net l))) < lacked x (unknown (known n (net l))) ∨ (lacked m (unknown (known n (net l))) = lacked x (unknown (known n (net l))) ∧ m ≤ x)) :
    fewest n k l = [((lacked m (unknown (known n (net l))) : Nat) : Int), ((m : Nat) : Int)] := by
  have fine := fine_of_told h
  obtain ⟨m1, m2⟩ := mem_groupsOf.mp hm'
  have e : Kzf3.fewest n k (net l) = some m := fewest_of (o := some m) ⟨m1, m1, m2, fun x _ h2 h3 => by
    have z := hb x (mem_groupsOf.mpr ⟨h2, h3⟩)
    rw [lacked_eq fine m1, lacked_eq fine h2] at z
    exact z⟩
  unfold fewest
  rw [if_pos ⟨h, Nat.le_trans hk (n_of_told h).2⟩, e, lacked_eq fine m1]
/-- there is a group of k where k guests are there -/
theorem groupsOf_ne {n k : Nat} (h : k ≤ n) : groupsOf k n ≠ [] := fun e => by
  have p := Nat.two_pow_pos k
  have l : 2 ^ k ≤ 2 ^ n := Nat.pow_le_pow_right (by decide) h
  have q : 2 ^ k - 1 ∈ groupsOf k n := mem_groupsOf.mpr ⟨by omega, hm_ones k⟩
  rw [e] at q
  cases q
end Gc
set_option Elab.async false
set_option maxRecDepth 100000
set_option maxHeartbeats 4000000
/-! ### list(zip(xs, ys)) over two lists, at the library's level -/
namespace Gz
open PySem PySem.Calls PyProof.Rows PyProof.V PySem.Spec PySem.W

/-- the pairs that a walk has made so far, as tuples above lo that rise -/
structure Made (xs ys : Array Value) (lo : Addr) (h : Heap) (as : List Addr) : Prop where
  rise : as.Pairwise (· < ·)
  above : ∀ a ∈ as, lo < a
  tups : ∀ (j : Nat) (a : Addr), as[j]? = some a → ∃ x y, xs[j]? = some x ∧ ys[j]? = some y ∧ IsPair h a x y
theorem Made.there {xs ys : Array Value} {lo : Addr} {h : Heap} {as : List Addr} (g : Made xs ys lo h as) {a : Addr} (ha : a ∈ as) : a < h.objs.size := by
  obtain ⟨j, hj⟩ := List.mem_iff_getElem?.mp ha
  obtain ⟨x, y, _, _, e⟩ := g.tups j a hj
  exact Heap.lt_size e

/-- the zip at z ahead of its turn i; S: the list that takes what it hands out -/
structure Zst (z TI TO i1 i2 l1 l2 S : Addr) (xs ys : Array Value) (h : Heap) (i : Nat) : Prop where
  own : (IsZip h z TI TO .none ∧ ∃ a b, IsPair h TO a b) ∨ ∃ T f o, IsZipHeld h z TI TO T f ∧ h.get? T = some o ∧ S < T
  inn : IsPair h TI (.ref i1) (.ref i2)
  it1 : h.IsListIter i1 l1 i
  it2 : h.IsListIter i2 l2 i
  li1 : h.IsList l1 xs
  li2 : h.IsList l2 ys
/-- where they lie: all below S -/
structure Low (z TI TO i1 i2 l1 l2 S : Addr) : Prop where
  z : z < S
  TI : TI < S
  TO : TO < S
  i1 : i1 < S
  i2 : i2 < S
  l1 : l1 < S
  l2 : l2 < S
section
variable {z TI TO i1 i2 l1 l2 S : Addr} {xs ys : Array Value}
theorem Zst.keep {h h' : Heap} {i : Nat} (L : Low z TI TO i1 i2 l1 l2 S) (g : Zst z TI TO i1 i2 l1 l2 S xs ys h i) (k : ∀ b o, b ≠ S → h.get? b = some o → h'.get? b = some o) : Zst z TI TO i1 i2 l1 l2 S xs ys h' i where
  own := by
    rcases g.own with ⟨hz, a, b, hT⟩ | ⟨T, f, o, hz, hT, hl⟩
    · exact .inl ⟨k _ _ (Nat.ne_of_lt L.z) hz, a, b, k _ _ (Nat.ne_of_lt L.TO) hT⟩
    · exact .inr ⟨T, f, o, k _ _ (Nat.ne_of_lt L.z) hz, k _ _ (Nat.ne_of_gt hl) hT, hl⟩
  inn := k _ _ (Nat.ne_of_lt L.TI) g.inn
  it1 := g.it1.at fun o e => k _ o (Nat.ne_of_lt L.i1) e
  it2 := g.it2.at fun o e => k _ o (Nat.ne_of_lt L.i2) e
  li1 := g.li1.at fun o e => k _ o (Nat.ne_of_lt L.l1) e
  li2 := g.li2.at fun o e => k _ o (Nat.ne_of_lt L.l2) e
end
section
variable {prog : Program} {w : World} {A : Around} {E : Value → Shared → Prop} {s : Shared} {z TI TO i1 i2 l1 l2 S : Addr} {xs ys : Array Value} {i : Nat}
/-- one turn -/
theorem zst_item {x y : Value} {Q : Option Value → Shared → Prop} (D : ZipApart z TI TO i1 i2 l1 l2) (L : Low z TI TO i1 i2 l1 l2 S) (g : Zst z TI TO i1 i2 l1 l2 S xs ys s.heap i) (hS : S < s.heap.objs.size) (hx : xs[i]? = some x) (hy : ys[i]? = some y)
    (hQ : ∀ h', Zst z TI TO i1 i2 l1 l2 S xs ys h' (i + 1) → IsPair h' s.heap.objs.size x y → h'.objs.size = s.heap.objs.size + 1 →
      (∀ c o, c ≠ z → c ≠ TO → c ≠ i1 → c ≠ i2 → s.heap.get? c = some o → h'.get? c = some o) → Q (some (.ref s.heap.objs.size)) { s with heap := h' }) :
    wpAny (model prog w) A (pyNext (.ref z)) Q E s := by
  rcases g.own with ⟨hz, a, b, hT⟩ | ⟨T, f, o, hz, hT, hl⟩
  · refine wpAny_pyNext_zip_item D hz g.inn hT g.it1 g.it2 g.li1 g.li2 hx hy fun h' a1 _ a3 a4 a5 a6 k => ?_
    exact hQ h' ⟨.inr ⟨_, false, _, a1, a5, hS⟩, k _ _ D.TIz D.TITO D.TIi1 D.TIi2 g.inn, a3, a4, g.li1.at fun o e => k _ o D.l1z D.l1TO D.l1i1 D.l1i2 e, g.li2.at fun o e => k _ o D.l2z D.l2TO D.l2i1 D.l2i2 e⟩ a5 a6 k
  · refine wpAny_pyNext_zip_item_held D hz hT g.inn g.it1 g.it2 g.li1 g.li2 hx hy fun h' a1 a3 a4 a5 a6 k => ?_
    have kT : h'.get? T = some o := k T o (Nat.ne_of_gt (Nat.lt_trans L.z hl)) (Nat.ne_of_gt (Nat.lt_trans L.i1 hl)) (Nat.ne_of_gt (Nat.lt_trans L.i2 hl)) hT
    exact hQ h' ⟨.inr ⟨T, true, o, a1, kT, hl⟩, k _ _ D.TIz D.TIi1 D.TIi2 g.inn, a3, a4, g.li1.at fun o e => k _ o D.l1z D.l1i1 D.l1i2 e, g.li2.at fun o e => k _ o D.l2z D.l2i1 D.l2i2 e⟩ a5 a6 (fun c o c1 _ c3 c4 e => k c o c1 c3 c4 e)
/-- behind the last turn -/
theorem zst_done {Q : Option Value → Shared → Prop} (hh : A.handled = none) (D : ZipApart z TI TO i1 i2 l1 l2) (g : Zst z TI TO i1 i2 l1 l2 S xs ys s.heap i) (he : xs[i]? = none ∨ ys[i]? = none)
    (hQ : ∀ h', (∀ c o, c ≠ z → c ≠ TO → c ≠ i1 → c ≠ i2 → s.heap.get? c = some o → h'.get? c = some o) → Q none { s with heap := h' }) :
    wpAny (model prog w) A (pyNext (.ref z)) Q E s := by
  rcases g.own with ⟨hz, a, b, hT⟩ | ⟨T, f, o, hz, hT, _⟩
  · exact wpAny_pyNext_zip_end hh D hz g.inn hT g.it1 g.it2 g.li1 g.li2 he fun h' k => hQ h' k
  · exact wpAny_pyNext_zip_end_held hh D hz hT g.inn g.it1 g.it2 g.li1 g.li2 he fun h' k => hQ h' fun c o c1 _ c3 c4 e => k c o c1 c3 c4 e
end
section
variable {prog : Program} {w : World} {A : Around} {s : Shared} {R : Result → Shared → Prop} {z TI TO i1 i2 l1 l2 S : Addr} {xs ys : Array Value}
/-- what the walk leaves alone -/
def Off (z TO i1 i2 S b : Addr) : Prop := b ≠ S ∧ b ≠ z ∧ b ≠ TO ∧ b ≠ i1 ∧ b ≠ i2
theorem off_above {b : Addr} (L : Low z TI TO i1 i2 l1 l2 S) (h : S < b) : b ≠ z ∧ b ≠ TO ∧ b ≠ i1 ∧ b ≠ i2 :=
  ⟨Nat.ne_of_gt (Nat.lt_trans L.z h), Nat.ne_of_gt (Nat.lt_trans L.TO h), Nat.ne_of_gt (Nat.lt_trans L.i1 h), Nat.ne_of_gt (Nat.lt_trans L.i2 h)⟩
/-- the list at S as it grows -/
abbrev Grown (h : Heap) (S : Addr) (acc : Array Value) (c : Nat) : Prop := h.get? S = some { cls := .type "list", dict := none, data := .seq acc c, slots := #[] }
theorem pull_all (hh : A.handled = none) (D : ZipApart z TI TO i1 i2 l1 l2) (L : Low z TI TO i1 i2 l1 l2 S) (hn : min xs.size ys.size ≤ sizeLine) (res : Value) {hA : Heap}
    (hR : ∀ h' tk acc c as, (∀ b o, Off z TO i1 i2 S b → hA.get? b = some o → h'.get? b = some o) → Grown h' S acc c → as.length = min xs.size ys.size → Made xs ys S h' as → acc.toList = as.map Value.ref → R (.ok (.ret res)) { s with heap := h', toks := tk }) :
    ∀ (k i : Nat) (h : Heap) (tk c : Nat) (acc : Array Value) (as : List Addr), min xs.size ys.size - i = k → i ≤ min xs.size ys.size → Zst z TI TO i1 i2 l1 l2 S xs ys h i → (∀ b o, Off z TO i1 i2 S b → hA.get? b = some o → h.get? b = some o) →
      Grown h S acc c → acc.toList = as.map Value.ref → as.length = i → Made xs ys S h as →
      codeAny (model prog w) A (.builtin "list.extend.loop" ⟨[.ref S, .ref z, res], []⟩) R { s with heap := h, toks := tk } := by
  have hSz : S ≠ z := Nat.ne_of_gt L.z
  have offS := fun (b : Addr) (h : S < b) => off_above (b := b) L h
  intro k
  induction k with
  | zero =>
    intro i h tk c acc as hk hi hst kp hS hacc hal hG
    have hin : i = min xs.size ys.size := by omega
    have hend : xs[i]? = none ∨ ys[i]? = none := by
      rcases Nat.le_total xs.size ys.size with q | q
      · exact .inl (Array.getElem?_eq_none (by omega))
      · exact .inr (Array.getElem?_eq_none (by omega))
    refine codeAny_builtin PySem.F.entry_extend_loop ?_
    rw [Around.under_plainId PySem.F.plain_extend_loop _]
    show wpAny _ A.in1 (pyNext (.ref z) >>= _) _ _ _
    refine wpAny_bind (zst_done (s := { s with heap := h, toks := tk }) (A := A.in1) hh D hst hend fun h' he => ?_)
    refine wpAny_pure (hR h' tk acc c as (fun b o q e => he b o q.2.1 q.2.2.1 q.2.2.2.1 q.2.2.2.2 (kp b o q e)) ?_ (by omega) ⟨hG.rise, hG.above, fun j a hj => ?_⟩ hacc)
    · exact he S _ hSz (Nat.ne_of_gt L.TO) (Nat.ne_of_gt L.i1) (Nat.ne_of_gt L.i2) hS
    · obtain ⟨x, y, e1, e2, e3⟩ := hG.tups j a hj
      obtain ⟨q1, q2, q3, q4⟩ := offS a (hG.above a (List.mem_of_getElem? hj))
      exact ⟨x, y, e1, e2, he a _ q1 q2 q3 q4 e3⟩
  | succ k ih =>
    intro i h tk c acc as hk hi hst kp hS hacc hal hG
    have hlt : i < min xs.size ys.size := by omega
    have h1 : i < xs.size := by omega
    have h2 : i < ys.size := by omega
    have hsz : acc.size = i := by rw [← Array.length_toList, hacc, List.length_map, hal]
    have hSl : S < h.objs.size := Heap.lt_size hS
    refine codeAny_builtin PySem.F.entry_extend_loop ?_
    rw [Around.under_plainId PySem.F.plain_extend_loop _]
    show wpAny _ A.in1 (pyNext (.ref z) >>= _) _ _ _
    refine wpAny_bind (zst_item (s := { s with heap := h, toks := tk }) D L hst hSl (Array.getElem?_eq_getElem h1) (Array.getElem?_eq_getElem h2) fun h' hst' ht hz hkp => ?_)
    dsimp only at ht hz hkp ⊢
    have hS' := hkp S _ hSz (Nat.ne_of_gt L.TO) (Nat.ne_of_gt L.i1) (Nat.ne_of_gt L.i2) hS
    have up : ∀ b o, b ≠ S → h'.get? b = some o → (h'.update S (Obj.mapSeq (·.push (Value.ref h.objs.size)))).get? b = some o := fun b o hb e => (Heap.get?_update_other _ _ (Ne.symm hb)).trans e
    show wpAny _ A.in1 (updateSeq S (·.push (Value.ref h.objs.size)) >>= _) _ _ _
    refine wpAny_bind ?_
    refine wpAny_updateSeq hS' rfl (wpAny_pure ⟨plainId_quiet PySem.F.plain_extend_loop _, ih (i + 1) _ tk _ (acc.push (Value.ref h.objs.size)) (as ++ [h.objs.size]) (by omega) (by omega) (hst'.keep L up)
      (fun b o q e => up b o q.1 (hkp b o q.2.1 q.2.2.1 q.2.2.2.1 q.2.2.2.2 (kp b o q e))) (Heap.get?_update_self _ hS' rfl) (by rw [Array.toList_push, hacc, List.map_append]; rfl) (by rw [List.length_append, hal]; rfl) ⟨?_, ?_, ?_⟩⟩) (by rw [hsz]; omega) (by show (acc.push (Value.ref h.objs.size)).size ≤ sizeLine + 1; rw [Array.size_push, hsz]; omega)
    · refine List.pairwise_append.mpr ⟨hG.rise, List.pairwise_singleton _ _, fun a ha b hb => ?_⟩
      rw [List.mem_singleton.mp hb]
      exact hG.there ha
    · intro a ha
      rcases List.mem_append.mp ha with ha | ha
      · exact hG.above a ha
      · rw [List.mem_singleton.mp ha]
        exact hSl
    · intro j b hj
      rcases Nat.lt_trichotomy j as.length with q | q | q
      · rw [List.getElem?_append_left q] at hj
        obtain ⟨x, y, e1, e2, e3⟩ := hG.tups j b hj
        have hb := hG.above b (List.mem_of_getElem? hj)
        obtain ⟨q1, q2, q3, q4⟩ := offS b hb
        exact ⟨x, y, e1, e2, up b _ (Nat.ne_of_gt hb) (hkp b _ q1 q2 q3 q4 e3)⟩
      · subst q
        have hb : h.objs.size = b := by simpa using hj
        subst hb
        refine ⟨xs[i], ys[i], ?_, ?_, up _ _ (Nat.ne_of_gt hSl) ht⟩
        · rw [hal]
          exact Array.getElem?_eq_getElem h1
        · rw [hal]
          exact Array.getElem?_eq_getElem h2
      · have hnone : (as ++ [h.objs.size])[j]? = none := List.getElem?_eq_none (by rw [List.length_append, List.length_singleton]; omega)
        rw [hnone] at hj
        cases hj
end
theorem zip_no_len : typeLookup (.type "zip") "__len__" = pure none := am_miss_of_fast (by decide +kernel)
theorem zip_no_hint : typeLookup (.type "zip") "__length_hint__" = pure none := am_miss_of_fast (by decide +kernel)
section
variable {prog : Program} {w : World} {A : Around} {E : Value → Shared → Prop} {s : Shared} {z TI TO i1 i2 l1 l2 : Addr} {xs ys : Array Value}
/-- list(z), z a zip of two lists that has not begun -/
theorem list_zip {Q : Value → Shared → Prop} (hh : A.handled = none) (D : ZipApart z TI TO i1 i2 l1 l2) (hz : IsZip s.heap z TI TO .none) (hI : IsPair s.heap TI (.ref i1) (.ref i2)) (hO : ∃ a b, IsPair s.heap TO a b)
    (h1 : s.heap.IsListIter i1 l1 0) (h2 : s.heap.IsListIter i2 l2 0) (hl1 : s.heap.IsList l1 xs) (hl2 : s.heap.IsList l2 ys) (hn : min xs.size ys.size ≤ sizeLine)
    (hQ : ∀ h' tk acc c as, (∀ b o, Off z TO i1 i2 s.heap.objs.size b → s.heap.get? b = some o → h'.get? b = some o) → Grown h' s.heap.objs.size acc c → as.length = min xs.size ys.size → Made xs ys s.heap.objs.size h' as → acc.toList = as.map Value.ref →
      Q (.ref s.heap.objs.size) { s with heap := h', toks := tk }) :
    wpAny (model prog w) A (call (.type "list") [.ref z]) Q E s := by
  have L : Low z TI TO i1 i2 l1 l2 s.heap.objs.size := by
    obtain ⟨_, _, hO⟩ := hO
    obtain ⟨_, e1, _⟩ := h1
    obtain ⟨_, e2, _⟩ := h2
    obtain ⟨_, e3, _⟩ := hl1
    obtain ⟨_, e4, _⟩ := hl2
    exact ⟨Heap.lt_size hz, Heap.lt_size hI, Heap.lt_size hO, Heap.lt_size e1, Heap.lt_size e2, Heap.lt_size e3, Heap.lt_size e4⟩
  have z0 : Zst z TI TO i1 i2 l1 l2 s.heap.objs.size xs ys s.heap 0 := ⟨.inl ⟨hz, hO⟩, hI, h1, h2, hl1, hl2⟩
  refine callType_codes (Q₁ := fun obj s₁ => obj = .ref s.heap.objs.size ∧ s₁ = { s with heap := s.heap.push { cls := .type "list", data := .seq #[] } }) PySem.F.called_list (PySem.F.typeCall_list_1 _) PySem.F.entry_list_init
    (code_list_new _ ⟨rfl, rfl⟩) fun obj s₁ hobj => ?_
  obtain ⟨rfl, rfl⟩ := hobj
  have hS : (s.heap.push { cls := .type "list", data := .seq #[] }).get? s.heap.objs.size = some { cls := .type "list", data := .seq #[] } := Heap.get?_push_size _ rfl
  refine ⟨⟨_, hS, rfl⟩, PySem.F.args_list_init_2 _ _, ?_⟩
  show wpAny _ _ (do let old ← Builtin.List.listItems (.ref s.heap.objs.size); Builtin.List.listUpdate (.ref s.heap.objs.size) (fun _ => #[]); letGo old.toList.reverse; Builtin.List.listExtendWith (.ref s.heap.objs.size) (.ref z) .none) _ _ _
  refine wpAny_bind ?_
  unfold Builtin.List.listItems
  refine wpAny_bind (wpAny_seqItems hS rfl (wpAny_pure ?_))
  show wpAny _ _ (updateSeq s.heap.objs.size (fun _ => #[]) >>= fun _ => letGo (#[] : Array Value).toList.reverse >>= fun _ => Builtin.List.listExtendWith (.ref s.heap.objs.size) (.ref z) .none) _ _ _
  refine wpAny_bind (wpAny_updateSeq hS rfl ?_)
  have hS2 := Heap.get?_update_self (Obj.mapSeq (fun _ => (#[] : Array Value))) hS rfl
  refine wpAny_bind (wpAny_letGo ?_)
  have up : ∀ (h : Heap) (f : Obj → Obj), (∀ b o, s.heap.get? b = some o → h.get? b = some o) → ∀ b o, s.heap.get? b = some o → (h.update s.heap.objs.size f).get? b = some o := fun h f q b o e =>
    (Heap.get?_update_other _ _ (Ne.symm (Nat.ne_of_lt (Heap.lt_size e)))).trans (q b o e)
  have k1 : ∀ b o, s.heap.get? b = some o → (s.heap.push { cls := .type "list", data := .seq #[] }).get? b = some o := fun b o e => Heap.get?_push_of_some _ e
  have k2 := up _ (Obj.mapSeq (fun _ => (#[] : Array Value))) k1
  unfold Builtin.List.listExtendWith
  have zT : ∀ {h : Heap} {tk : Nat}, (∀ b o, s.heap.get? b = some o → h.get? b = some o) → ({ s with heap := h, toks := tk } : Shared).TypeIs (.ref z) "zip" := fun q => ⟨_, q _ _ hz, rfl⟩
  refine wpAny_bind (wpAny_typeOf (zT k2) ?_)
  have e1 : Builtin.List.listSameRef (.ref s.heap.objs.size) (.ref z) = false := by simp [Builtin.List.listSameRef, Nat.ne_of_gt L.z]
  have e2 : (Value.type "zip" == Value.type "list") = false := by decide
  have e3 : (Value.type "zip" == Value.type "tuple") = false := by decide
  simp only [e1, e2, e3, Bool.or_false, Bool.false_eq_true, if_false]
  refine wpAny_bind (wpAny_pyIter_zip (s := { s with heap := _ }) (k2 _ _ hz) ?_)
  refine wpAny_bind (wpAny_holding ?_)
  unfold Builtin.List.listLengthHint
  refine wpAny_bind (wpAny_specialOf (zT k2) zip_no_len ?_)
  show wpAny _ _ (specialOf (Value.ref z) (Str.ofString "__length_hint__") >>= _) _ _ _
  refine wpAny_bind (wpAny_specialOf (zT k2) zip_no_hint ?_)
  refine wpAny_pure ?_
  show wpAny _ _ (rule "list.extend.makes-room" >>= fun _ => Builtin.List.listTouch (.ref s.heap.objs.size) >>= fun _ =>
    again (.builtin "list.extend.loop" ⟨[.ref s.heap.objs.size, .ref z, .none], []⟩)) _ _ _
  refine wpAny_bind (wpAny_rule ?_)
  refine wpAny_bind ?_
  show wpAny _ _ (updateSeq s.heap.objs.size (·.push .none) >>= fun _ => updateSeq s.heap.objs.size (·.pop)) _ _ _
  refine wpAny_bind (wpAny_updateSeq hS2 rfl ?_)
  have hS3 := Heap.get?_update_self (Obj.mapSeq (·.push Value.none)) hS2 rfl
  refine wpAny_updateSeq (hz := by seq_fits) hS3 rfl ?_
  have hS4 := Heap.get?_update_self (Obj.mapSeq (·.pop)) hS3 rfl
  have k4 := up _ (Obj.mapSeq (·.pop)) (up _ (Obj.mapSeq (·.push Value.none)) k2)
  refine wpAny_pure ⟨plainId_quiet PySem.F.plain_extend_loop _, ?_⟩
  refine pull_all (A := A.in1) (hA := s.heap) hh D L hn .none (fun h' tk acc c as q1 q2 q3 q4 q5 => ⟨rfl, hQ h' tk acc c as q1 q2 q3 q4 q5⟩) _ 0 _ _ _ #[] [] rfl (Nat.zero_le _) (z0.keep L fun b o hb e => ?_) (fun b o _ e => k4 b o e) hS4 rfl rfl ⟨.nil, fun _ h => (by cases h), fun j a h => (by simp at h)⟩
  exact k4 b o e
end
end Gz
set_option Elab.async false
set_option maxRecDepth 100000
set_option maxHeartbeats 4000000
/-! ### rules that the layer lacks: xs[a::b], list(zip(xs, ys)), xs[i] op= e -/
namespace Gr
open PySem PySem.Spec PyProof.Rows L2

/-! #### xs[i], by values (i not below 0) -/
section
variable {X : Cx}
def rGetL (K : PySem.W.Frag) : V → V → Hp → VK → Prop := fun o i H Q => ∃ (p : Addr) (xs : List V) (k : Nat) (v : V), o = .ref p ∧ i = .int (k : Int) ∧ SqL K H p xs ∧ xs[k]? = some v ∧ Q v H
theorem get_list : PGet X (rGetL X.K) := by
  intro pins s σ H o i ov iv Q I ro ri h
  obtain ⟨p, xs, k, v, rfl, rfl, hq, hk, q⟩ := h
  cases ro
  obtain ⟨t, rfl⟩ := ri
  obtain ⟨its, r, pl, hz⟩ := I.list hq
  obtain ⟨u, hu, ru⟩ := r.get hk
  have hl := (List.getElem?_eq_some_iff.mp hk).1
  have hn := line63
  exact wpAny_getItem_list pl.isList (by omega) (by omega) (by rw [Int.toNat_natCast]; simpa using hu) ⟨v, H, I, ru, q⟩

end

/-! #### xs[a::b] -/
/-- every second item, from the first -/
def evens {α : Type} : List α → List α
  | x :: _ :: l => x :: evens l
  | [x] => [x]
  | [] => []
theorem evens_cons {α : Type} (x : α) : ∀ l : List α, evens (x :: l) = x :: evens (l.drop 1)
  | [] => rfl
  | _ :: _ => rfl
theorem evens_len {α : Type} : ∀ l : List α, (evens l).length ≤ l.length
  | x :: _ :: l => by
    have := evens_len l
    show (evens l).length + 1 ≤ l.length + 1 + 1
    omega
  | [_] => Nat.le_refl _
  | [] => Nat.le_refl _
theorem evens_map {α β : Type} (f : α → β) : ∀ l : List α, evens (l.map f) = (evens l).map f
  | x :: _ :: l => by
    show f x :: evens (l.map f) = f x :: (evens l).map f
    rw [evens_map f l]
  | [_] => rfl
  | [] => rfl
theorem evens_paired {α β : Type} {F : α → β → Prop} : ∀ {xs : List α} {ys : List β}, Paired F xs ys → Paired F (evens xs) (evens ys)
  | _, _, .nil => .nil
  | _, _, .cons h .nil => .cons h .nil
  | _, _, .cons h (.cons _ t) => .cons h (evens_paired t)
theorem evens_range {α : Type} : ∀ l : List α, ((List.range ((l.length + 1) / 2)).filterMap fun k => l[2 * k]?) = evens l
  | [] => by simp [evens]
  | [x] => by
    have e : ([x].length + 1) / 2 = 1 := Nat.div_self (n := 2) (by decide)
    rw [e]
    rfl
  | x :: y :: l => by
    have e : ((x :: y :: l).length + 1) / 2 = (l.length + 1) / 2 + 1 := by
      show (l.length + 1 + 1 + 1) / 2 = _
      omega
    rw [e, List.range_succ_eq_map, List.filterMap_cons, List.filterMap_map]
    show x :: _ = x :: evens l
    rw [← evens_range l]
    congr 1
theorem pick_evens {l : List Value} {a : Nat} : (slicePick l.toArray (some (a : Int)) none (some 2)).toList = evens (l.drop a) := by
  unfold slicePick sliceBounds sliceRange
  simp only [Option.getD_some, List.size_toArray]
  rw [← evens_range, List.length_drop]
  have e1 : ¬ ((a : Int) < 0) := by omega
  rw [if_neg e1]
  simp only [show (2 : Int) > 0 from by decide, if_true]
  by_cases h : a < l.length
  · have e2 : max 0 (min (a : Int) (l.length : Int)) = (a : Int) := by omega
    rw [e2, if_pos (by omega)]
    have e3 : (((l.length : Int) - (a : Int) + 2 - 1) / 2).toNat = (l.length - a + 1) / 2 := by omega
    rw [e3, List.filterMap_map]
    congr 1
    funext k
    show l.toArray[((a : Int) + 2 * (k : Int)).toNat]? = (l.drop a)[2 * k]?
    rw [List.getElem?_drop, show ((a : Int) + 2 * (k : Int)).toNat = a + 2 * k by omega]
    simp
  · have e2 : max 0 (min (a : Int) (l.length : Int)) = (l.length : Int) := by omega
    rw [e2, if_neg (by omega), show l.length - a + 1 = 1 by omega]
    rfl
section
variable {X : Cx}
/-- xs[lo::2] -/
def tHalf (K : PySem.W.Frag) (te tl ts : TE) : TE := fun σ H Q => te σ H fun x H1 => tl σ H1 fun i H2 => ts σ H2 fun j H3 => ∃ (p : Addr) (xs : List V) (a : Nat), x = .ref p ∧ i = .int (a : Int) ∧ j = .int 2 ∧ SqL K H3 p xs ∧
  ∀ q, H3 q = none → Q (.ref q) (upd H3 q (.lst (evens (xs.drop a))))
theorem pe_half {e lo st : Expr} {te tl ts : TE} {p3 pos : Pos} (he : PE X e te) (hl : PE X lo tl) (hs : PE X st ts) : PE X (.Subscript e (.Slice (some lo) none (some st) p3) pos) (tHalf X.K te tl ts) := by
  refine ⟨fun pins s σ H Q I h => ?_⟩
  refine Subscript_ (thn (he.run pins s σ H _ I h) fun v s1 ⟨x, H1, I1, r1, q1⟩ => ?_)
  refine wpAny_Slice ?_
  rw [evalPart_some]
  refine thn (hl.run pins s1 σ H1 _ I1 q1) fun vl s2 ⟨i, H2, I2, r2, q2⟩ => ?_
  rw [evalPart_none]
  refine wpAny_pure ?_
  rw [evalPart_some]
  refine thn (hs.run pins s2 σ H2 _ I2 q2) fun vs s3 ⟨j, H3, I3, r3, q3⟩ => ?_
  obtain ⟨p, xs, a, ex, ei, ej, hx, q⟩ := q3
  subst ex ei ej
  cases r1
  obtain ⟨t2, rfl⟩ := r2
  obtain ⟨t3, rfl⟩ := r3
  have I5 : Inv X pins σ H3 { s3 with heap := s3.heap.push { cls := .type "slice", data := .fields #[.int a t2, .none, .int 2 t3] } } := I3.kept (t' := s3.toks) fun b ob q => Heap.get?_push_of_some _ q
  obtain ⟨its, r, ht, hz⟩ := I5.list hx
  have hlen := r.length
  show wpAny (model X.prog X.w) X.A (subscriptTail e (.Slice (some lo) none (some st) p3) (.ref p) (.ref s3.heap.objs.size)) (EP X pins σ Q) X.xe { s3 with heap := s3.heap.push { cls := .type "slice", data := .fields #[.int a t2, .none, .int 2 t3] } }
  refine tail_any (ops := [.ref p, .ref s3.heap.objs.size]) ht.isList.typeIs (PySem.slot_list_getitem.lookup) ?_ (by with_unfolding_all rfl)
  refine wpAny_getItem_list_slice ht.isList (Heap.IsSliceOf.new _ (.int a t2) .none (.int 2 t3)) (.int _ _) .none (.int _ _) (by decide) ?_ (by rw [List.size_toArray]; omega)
  refine ⟨.ref _, _, I5.laid (t' := s3.toks) (o := .lst (evens (xs.drop a))) (fun b ob q => Heap.get?_push_of_some _ q) (Nat.le_refl _) ?_, rfl, q _ (I5.hok.fresh (Nat.le_refl _))⟩
  refine ⟨?_, _, 0, evens_paired (r.drop a), ?_⟩
  · have := evens_len (xs.drop a)
    rw [List.length_drop] at this
    omega
  · rw [← pick_evens, Array.toArray_toList]
    exact Heap.get?_push_size _ rfl
end

/-! #### list(zip(xs, ys)) -/
/-- the pairs, tracked at their addresses -/
def lay : Hp → List Addr → List (V × V) → Hp
  | H, a :: as, p :: ps => lay (upd H a (.tup [p.1, p.2])) as ps
  | H, _, _ => H
theorem lay_off {b : Addr} : ∀ (as : List Addr) (ps : List (V × V)) (H : Hp), b ∉ as → lay H as ps b = H b
  | [], _, _, _ => rfl
  | _ :: _, [], _, _ => rfl
  | a :: as, p :: ps, H, h => by
    show lay (upd H a (.tup [p.1, p.2])) as ps b = H b
    rw [lay_off as ps _ (fun q => h (List.mem_cons_of_mem _ q)), upd_ne (fun q => h (by rw [q]; exact List.mem_cons_self))]
theorem lay_at : ∀ (as : List Addr) (ps : List (V × V)) (H : Hp), as.length = ps.length → as.Nodup → ∀ (j : Nat) (t : Addr), as[j]? = some t → ∃ p, ps[j]? = some p ∧ lay H as ps t = some (.tup [p.1, p.2])
  | [], [], _, _, _, j, t, h => by simp at h
  | [], _ :: _, _, h, _, _, _, _ => by cases h
  | _ :: _, [], _, h, _, _, _, _ => by cases h
  | a :: as, p :: ps, H, hl, hn, 0, t, h => by
    have e : a = t := Option.some.inj h
    subst e
    refine ⟨p, rfl, ?_⟩
    show lay (upd H a (.tup [p.1, p.2])) as ps a = _
    rw [lay_off as ps _ (List.nodup_cons.mp hn).1, upd_same]
  | a :: as, p :: ps, H, hl, hn, j + 1, t, h => lay_at as ps (upd H a (.tup [p.1, p.2])) (Nat.succ.inj hl) (List.nodup_cons.mp hn).2 j t h
theorem lay_mem {as : List Addr} {ps : List (V × V)} {H : Hp} {t : Addr} (hl : as.length = ps.length) (hn : as.Nodup) (ht : t ∈ as) : ∃ (j : Nat) (p : V × V), as[j]? = some t ∧ ps[j]? = some p ∧ lay H as ps t = some (.tup [p.1, p.2]) := by
  obtain ⟨j, hj⟩ := List.mem_iff_getElem?.mp ht
  obtain ⟨p, e1, e2⟩ := lay_at as ps H hl hn j t hj
  exact ⟨j, p, hj, e1, e2⟩
theorem refs_vals : ∀ as : List Addr, Vals (as.map V.ref) (as.map Value.ref)
  | [] => .nil
  | _ :: as => .cons rfl (refs_vals as)
def tPairs (K : PySem.W.Frag) (ta : TA) : TE := fun σ H Q => ta σ H fun vs H1 => ∃ (a b : Addr) (xs ys : List V), vs = [.ref a, .ref b] ∧ SqL K H1 a xs ∧ SqL K H1 b ys ∧
  ∀ (H' : Hp) (p : Addr) (ts : List Addr), Same H1 H' → H1 p = none → H' p = some (.lst (ts.map V.ref)) → ts.length = (xs.zip ys).length → (∀ (j : Nat) (t : Addr), ts[j]? = some t → ∃ q, (xs.zip ys)[j]? = some q ∧ H' t = some (.tup [q.1, q.2]) ∧ H1 t = none) → Q (.ref p) H'
section
variable {X : Cx}
theorem pe_pairs {e e2 : Expr} {ta : TA} {p p2 cpos pos : Pos} (hc : X.calm = true) (hg : Gl X "list") (hm : X.mg "list" = none) (hv : bootBuiltins "list" = some (.type "list")) (hg2 : Gl X "zip") (hm2 : X.mg "zip" = none) (ha : PA X [e, e2] ta)
    (hs : starEach [e, e2] X.env = (false, eval e X.env) :: starEach [e2] X.env := by rfl) (hpl : (backTo cpos (starEach [e2] X.env)).any (·.1) = false := by rfl)
    (hs1 : starEach [.Call (.Name "zip" p2) [e, e2] [] cpos] X.env = (false, eval (.Call (.Name "zip" p2) [e, e2] [] cpos) X.env) :: starEach [] X.env := by rfl) :
    PE X (.Call (.Name "list" p) [.Call (.Name "zip" p2) [e, e2] [] cpos] [] pos) (tPairs X.K ta) := by
  refine ⟨fun pins s σ H Q I hq => ?_⟩
  refine wpAny_Call_Name_kw (ld_blt I hg hm hv ?_)
  refine PyProof.Rows.callWith_type1 ?_ hs1 rfl
  rw [hs1]
  show wpAny _ _ (spliced ((false, eval (.Call (.Name "zip" p2) [e, e2] [] cpos) X.env) :: backTo pos (starEach [] X.env))) _ _ s
  refine Calls.spliced_cons ?_
  refine Call_ (ld_blt I hg2 hm2 PyProof.Rows.boot_zip (PyProof.Rows.callWith_type1 (thn (ha.run cpos pins s σ H _ I hq) fun us s1 ⟨vs, H1, I1, r1, q1⟩ => ?_) hs hpl))
  obtain ⟨a, b, xs, ys, ex, hqx, hqy, q⟩ := q1
  subst ex
  cases r1 with
  | cons r rr =>
    cases rr with
    | cons r' rr =>
      cases rr
      cases r
      cases r'
      obtain ⟨its, rv, p1, _⟩ := I1.list hqx
      obtain ⟨its2, rv2, p2, _⟩ := I1.list hqy
      have la : a < s1.heap.objs.size := p1.lt
      have lb : b < s1.heap.objs.size := p2.lt
      refine call_zip_2 p1.isList p2.isList fun h' hz hTI hTO h1 h2 hsz hk => ?_
      refine Calls.spliced_nil ?_
      have lx := rv.length
      have ly := rv2.length
      obtain ⟨_, _, _, hzx⟩ := I1.list hqx
      have hn : min its.toArray.size its2.toArray.size ≤ sizeLine := by
        rw [List.size_toArray, List.size_toArray]
        omega
      refine Gz.list_zip (s := { s1 with heap := h' }) (I1.ok.hd hc) (PySem.W.ktu_apart s1.heap.objs.size a b la lb) hz hTI ⟨_, _, hTO⟩ h1 h2 (p1.isList.at fun o x => hk _ o x) (p2.isList.at fun o x => hk _ o x) hn fun h2' tk acc c as k2 hS hl hM hacc => ?_
      have hS' : h2'.get? (s1.heap.objs.size + 5) = some { cls := .type "list", dict := none, data := .seq acc c, slots := #[] } := by
        have z := hS
        dsimp only at z
        rw [hsz] at z
        exact z
      have hM' : Gz.Made its.toArray its2.toArray (s1.heap.objs.size + 5) h2' as := by
        have z := hM
        dsimp only at z
        rw [hsz] at z
        exact z
      have hk2 : ∀ b o, s1.heap.get? b = some o → h2'.get? b = some o := fun b o e => by
        have lt := Heap.lt_size e
        refine k2 b o ⟨?_, ?_, ?_, ?_, ?_⟩ (hk b o e)
        · show b ≠ h'.objs.size
          rw [hsz]
          exact Nat.ne_of_lt (Nat.lt_of_lt_of_le lt (Nat.le_add_right _ _))
        · exact Nat.ne_of_lt (Nat.lt_of_lt_of_le lt (Nat.le_add_right _ _))
        · exact Nat.ne_of_lt (Nat.lt_of_lt_of_le lt (Nat.le_add_right _ _))
        · exact Nat.ne_of_lt lt
        · exact Nat.ne_of_lt (Nat.lt_of_lt_of_le lt (Nat.le_add_right _ _))
      have hlz : as.length = (xs.zip ys).length := by
        rw [List.length_zip, hl, List.size_toArray, List.size_toArray, lx, ly]
      show EP X pins σ Q (.ref h'.objs.size) { s1 with heap := h2', toks := tk }
      rw [hsz]
      generalize hSe : s1.heap.objs.size + 5 = S at hS' hM' ⊢
      have leS : s1.heap.objs.size ≤ S := by rw [← hSe]; exact Nat.le_add_right _ _
      have hSn : S ∉ as := fun z => Nat.lt_irrefl _ (hM'.above _ z)
      have nd : as.Nodup := List.Pairwise.imp (fun {a b} (h : a < b) => Nat.ne_of_lt h) hM'.rise
      have new : ∀ t ∈ as, H1 t = none := fun t ht => I1.hok.fresh (Nat.le_trans leS (Nat.le_of_lt (hM'.above t ht)))
      have newS : H1 S = none := I1.hok.fresh leS
      have off : ∀ b, b ∉ as → b ≠ S → lay (upd H1 S (.lst (as.map V.ref))) as (xs.zip ys) b = H1 b := fun b h1 h2 => by rw [lay_off as _ _ h1, upd_ne h2]
      have low : ∀ b o, s1.heap.get? b = some o → b ∉ as ∧ b ≠ S := fun b o e =>
        ⟨fun z => absurd (Heap.lt_size e) (Nat.not_lt.mpr (Nat.le_trans leS (Nat.le_of_lt (hM'.above b z)))), fun z => absurd (Heap.lt_size e) (Nat.not_lt.mpr (by rw [z]; exact leS))⟩
      have kp : ∀ b u, H1 b = some u → lay (upd H1 S (.lst (as.map V.ref))) as (xs.zip ys) b = some u := fun b u e => by
        rw [off b (fun z => by rw [new b z] at e; cases e) (fun z => by rw [z, newS] at e; cases e)]
        exact e
      have eS : lay (upd H1 S (.lst (as.map V.ref))) as (xs.zip ys) S = some (.lst (as.map V.ref)) := by rw [lay_off as _ _ hSn, upd_same]
      refine ⟨.ref S, lay (upd H1 S (.lst (as.map V.ref))) as (xs.zip ys), ?_, rfl, q _ S as (fun b o e => kp b o e) newS eS hlz fun j t hj => ?_⟩
      · refine I1.call' (ch := []) rfl ⟨fun b o x _ _ _ => hk2 b o x, fun b o x _ _ _ => ⟨o.slots, hk2 b o x⟩, fun b o x n _ => ?_, fun b o x _ => ⟨o, hk2 b o x⟩, fun b us x => kp b _ x, fun b o u x => kp b _ x, fun b us x => ⟨#[], by rw [kp b _ x]; simp⟩⟩ (fun b u x => ?_) I1.bare fun b z => by simp at z
        · obtain ⟨z1, z2⟩ := low b o x
          rw [off b z1 z2]
          exact n
        · by_cases hb : b ∈ as
          · obtain ⟨j, pq, e1, e2, e3⟩ := lay_mem (H := upd H1 S (.lst (as.map V.ref))) hlz nd hb
            rw [e3] at x
            cases x
            obtain ⟨vx, vy, f1, f2, f3⟩ := hM'.tups j b e1
            obtain ⟨g1, g2⟩ := List.getElem?_zip_eq_some.mp (show (xs.zip ys)[j]? = some (pq.1, pq.2) from e2)
            obtain ⟨u1, m1, m2⟩ := rv.get g1
            obtain ⟨u2, m3, m4⟩ := rv2.get g2
            have f1' : its[j]? = some vx := by simpa using f1
            have f2' : its2[j]? = some vy := by simpa using f2
            rw [f1'] at m1
            cases m1
            rw [f2'] at m3
            cases m3
            exact ⟨by show 2 ≤ sizeLine; decide, [vx, vy], .cons m2 (.cons m4 .nil), ⟨_, f3, rfl, _, rfl⟩⟩
          · by_cases hb2 : b = S
            · rw [hb2] at x ⊢
              rw [eS] at x
              cases x
              refine ⟨by rw [List.length_map, hlz, List.length_zip]; omega, acc.toList, c, by rw [hacc]; exact refs_vals as, ?_⟩
              rw [Array.toArray_toList]
              exact hS'
            · rw [off b hb hb2] at x
              exact (I1.hok b u x).stay (fun d v _ y => hk2 d v y) (fun d y => kp d _ y) fun d us y => kp d _ y
      · obtain ⟨pq, e1, e2⟩ := lay_at as (xs.zip ys) (upd H1 S (.lst (as.map V.ref))) hlz nd j t hj
        exact ⟨pq, e1, e2, new t (List.mem_of_getElem? hj)⟩
end
end Gr
set_option Elab.async false
set_option maxRecDepth 100000
set_option maxHeartbeats 4000000
/-! ### operators on whole numbers from nought; a walk by enumerate -/
namespace Gn
open PySem PySem.Spec PyProof.Rows L2
/-- a natural number as a value -/
abbrev nv (n : Nat) : V := .int (n : Int)
theorem nv_inj {a b : Nat} (h : nv a = nv b) : a = b := Int.ofNat_inj.mp (V.int.inj h)
theorem nv_eq (a b : Nat) : decide (nv a = nv b) = decide (a = b) := by
  by_cases h : a = b
  · rw [h, decide_eq_true rfl, decide_eq_true rfl]
  · rw [decide_eq_false h, decide_eq_false fun z => h (nv_inj z)]
theorem lt_cast (a b : Nat) : decide ((a : Int) < (b : Int)) = decide (a < b) := by
  by_cases h : a < b
  · rw [decide_eq_true h, decide_eq_true (Int.ofNat_lt.mpr h)]
  · rw [decide_eq_false h, decide_eq_false fun z => h (Int.ofNat_lt.mp z)]
theorem le_cast (a b : Nat) : decide ((a : Int) ≤ (b : Int)) = decide (a ≤ b) := by
  by_cases h : a ≤ b
  · rw [decide_eq_true h, decide_eq_true (Int.ofNat_le.mpr h)]
  · rw [decide_eq_false h, decide_eq_false fun z => h (Int.ofNat_le.mp z)]
def r2 (g : Nat → Nat → V) : R2 := fun x y H Q => ∃ a b : Nat, x = nv a ∧ y = nv b ∧ Q (g a b) H
def r2c (C : Nat → Nat → Prop) (g : Nat → Nat → V) : R2 := fun x y H Q => ∃ a b : Nat, x = nv a ∧ y = nv b ∧ C a b ∧ Q (g a b) H
section
variable {X : Cx}
theorem on_and : OpR X (binaryOp .BitAnd) (r2 fun a b => nv (a &&& b)) := by
  rintro pins s σ H x y v u Q I rx ry ⟨a, b, rfl, rfl, q⟩
  refine op_and pins s σ H _ _ v u Q I rx ry ⟨_, _, rfl, rfl, ?_⟩
  dsimp only
  rw [PySem.W.os_band]
  exact q
theorem pn_or : PIp X .BitOr (r2 fun a b => nv (a ||| b)) := by
  rintro pins s σ H x y v u Q I rx ry ⟨a, b, rfl, rfl, q⟩
  refine iop_or pins s σ H _ _ v u Q I rx ry ⟨_, _, rfl, rfl, ?_⟩
  dsimp only
  rw [bitOr_nn (Int.natCast_nonneg _) (Int.natCast_nonneg _), Int.toNat_natCast, Int.toNat_natCast]
  exact q
theorem on_shl : OpR X (binaryOp .LShift) (r2c (fun a b => a = 1 ∧ b ≤ 60) fun _ b => nv (2 ^ b)) := by
  rintro pins s σ H x y v u Q I rx ry ⟨a, b, rfl, rfl, ⟨rfl, hb⟩, q⟩
  refine op_shl pins s σ H _ _ v u Q I rx ry ⟨_, _, rfl, rfl, ⟨Int.natCast_nonneg _, by omega, by decide⟩, ?_⟩
  have e : (((1 : Nat) : Int)) * 2 ^ ((b : Int)).toNat = ((2 ^ b : Nat) : Int) := by
    rw [Int.toNat_natCast, Int.natCast_pow]
    show (1 : Int) * 2 ^ b = 2 ^ b
    rw [Int.one_mul]
  dsimp only
  rw [e]
  exact q
theorem on_sub : OpR X (binaryOp .Sub) (r2c (fun a b => b ≤ a) fun a b => nv (a - b)) := by
  rintro pins s σ H x y v u Q I rx ry ⟨a, b, rfl, rfl, hb, q⟩
  refine op_sub pins s σ H _ _ v u Q I rx ry ⟨_, _, rfl, rfl, ?_⟩
  dsimp only
  rw [← Int.ofNat_sub hb]
  exact q
theorem on_mul : OpR X (binaryOp .Mult) (r2c (fun a _ => a ≤ 1000) fun a b => nv (a * b)) := by
  rintro pins s σ H x y v u Q I rx ry ⟨a, b, rfl, rfl, hb, q⟩
  refine op_mul pins s σ H _ _ v u Q I rx ry ⟨_, _, rfl, rfl, .inl ⟨by omega, by omega⟩, ?_⟩
  dsimp only
  rw [← Int.natCast_mul]
  exact q
theorem on_mod : OpR X (binaryOp .Mod) (r2c (fun _ b => 0 < b) fun a b => nv (a % b)) := by
  rintro pins s σ H x y v u Q I rx ry ⟨a, b, rfl, rfl, hb, q⟩
  refine op_mod pins s σ H _ _ v u Q I rx ry ⟨_, _, rfl, rfl, Int.ofNat_lt.mpr hb, ?_⟩
  exact q
theorem on_gt : OpR X (compareOp .Gt) (r2 fun a b => .bl (decide (b < a))) := by
  rintro pins s σ H x y v u Q I rx ry ⟨a, b, rfl, rfl, q⟩
  refine op_gt pins s σ H _ _ v u Q I rx ry ⟨_, _, rfl, rfl, ?_⟩
  dsimp only
  rw [lt_cast]
  exact q
theorem on_lt : OpR X (compareOp .Lt) (r2 fun a b => .bl (decide (a < b))) := by
  rintro pins s σ H x y v u Q I rx ry ⟨a, b, rfl, rfl, q⟩
  refine op_lt pins s σ H _ _ v u Q I rx ry ⟨_, _, rfl, rfl, ?_⟩
  dsimp only
  rw [lt_cast]
  exact q
theorem on_ge : OpR X (compareOp .GtE) (r2 fun a b => .bl (decide (b ≤ a))) := by
  rintro pins s σ H x y v u Q I rx ry ⟨a, b, rfl, rfl, q⟩
  refine op_ge pins s σ H _ _ v u Q I rx ry ⟨_, _, rfl, rfl, ?_⟩
  dsimp only
  rw [le_cast]
  exact q
theorem on_le : OpR X (compareOp .LtE) (r2 fun a b => .bl (decide (a ≤ b))) := by
  rintro pins s σ H x y v u Q I rx ry ⟨a, b, rfl, rfl, q⟩
  refine op_le pins s σ H _ _ v u Q I rx ry ⟨_, _, rfl, rfl, ?_⟩
  dsimp only
  rw [le_cast]
  exact q
theorem on_eq : OpR X (compareOp .Eq) (r2 fun a b => .bl (decide (a = b))) := by
  rintro pins s σ H x y v u Q I rx ry ⟨a, b, rfl, rfl, q⟩
  refine op_eq pins s σ H _ _ v u Q I rx ry ⟨rfl, ?_⟩
  rw [nv_eq]
  exact q
theorem on_ne : OpR X (compareOp .NotEq) (r2 fun a b => .bl (!decide (a = b))) := by
  rintro pins s σ H x y v u Q I rx ry ⟨a, b, rfl, rfl, q⟩
  refine op_ne pins s σ H _ _ v u Q I rx ry ⟨rfl, ?_⟩
  rw [nv_eq]
  exact q
theorem pn_add : PIp X .Add (r2 fun a b => nv (a + b)) := by
  rintro pins s σ H x y v u Q I rx ry ⟨a, b, rfl, rfl, q⟩
  exact ip_add pins s σ H _ _ v u Q I rx ry ⟨_, _, rfl, rfl, q⟩
theorem on_add : OpR X (binaryOp .Add) (r2 fun a b => nv (a + b)) := by
  rintro pins s σ H x y v u Q I rx ry ⟨a, b, rfl, rfl, q⟩
  exact op_add pins s σ H _ _ v u Q I rx ry ⟨_, _, rfl, rfl, q⟩
theorem pn_shr : PIp X .RShift (r2 fun a b => nv (a / 2 ^ b)) := by
  rintro pins s σ H x y v u Q I rx ry ⟨a, b, rfl, rfl, q⟩
  refine iop_shr pins s σ H _ _ v u Q I rx ry ⟨_, _, rfl, rfl, Int.natCast_nonneg _, ?_⟩
  have e : ((a : Int)) / 2 ^ ((b : Int)).toNat = ((a / 2 ^ b : Nat) : Int) := by
    rw [Int.toNat_natCast, Int.natCast_ediv, Int.natCast_pow]
    rfl
  dsimp only
  rw [e]
  exact q
end
/-- a for over enumerate of a list: each turn a new tuple -/
theorem for_enum {K : PySem.W.Frag} {a : Addr} {xs : List V} {g : TG} {tb : TS} {D : Ends} {σ : L2.St} {H : Hp} (Pv : Nat → L2.St → Hp → Prop) (h0 : Pv 0 σ H) (hq : ∀ i σ H, Pv i σ H → SqL K H a xs)
    (hs : ∀ (i : Nat) (x : V) (T : Addr) (σ : L2.St) (H : Hp), xs[i]? = some x → Pv i σ H → H T = none → g (.ref T) σ (upd H T (.tup [nv i, x])) fun σ2 H2 => tb { D with nx := Pv (i + 1), ct := Pv (i + 1), bk := D.nx } σ2 H2)
    (hd : ∀ σ H, Pv xs.length σ H → D.nx σ H) :
    ∃ W : Nat → Nat → L2.St → Hp → Prop, (∃ m, W 0 m σ H) ∧ ∀ i m σ H, W i m σ H →
      ((Ite K a).stop i H ∧ D.nx σ H) ∨ ((Ite K a).go i H ∧ ∃ N : L2.St → Hp → Prop, (∀ σ' H', N σ' H' → ∃ m', m' < m ∧ W (i + 1) m' σ' H') ∧ ∀ x H', (Ite K a).yld i H x H' → g x σ H' fun σ2 H2 => tb { D with nx := N, ct := N, bk := D.nx } σ2 H2) := by
  refine ⟨fun i m σ H => m + i = xs.length ∧ Pv i σ H, ⟨xs.length, rfl, h0⟩, ?_⟩
  rintro i m σ H ⟨em, p⟩
  have q := hq i σ H p
  cases m with
  | zero =>
    have e : i = xs.length := by omega
    subst e
    exact .inl ⟨⟨xs, q, Nat.le_refl _⟩, hd σ H p⟩
  | succ m =>
    have hi : i < xs.length := by omega
    refine .inr ⟨⟨xs, xs[i], q, List.getElem?_eq_getElem hi⟩, Pv (i + 1), fun σ' H' z => ⟨m, Nat.lt_succ_self m, by omega, z⟩, ?_⟩
    rintro x H' ⟨T, y, rfl, nT, rfl, f⟩
    exact hs i y T σ H (f xs q) p nT
/-- the natural numbers of a list, as values -/
theorem nv_at {l : List Nat} {i : Nat} {x : V} (h : (l.map nv)[i]? = some x) : i < l.length ∧ x = nv (l.getD i 0) := by
  rw [List.getElem?_map] at h
  cases e : l[i]? with
  | none =>
    rw [e] at h
    cases h
  | some z =>
    rw [e] at h
    refine ⟨(List.getElem?_eq_some_iff.mp e).1, ?_⟩
    rw [List.getD_eq_getElem?_getD, e]
    exact (Option.some.inj h).symm
theorem at_nv {l : List Nat} {i : Nat} (h : i < l.length) : (l.map nv)[i]? = some (nv (l.getD i 0)) := by
  rw [List.getElem?_map, List.getD_eq_getElem?_getD, List.getElem?_eq_getElem h]
  rfl
theorem same_upd {H : Hp} {p : Addr} {o : HO} (h : H p = none) : Same H (upd H p o) := fun b x e => by
  rw [upd_ne (ne_of_none e h)]
  exact e
end Gn
set_option Elab.async false
set_option maxRecDepth 100000
set_option maxHeartbeats 4000000
/-! ### min(xs, default=d) of whole numbers; min of a list of lists of two numbers -/
namespace Gr
open PySem PySem.Spec PyProof.Rows L2 Gn
/-- the fold of min finds one of the least -/
theorem fold_least {α : Type} (lt : α → α → Bool) (asym : ∀ x y, lt x y = true → lt y x = false) (tr : ∀ x y z, lt x y = false → lt y z = false → lt x z = false) :
    ∀ (xs : List α) (x : α), (xs.foldl (fun a y => if lt y a = true then y else a) x ∈ x :: xs) ∧ ∀ y, y ∈ x :: xs → lt y (xs.foldl (fun a y => if lt y a = true then y else a) x) = false
  | [], x => by
    refine ⟨List.mem_cons_self, fun y hy => ?_⟩
    rcases List.mem_cons.mp hy with e | e
    · subst e
      show lt y y = false
      cases c : lt y y with
      | false => rfl
      | true => exact (asym y y c).symm.trans c ▸ rfl
    · cases e
  | z :: zs, x => by
    rw [List.foldl_cons]
    obtain ⟨h1, h2⟩ := fold_least lt asym tr zs (if lt z x = true then z else x)
    generalize zs.foldl (fun a y => if lt y a = true then y else a) (if lt z x = true then z else x) = m at h1 h2
    cases c : lt z x with
    | true =>
      rw [c, if_pos rfl] at h1 h2
      refine ⟨List.mem_cons_of_mem _ h1, fun y hy => ?_⟩
      rcases List.mem_cons.mp hy with e | e
      · rw [e]
        exact tr x z m (asym z x c) (h2 z List.mem_cons_self)
      · exact h2 y e
    | false =>
      rw [c, if_neg Bool.false_ne_true] at h1 h2
      refine ⟨?_, fun y hy => ?_⟩
      · rcases List.mem_cons.mp h1 with e | e
        · rw [e]
          exact List.mem_cons_self
        · exact List.mem_cons_of_mem _ (List.mem_cons_of_mem _ e)
      · rcases List.mem_cons.mp hy with e | e
        · rw [e]
          exact h2 x List.mem_cons_self
        · rcases List.mem_cons.mp e with e | e
          · rw [e]
            exact tr z x m c (h2 x List.mem_cons_self)
          · exact h2 y (List.mem_cons_of_mem _ e)
theorem minOf_map {α β : Type} [DecidableEq β] [PySem.W.DatumOrd β] (f : α → β) : ∀ (xs : List α) (x : α),
    PySem.W.minOf (f x) (xs.map f) = f (xs.foldl (fun a y => if PySem.W.DatumOrd.lt (f y) (f a) = true then y else a) x)
  | [], _ => rfl
  | z :: zs, x => by
    rw [List.map_cons, List.foldl_cons]
    show PySem.W.minOf (if PySem.W.DatumOrd.lt (f z) (f x) = true then f z else f x) (zs.map f) = _
    rw [← minOf_map f zs]
    by_cases c : PySem.W.DatumOrd.lt (f z) (f x) = true
    · rw [if_pos c, if_pos c]
    · rw [if_neg c, if_neg c]
theorem lt_nat (a b : Nat) : PySem.W.DatumOrd.lt ((a : Nat) : Int) ((b : Nat) : Int) = decide (a < b) := lt_cast a b
theorem ints_nv (ns : List Nat) : ns.map nv = (ns.map fun (n : Nat) => (n : Int)).map V.int := by
  rw [List.map_map]
  rfl
def rMinD (K : PySem.W.Frag) : List V → List V → Hp → VK → Prop := fun vs zs H Q => ∃ (a : Addr) (ns : List Nat) (d : V), vs = [.ref a] ∧ zs = [d] ∧ SqL K H a (ns.map nv) ∧
  (ns = [] → Q d H) ∧ ∀ m, m ∈ ns → (∀ y, y ∈ ns → m ≤ y) → Q (nv m) H
/-- a pair of numbers, as a list of two -/
def two (d : Nat × Nat) : List Int := [(d.1 : Int), (d.2 : Int)]
theorem lt_two (d e : Nat × Nat) : PySem.W.DatumOrd.lt (two d) (two e) = decide (d.1 < e.1 ∨ (d.1 = e.1 ∧ d.2 < e.2)) := by
  show (if ((d.1 : Nat) : Int) = ((e.1 : Nat) : Int) then (if ((d.2 : Nat) : Int) = ((e.2 : Nat) : Int) then false else decide (((d.2 : Nat) : Int) < ((e.2 : Nat) : Int))) else decide (((d.1 : Nat) : Int) < ((e.1 : Nat) : Int))) = _
  rw [lt_cast, lt_cast]
  by_cases h : d.1 = e.1
  · rw [if_pos (by rw [h])]
    by_cases h2 : d.2 = e.2
    · rw [if_pos (by rw [h2])]
      exact (decide_eq_false (by omega)).symm
    · rw [if_neg (by omega)]
      exact decide_eq_decide.mpr (by omega)
  · rw [if_neg (by omega)]
    exact decide_eq_decide.mpr (by omega)
/-- xs: where the items lie, and the two numbers of each -/
def rMin2 (K : PySem.W.Frag) : List V → Hp → VK → Prop := fun vs H Q => ∃ (a : Addr) (ts : List (Addr × (Nat × Nat))), vs = [.ref a] ∧ SqL K H a (ts.map fun t => V.ref t.1) ∧ 0 < ts.length ∧
  (∀ t, t ∈ ts → SqL K H t.1 [nv t.2.1, nv t.2.2]) ∧
  ∀ t, t ∈ ts → (∀ u, u ∈ ts → t.2.1 < u.2.1 ∨ (t.2.1 = u.2.1 ∧ t.2.2 ≤ u.2.2)) → Q (.ref t.1) H
section
variable {X : Cx}
theorem cr_minD (hc : X.calm = true) (hu : X.A.units + 1 < cLine) : CallRK X (.builtin "min") ["default"] (rMinD X.K) := by
  intro pins s σ H xs zs us ws Q I r1 r2 h
  obtain ⟨a, ns, d, rfl, rfl, hs, q0, q⟩ := h
  cases r2 with
  | @cons _ dv _ _ rd r2 =>
    cases r2
    obtain ⟨its, rv, hl, _⟩ := I.list hs
    rw [Vals.ref1 r1]
    rw [ints_nv] at rv
    refine PySem.W.min_list_datum_default (α := Int) (xs := ns.map fun (n : Nat) => (n : Int)) (I.ok.hd hc) hl.isList (PySem.W.HoldAll.of_ints rv.ints) hu (fun e h' tk hk => ?_) fun y ys i v h' tk e _ hv hk => ?_
    · exact ⟨d, H, I.kept hk, rd, q0 (List.map_eq_nil_iff.mp e)⟩
    · obtain ⟨t, rfl⟩ := PySem.W.int_of_holds hv
      cases ns with
      | nil => cases e
      | cons n ns =>
        rw [List.map_cons] at e
        injection e with e1 e2
        subst e1
        subst e2
        have em : PySem.W.minOf ((n : Nat) : Int) (ns.map fun (n : Nat) => (n : Int)) = _ := minOf_map (fun (n : Nat) => (n : Int)) ns n
        obtain ⟨f1, f2⟩ := fold_least (fun a b : Nat => PySem.W.DatumOrd.lt (a : Int) (b : Int)) (fun x y => by rw [lt_nat, lt_nat]; intro c; have := of_decide_eq_true c; exact decide_eq_false (by omega))
          (fun x y z => by rw [lt_nat, lt_nat, lt_nat]; intro c c'; have := of_decide_eq_false c; have := of_decide_eq_false c'; exact decide_eq_false (by omega)) ns n
        refine ⟨V.int (PySem.W.minOf ((n : Nat) : Int) (ns.map fun (n : Nat) => (n : Int))), H, I.kept hk, ⟨t, rfl⟩, ?_⟩
        rw [em]
        refine q _ f1 fun y hy => ?_
        have z := f2 y hy
        rw [lt_nat] at z
        exact Nat.le_of_not_lt (of_decide_eq_false z)
theorem cr_min2 (hc : X.calm = true) (hu : X.A.units + 64 < cLine) : CallR X (.builtin "min") (rMin2 X.K) := by
  intro pins s σ H vs us Q I r h
  obtain ⟨a, ts, rfl, hs, hne, hts, q⟩ := h
  obtain ⟨its, rv, hl, _⟩ := I.list hs
  rw [Vals.ref1 r]
  -- what the items hold
  have hold : ∀ t, t ∈ ts → PySem.W.Holds s.heap (.ref t.1) (two t.2) := fun t ht => by
    obtain ⟨its2, rv2, hl2, _⟩ := I.list (hts t ht)
    refine PySem.W.holds_list hl2.isList (PySem.W.HoldAll.of_ints ?_)
    have e : [nv t.2.1, nv t.2.2] = (two t.2).map V.int := rfl
    rw [e] at rv2
    exact rv2.ints
  have all : ∀ (l : List (Addr × (Nat × Nat))) (vs : List Value), (∀ t, t ∈ l → t ∈ ts) → Vals (l.map fun t => V.ref t.1) vs → PySem.W.HoldAll s.heap vs (l.map fun t => two t.2) := by
    intro l
    induction l with
    | nil =>
      intro vs _ z
      cases z
      exact PySem.W.HoldAll.nil
    | cons t l ih =>
      intro vs hm z
      cases z with
      | cons z1 z2 =>
        cases z1
        exact PySem.W.HoldAll.cons (hold t (hm t List.mem_cons_self)) (ih _ (fun u hu => hm u (List.mem_cons_of_mem _ hu)) z2)
  have hall := all ts its (fun _ h => h) rv
  cases ts with
  | nil => exact absurd hne (Nat.lt_irrefl 0)
  | cons t0 tr =>
    refine PySem.W.min_list_datum (α := List Int) (x := two t0.2) (xs := tr.map fun t : Addr × (Nat × Nat) => two t.2) (I.ok.hd hc) hl.isList hall (by show X.A.units + 1 + 1 < cLine; omega) fun i v h' tk hi hv hk => ?_
    have I' := I.kept (t' := tk) hk
    -- which item it is
    have hi' : its[i]? = some v := by simpa using hi
    obtain ⟨t, ht, ev⟩ : ∃ t, t ∈ t0 :: tr ∧ v = .ref t.1 := by
      have key : ∀ (l : List (Addr × (Nat × Nat))) (vs : List Value) (i : Nat), Vals (l.map fun t => V.ref t.1) vs → vs[i]? = some v → ∃ t, t ∈ l ∧ v = .ref t.1 := by
        intro l
        induction l with
        | nil =>
          intro vs i z e
          cases z
          simp at e
        | cons t l ih =>
          intro vs i z e
          cases z with
          | cons z1 z2 =>
            cases z1
            cases i with
            | zero => exact ⟨t, List.mem_cons_self, (Option.some.inj (show some (Value.ref t.1) = some v from e)).symm⟩
            | succ i =>
              obtain ⟨u, h1, h2⟩ := ih _ i z2 (by simpa using e)
              exact ⟨u, List.mem_cons_of_mem _ h1, h2⟩
      exact key _ _ i rv hi'
    subst ev
    have em : PySem.W.minOf (two t0.2) (tr.map fun t => two t.2) = _ := minOf_map (fun t : Addr × (Nat × Nat) => two t.2) tr t0
    obtain ⟨f1, f2⟩ := fold_least (fun a b : Addr × (Nat × Nat) => PySem.W.DatumOrd.lt (two a.2) (two b.2)) (fun x y => by rw [lt_two, lt_two]; intro c; have := of_decide_eq_true c; exact decide_eq_false (by omega))
      (fun x y z => by rw [lt_two, lt_two, lt_two]; intro c c'; have := of_decide_eq_false c; have := of_decide_eq_false c'; exact decide_eq_false (by omega)) tr t0
    generalize tr.foldl (fun a y => if (fun a b : Addr × (Nat × Nat) => PySem.W.DatumOrd.lt (two a.2) (two b.2)) y a = true then y else a) t0 = b at f1 f2 em
    rw [em] at hv
    -- what it holds
    obtain ⟨l, vs2, e1, h1, h2⟩ := PySem.W.list_of_holds hv
    cases e1
    obtain ⟨its2, rv2, hl2, _⟩ := I'.list (hts t ht)
    obtain ⟨o1, g1, _, n1, d1⟩ := hl2.isList
    obtain ⟨o2, g2, _, n2, d2⟩ := h1
    rw [g1] at g2
    cases g2
    rw [d1] at d2
    injection d2 with d3 _
    have eq : two t.2 = two b.2 := by
      have e : [nv t.2.1, nv t.2.2] = (two t.2).map V.int := rfl
      rw [e] at rv2
      have a1 := rv2.ints
      have a2 := PySem.W.HoldAll.toInts h2
      rw [← d3] at a2
      have a2 : IntsAre its2 (two b.2) := by simpa using a2
      exact a1.numsOf.symm.trans a2.numsOf
    have q1 : ((t.2.1 : Nat) : Int) = ((b.2.1 : Nat) : Int) := (List.cons.inj eq).1
    have q2 : ((t.2.2 : Nat) : Int) = ((b.2.2 : Nat) : Int) := (List.cons.inj (List.cons.inj eq).2).1
    refine ⟨.ref t.1, H, I', rfl, q t ht fun u hu => ?_⟩
    have z := f2 u hu
    rw [lt_two] at z
    have z := of_decide_eq_false z
    omega
end
end Gr
set_option Elab.async false
set_option maxRecDepth 100000
set_option maxHeartbeats 4000000
namespace Gb
open PySem PySem.Spec PyProof.Rows L2 Gn Gr
/-! ### the text: its defs by their places -/
def top (i : Nat) : Stmt := PySem.Challenge.pw_guestcircles_s04_fewest.main.body.getD i (.Pass ⟨0, 0, 0, 0⟩)
abbrev dFewest : Stmt := top 5
abbrev dTold : Stmt := top 6
abbrev dTwos : Stmt := top 7
abbrev dKnown : Stmt := top 8
abbrev dUnknown : Stmt := top 9
abbrev dGroups : Stmt := top 10
abbrev dLacked : Stmt := top 11
abbrev dMany : Stmt := top 12
end Gb
set_option Elab.async false
set_option maxRecDepth 100000
set_option maxHeartbeats 4000000
namespace Gb
open PySem PySem.Spec PyProof.Rows L2 Gn Gr
theorem scMany : FnScope ["group", "found"] ["group"] (defScope dMany) := ⟨rfl, rfl, rfl, by decide +kernel, rfl, by decide +kernel, by decide +kernel⟩
theorem scKnown : FnScope ["n", "pairs", "known", "one", "other"] ["n", "pairs"] (defScope dKnown) := ⟨rfl, rfl, rfl, by decide +kernel, rfl, by decide +kernel, by decide +kernel⟩
theorem scTwos : FnScope ["pairs"] ["pairs"] (defScope dTwos) := ⟨rfl, rfl, rfl, by decide +kernel, rfl, by decide +kernel, by decide +kernel⟩
theorem scTold : FnScope ["n", "pairs", "one", "other"] ["n", "pairs"] (defScope dTold) := ⟨rfl, rfl, rfl, by decide +kernel, rfl, by decide +kernel, by decide +kernel⟩
theorem scUnknown : FnScope ["known", "everybody", "unknown", "guest", "friends", "oneself"] ["known"] (defScope dUnknown) := ⟨rfl, rfl, rfl, by decide +kernel, rfl, by decide +kernel, by decide +kernel⟩
theorem scGroups : FnScope ["k", "n", "group"] ["k", "n"] (defScope dGroups) := ⟨rfl, rfl, rfl, by decide +kernel, rfl, by decide +kernel, by decide +kernel⟩
theorem scLacked : FnScope ["group", "unknown", "seen_from_each", "guest", "strangers", "oneself"] ["group", "unknown"] (defScope dLacked) := ⟨rfl, rfl, rfl, by decide +kernel, rfl, by decide +kernel, by decide +kernel⟩
section
variable {P : Program} {w : World} {K : PySem.W.Frag} {mg : Str → Option Value} {base : Heap}
/-! ### how_many -/
def spMany : Sp := fun vs H Q _ => ∃ g : Nat, vs = [nv g] ∧ Q (nv (Gc.hm g)) H
theorem ok_many {f : Addr} {fd : FuncData} {k : Nat} (F : Fun K "how_many" "how_many" dMany f fd) : FnOk P w K mg base CX0 (k + 1) f fd ["group"] spMany := by
  refine F.ok scMany (fun vs H Q E h => ?_) (fun cdv A outer s H vs Q E hr h => ?_)
  · obtain ⟨g, rfl, _⟩ := h
    rfl
  · obtain ⟨g, rfl, q⟩ := h
    refine ⟨_, pss_cons (ps_set (i := 1) scMany.nd rfl (.inl rfl) pe_int)
      (pss_cons (ps_while PassesOwn.never (pt_cmpR on_gt (pv 0) pe_int (nomark _))
        (pss_cons (ps_aug (i := 1) scMany.nd rfl (.inl rfl) (pe_op on_and (pv 0) pe_int) pn_add)
          (pss_one (ps_aug (i := 0) scMany.nd rfl (.inl rfl) pe_int pn_shr))))
      (pss_one (ps_ret (pv 1)))), ?_⟩
    refine ⟨fun m σ H' => ∃ a b : Nat, m = a ∧ σ = [some (nv a), some (nv b)] ∧ H' = H ∧ b + Gc.hm a = Gc.hm g, ⟨g, g, 0, rfl, rfl, rfl, Nat.zero_add _⟩, ?_⟩
    rintro a σ H' ⟨_, b, rfl, rfl, rfl, e⟩
    refine ⟨_, rfl, a, 0, rfl, rfl, _, rfl, ite2 (fun c => ?_) (fun c => ?_)⟩
    · have c' : 0 < a := of_decide_eq_true c
      refine ⟨fun σ' H'' => ∃ b' : Nat, σ' = [some (nv (a / 2)), some (nv b')] ∧ H'' = H' ∧ b' + Gc.hm (a / 2) = Gc.hm g, fun σ' H'' ⟨b', z1, z2, z3⟩ => ⟨a / 2, by omega, a / 2, b', rfl, z1, z2, z3⟩, ?_⟩
      refine ⟨_, rfl, _, rfl, a, 1, rfl, rfl, b, _, rfl, rfl, ?_⟩
      refine ⟨_, rfl, a, 1, rfl, rfl, b + a % 2, ?_, rfl, ?_⟩
      · show [some (nv (a / 2 ^ 1)), some (nv (b + (a &&& 1)))] = _
        rw [Nat.and_one_is_mod, Nat.pow_one]
      · rw [Nat.add_assoc, ← Gc.hm_half, e]
    · have c' : a = 0 := Nat.eq_zero_of_not_pos fun z => c (decide_eq_true z)
      subst c'
      rw [Gc.hm_zero, Nat.add_zero] at e
      subst e
      exact ⟨_, rfl, q⟩
/-! ### in_twos -/
theorem zip_net : ∀ ns : List Nat, ((evens (ns.map nv)).zip (evens ((ns.map nv).drop 1))) = (Kzf1.net ns).map fun e => (nv e.1, nv e.2)
  | [] => rfl
  | [_] => rfl
  | a :: b :: l => by
    show ((nv a :: evens (l.map nv)).zip (evens (nv b :: l.map nv))) = (nv a, nv b) :: (Kzf1.net l).map fun e => (nv e.1, nv e.2)
    rw [evens_cons, List.zip_cons_cons, zip_net l]
def spTwos (K : PySem.W.Frag) : Sp := fun vs H Q _ => ∃ (a : Addr) (ns : List Nat), vs = [.ref a] ∧ SqL K H a (ns.map nv) ∧
  ∀ (H' : Hp) (p : Addr) (ts : List Addr), Same H H' → H p = none → H' p = some (.lst (ts.map V.ref)) → ts.length = (Kzf1.net ns).length → (∀ (j : Nat) (t : Addr), ts[j]? = some t → ∃ e, (Kzf1.net ns)[j]? = some e ∧ H' t = some (.tup [nv e.1, nv e.2]) ∧ H t = none) → Q (.ref p) H'
theorem ok_twos {f : Addr} {fd : FuncData} {k : Nat} (F : Fun K "in_twos" "in_twos" dTwos f fd) (ml : mg "list" = none) (mz : mg "zip" = none) : FnOk P w K mg base CX0 (k + 1) f fd ["pairs"] (spTwos K) := by
  refine F.ok scTwos (fun vs H Q E h => ?_) (fun cdv A outer s H vs Q E hr h => ?_)
  · obtain ⟨a, ns, rfl, _⟩ := h
    rfl
  · obtain ⟨a, ns, rfl, hS, q⟩ := h
    refine ⟨_, pss_one (ps_ret (pe_pairs rfl (by rfl) ml (by decide +kernel) (by rfl) mz (pa_cons (pe_half (pv 0) pe_int pe_int) (pa_cons (pe_half (pv 0) pe_int pe_int) pa_nil)))), ?_⟩
    refine ⟨.ref a, rfl, a, ns.map nv, 0, rfl, rfl, rfl, hS, fun q1 n1 => ?_⟩
    have s1 : Same H (upd H q1 (.lst (evens ((ns.map nv).drop 0)))) := same_upd n1
    refine ⟨.ref a, rfl, a, ns.map nv, 1, rfl, rfl, rfl, s1.seq hS, fun q2 n2 => ?_⟩
    have s2 : Same (upd H q1 (.lst (evens ((ns.map nv).drop 0)))) (upd (upd H q1 (.lst (evens ((ns.map nv).drop 0)))) q2 (.lst (evens ((ns.map nv).drop 1)))) := same_upd n2
    refine ⟨q1, q2, evens (ns.map nv), evens ((ns.map nv).drop 1), rfl, .inl (.inl (s2 _ _ upd_same)), .inl (.inl upd_same), fun H' p ts sm np hp hl ht => ?_⟩
    rw [zip_net, List.length_map] at hl
    refine q H' p ts ((s1.trans s2).trans sm) ((s1.trans s2).free np) hp hl fun j t hj => ?_
    obtain ⟨e, e1, e2, e3⟩ := ht j t hj
    rw [zip_net, List.getElem?_map] at e1
    cases g : (Kzf1.net ns)[j]? with
    | none =>
      rw [g] at e1
      cases e1
    | some z =>
      rw [g] at e1
      have e4 : (nv z.1, nv z.2) = e := Option.some.inj e1
      rw [← e4] at e2
      exact ⟨z, rfl, e2, (s1.trans s2).free e3⟩
theorem ref_at {ts : List Addr} {i : Nat} {x : V} (h : (ts.map V.ref)[i]? = some x) : ∃ t, ts[i]? = some t ∧ x = .ref t := by
  rw [List.getElem?_map] at h
  cases e : ts[i]? with
  | none =>
    rw [e] at h
    cases h
  | some t =>
    rw [e] at h
    exact ⟨t, rfl, (Option.some.inj h).symm⟩
/-! ### is_as_told -/
def spTold (K : PySem.W.Frag) : Sp := fun vs H Q _ => ∃ (n : Nat) (a : Addr) (ns : List Nat), vs = [nv n, .ref a] ∧ SqL K H a (ns.map nv) ∧ ∀ H', Same H H' → Q (.bl (Gc.told n ns)) H'
theorem ok_told {f f1 : Addr} {fd fd1 : FuncData} {k : Nat} {t1 t2 : Tok} (F : Fun K "is_as_told" "is_as_told" dTold f fd) (F1 : Fun K "in_twos" "in_twos" dTwos f1 fd1) (b1 : Binds K fd1 ["pairs"] []) (g1 : mg "in_twos" = some (.ref f1))
    (ml : mg "list" = none) (mz : mg "zip" = none) (mn : mg "len" = none) (mG : mg "MOST_GUESTS" = some (.int 8 t1)) (mP : mg "MOST_PAIRS" = some (.int 28 t2)) : FnOk P w K mg base CX0 (k + 2) f fd ["n", "pairs"] (spTold K) := by
  have G1 : FnOk P w K mg base CX0 (k + 1) f1 fd1 ["pairs"] (spTwos K) := ok_twos F1 ml mz
  refine F.ok scTold (fun vs H Q E h => ?_) (fun cdv A outer s H vs Q E hr h => ?_)
  · obtain ⟨n, a, ns, rfl, _⟩ := h
    rfl
  · obtain ⟨n, a, ns, rfl, hS, q⟩ := h
    refine ⟨_, pss_cons (ps_if (pw_or (pt_cmpR on_lt (pv 0) pe_int (nomark _)) (pw_or1 (pt_cmpR on_gt (pv 0) (pe_glob (v := nv 8) (by rfl) mG (by exact ⟨t1, rfl⟩)) (nomark _)))).pt (pss_one (ps_ret pe_bl)) pss_nil)
      (pss_cons (ps_if (pw_or (pt_cmpR on_eq (pe_op on_mod (pe_callB call_len_seq (by rfl) mn PySem.boot_len (pa_cons (pv 1) pa_nil)) pe_int) pe_int (nomark _))
          (pw_or1 (pt_cmpR on_gt (pe_callB call_len_seq (by rfl) mn PySem.boot_len (pa_cons (pv 1) pa_nil)) (pe_op on_mul pe_int (pe_glob (v := nv 28) (by rfl) mP (by exact ⟨t2, rfl⟩))) (nomark _)))).pt (pss_one (ps_ret pe_bl)) pss_nil)
      (pss_cons (ps_for PassesOwn.never rfl (pi_list (pe_call G1 hr (by rfl) g1 F1.kp b1 .nil pass0 (pa_cons (pv 1) pa_nil)))
        (pg_tup rfl (pgs_cons (pg_name (i := 2) scTold.nd rfl (.inl rfl)) (pgs_cons (pg_name (i := 3) scTold.nd rfl (.inl rfl)) pgs_nil)))
        (pss_one (ps_if (pw_or (pt_cmpR on_ge (pv 2) (pv 0) (nomark _)) (pw_or (pt_cmpR on_ge (pv 3) (pv 0) (nomark _)) (pw_or1 (pt_cmpR on_eq (pv 2) (pv 3) (nomark _))))).pt (pss_one (ps_ret pe_bl)) pss_nil)))
      (pss_one (ps_ret pe_bl)))), ?_⟩
    have no : ∀ {b : Bool}, Gc.told n ns = b → ∀ H', Same H H' → Q (.bl b) H' := fun e H' sm => by
      rw [← e]
      exact q H' sm
    have fin : ¬ (n < 1 ∨ 8 < n) → ¬ (ns.length % 2 = 1 ∨ 56 < ns.length) → Gc.told n ns = ((Kzf1.net ns).all fun e => !(decide (n ≤ e.1) || decide (n ≤ e.2) || decide (e.1 = e.2))) := fun h1 h2 => by
      unfold Gc.told
      rw [decide_eq_false (fun z => h1 (.inl z)), decide_eq_false (fun z => h1 (.inr z)), decide_eq_false (fun z => h2 (.inl z)), decide_eq_false (fun z => h2 (.inr z))]
      rfl
    have bad1 : (n < 1 ∨ 8 < n) → Gc.told n ns = false := fun z => by
      unfold Gc.told
      rcases z with z | z
      · rw [decide_eq_true z]; rfl
      · rw [decide_eq_true z, Bool.or_true]; rfl
    have bad2 : (ns.length % 2 = 1 ∨ 56 < ns.length) → Gc.told n ns = false := fun z => by
      unfold Gc.told
      rcases z with z | z
      · rw [decide_eq_true z, Bool.true_or, Bool.not_true, Bool.false_and, Bool.and_false]
      · rw [decide_eq_true z, Bool.or_true, Bool.not_true, Bool.false_and, Bool.and_false]
    -- if n < 1 or n > MOST_GUESTS
    refine ⟨_, rfl, n, 1, rfl, rfl, _, rfl, ite2 (fun c1 => ?_) (fun c1 => ?_)⟩
    · exact iteT (no (bad1 (.inl (of_decide_eq_true c1))) H (Same.refl H))
    refine ⟨_, rfl, n, 8, rfl, rfl, _, rfl, ite2 (fun c2 => ?_) (fun c2 => ?_)⟩
    · exact no (bad1 (.inr (of_decide_eq_true c2))) H (Same.refl H)
    -- if len(pairs) % 2 == 1 or len(pairs) > 2 * MOST_PAIRS
    refine ⟨_, rfl, a, ns.map nv, rfl, .inl hS, (ns.map nv).length, 2, rfl, rfl, (show 0 < 2 by decide), _, 1, rfl, rfl, _, rfl, ite2 (fun c3 => ?_) (fun c3 => ?_)⟩
    · have c3 := of_decide_eq_true c3
      rw [List.length_map] at c3
      exact iteT (no (bad2 (.inl c3)) H (Same.refl H))
    refine ⟨_, rfl, a, ns.map nv, rfl, .inl hS, 2, 28, rfl, rfl, (show 2 ≤ 1000 by decide), (ns.map nv).length, 56, rfl, rfl, _, rfl, ite2 (fun c4 => ?_) (fun c4 => ?_)⟩
    · have c4 := of_decide_eq_true c4
      rw [List.length_map] at c4
      exact no (bad2 (.inr c4)) H (Same.refl H)
    have f1 : ¬ (n < 1 ∨ 8 < n) := fun z => by
      rcases z with z | z
      · exact c1 (decide_eq_true z)
      · exact c2 (decide_eq_true z)
    have f2 : ¬ (ns.length % 2 = 1 ∨ 56 < ns.length) := fun z => by
      rw [List.length_map] at c3 c4
      rcases z with z | z
      · exact c3 (decide_eq_true z)
      · exact c4 (decide_eq_true z)
    have ft := fin f1 f2
    -- the walk
    refine ⟨_, rfl, a, ns, rfl, hS, fun H1 p ts sm np hp hl ht => ⟨p, rfl, ⟨_, .inl (.inl hp)⟩, for_list (xs := ts.map V.ref) (fun i σ H' => ∃ v2 v3, σ = [some (nv n), some (.ref a), v2, v3] ∧ H' = H1 ∧ ∀ e, e ∈ (Kzf1.net ns).take i → (!(decide (n ≤ e.1) || decide (n ≤ e.2) || decide (e.1 = e.2))) = true)
      ⟨none, none, rfl, rfl, fun e he => by simp at he⟩ (fun i σ H' _ ⟨_, _, _, eH, _⟩ => by rw [eH]; exact .inl (.inl hp)) ?_ ?_⟩⟩
    · rintro i x σ H' hx ⟨v2, v3, rfl, rfl, hok⟩
      obtain ⟨t, ht1, rfl⟩ := ref_at hx
      obtain ⟨e, he1, he2, _⟩ := ht i t ht1
      have bad : (!(decide (n ≤ e.1) || decide (n ≤ e.2) || decide (e.1 = e.2))) = false → Gc.told n ns = false := fun z => by
        rw [ft]
        refine Bool.eq_false_iff.mpr fun y => ?_
        have := List.all_eq_true.mp y e (List.mem_of_getElem? he1)
        rw [z] at this
        cases this
      refine ⟨t, _, rfl, .inl (.inl he2), rfl, nv e.1, _, rfl, nv e.2, [], rfl, rfl, ?_⟩
      refine ⟨_, rfl, _, rfl, e.1, n, rfl, rfl, _, rfl, ite2 (fun d1 => ?_) (fun d1 => ?_)⟩
      · exact iteT (no (bad (by rw [d1]; rfl)) _ sm)
      refine ⟨_, rfl, _, rfl, e.2, n, rfl, rfl, _, rfl, ite2 (fun d2 => ?_) (fun d2 => ?_)⟩
      · exact iteT (no (bad (by rw [d2, Bool.or_true]; rfl)) _ sm)
      refine ⟨_, rfl, _, rfl, e.1, e.2, rfl, rfl, _, rfl, ite2 (fun d3 => ?_) (fun d3 => ?_)⟩
      · exact no (bad (by rw [d3, Bool.or_true]; rfl)) _ sm
      · refine ⟨_, _, rfl, rfl, fun z hz => ?_⟩
        rw [List.take_add_one, he1] at hz
        rcases List.mem_append.mp hz with hz | hz
        · exact hok z hz
        · have : z = e := by simpa using hz
          subst this
          rw [Bool.eq_false_iff.mpr d1, Bool.eq_false_iff.mpr d2, Bool.eq_false_iff.mpr d3]
          rfl
    · rintro σ H' ⟨v2, v3, rfl, rfl, hok⟩
      rw [List.length_map, hl, List.take_length] at hok
      refine no ?_ _ sm
      rw [ft]
      exact List.all_eq_true.mpr hok
/-! ### known_by_each -/
def spKnown (K : PySem.W.Frag) : Sp := fun vs H Q _ => ∃ (n : Nat) (a : Addr) (ns : List Nat), vs = [nv n, .ref a] ∧ SqL K H a (ns.map nv) ∧ Gc.told n ns = true ∧
  ∀ (H' : Hp) (p : Addr), Same H H' → H' p = some (.lst ((Gc.known n (Kzf1.net ns)).map nv)) → Q (.ref p) H'
theorem marked (ks : List Nat) (i j : Nat) : (ks.map nv).set i (nv (ks.getD i 0 ||| 2 ^ j)) = (Gc.mark ks i j).map nv := by
  unfold Gc.mark
  rw [List.map_set]
theorem zeros (n : Nat) : (List.replicate n [V.int 0]).flatten = (List.replicate n 0).map nv := by
  induction n with
  | zero => rfl
  | succ n ih =>
    rw [List.replicate_succ, List.replicate_succ, List.flatten_cons, ih]
    rfl
theorem ix_nat {n i : Nat} (h : i < n) : ixN n (i : Int) = some i := by
  unfold ixN
  rw [if_pos (by omega), if_pos (by omega), Int.toNat_natCast]
theorem ok_known {f f1 : Addr} {fd fd1 : FuncData} {k : Nat} (F : Fun K "known_by_each" "known_by_each" dKnown f fd) (F1 : Fun K "in_twos" "in_twos" dTwos f1 fd1) (b1 : Binds K fd1 ["pairs"] []) (g1 : mg "in_twos" = some (.ref f1))
    (ml : mg "list" = none) (mz : mg "zip" = none) : FnOk P w K mg base CX0 (k + 2) f fd ["n", "pairs"] (spKnown K) := by
  have G1 : FnOk P w K mg base CX0 (k + 1) f1 fd1 ["pairs"] (spTwos K) := ok_twos F1 ml mz
  refine F.ok scKnown (fun vs H Q E h => ?_) (fun cdv A outer s H vs Q E hr h => ?_)
  · obtain ⟨n, a, ns, rfl, _⟩ := h
    rfl
  · obtain ⟨n, a, ns, rfl, hS, hT, q⟩ := h
    refine ⟨_, pss_cons (ps_set (i := 2) scKnown.nd rfl (.inl rfl) (pe_op op_rep (pe_lst (pa_cons pe_int pa_nil)) (pv 0)))
      (pss_cons (ps_for PassesOwn.never rfl (pi_list (pe_call G1 hr (by rfl) g1 F1.kp b1 .nil pass0 (pa_cons (pv 1) pa_nil)))
        (pg_tup rfl (pgs_cons (pg_name (i := 3) scKnown.nd rfl (.inl rfl)) (pgs_cons (pg_name (i := 4) scKnown.nd rfl (.inl rfl)) pgs_nil)))
        (pss_cons (ps_augS (pv 2) (pv 3) get_list (pe_op on_shl pe_int (pv 4)) pn_or set_list)
          (pss_one (ps_augS (pv 2) (pv 4) get_list (pe_op on_shl pe_int (pv 3)) pn_or set_list))))
      (pss_one (ps_ret (pv 2)))), ?_⟩
    obtain ⟨hn1, hn8⟩ := Gc.n_of_told hT
    have fine := Gc.fine_of_told hT
    -- known = [0] * n
    refine ⟨by show 1 ≤ sizeLine; decide, fun p0 n0 => ?_⟩
    have s0 : Same H (upd H p0 (.lst [V.int 0])) := same_upd n0
    refine ⟨_, rfl, p0, n, _, rfl, rfl, upd_same, by omega, by omega, ?_, fun pk nk => ?_⟩
    · rw [Int.toNat_natCast]
      show 1 * n ≤ sizeLine
      exact Nat.le_of_lt (Nat.lt_of_le_of_lt (by omega : 1 * n ≤ 1000) (small1000 (Nat.le_refl _)))
    rw [Int.toNat_natCast, zeros]
    have s1 := same_upd (o := .lst ((List.replicate n 0).map nv)) nk
    -- in_twos(pairs)
    refine ⟨_, rfl, a, ns, rfl, s1.seq (s0.seq hS), fun H1 p ts sm np hp hl ht => ⟨p, rfl, ⟨_, .inl (.inl hp)⟩, ?_⟩⟩
    have hk1 : H1 pk = some (.lst ((List.replicate n 0).map nv)) := sm _ _ upd_same
    have npk : p ≠ pk := fun e => by
      rw [e, upd_same] at np
      cases np
    refine for_list (xs := ts.map V.ref) (fun i σ H' => ∃ v3 v4, σ = [some (nv n), some (.ref a), some (.ref pk), v3, v4] ∧ (∀ b o, b ≠ pk → H1 b = some o → H' b = some o) ∧ H' pk = some (.lst ((((Kzf1.net ns).take i).foldl Gc.meet (List.replicate n 0)).map nv)))
      ⟨none, none, rfl, fun b o _ e => e, hk1⟩ (fun i σ H' _ ⟨_, _, _, kp, _⟩ => .inl (.inl (kp _ _ npk hp))) ?_ ?_
    · rintro i x σ H' hx ⟨v3, v4, rfl, kp, hk⟩
      obtain ⟨t, ht1, rfl⟩ := ref_at hx
      obtain ⟨e, he1, he2, he3⟩ := ht i t ht1
      have ntk : t ≠ pk := fun z => by
        rw [z, upd_same] at he3
        cases he3
      obtain ⟨l1, l2, l3⟩ := fine e (List.mem_of_getElem? he1)
      generalize hks : ((Kzf1.net ns).take i).foldl Gc.meet (List.replicate n 0) = ks at hk
      have lk : ks.length = n := by rw [← hks, Gc.meets_len, List.length_replicate]
      have lm : (Gc.mark ks e.1 e.2).length = n := by rw [Gc.mark_len, lk]
      refine ⟨t, _, rfl, .inl (.inl (kp _ _ ntk he2)), rfl, nv e.1, _, rfl, nv e.2, [], rfl, rfl, ?_⟩
      refine ⟨_, rfl, _, rfl, pk, ks.map nv, e.1, _, rfl, rfl, .inl (.inl hk), at_nv (by rw [lk]; exact l1), ?_⟩
      refine ⟨_, rfl, 1, e.2, rfl, rfl, ⟨rfl, by omega⟩, ks.getD e.1 0, 2 ^ e.2, rfl, rfl, pk, _, _, e.1, rfl, rfl, hk, ix_nat (by rw [List.length_map, lk]; exact l1), ?_⟩
      rw [marked]
      refine ⟨_, rfl, _, rfl, pk, (Gc.mark ks e.1 e.2).map nv, e.2, _, rfl, rfl, .inl (.inl upd_same), at_nv (by rw [lm]; exact l2), ?_⟩
      refine ⟨_, rfl, 1, e.1, rfl, rfl, ⟨rfl, by omega⟩, (Gc.mark ks e.1 e.2).getD e.2 0, 2 ^ e.1, rfl, rfl, pk, _, _, e.2, rfl, rfl, upd_same, ix_nat (by rw [List.length_map, lm]; exact l2), ?_⟩
      rw [marked]
      refine ⟨_, _, rfl, fun b o hb z => ?_, ?_⟩
      · rw [upd_ne hb, upd_ne hb]
        exact kp b o hb z
      · rw [upd_same, List.take_add_one, he1, List.foldl_append, hks]
        rfl
    · rintro σ H' ⟨v3, v4, rfl, kp, hk⟩
      rw [List.length_map, hl, List.take_length] at hk
      refine ⟨_, rfl, q H' pk (fun b o z => ?_) hk⟩
      have z1 := sm _ _ (s1 _ _ (s0 _ _ z))
      refine kp b o (fun y => ?_) z1
      rw [y] at z
      have := s0 _ _ z
      rw [nk] at this
      cases this
/-! ### unknown_to_each -/
def spUnknown (K : PySem.W.Frag) : Sp := fun vs H Q _ => ∃ (a : Addr) (ks : List Nat), vs = [.ref a] ∧ SqL K H a (ks.map nv) ∧ ks.length ≤ 8 ∧
  (∀ i, i < ks.length → 2 ^ i ≤ 2 ^ ks.length - 1 ∧ ks.getD i 0 ≤ 2 ^ ks.length - 1 - 2 ^ i) ∧
  ∀ (H' : Hp) (p : Addr), Same H H' → H' p = some (.lst ((Gc.unknown ks).map nv)) → Q (.ref p) H'
theorem ok_unknown {f : Addr} {fd : FuncData} {k : Nat} (F : Fun K "unknown_to_each" "unknown_to_each" dUnknown f fd) (me : mg "enumerate" = none) (mn : mg "len" = none) : FnOk P w K mg base CX0 (k + 1) f fd ["known"] (spUnknown K) := by
  refine F.ok scUnknown (fun vs H Q E h => ?_) (fun cdv A outer s H vs Q E hr h => ?_)
  · obtain ⟨a, ks, rfl, _⟩ := h
    rfl
  · obtain ⟨a, ks, rfl, hS, hlen, hle, q⟩ := h
    refine ⟨_, pss_cons (ps_set (i := 1) scUnknown.nd rfl (.inl rfl) (pe_op on_sub (pe_op on_shl pe_int (pe_callB call_len_seq (by rfl) mn PySem.boot_len (pa_cons (pv 0) pa_nil))) pe_int))
      (pss_cons (ps_set (i := 2) scUnknown.nd rfl (.inl rfl) (pe_lst pa_nil))
      (pss_cons (ps_for PassesOwn.never rfl (pi_enum (by rfl) me (pa_cons (pv 0) pa_nil))
        (pg_tup rfl (pgs_cons (pg_name (i := 3) scUnknown.nd rfl (.inl rfl)) (pgs_cons (pg_name (i := 4) scUnknown.nd rfl (.inl rfl)) pgs_nil)))
        (pss_cons (ps_set (i := 5) scUnknown.nd rfl (.inl rfl) (pe_op on_shl pe_int (pv 3)))
        (pss_one (ps_expr (pe_bm PySem.F.plainAttrs_list PySem.F.slot_list_append PySem.F.type_list_append mt_append (pv 2) (pa_cons (pe_op on_sub (pe_op on_sub (pv 1) (pv 5)) (pv 4)) pa_nil))))))
      (pss_one (ps_ret (pv 2))))), ?_⟩
    have hp : 1 ≤ 2 ^ ks.length := Nat.two_pow_pos _
    refine ⟨_, rfl, a, ks.map nv, rfl, .inl hS, 1, (ks.map nv).length, rfl, rfl, ⟨rfl, by rw [List.length_map]; omega⟩, 2 ^ (ks.map nv).length, 1, rfl, rfl, by rw [List.length_map]; exact hp, ?_⟩
    rw [List.length_map]
    refine ⟨by show 0 ≤ sizeLine; decide, fun pu nu => ?_⟩
    have s0 : Same H (upd H pu (.lst [])) := same_upd nu
    refine ⟨_, rfl, a, ks.map nv, rfl, s0.seq hS, for_enum (xs := ks.map nv) (fun i σ H' => ∃ v3 v4 v5, σ = [some (.ref a), some (nv (2 ^ ks.length - 1)), some (.ref pu), v3, v4, v5] ∧ Same H H' ∧ H' pu = some (.lst (((Gc.unknown ks).take i).map nv)))
      ⟨none, none, none, rfl, s0, upd_same⟩ (fun i σ H' ⟨_, _, _, _, sm, _⟩ => sm.seq hS) ?_ ?_⟩
    · rintro i x T σ H' hx ⟨v3, v4, v5, rfl, sm, hu⟩ nT
      obtain ⟨hi, rfl⟩ := nv_at hx
      obtain ⟨l1, l2⟩ := hle i hi
      have hT : T ≠ pu := fun e => by
        rw [e, hu] at nT
        cases nT
      have sT : Same H' (upd H' T (.tup [nv i, nv (ks.getD i 0)])) := same_upd nT
      have hu2 := sT _ _ hu
      refine ⟨T, _, rfl, .inl (.inl upd_same), rfl, nv i, _, rfl, nv (ks.getD i 0), [], rfl, rfl, ?_⟩
      refine ⟨_, rfl, 1, i, rfl, rfl, ⟨rfl, by omega⟩, ?_⟩
      refine ⟨_, rfl, .inl ⟨rfl, _, SqL.of hu2⟩, _, rfl, _, rfl, 2 ^ ks.length - 1, 2 ^ i, rfl, rfl, l1, _, rfl, 2 ^ ks.length - 1 - 2 ^ i, ks.getD i 0, rfl, rfl, l2, pu, _, _, rfl, rfl, hu2, ?_, ?_⟩
      · rw [List.length_map, List.length_take, Gc.unknown_len]
        exact Nat.lt_of_le_of_lt (by omega : min i ks.length ≤ 999) (small1000 (by omega))
      · refine ⟨_, _, _, rfl, fun b o hb => ?_, ?_⟩
        · have nb : b ≠ pu := fun e => by
            rw [e, nu] at hb
            cases hb
          rw [upd_ne nb]
          exact sT _ _ (sm _ _ hb)
        · rw [upd_same]
          have e : (Gc.unknown ks)[i]? = some (2 ^ ks.length - 1 - 2 ^ i - ks.getD i 0) := by
            have z := Gc.unknown_at hi
            have hi' : i < (Gc.unknown ks).length := by
              rw [Gc.unknown_len]
              exact hi
            rw [List.getD_eq_getElem?_getD, List.getElem?_eq_getElem hi'] at z
            rw [List.getElem?_eq_getElem hi']
            exact congrArg some z
          rw [List.take_add_one, e, List.map_append]
          rfl
    · rintro σ H' ⟨v3, v4, v5, rfl, sm, hu⟩
      rw [List.length_map, List.take_of_length_le (by rw [Gc.unknown_len]; exact Nat.le_refl _)] at hu
      exact ⟨_, rfl, q H' pu sm hu⟩
/-! ### groups_of -/
theorem small256 {n : Nat} (h : n ≤ 8) : 2 ^ n ≤ 256 := Nat.pow_le_pow_right (by decide) h
def spGroups : Sp := fun vs H Q _ => ∃ k n : Nat, vs = [nv k, nv n] ∧ n ≤ 8 ∧ ∀ (H' : Hp) (p : Addr), Same H H' → H p = none → H' p = some (.lst ((Gc.groupsOf k n).map nv)) → Q (.ref p) H'
theorem ok_groups {f f1 : Addr} {fd fd1 : FuncData} {k : Nat} (F : Fun K "groups_of" "groups_of" dGroups f fd) (F1 : Fun K "how_many" "how_many" dMany f1 fd1) (b1 : Binds K fd1 ["group"] []) (g1 : mg "how_many" = some (.ref f1))
    (mr : mg "range" = none) : FnOk P w K mg base CX0 (k + 2) f fd ["k", "n"] spGroups := by
  have G1 : FnOk P w K mg base CX0 (k + 1) f1 fd1 ["group"] spMany := ok_many F1
  refine F.ok scGroups (fun vs H Q E h => ?_) (fun cdv A outer s H vs Q E hr h => ?_)
  · obtain ⟨c, n, rfl, _⟩ := h
    rfl
  · obtain ⟨c, n, rfl, hn, q⟩ := h
    refine ⟨_, pss_one (ps_ret (pe_lc (own := [("group", 2)]) (g := gName 2) rfl scGroups.nd (pi_range1 (by rfl) mr (pa_cons (pe_op on_shl pe_int (pv 1)) pa_nil))
      (blkOk_by (own := [("group", 2)]) (N := ["k", "n", "group"]) (sc := defScope dGroups) (by decide +kernel)) (fun _ _ _ _ _ => pg_name (i := 2) scGroups.nd rfl (Or.inl rfl))
      (fun _ _ _ _ _ => pts_one (pt_cmpR on_eq (pe_call G1 hr (by rfl) g1 F1.kp b1 .nil pass0 (pa_cons (pv 2) pa_nil)) (pv 0) (nomark _))) (fun _ _ _ _ _ => pv 2))), ?_⟩
    have hp := small256 hn
    refine ⟨_, rfl, 1, n, rfl, rfl, ⟨rfl, by omega⟩, ((2 ^ n : Nat) : Int), rfl, ?_, ?_, fun D nD => ?_⟩
    · generalize 2 ^ n = z at hp
      omega
    · generalize 2 ^ n = z at hp
      omega
    rw [Int.toNat_natCast]
    refine lc_range (lo := 0) (n := 2 ^ n) (fun i H' => Same H H' ∧ H' D = some (.lst (((List.range i).filter fun m => decide (Gc.hm m = c)).map nv))) ⟨same_upd nD, upd_same⟩ ?_ ?_
    · rintro i H' hi ⟨sm, hD⟩
      have ec : (0 : Int) + (i : Int) = ((i : Nat) : Int) := Int.zero_add _
      rw [ec]
      have step := Gc.filter_step (fun m => decide (Gc.hm m = c)) i
      refine ⟨rfl, _, rfl, i, rfl, _, rfl, Gc.hm i, c, rfl, rfl, _, rfl, ite2 (fun d => ?_) (fun d => ?_)⟩
      · refine ⟨_, rfl, _, hD, ?_, fun b o hb => ?_, ?_⟩
        · rw [List.length_map]
          refine small1000 (Nat.le_trans (List.length_filter_le _ _) ?_)
          rw [List.length_range]
          omega
        · rw [upd_ne (ne_of_none hb nD)]
          exact sm _ _ hb
        · rw [upd_same, step, if_pos d, List.map_append]
          rfl
      · refine ⟨sm, ?_⟩
        rw [hD, step, if_neg d, List.append_nil]
    · rintro H' ⟨sm, hD⟩
      exact q H' D sm nD hD
/-! ### lacked -/
def spLacked (K : PySem.W.Frag) : Sp := fun vs H Q _ => ∃ (m : Nat) (a : Addr) (ks : List Nat), vs = [nv m, .ref a] ∧ SqL K H a (ks.map nv) ∧ ks.length ≤ 8 ∧ ∀ H', Same H H' → Q (nv (Gc.lacked m ks)) H'
theorem ok_lacked {f f1 : Addr} {fd fd1 : FuncData} {k : Nat} (F : Fun K "lacked" "lacked" dLacked f fd) (F1 : Fun K "how_many" "how_many" dMany f1 fd1) (b1 : Binds K fd1 ["group"] []) (g1 : mg "how_many" = some (.ref f1))
    (me : mg "enumerate" = none) : FnOk P w K mg base CX0 (k + 2) f fd ["group", "unknown"] (spLacked K) := by
  have G1 : FnOk P w K mg base CX0 (k + 1) f1 fd1 ["group"] spMany := ok_many F1
  refine F.ok scLacked (fun vs H Q E h => ?_) (fun cdv A outer s H vs Q E hr h => ?_)
  · obtain ⟨m, a, ks, rfl, _⟩ := h
    rfl
  · obtain ⟨m, a, ks, rfl, hS, hlen, q⟩ := h
    refine ⟨_, pss_cons (ps_set (i := 2) scLacked.nd rfl (.inl rfl) pe_int)
      (pss_cons (ps_for PassesOwn.never rfl (pi_enum (by rfl) me (pa_cons (pv 1) pa_nil))
        (pg_tup rfl (pgs_cons (pg_name (i := 3) scLacked.nd rfl (.inl rfl)) (pgs_cons (pg_name (i := 4) scLacked.nd rfl (.inl rfl)) pgs_nil)))
        (pss_cons (ps_set (i := 5) scLacked.nd rfl (.inl rfl) (pe_op on_shl pe_int (pv 3)))
        (pss_one (ps_if (pt_cmpR on_gt (pe_op on_and (pv 0) (pv 5)) pe_int (nomark _))
          (pss_one (ps_aug (i := 2) scLacked.nd rfl (.inl rfl) (pe_call G1 hr (by rfl) g1 F1.kp b1 .nil pass0 (pa_cons (pe_op on_and (pv 0) (pv 4)) pa_nil)) pn_add)) pss_nil))))
      (pss_one (ps_ret (pe_op op_fdivNN (pv 2) pe_int)))), ?_⟩
    refine ⟨_, rfl, a, ks.map nv, rfl, hS, for_enum (xs := ks.map nv) (fun i σ H' => ∃ v3 v4 v5, σ = [some (nv m), some (.ref a), some (nv (Gc.sm i (Gc.seen m ks))), v3, v4, v5] ∧ Same H H')
      ⟨none, none, none, rfl, Same.refl H⟩ (fun i σ H' ⟨_, _, _, _, sm⟩ => sm.seq hS) ?_ ?_⟩
    · rintro i x T σ H' hx ⟨v3, v4, v5, rfl, sm⟩ nT
      obtain ⟨hi, rfl⟩ := nv_at hx
      have sm2 : Same H (upd H' T (.tup [nv i, nv (ks.getD i 0)])) := sm.trans (same_upd nT)
      refine ⟨T, _, rfl, .inl (.inl upd_same), rfl, nv i, _, rfl, nv (ks.getD i 0), [], rfl, rfl, ?_⟩
      refine ⟨_, rfl, 1, i, rfl, rfl, ⟨rfl, by omega⟩, ?_⟩
      have step : Gc.sm (i + 1) (Gc.seen m ks) = Gc.sm i (Gc.seen m ks) + Gc.seen m ks i := rfl
      rw [step]
      generalize Gc.sm i (Gc.seen m ks) = z
      refine ⟨_, rfl, _, rfl, m, 2 ^ i, rfl, rfl, m &&& 2 ^ i, 0, rfl, rfl, _, rfl, ite2 (fun c => ?_) (fun c => ?_)⟩
      · have hb : m.testBit i = true := by
          rw [← Gc.bit_pos]
          exact c
        have e : Gc.seen m ks i = Gc.hm (m &&& ks.getD i 0) := by
          unfold Gc.seen
          rw [if_pos hb]
        rw [e]
        exact ⟨_, rfl, _, rfl, _, rfl, m, ks.getD i 0, rfl, rfl, m &&& ks.getD i 0, rfl, z, _, rfl, rfl, _, _, _, rfl, sm2⟩
      · have hb : m.testBit i = false := by
          rw [← Gc.bit_pos]
          exact Bool.eq_false_iff.mpr c
        have e : Gc.seen m ks i = 0 := by
          unfold Gc.seen
          rw [hb, if_neg Bool.false_ne_true]
        rw [e]
        exact ⟨_, _, _, rfl, sm2⟩
    · rintro σ H' ⟨v3, v4, v5, rfl, sm⟩
      rw [List.length_map]
      exact ⟨_, rfl, Gc.sm ks.length (Gc.seen m ks), 2, rfl, rfl, ⟨by decide, by decide⟩, q _ sm⟩
end
end Gb
set_option Elab.async false
set_option maxRecDepth 100000
set_option maxHeartbeats 4000000
namespace Gb
open PySem PySem.Spec PyProof.Rows L2 Gn Gr
theorem scFewest : FnScope ["n", "k", "pairs", "unknown", "answers", "group"] ["n", "k", "pairs"] (defScope dFewest) := ⟨rfl, rfl, rfl, by decide +kernel, rfl, by decide +kernel, by decide +kernel⟩
section
variable {P : Program} {w : World} {K : PySem.W.Frag} {mg : Str → Option Value} {base : Heap}
/-! ### fewest -/
def spFewest (K : PySem.W.Frag) : Sp := fun vs H Q _ => ∃ (n c : Nat) (a : Addr) (ns : List Nat), vs = [nv n, nv c, .ref a] ∧ SqL K H a (ns.map nv) ∧ ∀ (H' : Hp) (p : Addr), H' p = some (.lst ((Gc.fewest n c ns).map V.int)) → Q (.ref p) H'
theorem ok_fewest {f f1 f2 f3 f4 f5 f6 f7 : Addr} {fd fd1 fd2 fd3 fd4 fd5 fd6 fd7 : FuncData} {k : Nat} {t1 t2 t3 t4 : Tok} (F : Fun K "fewest" "fewest" dFewest f fd)
    (F1 : Fun K "is_as_told" "is_as_told" dTold f1 fd1) (b1 : Binds K fd1 ["n", "pairs"] []) (g1 : mg "is_as_told" = some (.ref f1))
    (F2 : Fun K "in_twos" "in_twos" dTwos f2 fd2) (b2 : Binds K fd2 ["pairs"] []) (g2 : mg "in_twos" = some (.ref f2))
    (F3 : Fun K "known_by_each" "known_by_each" dKnown f3 fd3) (b3 : Binds K fd3 ["n", "pairs"] []) (g3 : mg "known_by_each" = some (.ref f3))
    (F4 : Fun K "unknown_to_each" "unknown_to_each" dUnknown f4 fd4) (b4 : Binds K fd4 ["known"] []) (g4 : mg "unknown_to_each" = some (.ref f4))
    (F5 : Fun K "groups_of" "groups_of" dGroups f5 fd5) (b5 : Binds K fd5 ["k", "n"] []) (g5 : mg "groups_of" = some (.ref f5))
    (F6 : Fun K "lacked" "lacked" dLacked f6 fd6) (b6 : Binds K fd6 ["group", "unknown"] []) (g6 : mg "lacked" = some (.ref f6))
    (F7 : Fun K "how_many" "how_many" dMany f7 fd7) (b7 : Binds K fd7 ["group"] []) (g7 : mg "how_many" = some (.ref f7))
    (ml : mg "list" = none) (mz : mg "zip" = none) (mn : mg "len" = none) (me : mg "enumerate" = none) (mr : mg "range" = none) (mm : mg "min" = none)
    (mN : mg "NOT_AS_TOLD" = some (.int (-22) t3)) (mW : mg "FEWER_GUESTS" = some (.int (-33) t4)) (mG : mg "MOST_GUESTS" = some (.int 8 t1)) (mP : mg "MOST_PAIRS" = some (.int 28 t2)) : FnOk P w K mg base CX0 (k + 3) f fd ["n", "k", "pairs"] (spFewest K) := by
  have G1 : FnOk P w K mg base CX0 (k + 2) f1 fd1 ["n", "pairs"] (spTold K) := ok_told F1 F2 b2 g2 ml mz mn mG mP
  have G3 : FnOk P w K mg base CX0 (k + 2) f3 fd3 ["n", "pairs"] (spKnown K) := ok_known F3 F2 b2 g2 ml mz
  have G4 : FnOk P w K mg base CX0 (k + 1 + 1) f4 fd4 ["known"] (spUnknown K) := ok_unknown F4 me mn
  have G5 : FnOk P w K mg base CX0 (k + 2) f5 fd5 ["k", "n"] spGroups := ok_groups F5 F7 b7 g7 mr
  have G6 : FnOk P w K mg base CX0 (k + 2) f6 fd6 ["group", "unknown"] (spLacked K) := ok_lacked F6 F7 b7 g7 me
  refine F.ok scFewest (fun vs H Q E h => ?_) (fun cdv A outer s H vs Q E hr h => ?_)
  · obtain ⟨n, c, a, ns, rfl, _⟩ := h
    rfl
  · obtain ⟨n, c, a, ns, rfl, hS, q⟩ := h
    refine ⟨_, pss_cons (ps_if (pw_or (pt_not (pt_val (pe_call G1 hr (by rfl) g1 F1.kp b1 .nil pass0 (pa_cons (pv 0) (pa_cons (pv 2) pa_nil)))))
          (pw_or1 (pt_cmpR on_gt (pv 1) (pe_glob (v := nv 8) (by rfl) mG (by exact ⟨t1, rfl⟩)) (nomark _)))).pt
        (pss_one (ps_ret (pe_lst (pa_cons (pe_glob (v := .int (-22)) (by rfl) mN (by exact ⟨t3, rfl⟩)) pa_nil)))) pss_nil)
      (pss_cons (ps_if (pt_cmpR on_gt (pv 1) (pv 0) (nomark _)) (pss_one (ps_ret (pe_lst (pa_cons (pe_glob (v := .int (-33)) (by rfl) mW (by exact ⟨t4, rfl⟩)) pa_nil)))) pss_nil)
      (pss_cons (ps_set (i := 3) scFewest.nd rfl (.inr rfl) (pe_call G4 hr (by rfl) g4 F4.kp b4 .nil pass0 (pa_cons (pe_call G3 hr (by rfl) g3 F3.kp b3 .nil pass0 (pa_cons (pv 0) (pa_cons (pv 2) pa_nil))) pa_nil)))
      (pss_cons (ps_setLc (i := 4) (own := [("group", 5)]) (g := gName 5) rfl scFewest.nd rfl rfl (sw_true rfl rfl rfl (by decide +kernel))
        (pi_list (pe_call G5 hr (by rfl) g5 F5.kp b5 .nil pass0 (pa_cons (pv 1) (pa_cons (pv 0) pa_nil))))
        (blkOk_by (own := [("group", 5)]) (N := ["n", "k", "pairs", "unknown", "answers", "group"]) (sc := defScope dFewest) (by decide +kernel)) (fun _ _ _ _ _ => pg_name (i := 5) scFewest.nd rfl (Or.inl rfl))
        (fun _ _ _ _ _ => pts_nil) (fun _ _ _ _ _ => pe_lst (pa_cons (pe_call G6 hr (by rfl) g6 F6.kp b6 .nil pass0 (pa_cons (pv 5) (pa_cons (pv 3) pa_nil))) (pa_cons (pv 5) pa_nil))))
      (pss_one (ps_ret (pe_callB (cr_min2 rfl hr.units) (by rfl) mm (by decide +kernel) (pa_cons (pv 4) pa_nil))))))), ?_⟩
    refine ⟨_, rfl, _, rfl, n, a, ns, rfl, hS, fun H1 s1 => ⟨_, rfl, ?_⟩⟩
    cases hT : Gc.told n ns with
    | false =>
      refine iteT ⟨by show 1 ≤ sizeLine; decide, fun p np => q _ p ?_⟩
      rw [upd_same, Gc.fewest_bad (fun z => by rw [hT] at z; exact Bool.false_ne_true z.1)]
      rfl
    | true =>
      refine iteF ?_
      refine ⟨_, rfl, c, 8, rfl, rfl, _, rfl, ite2 (fun d => ?_) (fun d => ?_)⟩
      · have d := of_decide_eq_true d
        refine ⟨by show 1 ≤ sizeLine; decide, fun p np => q _ p ?_⟩
        rw [upd_same, Gc.fewest_bad (fun z => by omega)]
        rfl
      have hc8 : c ≤ 8 := Nat.le_of_not_lt fun z => d (decide_eq_true z)
      refine ⟨_, rfl, _, rfl, c, n, rfl, rfl, _, rfl, ite2 (fun d2 => ?_) (fun d2 => ?_)⟩
      · have d2 := of_decide_eq_true d2
        refine ⟨by show 1 ≤ sizeLine; decide, fun p np => q _ p ?_⟩
        rw [upd_same, Gc.fewest_more hT hc8 d2]
        rfl
      have hcn : c ≤ n := Nat.le_of_not_lt fun z => d2 (decide_eq_true z)
      have fine := Gc.fine_of_told hT
      have hn8 := (Gc.n_of_told hT).2
      refine ⟨_, rfl, _, rfl, n, a, ns, rfl, s1.seq hS, hT, fun H2 p s2 hp => ?_⟩
      have lk : (Gc.known n (Kzf1.net ns)).length = n := Gc.known_len _ _
      have hl : (Gc.known n (Kzf1.net ns)).length ≤ 8 := by
        rw [lk]
        exact hn8
      refine ⟨p, _, rfl, .inl (.inl hp), hl, fun i hi => ?_, fun H3 pu s3 hu => ?_⟩
      · rw [lk] at hi ⊢
        exact ⟨(Gc.unknown_step fine hi).1, (Gc.unknown_step fine hi).2.1⟩
      have hlu : (Gc.unknown (Gc.known n (Kzf1.net ns))).length ≤ 8 := by
        rw [Gc.unknown_len]
        exact hl
      have last := @Gc.fewest_at n c
      generalize hU : Gc.unknown (Gc.known n (Kzf1.net ns)) = U at hu hlu
      refine ⟨_, rfl, _, rfl, c, n, rfl, hn8, fun H4 pg s4 ng hg => ⟨pg, rfl, ⟨_, .inl (.inl hg)⟩, fun D nD => ?_⟩⟩
      have glen : (Gc.groupsOf c n).length ≤ 256 := Nat.le_trans (Gc.groupsOf_len c n) (small256 hn8)
      have gne := Gc.groupsOf_ne hcn
      refine lc_list (xs := (Gc.groupsOf c n).map nv) (fun i H' => ∃ ts : List (Addr × (Nat × Nat)), Same H4 H' ∧ H' D = some (.lst (ts.map fun t => V.ref t.1)) ∧ (ts.map fun t => t.2) = ((Gc.groupsOf c n).take i).map (fun g => (Gc.lacked g U, g)) ∧ ∀ t, t ∈ ts → H' t.1 = some (.lst [nv t.2.1, nv t.2.2]))
        ⟨[], same_upd nD, upd_same, rfl, fun t ht => by cases ht⟩ (fun i H' _ ⟨_, sm', _⟩ => .inl (.inl (sm' _ _ hg))) ?_ ?_
      · rintro i x H' hx ⟨ts, sm', hD, e, hts⟩
        obtain ⟨hi, rfl⟩ := nv_at hx
        have ht : (Gc.groupsOf c n)[i]? = some ((Gc.groupsOf c n).getD i 0) := by
          rw [List.getD_eq_getElem?_getD, List.getElem?_eq_getElem hi]
          rfl
        generalize (Gc.groupsOf c n).getD i 0 = g at ht
        have tlen : ts.length ≤ 256 := by
          have z := congrArg List.length e
          rw [List.length_map, List.length_map, List.length_take] at z
          omega
        refine ⟨rfl, _, rfl, _, rfl, g, pu, U, rfl, .inl (.inl (sm' _ _ (s4 _ _ hu))), hlu, fun H5 s5 => ?_⟩
        refine ⟨_, rfl, by show 2 ≤ sizeLine; decide, fun pt nt => ⟨_, (same_upd nt) _ _ (s5 _ _ hD), ?_, ts ++ [(pt, (Gc.lacked g U, g))], fun b o hb => ?_, ?_, ?_, fun t ht' => ?_⟩⟩
        · rw [List.length_map]
          exact small1000 (by omega)
        · rw [upd_ne (ne_of_none hb nD)]
          exact (same_upd nt) _ _ (s5 _ _ (sm' _ _ hb))
        · rw [upd_same, List.map_append]
          rfl
        · rw [List.map_append, e, List.take_add_one, ht, List.map_append]
          rfl
        · rcases List.mem_append.mp ht' with z | z
          · have z1 := hts t z
            have ne : t.1 ≠ D := ne_of z1 hD (by
              intro z2
              cases ts with
              | nil => cases z
              | cons u us =>
                injection z2 with z2
                rw [List.map_cons] at z2
                injection z2 with z3 _
                cases z3)
            rw [upd_ne ne]
            exact (same_upd nt) _ _ (s5 _ _ z1)
          · rw [List.mem_singleton.mp z]
            have ne : pt ≠ D := fun y => by
              rw [y] at nt
              rw [s5 _ _ hD] at nt
              cases nt
            rw [upd_ne ne, upd_same]
      · rintro H' ⟨ts, sm', hD, e, hts⟩
        rw [List.length_map, List.take_length] at e
        have pair : ∀ t, t ∈ ts → t.2.2 ∈ Gc.groupsOf c n ∧ t.2.1 = Gc.lacked t.2.2 U := fun t ht => by
          have z : t.2 ∈ ts.map fun t => t.2 := List.mem_map.mpr ⟨t, ht, rfl⟩
          rw [e] at z
          obtain ⟨g, g1, g2⟩ := List.mem_map.mp z
          rw [← g2]
          exact ⟨g1, rfl⟩
        have back : ∀ g, g ∈ Gc.groupsOf c n → ∃ t, t ∈ ts ∧ t.2 = (Gc.lacked g U, g) := fun g hg' => by
          have z : (Gc.lacked g U, g) ∈ (Gc.groupsOf c n).map fun g => (Gc.lacked g U, g) := List.mem_map.mpr ⟨g, hg', rfl⟩
          rw [← e] at z
          obtain ⟨t, t1, t2⟩ := List.mem_map.mp z
          exact ⟨t, t1, t2⟩
        have pos : 0 < ts.length := by
          have z := congrArg List.length e
          rw [List.length_map, List.length_map] at z
          rw [z]
          exact List.length_pos_iff.mpr gne
        refine ⟨_, rfl, D, ts, rfl, .inl (.inl hD), pos, fun t ht => .inl (.inl (hts t ht)), fun t ht best => q H' t.1 ?_⟩
        obtain ⟨p1, p2⟩ := pair t ht
        have z := last (m := t.2.2) hT hcn p1 fun x hx => by
          obtain ⟨u, u1, u2⟩ := back x hx
          have y := best u u1
          rw [u2, p2] at y
          rw [hU]
          exact y
        rw [hts t ht, z, hU, ← p2]
        rfl
end
/-! ### what the top has written -/
theorem all_mk {P : Program} {w : World} {K : PySem.W.Frag} {h : Heap} {mg : Str → Option Value} {fa f0 f1 f2 f3 f4 f5 f6 f7 : Addr} (X : K.In h) (G : h.Ns mainGlobals mg) (hfa : mg "fewest" = some (.ref fa))
    {od0 an0 od1 an1 od2 an2 od3 an3 od4 an4 od5 an5 od6 an6 od7 an7 : Option Addr} {sl0 sl1 sl2 sl3 sl4 sl5 sl6 sl7 : Array (Option Value)}
    {oc0 kV0 dc0 pm0 cd0 ct0 oc1 kV1 dc1 pm1 cd1 ct1 oc2 kV2 dc2 pm2 cd2 ct2 oc3 kV3 dc3 pm3 cd3 ct3 oc4 kV4 dc4 pm4 cd4 ct4 oc5 kV5 dc5 pm5 cd5 ct5 oc6 kV6 dc6 pm6 cd6 ct6 oc7 kV7 dc7 pm7 cd7 ct7 : Value} {t3 t4 t1 t2 : Tok}
    (a0 : PySem.W.nsIn K mainGlobals "fewest" = some (some (.ref f0))) (l0 : K.lookup f0 = some ⟨oc0, od0, .func (PySem.W.fnOf "fewest" "fewest" (defArgs dFewest) (defBody dFewest) (defScope dFewest) .none kV0 dc0 pm0 an0 cd0 ct0), sl0⟩) (c0 : PySem.W.codeIn K cd0 "fewest" = true) (k0 : PySem.W.keepIn K (.ref f0) = true)
    (a1 : PySem.W.nsIn K mainGlobals "is_as_told" = some (some (.ref f1))) (l1 : K.lookup f1 = some ⟨oc1, od1, .func (PySem.W.fnOf "is_as_told" "is_as_told" (defArgs dTold) (defBody dTold) (defScope dTold) .none kV1 dc1 pm1 an1 cd1 ct1), sl1⟩) (c1 : PySem.W.codeIn K cd1 "is_as_told" = true) (k1 : PySem.W.keepIn K (.ref f1) = true)
    (a2 : PySem.W.nsIn K mainGlobals "in_twos" = some (some (.ref f2))) (l2 : K.lookup f2 = some ⟨oc2, od2, .func (PySem.W.fnOf "in_twos" "in_twos" (defArgs dTwos) (defBody dTwos) (defScope dTwos) .none kV2 dc2 pm2 an2 cd2 ct2), sl2⟩) (c2 : PySem.W.codeIn K cd2 "in_twos" = true) (k2 : PySem.W.keepIn K (.ref f2) = true)
    (a3 : PySem.W.nsIn K mainGlobals "known_by_each" = some (some (.ref f3))) (l3 : K.lookup f3 = some ⟨oc3, od3, .func (PySem.W.fnOf "known_by_each" "known_by_each" (defArgs dKnown) (defBody dKnown) (defScope dKnown) .none kV3 dc3 pm3 an3 cd3 ct3), sl3⟩) (c3 : PySem.W.codeIn K cd3 "known_by_each" = true) (k3 : PySem.W.keepIn K (.ref f3) = true)
    (a4 : PySem.W.nsIn K mainGlobals "unknown_to_each" = some (some (.ref f4))) (l4 : K.lookup f4 = some ⟨oc4, od4, .func (PySem.W.fnOf "unknown_to_each" "unknown_to_each" (defArgs dUnknown) (defBody dUnknown) (defScope dUnknown) .none kV4 dc4 pm4 an4 cd4 ct4), sl4⟩) (c4 : PySem.W.codeIn K cd4 "unknown_to_each" = true) (k4 : PySem.W.keepIn K (.ref f4) = true)
    (a5 : PySem.W.nsIn K mainGlobals "groups_of" = some (some (.ref f5))) (l5 : K.lookup f5 = some ⟨oc5, od5, .func (PySem.W.fnOf "groups_of" "groups_of" (defArgs dGroups) (defBody dGroups) (defScope dGroups) .none kV5 dc5 pm5 an5 cd5 ct5), sl5⟩) (c5 : PySem.W.codeIn K cd5 "groups_of" = true) (k5 : PySem.W.keepIn K (.ref f5) = true)
    (a6 : PySem.W.nsIn K mainGlobals "lacked" = some (some (.ref f6))) (l6 : K.lookup f6 = some ⟨oc6, od6, .func (PySem.W.fnOf "lacked" "lacked" (defArgs dLacked) (defBody dLacked) (defScope dLacked) .none kV6 dc6 pm6 an6 cd6 ct6), sl6⟩) (c6 : PySem.W.codeIn K cd6 "lacked" = true) (k6 : PySem.W.keepIn K (.ref f6) = true)
    (a7 : PySem.W.nsIn K mainGlobals "how_many" = some (some (.ref f7))) (l7 : K.lookup f7 = some ⟨oc7, od7, .func (PySem.W.fnOf "how_many" "how_many" (defArgs dMany) (defBody dMany) (defScope dMany) .none kV7 dc7 pm7 an7 cd7 ct7), sl7⟩) (c7 : PySem.W.codeIn K cd7 "how_many" = true) (k7 : PySem.W.keepIn K (.ref f7) = true)
    (z0 : PySem.W.nsIn K mainGlobals "list" = some none) (z1 : PySem.W.nsIn K mainGlobals "zip" = some none) (z2 : PySem.W.nsIn K mainGlobals "len" = some none) (z3 : PySem.W.nsIn K mainGlobals "enumerate" = some none) (z4 : PySem.W.nsIn K mainGlobals "range" = some none) (z5 : PySem.W.nsIn K mainGlobals "min" = some none)
    (n0 : PySem.W.nsIn K mainGlobals "NOT_AS_TOLD" = some (some (.int (-22) t3))) (n1 : PySem.W.nsIn K mainGlobals "FEWER_GUESTS" = some (some (.int (-33) t4))) (n2 : PySem.W.nsIn K mainGlobals "MOST_GUESTS" = some (some (.int 8 t1))) (n3 : PySem.W.nsIn K mainGlobals "MOST_PAIRS" = some (some (.int 28 t2))) :
    ∃ fd : FuncData, (∀ (s : Shared) (us : List Value), us.length = (["n", "k", "pairs"] : List Str).length → BindsTo s fd ⟨us, []⟩ ((["n", "k", "pairs"] : List Str).zip us)) ∧ ∀ base : Heap, K.In base → base.Ns mainGlobals mg → FnOk P w K mg base CX0 3 fa fd ["n", "k", "pairs"] (spFewest K) := by
  have e := hfa.symm.trans (PySem.W.mg_of X G a0)
  cases e
  have F0 := fun_mk (st := dFewest) l0 c0 k0
  have F1 := fun_mk (st := dTold) l1 c1 k1
  have F2 := fun_mk (st := dTwos) l2 c2 k2
  have F3 := fun_mk (st := dKnown) l3 c3 k3
  have F4 := fun_mk (st := dUnknown) l4 c4 k4
  have F5 := fun_mk (st := dGroups) l5 c5 k5
  have F6 := fun_mk (st := dLacked) l6 c6 k6
  have F7 := fun_mk (st := dMany) l7 c7 k7
  have b1 := F1.binds (ps := ["n", "pairs"]) fun _ _ _ _ _ _ us hl => match us, hl with | [_, _], _ => rfl
  have b2 := F2.binds (ps := ["pairs"]) fun _ _ _ _ _ _ us hl => match us, hl with | [_], _ => rfl
  have b3 := F3.binds (ps := ["n", "pairs"]) fun _ _ _ _ _ _ us hl => match us, hl with | [_, _], _ => rfl
  have b4 := F4.binds (ps := ["known"]) fun _ _ _ _ _ _ us hl => match us, hl with | [_], _ => rfl
  have b5 := F5.binds (ps := ["k", "n"]) fun _ _ _ _ _ _ us hl => match us, hl with | [_, _], _ => rfl
  have b6 := F6.binds (ps := ["group", "unknown"]) fun _ _ _ _ _ _ us hl => match us, hl with | [_, _], _ => rfl
  have b7 := F7.binds (ps := ["group"]) fun _ _ _ _ _ _ us hl => match us, hl with | [_], _ => rfl
  exact ⟨PySem.W.fnOf "fewest" "fewest" (defArgs dFewest) (defBody dFewest) (defScope dFewest) .none kV0 dc0 pm0 an0 cd0 ct0, fun s us hu => match us, hu with | [_, _, _], _ => .of_eq rfl, fun base _ _ =>
    ok_fewest F0 F1 b1 (PySem.W.mg_of X G a1) F2 b2 (PySem.W.mg_of X G a2) F3 b3 (PySem.W.mg_of X G a3) F4 b4 (PySem.W.mg_of X G a4) F5 b5 (PySem.W.mg_of X G a5) F6 b6 (PySem.W.mg_of X G a6) F7 b7 (PySem.W.mg_of X G a7)
      (PySem.W.mg_none_of X G z0) (PySem.W.mg_none_of X G z1) (PySem.W.mg_none_of X G z2) (PySem.W.mg_none_of X G z3) (PySem.W.mg_none_of X G z4) (PySem.W.mg_none_of X G z5) (PySem.W.mg_of X G n0) (PySem.W.mg_of X G n1) (PySem.W.mg_of X G n2) (PySem.W.mg_of X G n3)⟩
end Gb
set_option Elab.async false
namespace Ge
open L2 Gn
theorem nats_of : ∀ l : List Int, (∀ x ∈ l, 0 ≤ x) → l.map V.int = (l.map Int.toNat).map nv
  | [], _ => rfl
  | x :: l, h => by
    rw [List.map_cons, List.map_cons, List.map_cons, nats_of l fun y hy => h y (List.mem_cons_of_mem _ hy)]
    have e : x = ((x.toNat : Nat) : Int) := (Int.toNat_of_nonneg (h x List.mem_cons_self)).symm
    rw [show V.int x = nv x.toNat from congrArg V.int e]
theorem fin {K : PySem.W.Frag} {H : Hp} {E : XK} {a : PySem.Addr} (n0 n1 : Int) (l : List Int) (h0 : 0 ≤ n0) (h1 : 0 ≤ n1) (hl : ∀ x ∈ l, 0 ≤ x) (hs : SqL K H a (l.map V.int)) :
    Gb.spFewest K [.int n0, .int n1, .ref a] H (fun v H' => Dw K H' v (.list ((PyKzf3.fewest n0 n1 l).map PySem.W.WData.int))) E := by
  obtain ⟨m0, rfl⟩ := Int.eq_ofNat_of_zero_le h0
  obtain ⟨m1, rfl⟩ := Int.eq_ofNat_of_zero_le h1
  rw [nats_of _ hl] at hs
  refine ⟨m0, m1, a, l.map Int.toNat, rfl, hs, fun H' p hp => ?_⟩
  rw [← Gc.fewest_is] at hp
  exact .lst (SqL.of hp) (dw_ints _)
end Ge
open PySem PySem.W PyProof.Rows
set_option maxRecDepth 100000 in
set_option maxHeartbeats 8000000 in
theorem PySem.Challenge.cw_guestcircles_s04_fewest_holds : PySem.Challenge.rw_guestcircles_s04_fewest.Holds := by
  w_on; k_headS; (case hw => exact ⟨[.int 0, .int 0, .list []], by decide +kernel, by decide +kernel⟩)
  k_fillS
  refine L2.walk_specK (r := PySem.Challenge.rw_guestcircles_s04_fewest) (k := 3) (CX := L2.CX0) (ps := ["n", "k", "pairs"]) (sp := Gb.spFewest) (by decide +kernel) rfl rfl ⟨rfl, by decide, by decide⟩ (fun w h Y => PySem.W.kIn_of Y) ?F ?S (fun _ _ _ _ z => z)
  case F =>
    intro w mg fa h Y KX G hmg
    refine' Gb.all_mk KX G hmg ?a0 ?l0 ?c0 ?k0 ?a1 ?l1 ?c1 ?k1 ?a2 ?l2 ?c2 ?k2 ?a3 ?l3 ?c3 ?k3 ?a4 ?l4 ?c4 ?k4 ?a5 ?l5 ?c5 ?k5 ?a6 ?l6 ?c6 ?k6 ?a7 ?l7 ?c7 ?k7 ?z0 ?z1 ?z2 ?z3 ?z4 ?z5 ?n0 ?n1 ?n2 ?n3
    (case a0 => k_is); (case l0 => k_is); (case c0 => k_is); (case k0 => k_is)
    (case a1 => k_is); (case l1 => k_is); (case c1 => k_is); (case k1 => k_is)
    (case a2 => k_is); (case l2 => k_is); (case c2 => k_is); (case k2 => k_is)
    (case a3 => k_is); (case l3 => k_is); (case c3 => k_is); (case k3 => k_is)
    (case a4 => k_is); (case l4 => k_is); (case c4 => k_is); (case k4 => k_is)
    (case a5 => k_is); (case l5 => k_is); (case c5 => k_is); (case k5 => k_is)
    (case a6 => k_is); (case l6 => k_is); (case c6 => k_is); (case k6 => k_is)
    (case a7 => k_is); (case l7 => k_is); (case c7 => k_is); (case k7 => k_is)
    (case z0 => k_is); (case z1 => k_is); (case z2 => k_is); (case z3 => k_is); (case z4 => k_is); (case z5 => k_is)
    (case n0 => k_is); (case n1 => k_is); (case n2 => k_is); (case n3 => k_is)
  case S =>
    intro K H xs a hO hwi hask hx
    cases hx with
    | cons h1 hx =>
      cases hx with
      | cons h2 hx =>
        cases hx with
        | cons h3 hx =>
          cases hx
          cases h1
          cases h2
          cases h3 with
          | lst hs ha =>
            have e := L2.ints_dw a.2.2.1 _ ha
            subst e
            have q : (Codec.inInt 0 4294967295 a.1 && (Codec.inInt 0 4294967295 a.2.1 && ((Codec.inLen 0 60 a.2.2.1 && a.2.2.1.all (Codec.inInt 0 255)) && true))) = true := hwi
            rw [Bool.and_eq_true, Bool.and_eq_true, Bool.and_eq_true, Bool.and_eq_true] at q
            have q0 := (Codec.inInt_iff.mp q.1).1
            have q1 := (Codec.inInt_iff.mp q.2.1).1
            have qL : ∀ x ∈ a.2.2.1, 0 ≤ x := fun x hx => (Codec.inInt_iff.mp (List.all_eq_true.mp q.2.2.1.2 x hx)).1
            exact Ge.fin a.1 a.2.1 a.2.2.1 q0 q1 qL hs
#print axioms PySem.Challenge.cw_guestcircles_s04_fewest_holds
