import PyProof.Rows.All
import Wide.All
import OpenK.AllK
import Wide.FinOn
import Open.SpecLaws
import KE.OsHead
import KE.OsGo
import HandS.ForSpec
import HandS.ForMost
import HandS.Walk
import HandS.Zip
import HandS.SortKw
import HandS.Conv
import KE.KDictList
import KE.DataMinMax
import PySem.Challenge.RW_leanhouse_s01_answers
set_option Elab.async false
set_option linter.all false
set_option maxRecDepth 100000
set_option maxHeartbeats 4000000

/-! ## HM1 -/
namespace HM
open Mu56

/-- pieces by rising numbers, each on earlier ones, each told once -/
structure Wf (h : House) : Prop where
  rise : (ids h).Pairwise (· < ·)
  rest : ∀ x ∈ h, ∀ i ∈ x.rests, i ∈ ids h ∧ i < x.id
  once : ∀ x ∈ h, x.rests.Nodup
structure SWf (s : State) : Prop where
  wf : Wf s.house
  low : ∀ x ∈ s.house, x.id < s.next
  few : s.house.length ≤ 9
  one : ∀ x ∈ s.house, 1 ≤ x.cards ∧ x.cards ≤ 2

theorem nodup_of_rise : ∀ {l : List Nat}, l.Pairwise (· < ·) → l.Nodup := fun h => h.imp (fun h => Nat.ne_of_lt h)
theorem Wf.nd {h : House} (w : Wf h) : (ids h).Nodup := nodup_of_rise w.rise
theorem ids_append (a b : House) : ids (a ++ b) = ids a ++ ids b := List.map_append
theorem ids_cons (x : Piece) (b : House) : ids (x :: b) = x.id :: ids b := rfl
theorem mem_ids {h : House} {i : Nat} : i ∈ ids h ↔ ∃ x ∈ h, x.id = i := List.mem_map

/-! ### what falls, as the program walks it -/
def stepF (m : List Nat) (x : Piece) : List Nat := if x.rests.any (fun i => m.contains i) = true then m ++ [x.id] else m
def fallP (h : House) (i : Nat) : List Nat := h.foldl stepF [i]
def stepS (l : List Nat) (m : List Nat) (x : Piece) : List Nat := if (l.contains x.id || x.rests.any (fun (i : Nat) => m.contains i)) = true then m ++ [x.id] else m
theorem falls_eq (h : House) (l : List Nat) : falls h l = h.foldl (stepS l) [] := by
  unfold falls
  congr 1
  funext m x
  unfold stepS
  rw [Bool.decide_eq_true]

theorem any_mem {l m : List Nat} : l.any (fun i => m.contains i) = true ↔ ∃ i ∈ l, i ∈ m := by
  rw [List.any_eq_true]
  constructor
  · rintro ⟨i, a, b⟩
    exact ⟨i, a, List.contains_iff_mem.mp b⟩
  · rintro ⟨i, a, b⟩
    exact ⟨i, a, List.contains_iff_mem.mpr b⟩

theorem foldF_skip : ∀ (a : House) (m : List Nat), (∀ y ∈ a, ∀ i ∈ y.rests, i ∉ m) → a.foldl stepF m = m
  | [], _, _ => rfl
  | y :: a, m, h => by
    have e : stepF m y = m := by
      unfold stepF
      rw [if_neg]
      intro q
      obtain ⟨i, hi, hm⟩ := any_mem.mp q
      exact h y (List.mem_cons_self ..) i hi hm
    rw [List.foldl_cons, e]
    exact foldF_skip a m fun z hz => h z (List.mem_cons_of_mem _ hz)
theorem foldS_skip (k : Nat) : ∀ (a : House), (∀ y ∈ a, y.id ≠ k) → a.foldl (stepS [k]) [] = []
  | [], _ => rfl
  | y :: a, h => by
    have e : stepS [k] [] y = [] := by
      unfold stepS
      rw [if_neg]
      intro q
      rw [Bool.or_eq_true] at q
      rcases q with q | q
      · exact h y (List.mem_cons_self ..) (by simpa using List.contains_iff_mem.mp q)
      · obtain ⟨i, _, hm⟩ := any_mem.mp q
        cases hm
    rw [List.foldl_cons, e]
    exact foldS_skip k a fun z hz => h z (List.mem_cons_of_mem _ hz)
theorem foldS_F (k : Nat) : ∀ (b : House) (m : List Nat), (∀ y ∈ b, y.id ≠ k) → b.foldl (stepS [k]) m = b.foldl stepF m
  | [], _, _ => rfl
  | y :: b, m, h => by
    have e : stepS [k] m y = stepF m y := by
      unfold stepS stepF
      have c : ([k] : List Nat).contains y.id = false := by
        cases q : ([k] : List Nat).contains y.id with
        | false => rfl
        | true => exact absurd (by simpa using List.contains_iff_mem.mp q) (h y (List.mem_cons_self ..))
      rw [c, Bool.false_or]
    rw [List.foldl_cons, List.foldl_cons, e]
    exact foldS_F k b _ fun z hz => h z (List.mem_cons_of_mem _ hz)
theorem fallP_eq {h : House} (w : Wf h) {k : Nat} (hk : k ∈ ids h) : fallP h k = falls h [k] := by
  obtain ⟨x, hx, rfl⟩ := mem_ids.mp hk
  obtain ⟨a, b, rfl⟩ := List.append_of_mem hx
  have nd := w.rise
  rw [ids_append, ids_cons, List.pairwise_append] at nd
  obtain ⟨_, nb, hab⟩ := nd
  obtain ⟨nb1, _⟩ := List.pairwise_cons.mp nb
  have ha : ∀ y ∈ a, y.id < x.id := fun y hy => hab y.id (List.mem_map.mpr ⟨y, hy, rfl⟩) x.id (List.mem_cons_self ..)
  have hb : ∀ y ∈ b, x.id < y.id := fun y hy => nb1 y.id (List.mem_map.mpr ⟨y, hy, rfl⟩)
  unfold fallP
  rw [falls_eq, List.foldl_append, List.foldl_append, List.foldl_cons, List.foldl_cons, foldS_skip x.id a fun y hy e => by have := ha y hy; omega]
  rw [foldF_skip a [x.id] fun y hy i hi m => by
    have h1 := (w.rest y (List.mem_append_left _ hy) i hi).2
    have h2 := ha y hy
    have h3 : i = x.id := by simpa using m
    omega]
  have e1 : stepF [x.id] x = [x.id] := foldF_skip [x] [x.id] fun y hy i hi m => by
    have e : y = x := by simpa using hy
    subst e
    have h1 := (w.rest y hx i hi).2
    have h3 : i = y.id := by simpa using m
    omega
  have e2 : stepS [x.id] [] x = [x.id] := by
    unfold stepS
    rw [if_pos]
    · rfl
    · simp
  rw [e1, e2, foldS_F x.id b _ fun y hy e => by have := hb y hy; omega]

/-! ### it is some of the numbers, in their order -/
theorem foldS_filter (l : List Nat) : ∀ (h : House) (m : List Nat), (ids h).Nodup → (∀ i ∈ m, i ∉ ids h) → h.foldl (stepS l) m = m ++ (ids h).filter (fun i => (h.foldl (stepS l) m).contains i)
  | [], m, _, _ => by simp [ids]
  | x :: h, m, nd, hm => by
    rw [ids_cons] at nd hm
    obtain ⟨n1, n2⟩ := List.nodup_cons.mp nd
    have key : ∀ m', stepS l m x = m' → (∀ i ∈ m', i ∉ ids h) → (h.foldl (stepS l) m').contains x.id = m'.contains x.id := by
      intro m' _ hm'
      have ih := foldS_filter l h m' n2 hm'
      rw [Bool.eq_iff_iff, List.contains_iff_mem, List.contains_iff_mem]
      constructor
      · intro q
        rw [ih] at q
        rcases List.mem_append.mp q with q | q
        · exact q
        · exact absurd (List.mem_filter.mp q).1 n1
      · intro q
        rw [ih]
        exact List.mem_append_left _ q
    rw [List.foldl_cons, ids_cons, List.filter_cons]
    by_cases c : (l.contains x.id || x.rests.any (fun (i : Nat) => m.contains i)) = true
    · have e : stepS l m x = m ++ [x.id] := if_pos c
      have hm' : ∀ i ∈ m ++ [x.id], i ∉ ids h := by
        intro i hi
        rcases List.mem_append.mp hi with q | q
        · exact fun z => hm i q (List.mem_cons_of_mem _ z)
        · have : i = x.id := by simpa using q
          subst this
          exact n1
      rw [e, key _ e hm', if_pos (by simp)]
      have ih := foldS_filter l h (m ++ [x.id]) n2 hm'
      rw [List.append_assoc] at ih
      exact ih
    · have e : stepS l m x = m := if_neg c
      have hm' : ∀ i ∈ m, i ∉ ids h := fun i hi z => hm i hi (List.mem_cons_of_mem _ z)
      have nx : m.contains x.id = false := by
        cases q : m.contains x.id with
        | false => rfl
        | true => exact absurd (List.mem_cons_self ..) (hm _ (List.contains_iff_mem.mp q))
      rw [e, key _ e hm', nx, if_neg (by simp)]
      exact foldS_filter l h m n2 hm'
theorem falls_filter {h : House} (nd : (ids h).Nodup) (l : List Nat) : falls h l = (ids h).filter (fun i => (falls h l).contains i) := by
  have e := foldS_filter l h [] nd (fun i hi => by cases hi)
  rw [List.nil_append, ← falls_eq] at e
  exact e
theorem falls_sub {h : House} (nd : (ids h).Nodup) {l : List Nat} {i : Nat} (m : i ∈ falls h l) : i ∈ ids h := by
  rw [falls_filter nd] at m
  exact (List.mem_filter.mp m).1
theorem foldS_grow (l : List Nat) : ∀ (h : House) (m : List Nat) (i : Nat), i ∈ m → i ∈ h.foldl (stepS l) m
  | [], _, _, q => q
  | x :: h, m, i, q => by
    rw [List.foldl_cons]
    refine foldS_grow l h _ i ?_
    unfold stepS
    split
    · exact List.mem_append_left _ q
    · exact q
/-- what rests on one that falls, falls -/
theorem falls_up {h : House} (w : Wf h) {l : List Nat} {x : Piece} (hx : x ∈ h) {i : Nat} (hi : i ∈ x.rests) (m : i ∈ falls h l) : x.id ∈ falls h l := by
  obtain ⟨a, b, rfl⟩ := List.append_of_mem hx
  have nd := w.rise
  rw [ids_append, ids_cons, List.pairwise_append] at nd
  obtain ⟨na, nb, hab⟩ := nd
  obtain ⟨nb1, nb2⟩ := List.pairwise_cons.mp nb
  have lt := (w.rest x hx i hi).2
  rw [falls_eq, List.foldl_append, List.foldl_cons] at m ⊢
  -- i stands in what the first part gave
  have ma : i ∈ a.foldl (stepS l) [] := by
    have mem_b : ∀ (b : House) (m0 : List Nat), (∀ y ∈ b, i < y.id) → i ∈ b.foldl (stepS l) m0 → i ∈ m0 := by
      intro b
      induction b with
      | nil => exact fun _ _ q => q
      | cons y b ih =>
        intro m0 hb q
        rw [List.foldl_cons] at q
        have q := ih _ (fun z hz => hb z (List.mem_cons_of_mem _ hz)) q
        unfold stepS at q
        split at q
        · rcases List.mem_append.mp q with q | q
          · exact q
          · have := hb y (List.mem_cons_self ..)
            have e : i = y.id := by simpa using q
            omega
        · exact q
    have q := mem_b b _ (fun y hy => by
      have := nb1 y.id (List.mem_map.mpr ⟨y, hy, rfl⟩)
      omega) m
    unfold stepS at q
    split at q
    · rcases List.mem_append.mp q with q | q
      · exact q
      · have e : i = x.id := by simpa using q
        omega
    · exact q
  refine foldS_grow l b _ _ ?_
  unfold stepS
  rw [if_pos]
  · exact List.mem_append_right _ (List.mem_cons_self ..)
  · rw [Bool.or_eq_true]
    exact .inr (any_mem.mpr ⟨i, hi, ma⟩)
theorem taken_wf {h : House} (w : Wf h) (k : Nat) : Wf (taken h k) := by
  have sub : ∀ x, x ∈ taken h k → x ∈ h ∧ x.id ∉ falls h [k] := by
    intro x hx
    obtain ⟨h1, h2⟩ := List.mem_filter.mp hx
    refine ⟨h1, fun q => ?_⟩
    have : (falls h [k]).contains x.id = true := List.contains_iff_mem.mpr q
    rw [this] at h2
    cases h2
  refine ⟨?_, fun x hx i hi => ?_, fun x hx => w.once x (sub x hx).1⟩
  · exact List.Pairwise.sublist (List.Sublist.map _ (List.filter_sublist ..)) w.rise
  · obtain ⟨h1, h2⟩ := sub x hx
    obtain ⟨r1, r2⟩ := w.rest x h1 i hi
    obtain ⟨y, hy, rfl⟩ := mem_ids.mp r1
    refine ⟨mem_ids.mpr ⟨y, List.mem_filter.mpr ⟨hy, ?_⟩, rfl⟩, r2⟩
    cases q : (falls h [k]).contains y.id with
    | false => rfl
    | true => exact absurd (falls_up w h1 hi (List.contains_iff_mem.mp q)) h2
theorem taken_swf {s : State} (w : SWf s) (k : Nat) : SWf { s with house := taken s.house k } := by
  have sub : ∀ x, x ∈ taken s.house k → x ∈ s.house := fun x hx => (List.mem_filter.mp hx).1
  exact ⟨taken_wf w.wf k, fun x hx => w.low x (sub x hx), Nat.le_trans (List.length_filter_le ..) w.few, fun x hx => w.one x (sub x hx)⟩

/-! ### the cards of what falls -/
def look (h : House) (i : Nat) : Option Piece := h.find? fun x => x.id == i
theorem look_mem {h : House} (nd : (ids h).Nodup) {x : Piece} (hx : x ∈ h) : look h x.id = some x := by
  obtain ⟨a, b, rfl⟩ := List.append_of_mem hx
  rw [ids_append, ids_cons] at nd
  have na : x.id ∉ ids a := fun q => (List.nodup_append.mp nd).2.2 _ q _ (List.mem_cons_self ..) rfl
  unfold look
  rw [List.find?_append, List.find?_eq_none.mpr]
  · simp
  · intro y hy q
    exact na (List.mem_map.mpr ⟨y, hy, by simpa using q⟩)
theorem look_some {h : House} {i : Nat} {x : Piece} (q : look h i = some x) : x ∈ h ∧ x.id = i := by
  refine ⟨List.mem_of_find?_eq_some q, ?_⟩
  have := List.find?_some q
  simpa using this
theorem total_eq (l : List Nat) : total l = l.sum := by
  unfold total
  rw [List.sum_eq_foldl]
def cardsP (h : House) (l : List Nat) : Nat := (l.map fun i => ((look h i).map (·.cards)).getD 0).sum
theorem cards_eq {h : House} (nd : (ids h).Nodup) (l : List Nat) (p : Nat → Bool) (e : l = (ids h).filter p) (hp : ∀ i, p i = l.contains i) : cardsOf h l = cardsP h l := by
  unfold cardsOf cardsP
  rw [total_eq]
  congr 1
  have q : (h.filter fun (x : Piece) => l.contains x.id) = h.filter fun x => p x.id := by
    congr 1
    funext x
    exact (hp x.id).symm
  rw [q]
  conv => rhs; rw [e]
  unfold ids
  rw [List.filter_map, List.map_map]
  refine List.map_congr_left fun x hx => ?_
  have hx' : x ∈ h := (List.mem_filter.mp hx).1
  show x.cards = _
  rw [Function.comp_apply, look_mem nd hx']
  rfl
theorem cards_falls {h : House} (nd : (ids h).Nodup) (l : List Nat) : cardsOf h (falls h l) = cardsP h (falls h l) :=
  cards_eq nd _ _ (falls_filter nd l) fun _ => rfl
end HM

/-! ## HM2 -/
namespace HM
open Mu56

/-! ### put -/
theorem put_swf {s : State} (w : SWf s) {c : Nat} {l : List Nat} (hc : 1 ≤ c ∧ c ≤ 2) (nd : l.Nodup) (hl : ∀ i ∈ l, i ∈ ids s.house) (few : s.house.length < 9) : SWf ⟨s.house ++ [⟨s.next, c, l⟩], s.next + 1⟩ := by
  have low : ∀ i ∈ ids s.house, i < s.next := fun i hi => by
    obtain ⟨x, hx, rfl⟩ := mem_ids.mp hi
    exact w.low x hx
  refine ⟨⟨?_, ?_, ?_⟩, ?_, ?_, ?_⟩
  · show (ids (s.house ++ [_])).Pairwise _
    rw [ids_append, List.pairwise_append]
    refine ⟨w.wf.rise, List.pairwise_singleton .., fun a ha b hb => ?_⟩
    have : b = s.next := by simpa [ids] using hb
    rw [this]
    exact low a ha
  · intro x hx i hi
    show i ∈ ids (s.house ++ [_]) ∧ _
    rw [ids_append]
    rcases List.mem_append.mp hx with q | q
    · obtain ⟨h1, h2⟩ := w.wf.rest x q i hi
      exact ⟨List.mem_append_left _ h1, h2⟩
    · have : x = ⟨s.next, c, l⟩ := by simpa using q
      subst this
      exact ⟨List.mem_append_left _ (hl i hi), low i (hl i hi)⟩
  · intro x hx
    rcases List.mem_append.mp hx with q | q
    · exact w.wf.once x q
    · have : x = ⟨s.next, c, l⟩ := by simpa using q
      subst this
      exact nd
  · intro x hx
    show x.id < s.next + 1
    rcases List.mem_append.mp hx with q | q
    · exact Nat.lt_succ_of_lt (w.low x q)
    · have : x = ⟨s.next, c, l⟩ := by simpa using q
      subst this
      exact Nat.lt_succ_self _
  · show (s.house ++ [_]).length ≤ 9
    rw [List.length_append]
    exact few
  · intro x hx
    rcases List.mem_append.mp hx with q | q
    · exact w.one x q
    · have : x = ⟨s.next, c, l⟩ := by simpa using q
      subst this
      exact hc
theorem has_iff {s : State} {i : Nat} : has s i = true ↔ i ∈ ids s.house := List.contains_iff_mem

/-! ### a piece told twice -/
theorem eraseDups_le : ∀ (n : Nat) (l : List Nat), l.length ≤ n → l.eraseDups.length ≤ l.length ∧ (l.eraseDups.length = l.length → l.Nodup)
  | _, [], _ => by simp
  | n + 1, a :: l, h => by
    rw [List.eraseDups_cons, List.length_cons, List.length_cons]
    have hf := List.length_filter_le (fun b => !b == a) l
    have hn : (l.filter fun b => !b == a).length ≤ n := Nat.le_trans hf (Nat.le_of_succ_le_succ h)
    obtain ⟨i1, i2⟩ := eraseDups_le n _ hn
    refine ⟨by omega, fun e => ?_⟩
    have e1 : (l.filter fun b => !b == a).length = l.length := by omega
    have e2 : (l.filter fun b => !b == a) = l := (List.filter_sublist ..).eq_of_length e1
    rw [e2] at i2
    refine List.nodup_cons.mpr ⟨fun m => ?_, i2 (by rw [e2] at e; omega)⟩
    rw [← e2] at m
    have := (List.mem_filter.mp m).2
    simp at this
theorem eraseDups_nodup {l : List Nat} (h : l.Nodup) : l.eraseDups = l := by
  induction l with
  | nil => rfl
  | cons a l ih =>
    obtain ⟨h1, h2⟩ := List.nodup_cons.mp h
    rw [List.eraseDups_cons, List.filter_eq_self.mpr, ih h2]
    intro b hb
    cases q : b == a with
    | false => rfl
    | true => exact absurd (eq_of_beq q ▸ hb) h1
theorem dups_iff {l : List Nat} : l.eraseDups.length ≠ l.length ↔ ¬ l.Nodup := by
  constructor
  · intro h nd
    exact h (by rw [eraseDups_nodup nd])
  · intro h e
    exact h ((eraseDups_le l.length l (Nat.le_refl _)).2 e)

/-! ### free -/
theorem free_eq (h : House) : free h = (ids h).filter fun i => !((h.flatMap (·.rests)).contains i) := by
  unfold free
  congr 1
  funext i
  congr 1
  rw [Bool.eq_iff_iff, List.any_eq_true, List.contains_iff_mem, List.mem_flatMap]
  constructor
  · rintro ⟨x, hx, q⟩
    exact ⟨x, hx, List.contains_iff_mem.mp q⟩
  · rintro ⟨x, hx, q⟩
    exact ⟨x, hx, List.contains_iff_mem.mpr q⟩
end HM

/-! ## HM3 -/
namespace HM
open Mu56

/-! ### bits -/
theorem add_or (a : Nat) : ∀ b, a &&& b = 0 → a + b = a ||| b := by
  induction a using Nat.strongRecOn with
  | ind a ih =>
    intro b h
    by_cases h0 : a = 0
    · subst h0
      simp
    · have h2 : a / 2 &&& b / 2 = 0 := by rw [← Nat.and_div_two, h]
      have i := ih (a / 2) (by omega) (b / 2) h2
      rw [← Nat.or_div_two] at i
      have m1 := Nat.or_mod_two_eq_one (a := a) (b := b)
      have m2 := Nat.and_mod_two_eq_one (a := a) (b := b)
      rw [h] at m2
      omega
theorem and_pow (m c : Nat) : m &&& 2 ^ c = 0 ↔ m.testBit c = false := by
  constructor
  · intro h
    have e := congrArg (fun z => Nat.testBit z c) h
    simpa [Nat.testBit_and, Nat.testBit_two_pow] using e
  · intro h
    refine Nat.eq_of_testBit_eq fun i => ?_
    rw [Nat.testBit_and, Nat.testBit_two_pow, Nat.zero_testBit]
    by_cases e : c = i
    · subst e
      rw [h]
      rfl
    · simp [e]
theorem add_pow_bit {m c : Nat} (h : m.testBit c = false) (i : Nat) : (m + 2 ^ c).testBit i = (m.testBit i || decide (c = i)) := by
  rw [add_or _ _ ((and_pow m c).mpr h), Nat.testBit_or, Nat.testBit_two_pow]
theorem add_pow_lt {m c n : Nat} (h : m.testBit c = false) (hm : m < 2 ^ n) (hc : c < n) : m + 2 ^ c < 2 ^ n := by
  rw [add_or _ _ ((and_pow m c).mpr h)]
  exact Nat.or_lt_two_pow hm (Nat.pow_lt_pow_right (by decide) hc)
/-- the bits of distinct places, added -/
def mask (ps : List Nat) : Nat := (ps.map fun p => 2 ^ p).sum
theorem mask_cons (p : Nat) (ps : List Nat) : mask (p :: ps) = 2 ^ p + mask ps := by
  unfold mask
  rw [List.map_cons, List.sum_cons]
theorem mask_bit : ∀ {ps : List Nat}, ps.Nodup → ∀ q, (mask ps).testBit q = decide (q ∈ ps)
  | [], _, q => by simp [mask]
  | p :: ps, nd, q => by
    obtain ⟨h1, h2⟩ := List.nodup_cons.mp nd
    have ih := mask_bit h2
    rw [mask_cons, Nat.add_comm, add_pow_bit (by rw [ih p]; exact decide_eq_false h1), ih q]
    by_cases e : p = q
    · subst e
      simp
    · have e' : ¬ q = p := fun z => e z.symm
      simp [e, e']
theorem and_mask {ps : List Nat} (nd : ps.Nodup) (m : Nat) : m &&& mask ps = mask ps ↔ ∀ p ∈ ps, m.testBit p = true := by
  constructor
  · intro h p hp
    have e := congrArg (fun z => Nat.testBit z p) h
    simp only [Nat.testBit_and] at e
    rw [mask_bit nd, decide_eq_true hp, Bool.and_true] at e
    exact e
  · intro h
    refine Nat.eq_of_testBit_eq fun i => ?_
    rw [Nat.testBit_and, mask_bit nd]
    by_cases e : i ∈ ps
    · rw [h i e, decide_eq_true e]
      rfl
    · rw [decide_eq_false e, Bool.and_false]

/-! ### a table filled from the left -/
def table {α : Type} (g : List α → Nat → α) (k : Nat) : List α := (List.range k).foldl (fun t i => t ++ [g t i]) []
theorem table_succ {α : Type} (g : List α → Nat → α) (k : Nat) : table g (k + 1) = table g k ++ [g (table g k) k] := by
  unfold table
  rw [List.range_succ, List.foldl_append]
  rfl
theorem table_len {α : Type} (g : List α → Nat → α) : ∀ k, (table g k).length = k
  | 0 => rfl
  | k + 1 => by rw [table_succ, List.length_append, table_len g k]; rfl
theorem table_get {α : Type} (g : List α → Nat → α) : ∀ (k i : Nat), i < k → (table g k)[i]? = some (g (table g i) i)
  | 0, _, h => absurd h (Nat.not_lt_zero _)
  | k + 1, i, h => by
    rw [table_succ]
    by_cases e : i < k
    · rw [List.getElem?_append_left (by rw [table_len]; exact e)]
      exact table_get g k i e
    · have e : i = k := by omega
      subst e
      rw [List.getElem?_append_right (by rw [table_len]; exact Nat.le_refl _), table_len, Nat.sub_self]
      rfl
theorem table_pre (g : List Nat → Nat → Nat) {i k j : Nat} (hj : j < i) (hi : i ≤ k) : (table g i).getD j 0 = (table g k).getD j 0 := by
  rw [List.getD_eq_getElem?_getD, List.getD_eq_getElem?_getD, table_get g i j hj, table_get g k j (by omega)]

/-! ### in how many orders the rest is built -/
def fu (h : House) : Nat := 2 ^ h.length - 1
def gB (h : House) (t : List Nat) (i : Nat) : Nat :=
  let m := fu h - i
  if m = fu h then 1 else total ((ready h m).map fun (c : Nat) => t.getD (i - 2 ^ c) 0)
theorem buildTable_eq (h : House) : buildTable h = table (gB h) (2 ^ h.length) := rfl
/-- from the pieces m on -/
def rem (h : House) (m : Nat) : Nat := (buildTable h).getD (fu h - m) 0
theorem fu_lt (h : House) : fu h < 2 ^ h.length := by
  have : 0 < 2 ^ h.length := Nat.two_pow_pos _
  unfold fu
  omega
theorem orders_eq (h : House) : orders h = rem h 0 := by
  unfold orders rem
  rw [buildTable_eq]
  have hp : 0 < 2 ^ h.length := Nat.two_pow_pos _
  obtain ⟨k, hk⟩ : ∃ k, 2 ^ h.length = k + 1 := ⟨2 ^ h.length - 1, by omega⟩
  have hf : fu h = k := by unfold fu; omega
  rw [hk, hf, Nat.sub_zero, List.getD_eq_getElem?_getD, table_get _ _ _ (Nat.lt_succ_self k), table_succ, List.getLastD_concat]
  rfl
theorem rem_full (h : House) : rem h (fu h) = 1 := by
  unfold rem
  rw [buildTable_eq, Nat.sub_self, List.getD_eq_getElem?_getD, table_get _ _ _ (Nat.two_pow_pos _)]
  show gB h (table (gB h) 0) 0 = 1
  unfold gB
  exact if_pos (Nat.sub_zero _)
theorem ready_mem {h : House} {m c : Nat} (q : c ∈ ready h m) : c < h.length ∧ m.testBit c = false := by
  obtain ⟨h1, h2⟩ := List.mem_filter.mp q
  refine ⟨List.mem_range.mp h1, ?_⟩
  cases e : m.testBit c with
  | false => rfl
  | true =>
    rw [e] at h2
    cases h2
theorem rem_step (h : House) {m : Nat} (hm : m < fu h) : rem h m = ((ready h m).map fun c => rem h (m + 2 ^ c)).sum := by
  have hfl := fu_lt h
  unfold rem
  rw [buildTable_eq]
  conv => lhs; rw [List.getD_eq_getElem?_getD, table_get _ _ _ (show fu h - m < 2 ^ h.length by omega)]
  show gB h (table (gB h) (fu h - m)) (fu h - m) = _
  unfold gB
  have e1 : fu h - (fu h - m) = m := by omega
  show (if fu h - (fu h - m) = fu h then 1 else _) = _
  rw [e1, if_neg (by omega), total_eq]
  congr 1
  refine List.map_congr_left fun c hc => ?_
  obtain ⟨hc1, hc2⟩ := ready_mem hc
  have lt := add_pow_lt hc2 (Nat.lt_trans hm hfl) hc1
  have hp : 0 < 2 ^ c := Nat.two_pow_pos _
  have hfe : fu h + 1 = 2 ^ h.length := by unfold fu; omega
  have e2 : fu h - m - 2 ^ c = fu h - (m + 2 ^ c) := by omega
  rw [e2]
  exact table_pre _ (by omega) (by omega)

/-! ### sums over a part of the masks -/
def sumR (f : Nat → Nat) : Nat → Nat → Nat
  | _, 0 => 0
  | b, k + 1 => f b + sumR f (b + 1) k
theorem sumR_congr {f g : Nat → Nat} : ∀ (k b : Nat), (∀ i, b ≤ i → i < b + k → f i = g i) → sumR f b k = sumR g b k
  | 0, _, _ => rfl
  | k + 1, b, h => by
    unfold sumR
    rw [h b (Nat.le_refl _) (by omega), sumR_congr k (b + 1) fun i h1 h2 => h i (by omega) (by omega)]
theorem sumR_upd {f g : Nat → Nat} {j d : Nat} (hj : g j = f j + d) (hn : ∀ i, i ≠ j → g i = f i) : ∀ (k b : Nat), b ≤ j → j < b + k → sumR g b k = sumR f b k + d
  | 0, b, h1, h2 => by omega
  | k + 1, b, h1, h2 => by
    unfold sumR
    by_cases e : b = j
    · subst e
      rw [hj, sumR_congr (f := g) (g := f) k (b + 1) fun i h3 _ => hn i (by omega)]
      omega
    · rw [hn b e, sumR_upd hj hn k (b + 1) (by omega) (by omega)]
      omega
theorem sumR_zero {f : Nat → Nat} : ∀ (k b : Nat), (∀ i, b ≤ i → i < b + k → f i = 0) → sumR f b k = 0
  | 0, _, _ => rfl
  | k + 1, b, h => by
    unfold sumR
    rw [h b (Nat.le_refl _) (by omega), sumR_zero k (b + 1) fun i h1 h2 => h i (by omega) (by omega)]

/-! ### the program's way: forward, a mask at a time -/
def at0 (W : List Nat) (i : Nat) : Nat := W.getD i 0
/-- one mark of the pieces: own bit, needed bits -/
def stepM (b : Nat) (W : List Nat) (p : Nat × Nat) : List Nat := if b &&& p.1 = 0 ∧ b &&& p.2 = p.2 then W.set (b + p.1) (at0 W (b + p.1) + at0 W b) else W
def stepB (marks : List (Nat × Nat)) (W : List Nat) (b : Nat) : List Nat := marks.foldl (stepM b) W
theorem stepM_len (b : Nat) (W : List Nat) (p : Nat × Nat) : (stepM b W p).length = W.length := by
  unfold stepM
  split
  · exact List.length_set
  · rfl
theorem foldM_len (b : Nat) : ∀ (ms : List (Nat × Nat)) (W : List Nat), (ms.foldl (stepM b) W).length = W.length
  | [], _ => rfl
  | p :: ms, W => by rw [List.foldl_cons, foldM_len b ms, stepM_len]
theorem at0_set {W : List Nat} {j v : Nat} (hj : j < W.length) (i : Nat) : at0 (W.set j v) i = if i = j then v else at0 W i := by
  unfold at0
  rw [List.getD_eq_getElem?_getD, List.getD_eq_getElem?_getD]
  by_cases e : i = j
  · subst e
    rw [if_pos rfl, List.getElem?_set_self hj]
    rfl
  · rw [if_neg e, List.getElem?_set_ne fun z => e z.symm]
/-- weights R of the masks behind b: what one mask hands on -/
theorem foldM_sum (R : Nat → Nat) (b n : Nat) : ∀ (ms : List (Nat × Nat)) (W : List Nat), W.length = 2 ^ n → (∀ p ∈ ms, b &&& p.1 = 0 → 0 < p.1 ∧ b + p.1 < 2 ^ n) →
    at0 (ms.foldl (stepM b) W) b = at0 W b ∧
    sumR (fun i => at0 (ms.foldl (stepM b) W) i * R i) (b + 1) (2 ^ n - (b + 1)) = sumR (fun i => at0 W i * R i) (b + 1) (2 ^ n - (b + 1)) + at0 W b * ((ms.filter fun p => decide (b &&& p.1 = 0 ∧ b &&& p.2 = p.2)).map fun p => R (b + p.1)).sum
  | [], W, _, _ => ⟨rfl, by simp⟩
  | p :: ms, W, hW, hp => by
    have hp' : ∀ q ∈ ms, b &&& q.1 = 0 → 0 < q.1 ∧ b + q.1 < 2 ^ n := fun q hq => hp q (List.mem_cons_of_mem _ hq)
    obtain ⟨i1, i2⟩ := foldM_sum R b n ms (stepM b W p) (by rw [stepM_len, hW]) hp'
    rw [List.foldl_cons, List.filter_cons]
    by_cases c : b &&& p.1 = 0 ∧ b &&& p.2 = p.2
    · obtain ⟨h1, h2⟩ := hp p (List.mem_cons_self ..) c.1
      have eW : stepM b W p = W.set (b + p.1) (at0 W (b + p.1) + at0 W b) := if_pos c
      have eb : at0 (stepM b W p) b = at0 W b := by
        rw [eW, at0_set (by rw [hW]; exact h2), if_neg (by omega)]
      rw [if_pos (decide_eq_true c), List.map_cons, List.sum_cons]
      refine ⟨by rw [i1, eb], ?_⟩
      rw [i2, eb]
      have up := sumR_upd (f := fun i => at0 W i * R i) (g := fun i => at0 (stepM b W p) i * R i) (j := b + p.1) (d := at0 W b * R (b + p.1))
        (by rw [eW, at0_set (by rw [hW]; exact h2), if_pos rfl, Nat.add_mul])
        (fun i hi => by rw [eW, at0_set (by rw [hW]; exact h2), if_neg hi])
        (2 ^ n - (b + 1)) (b + 1) (by omega) (by omega)
      rw [up, Nat.mul_add]
      omega
    · have eW : stepM b W p = W := if_neg c
      rw [eW] at i1 i2
      rw [eW, if_neg (by simpa using c)]
      exact ⟨i1, i2⟩
/-- all masks below b handed on -/
def waysAt (marks : List (Nat × Nat)) (n b : Nat) : List Nat := (List.range b).foldl (stepB marks) (1 :: List.replicate (2 ^ n - 1) 0)
theorem waysAt_succ (marks : List (Nat × Nat)) (n b : Nat) : waysAt marks n (b + 1) = stepB marks (waysAt marks n b) b := by
  unfold waysAt
  rw [List.range_succ, List.foldl_append]
  rfl
theorem waysAt_len (marks : List (Nat × Nat)) (n : Nat) : ∀ b, (waysAt marks n b).length = 2 ^ n
  | 0 => by
    have : 0 < 2 ^ n := Nat.two_pow_pos _
    show (1 :: List.replicate (2 ^ n - 1) 0).length = _
    rw [List.length_cons, List.length_replicate]
    omega
  | b + 1 => by rw [waysAt_succ]; unfold stepB; rw [foldM_len, waysAt_len marks n b]
/-- the marks tell what is ready -/
structure Marks (h : House) (marks : List (Nat × Nat)) : Prop where
  own : ∀ p ∈ marks, ∃ c, c < h.length ∧ p.1 = 2 ^ c
  tell : ∀ m, m < fu h → ∀ R : Nat → Nat, ((marks.filter fun p => decide (m &&& p.1 = 0 ∧ m &&& p.2 = p.2)).map fun p => R (m + p.1)) = (ready h m).map fun c => R (m + 2 ^ c)
theorem ways_sum {h : House} {marks : List (Nat × Nat)} (M : Marks h marks) : ∀ b, b ≤ fu h → sumR (fun i => at0 (waysAt marks h.length b) i * rem h i) b (2 ^ h.length - b) = rem h 0
  | 0, _ => by
    have hp : 0 < 2 ^ h.length := Nat.two_pow_pos _
    obtain ⟨k, hk⟩ : ∃ k, 2 ^ h.length = k + 1 := ⟨2 ^ h.length - 1, by omega⟩
    rw [hk, Nat.sub_zero]
    unfold sumR
    rw [sumR_zero]
    · show 1 * rem h 0 + 0 = rem h 0
      omega
    · intro i h1 h2
      obtain ⟨j, rfl⟩ : ∃ j, i = j + 1 := ⟨i - 1, by omega⟩
      have : at0 (waysAt marks h.length 0) (j + 1) = 0 := by
        show (1 :: List.replicate (2 ^ h.length - 1) 0).getD (j + 1) 0 = 0
        rw [List.getD_cons_succ, List.getD_eq_getElem?_getD, List.getElem?_replicate]
        split <;> rfl
      rw [this, Nat.zero_mul]
  | b + 1, hb => by
    have ih := ways_sum M b (by omega)
    have hfl := fu_lt h
    have hq : ∀ p ∈ marks, b &&& p.1 = 0 → 0 < p.1 ∧ b + p.1 < 2 ^ h.length := by
      intro p hp z
      obtain ⟨c, hc, e⟩ := M.own p hp
      rw [e] at z ⊢
      exact ⟨Nat.two_pow_pos _, add_pow_lt ((and_pow b c).mp z) (by omega) hc⟩
    obtain ⟨_, i2⟩ := foldM_sum (rem h) b h.length marks (waysAt marks h.length b) (waysAt_len ..) hq
    rw [M.tell b (by omega) (rem h), ← rem_step h (show b < fu h by omega)] at i2
    rw [waysAt_succ]
    unfold stepB
    rw [i2, ← ih]
    obtain ⟨k, hk⟩ : ∃ k, 2 ^ h.length - b = k + 1 := ⟨2 ^ h.length - b - 1, by omega⟩
    have hk' : 2 ^ h.length - (b + 1) = k := by omega
    rw [hk, hk']
    conv => rhs; unfold sumR
    omega
theorem ways_orders {h : House} {marks : List (Nat × Nat)} (M : Marks h marks) : at0 (waysAt marks h.length (fu h)) (fu h) = orders h := by
  have e := ways_sum M (fu h) (Nat.le_refl _)
  have hfe : 2 ^ h.length - fu h = 1 := by
    have : 0 < 2 ^ h.length := Nat.two_pow_pos _
    unfold fu
    omega
  rw [hfe] at e
  unfold sumR sumR at e
  rw [rem_full] at e
  rw [orders_eq]
  omega
end HM

/-! ## HM4 -/
namespace HM
open Mu56

/-! ### places -/
def place (h : House) (i : Nat) : Nat := (ids h).idxOf i
theorem place_lt {h : House} {i : Nat} (hi : i ∈ ids h) : place h i < h.length := by
  have := List.idxOf_lt_length_of_mem hi
  unfold ids at this
  rw [List.length_map] at this
  exact this
theorem ids_get {h : House} {c : Nat} : (ids h)[c]? = (h[c]?).map (·.id) := List.getElem?_map ..
theorem place_get {h : House} {i : Nat} (hi : i ∈ ids h) : ∃ x, h[place h i]? = some x ∧ x.id = i := by
  have e : (ids h)[place h i]? = some i := by
    unfold place
    rw [List.getElem?_eq_getElem (List.idxOf_lt_length_of_mem hi), List.getElem_idxOf]
  rw [ids_get] at e
  cases q : h[place h i]? with
  | none => rw [q] at e; cases e
  | some x => rw [q] at e; exact ⟨x, rfl, Option.some.inj e⟩
theorem place_of {h : House} (nd : (ids h).Nodup) {c : Nat} {x : Piece} (hx : h[c]? = some x) : place h x.id = c := by
  have hi : x.id ∈ ids h := mem_ids.mpr ⟨x, List.mem_of_getElem? hx, rfl⟩
  obtain ⟨y, hy, e⟩ := place_get hi
  have h1 : (ids h)[place h x.id]? = some x.id := by rw [ids_get, hy]; exact congrArg some e
  have h2 : (ids h)[c]? = some x.id := by rw [ids_get, hx]; rfl
  obtain ⟨l1, e1⟩ := List.getElem?_eq_some_iff.mp h1
  obtain ⟨l2, e2⟩ := List.getElem?_eq_some_iff.mp h2
  exact (List.getElem_inj nd).mp (e1.trans e2.symm)
theorem place_inj {h : House} {i j : Nat} (hi : i ∈ ids h) (hj : j ∈ ids h) (e : place h i = place h j) : i = j := by
  obtain ⟨x, hx, rfl⟩ := place_get hi
  obtain ⟨y, hy, rfl⟩ := place_get hj
  rw [e, hy] at hx
  cases hx
  rfl
theorem places_nodup {h : House} : ∀ {l : List Nat}, l.Nodup → (∀ i ∈ l, i ∈ ids h) → (l.map (place h)).Nodup
  | [], _, _ => List.nodup_nil
  | a :: l, nd, hm => by
    obtain ⟨n1, n2⟩ := List.nodup_cons.mp nd
    rw [List.map_cons]
    refine List.nodup_cons.mpr ⟨fun q => ?_, places_nodup n2 fun i hi => hm i (List.mem_cons_of_mem _ hi)⟩
    obtain ⟨b, hb, e⟩ := List.mem_map.mp q
    have := place_inj (hm b (List.mem_cons_of_mem _ hb)) (hm a (List.mem_cons_self ..)) e
    rw [this] at hb
    exact n1 hb
/-! ### the marks of a house -/
def needs (h : House) (x : Piece) : Nat := mask (x.rests.map (place h))
def markAt (h : House) (c : Nat) : Nat × Nat := (2 ^ c, ((h[c]?).map (needs h)).getD 0)
def marksOf (h : House) : List (Nat × Nat) := (List.range h.length).map (markAt h)
theorem stands_iff {h : House} (nd : (ids h).Nodup) {i : Nat} (hi : i ∈ ids h) (m : Nat) : stands h m i = m.testBit (place h i) := by
  unfold stands
  rw [Bool.eq_iff_iff, List.any_eq_true]
  constructor
  · rintro ⟨c, hc, q⟩
    rw [Bool.and_eq_true] at q
    cases e : h[c]? with
    | none => rw [e] at q; exact absurd q.2 (by simp)
    | some x =>
      rw [e] at q
      have e2 : x.id = i := by simpa using q.2
      rw [← e2, place_of nd e]
      exact q.1
  · intro q
    obtain ⟨x, hx, e⟩ := place_get hi
    refine ⟨place h i, List.mem_range.mpr (place_lt hi), ?_⟩
    rw [Bool.and_eq_true, hx]
    exact ⟨q, by simpa using e⟩
theorem marks_ok {h : House} (w : Wf h) : Marks h (marksOf h) := by
  refine ⟨fun p hp => ?_, fun m _ R => ?_⟩
  · obtain ⟨c, hc, rfl⟩ := List.mem_map.mp hp
    exact ⟨c, List.mem_range.mp hc, rfl⟩
  · unfold marksOf ready
    rw [List.filter_map, List.map_map]
    have e : ∀ c ∈ List.range h.length, ((fun p : Nat × Nat => decide (m &&& p.1 = 0 ∧ m &&& p.2 = p.2)) ∘ markAt h) c = (!m.testBit c && (match h[c]? with
        | some x => x.rests.all fun (i : Nat) => stands h m i
        | none => false)) := by
      intro c hc
      have hc := List.mem_range.mp hc
      have hx : h[c]? = some h[c] := List.getElem?_eq_getElem hc
      have hm : h[c] ∈ h := List.getElem_mem hc
      show decide (m &&& 2 ^ c = 0 ∧ m &&& ((h[c]?).map (needs h)).getD 0 = ((h[c]?).map (needs h)).getD 0) = _
      rw [hx]
      show decide (m &&& 2 ^ c = 0 ∧ m &&& needs h h[c] = needs h h[c]) = (!m.testBit c && h[c].rests.all fun i => stands h m i)
      have nd := places_nodup (h := h) (w.once _ hm) fun i hi => (w.rest _ hm i hi).1
      have q : m &&& needs h h[c] = needs h h[c] ↔ ∀ i ∈ h[c].rests, stands h m i = true := by
        unfold needs
        rw [and_mask nd]
        constructor
        · intro z i hi
          rw [stands_iff w.nd (w.rest _ hm i hi).1]
          exact z _ (List.mem_map.mpr ⟨i, hi, rfl⟩)
        · intro z p hp
          obtain ⟨i, hi, rfl⟩ := List.mem_map.mp hp
          rw [← stands_iff w.nd (w.rest _ hm i hi).1]
          exact z i hi
      rw [Bool.eq_iff_iff, decide_eq_true_eq, Bool.and_eq_true, List.all_eq_true, and_pow, q, Bool.not_eq_true']
    rw [List.filter_congr e]
    rfl
/-- as the program has it: the masks from the lowest on -/
theorem orders_ways {h : House} (w : Wf h) : at0 (waysAt (marksOf h) h.length (fu h)) (fu h) = orders h := ways_orders (marks_ok w)
end HM
namespace HM
open Mu56
theorem nodup_len : ∀ {l m : List Nat}, l.Nodup → (∀ i ∈ l, i ∈ m) → l.length ≤ m.length
  | [], _, _, _ => Nat.zero_le _
  | a :: l, m, nd, h => by
    obtain ⟨n1, n2⟩ := List.nodup_cons.mp nd
    have ha := h a (List.mem_cons_self ..)
    have ih := nodup_len (m := m.erase a) n2 fun i hi => (List.mem_erase_of_ne (fun e => n1 (by rw [← e]; exact hi))).mpr (h i (List.mem_cons_of_mem _ hi))
    rw [List.length_erase_of_mem ha] at ih
    have : 0 < m.length := List.length_pos_of_mem ha
    rw [List.length_cons]
    omega
theorem ids_len (h : House) : (ids h).length = h.length := List.length_map ..
theorem rests_len {h : House} (w : Wf h) {x : Piece} (hx : x ∈ h) : x.rests.length ≤ h.length := by
  have := nodup_len (w.once x hx) fun i hi => (w.rest x hx i hi).1
  rw [ids_len] at this
  exact this
theorem falls_len {h : House} (nd : (ids h).Nodup) (l : List Nat) : (falls h l).length ≤ h.length := by
  rw [falls_filter nd]
  exact Nat.le_trans (List.length_filter_le ..) (Nat.le_of_eq (ids_len h))
theorem foldF_len : ∀ (h : House) (m : List Nat), (h.foldl stepF m).length ≤ m.length + h.length
  | [], m => Nat.le_refl _
  | x :: h, m => by
    rw [List.foldl_cons]
    refine Nat.le_trans (foldF_len h _) ?_
    unfold stepF
    split
    · rw [List.length_append, List.length_cons, List.length_cons, List.length_nil]; omega
    · rw [List.length_cons]; omega
end HM

/-! ## HM5 -/
namespace HM
open Mu56

/-! ### a list of numbers as calls -/
def rowF (r : List Int) : List Int := (r.length : Int) :: r
def flatC (c : List (List Int)) : List Int := c.headD [] ++ c.tail.flatMap rowF
theorem row_flat {l x t : List Int} (h : PyFlat.row l = some (x, t)) : l = rowF x ++ t := by
  cases l with
  | nil => cases h
  | cons n r =>
    have h : (if 0 ≤ n ∧ n.toNat ≤ r.length then some (r.take n.toNat, r.drop n.toNat) else none) = some (x, t) := h
    by_cases q : 0 ≤ n ∧ n.toNat ≤ r.length
    · rw [if_pos q] at h
      have h := Option.some.inj h
      have e1 : r.take n.toNat = x := congrArg Prod.fst h
      have e2 : r.drop n.toNat = t := congrArg Prod.snd h
      have l1 : x.length = n.toNat := by rw [← e1, List.length_take]; omega
      unfold rowF
      rw [l1, List.cons_append, ← e1, ← e2, List.take_append_drop, Int.toNat_of_nonneg q.1]
    · rw [if_neg q] at h
      cases h
theorem rows_flat : ∀ {k : Nat} {l : List Int} {xs : List (List Int)} {t : List Int}, PyFlat.rows k l = some (xs, t) → l = xs.flatMap rowF ++ t
  | 0, l, xs, t, h => by
    have h := Option.some.inj h
    have e1 : [] = xs := congrArg Prod.fst h
    have e2 : l = t := congrArg Prod.snd h
    rw [← e1, e2]
    rfl
  | k + 1, l, xs, t, h => by
    unfold PyFlat.rows at h
    split at h
    · cases h
    · rename_i x s hr
      split at h
      · cases h
      · rename_i ys u hs
        have h := Option.some.inj h
        have e1 : x :: ys = xs := congrArg Prod.fst h
        have e2 : u = t := congrArg Prod.snd h
        rw [← e1, ← e2, row_flat hr, rows_flat hs, List.flatMap_cons, List.append_assoc]
theorem call_flat {sh : Int → Option (Nat × Nat)} {l : List Int} {c : List (List Int)} {t : List Int} (h : PyFlat.call sh l = some (c, t)) : l = flatC c ++ t ∧ flatC c ≠ [] := by
  cases l with
  | nil => cases h
  | cons p r =>
    have h : (match sh p with
      | none => none
      | some (n, k) => if r.length < n then none else match PyFlat.rows k (r.drop n) with
        | none => none
        | some (xs, t) => some ((p :: r.take n) :: xs, t)) = some (c, t) := h
    cases hs : sh p with
    | none => rw [hs] at h; cases h
    | some nk =>
      obtain ⟨n, k⟩ := nk
      rw [hs] at h
      by_cases q : r.length < n
      · have h : (if r.length < n then none else _) = some (c, t) := h
        rw [if_pos q] at h
        cases h
      · have h : (if r.length < n then none else match PyFlat.rows k (r.drop n) with
          | none => none
          | some (xs, t) => some ((p :: r.take n) :: xs, t)) = some (c, t) := h
        rw [if_neg q] at h
        cases hr : PyFlat.rows k (r.drop n) with
        | none => rw [hr] at h; cases h
        | some xu =>
          obtain ⟨xs, u⟩ := xu
          rw [hr] at h
          have h := Option.some.inj h
          have e1 : (p :: r.take n) :: xs = c := congrArg Prod.fst h
          have e2 : u = t := congrArg Prod.snd h
          rw [← e1, ← e2]
          refine ⟨?_, by simp [flatC]⟩
          show p :: r = (p :: r.take n) ++ xs.flatMap rowF ++ u
          rw [List.append_assoc, ← rows_flat hr, List.cons_append, List.take_append_drop]
theorem calls_flat {sh : Int → Option (Nat × Nat)} : ∀ {f : Nat} {l : List Int} {cs : List (List (List Int))}, PyFlat.calls sh f l = some cs → l = cs.flatMap flatC ∧ ∀ c ∈ cs, flatC c ≠ []
  | f, [], cs, h => by
    have e : [] = cs := by
      cases f with
      | zero => exact Option.some.inj h
      | succ f => exact Option.some.inj h
    rw [← e]
    exact ⟨rfl, fun c hc => by cases hc⟩
  | 0, _ :: _, cs, h => by cases h
  | f + 1, p :: r, cs, h => by
    unfold PyFlat.calls at h
    split at h
    · cases h
    · rename_i c t hc
      split at h
      · cases h
      · rename_i ds hd
        have e : c :: ds = cs := Option.some.inj h
        obtain ⟨h1, h2⟩ := call_flat hc
        obtain ⟨i1, i2⟩ := calls_flat hd
        rw [← e, h1, List.flatMap_cons, ← i1]
        refine ⟨rfl, fun d hd => ?_⟩
        rcases List.mem_cons.mp hd with z | z
        · rw [z]; exact h2
        · exact i2 d z
theorem whole_id (c : List (List Int)) : PyMu56.whole c = c := by
  unfold PyMu56.whole
  split <;> rfl
/-- what is asked, as calls -/
theorem asked_calls {l : List Int} (h : PyMu56.answers_asked l = true) : ∃ cs, l = cs.flatMap flatC ∧ cs.length ≤ 60 ∧ (∀ c ∈ cs, Mu56Neutral.asked1 c = true ∧ flatC c ≠ []) ∧ PyMu56.answers l = PyFlat.told (PyFlat.played Mu56Neutral.step Mu56Neutral.start cs) ∧ (PyMu56.answers l).length ≤ 10000000 := by
  unfold PyMu56.answers_asked at h
  split at h
  · cases h
  · rename_i raw hr
    simp only [Bool.and_eq_true] at h
    obtain ⟨⟨⟨⟨h1, h2⟩, h3⟩, h4⟩, h5⟩ := h
    have ew : raw.map PyMu56.whole = raw := by
      rw [List.map_congr_left (fun c _ => whole_id c), List.map_id'']
      exact fun _ => rfl
    rw [ew] at h4
    unfold Mu56Neutral.asked at h4
    simp only [Bool.and_eq_true, decide_eq_true_eq, List.all_eq_true] at h4
    obtain ⟨q1, q2⟩ := calls_flat hr
    refine ⟨raw, q1, h4.2.1, fun c hc => ⟨h4.2.2 c hc, q2 c hc⟩, ?_, by simpa [PyFlat.short] using h5⟩
    unfold PyMu56.answers PyMu56.calls
    rw [hr]
    show PyFlat.told (PyFlat.played Mu56Neutral.step Mu56Neutral.start (raw.map PyMu56.whole)) = _
    rw [ew]
/-! ### played, a call more -/
def after (cs : List (List (List Int))) : Abs := cs.foldl (fun s c => (Mu56Neutral.step s c).1) Mu56Neutral.start
theorem played_snoc (s : Abs) : ∀ (cs : List (List (List Int))) (c : List (List Int)), PyFlat.played Mu56Neutral.step s (cs ++ [c]) = PyFlat.played Mu56Neutral.step s cs ++ [(Mu56Neutral.step (cs.foldl (fun s c => (Mu56Neutral.step s c).1) s) c).2] := by
  intro cs
  induction cs generalizing s with
  | nil => intro c; rfl
  | cons d cs ih =>
    intro c
    show (Mu56Neutral.step s d).2 :: PyFlat.played Mu56Neutral.step (Mu56Neutral.step s d).1 (cs ++ [c]) = _
    rw [ih]
    rfl
theorem after_snoc (cs : List (List (List Int))) (c : List (List Int)) : after (cs ++ [c]) = (Mu56Neutral.step (after cs) c).1 := by
  unfold after
  rw [List.foldl_append]
  rfl
def toldOf (cs : List (List (List Int))) : List Int := PyFlat.told (PyFlat.played Mu56Neutral.step Mu56Neutral.start cs)
theorem toldOf_snoc (cs : List (List (List Int))) (c : List (List Int)) : toldOf (cs ++ [c]) = toldOf cs ++ (((Mu56Neutral.step (after cs) c).2.length : Int) :: (Mu56Neutral.step (after cs) c).2) := by
  unfold toldOf PyFlat.told
  rw [played_snoc, List.flatMap_append]
  congr 1
  rw [List.flatMap_cons, List.flatMap_nil, List.append_nil]
  rfl
theorem toldOf_le (cs : List (List (List Int))) : ∀ ds, (toldOf cs).length ≤ (toldOf (cs ++ ds)).length := by
  intro ds
  induction ds generalizing cs with
  | nil => rw [List.append_nil]; exact Nat.le_refl _
  | cons d ds ih =>
    have e : cs ++ d :: ds = (cs ++ [d]) ++ ds := by rw [List.append_assoc]; rfl
    rw [e]
    refine Nat.le_trans ?_ (ih (cs ++ [d]))
    rw [toldOf_snoc, List.length_append]
    omega
/-! ### the forms of a call -/
inductive Form : List (List Int) → Mu56.Call → Prop
  | begin_ : Form [[0]] .begin_
  | put (c : Nat) (l : List Nat) : c ≤ 9 → l.length ≤ 10 → Form [[1, (c : Int)], l.map fun (i : Nat) => (i : Int)] (.put c l)
  | pyramid (n : Nat) : n ≤ 9 → Form [[2, (n : Int)]] (.pyramid n)
  | would (i : Nat) : Form [[3, (i : Int)]] (.would i)
  | take (i : Nat) : Form [[4, (i : Int)]] (.take i)
  | free : Form [[5]] .free
  | orders : Form [[6]] .orders
  | high : Form [[7]] .high
  | worth : Form [[8]] .worth
  | play : Form [[9]] .play
  | cards (n : Nat) : n ≤ 200 → Form [[10, (n : Int)]] (.cards n)
  | storeys (c : Nat) : c ≤ 2000 → Form [[11, (c : Int)]] (.storeys c)
  | look : Form [[12]] .look
/-- a call's own number -/
def code : Mu56.Call → Nat
  | .begin_ => 0
  | .put _ _ => 1
  | .pyramid _ => 2
  | .would _ => 3
  | .take _ => 4
  | .free => 5
  | .orders => 6
  | .high => 7
  | .worth => 8
  | .play => 9
  | .cards _ => 10
  | .storeys _ => 11
  | .look => 12
theorem within_nat {z lo hi : Int} (h : NeutralIO.within z lo hi = true) (h0 : 0 ≤ lo) : ∃ n : Nat, z = (n : Int) ∧ lo ≤ (n : Int) ∧ (n : Int) ≤ hi := by
  unfold NeutralIO.within at h
  simp only [Bool.and_eq_true, decide_eq_true_eq] at h
  exact ⟨z.toNat, by omega, by omega, by omega⟩
theorem nats_cast (l : List Nat) : Mu56Neutral.nats (l.map fun (i : Nat) => (i : Int)) = l := by
  unfold Mu56Neutral.nats
  rw [List.map_map]
  exact List.map_id'' (fun _ => rfl) l
theorem pieces_nat : ∀ {l : List Int}, l.all Mu56Neutral.piece = true → ∃ m : List Nat, l = m.map fun (i : Nat) => (i : Int)
  | [], _ => ⟨[], rfl⟩
  | z :: l, h => by
    rw [List.all_cons, Bool.and_eq_true] at h
    obtain ⟨n, e, _⟩ := within_nat h.1 (Int.le_refl 0)
    obtain ⟨m, em⟩ := pieces_nat h.2
    exact ⟨n :: m, by rw [e, em]; rfl⟩
theorem form_of {c : List (List Int)} (h : Mu56Neutral.asked1 c = true) : ∃ x, Form c x ∧ Mu56Neutral.callOf c = some x := by
  unfold Mu56Neutral.asked1 at h
  split at h
  · exact ⟨_, .begin_, rfl⟩
  · rename_i z l
    simp only [Bool.and_eq_true, decide_eq_true_eq] at h
    obtain ⟨n, rfl, _, h9⟩ := within_nat h.1 (Int.le_refl 0)
    obtain ⟨m, rfl⟩ := pieces_nat h.2.2
    rw [List.length_map] at h
    refine ⟨_, .put n m (by omega) h.2.1, ?_⟩
    show some (Mu56.Call.put ((n : Int)).toNat (Mu56Neutral.nats _)) = _
    rw [nats_cast]
    rfl
  · obtain ⟨n, rfl, _, h9⟩ := within_nat h (Int.le_refl 0)
    exact ⟨_, .pyramid n (by omega), rfl⟩
  · obtain ⟨n, rfl, _, h9⟩ := within_nat h (Int.le_refl 0)
    exact ⟨_, .would n, rfl⟩
  · obtain ⟨n, rfl, _, h9⟩ := within_nat h (Int.le_refl 0)
    exact ⟨_, .take n, rfl⟩
  · exact ⟨_, .free, rfl⟩
  · exact ⟨_, .orders, rfl⟩
  · exact ⟨_, .high, rfl⟩
  · exact ⟨_, .worth, rfl⟩
  · exact ⟨_, .play, rfl⟩
  · obtain ⟨n, rfl, _, h9⟩ := within_nat h (Int.le_refl 0)
    exact ⟨_, .cards n (by omega), rfl⟩
  · obtain ⟨n, rfl, _, h9⟩ := within_nat h (Int.le_refl 0)
    exact ⟨_, .storeys n (by omega), rfl⟩
  · exact ⟨_, .look, rfl⟩
  · cases h
/-! ### what stands is well formed -/
def AWf : Abs → Prop
  | none => True
  | some t => SWf t
theorem empty_swf : SWf ⟨[], 0⟩ := ⟨⟨List.Pairwise.nil, fun x hx => (by cases hx), fun x hx => (by cases hx)⟩, fun x hx => (by cases hx), by decide, fun x hx => (by cases hx)⟩
def wfB (s : State) : Bool := decide ((ids s.house).Pairwise (· < ·)) && (decide (∀ x ∈ s.house, ∀ i ∈ x.rests, i ∈ ids s.house ∧ i < x.id) && (decide (∀ x ∈ s.house, x.rests.Nodup) && (decide (∀ x ∈ s.house, x.id < s.next) && (decide (s.house.length ≤ 9) && decide (∀ x ∈ s.house, 1 ≤ x.cards ∧ x.cards ≤ 2)))))
theorem wfB_ok {s : State} (h : wfB s = true) : SWf s := by
  unfold wfB at h
  simp only [Bool.and_eq_true, decide_eq_true_eq] at h
  exact ⟨⟨h.1, h.2.1, h.2.2.1⟩, h.2.2.2.1, h.2.2.2.2.1, h.2.2.2.2.2⟩
theorem pyramid_swf : ∀ n : Fin 4, wfB ⟨pyramid n.val, (pyramid n.val).length⟩ = true := by decide +kernel
theorem step_wf {o : Abs} (w : AWf o) (c : Mu56.Call) : AWf (Mu56.step o c).1 := by
  cases o with
  | none => cases c <;> first | exact trivial | exact empty_swf
  | some s =>
    have w : SWf s := w
    cases c with
    | begin_ => exact empty_swf
    | put c l =>
      show AWf (if c < 1 ∨ 2 < c ∨ l.eraseDups.length ≠ l.length then (some s, _) else _).1
      split
      · exact w
      · rename_i h1
        split
        · exact w
        · rename_i h2
          split
          · exact w
          · rename_i h3
            refine put_swf w ⟨by omega, by omega⟩ ?_ (fun i hi => ?_) ?_
            · rcases Classical.em l.Nodup with q | q
              · exact q
              · exact absurd (.inr (.inr (dups_iff.mpr q))) h1
            · rcases Classical.em (i ∈ ids s.house) with q | q
              · exact q
              · refine absurd (List.any_eq_true.mpr ⟨i, hi, ?_⟩) h2
                cases e : has s i with
                | false => rfl
                | true => exact absurd (has_iff.mp e) q
            · have : ¬ 9 ≤ s.house.length := h3
              omega
    | pyramid n =>
      show AWf (if n < 1 ∨ 3 < n then (some s, _) else _).1
      split
      · exact w
      · rename_i h
        exact wfB_ok (pyramid_swf ⟨n, by omega⟩)
    | take i =>
      show AWf (if has s i = false then (some s, _) else _).1
      split
      · exact w
      · exact taken_swf w i
    | play =>
      show AWf (match winning s.house with | none => (some s, _) | some i => _).1
      split
      · exact w
      · exact taken_swf w _
    | _ => exact w
theorem stepN {o : Abs} {c : List (List Int)} {x : Mu56.Call} (h : Mu56Neutral.callOf c = some x) : Mu56Neutral.step o c = Mu56.step o x := by
  unfold Mu56Neutral.step
  rw [h]
end HM

/-! ## HM6 -/
namespace HM
open Mu56

/-! ### what falls, by its rests -/
theorem fold_low (l : List Nat) {i : Nat} : ∀ (b : House) (m : List Nat), (∀ y ∈ b, i < y.id) → (i ∈ b.foldl (stepS l) m ↔ i ∈ m)
  | [], _, _ => Iff.rfl
  | y :: b, m, h => by
    rw [List.foldl_cons, fold_low l b _ fun z hz => h z (List.mem_cons_of_mem _ hz)]
    unfold stepS
    split
    · constructor
      · intro q
        rcases List.mem_append.mp q with q | q
        · exact q
        · have := h y (List.mem_cons_self ..)
          have e : i = y.id := by simpa using q
          omega
      · exact fun q => List.mem_append_left _ q
    · exact Iff.rfl
theorem falls_iff {h : House} (w : Wf h) {l : List Nat} {x : Piece} (hx : x ∈ h) : x.id ∈ falls h l ↔ x.id ∈ l ∨ ∃ i ∈ x.rests, i ∈ falls h l := by
  obtain ⟨a, b, rfl⟩ := List.append_of_mem hx
  have nd := w.rise
  rw [ids_append, ids_cons, List.pairwise_append] at nd
  obtain ⟨_, nb, hab⟩ := nd
  obtain ⟨nb1, _⟩ := List.pairwise_cons.mp nb
  have hb : ∀ y ∈ b, x.id < y.id := fun y hy => nb1 y.id (List.mem_map.mpr ⟨y, hy, rfl⟩)
  have na : x.id ∉ a.foldl (stepS l) [] := by
    intro q
    have nda : (ids a).Nodup := nodup_of_rise (List.Pairwise.sublist (List.sublist_append_left ..) (by have := w.rise; rw [ids_append] at this; exact this))
    have e := falls_sub (h := a) nda (l := l) (i := x.id) (by rw [falls_eq]; exact q)
    have := hab x.id e x.id (List.mem_cons_self ..)
    omega
  have low : ∀ i ∈ x.rests, (i ∈ falls (a ++ x :: b) l ↔ i ∈ a.foldl (stepS l) []) := by
    intro i hi
    have lt := (w.rest x hx i hi).2
    rw [falls_eq, List.foldl_append]
    refine fold_low l (x :: b) _ fun y hy => ?_
    rcases List.mem_cons.mp hy with q | q
    · rw [q]; exact lt
    · have := hb y q
      omega
  rw [falls_eq, List.foldl_append, List.foldl_cons]
  have key : x.id ∈ b.foldl (stepS l) (stepS l (a.foldl (stepS l) []) x) ↔ x.id ∈ stepS l (a.foldl (stepS l) []) x := fold_low l b _ hb
  rw [key]
  have eq : (x.id ∈ stepS l (a.foldl (stepS l) []) x) ↔ (l.contains x.id || x.rests.any (fun i => (a.foldl (stepS l) []).contains i)) = true := by
    unfold stepS
    split
    · rename_i c
      exact ⟨fun _ => c, fun _ => List.mem_append_right _ (List.mem_cons_self ..)⟩
    · rename_i c
      exact ⟨fun q => absurd q na, fun q => absurd q c⟩
  rw [eq, Bool.or_eq_true, List.contains_iff_mem, any_mem]
  constructor
  · rintro (q | ⟨i, hi, q⟩)
    · exact .inl q
    · refine .inr ⟨i, hi, ?_⟩
      have := (low i hi).mpr q
      rw [falls_eq, List.foldl_append, List.foldl_cons] at this
      exact this
  · rintro (q | ⟨i, hi, q⟩)
    · exact .inl q
    · refine .inr ⟨i, hi, ?_⟩
      refine (low i hi).mp ?_
      rw [falls_eq, List.foldl_append, List.foldl_cons]
      exact q
/-- the same pieces fall, seen in a part that holds what each of its pieces rests on -/
theorem falls_part {h g : House} (wh : Wf h) (wg : Wf g) (sub : ∀ x ∈ g, x ∈ h) (l : List Nat) : ∀ (n : Nat) (x : Piece), x ∈ g → x.id < n → (x.id ∈ falls g l ↔ x.id ∈ falls h l)
  | 0, _, _, h => absurd h (Nat.not_lt_zero _)
  | n + 1, x, hx, lt => by
    rw [falls_iff wg hx, falls_iff wh (sub x hx)]
    have ih : ∀ i ∈ x.rests, (i ∈ falls g l ↔ i ∈ falls h l) := by
      intro i hi
      obtain ⟨r1, r2⟩ := wg.rest x hx i hi
      obtain ⟨y, hy, rfl⟩ := mem_ids.mp r1
      exact falls_part wh wg sub l n y hy (by omega)
    constructor
    · rintro (q | ⟨i, hi, q⟩)
      · exact .inl q
      · exact .inr ⟨i, hi, (ih i hi).mp q⟩
    · rintro (q | ⟨i, hi, q⟩)
      · exact .inl q
      · exact .inr ⟨i, hi, (ih i hi).mpr q⟩
theorem taken_part {h g : House} (wh : Wf h) (wg : Wf g) (sub : ∀ x ∈ g, x ∈ h) (k : Nat) : taken g k = g.filter fun x => !(falls h [k]).contains x.id := by
  unfold taken without
  refine List.filter_congr fun x hx => ?_
  congr 1
  rw [Bool.eq_iff_iff, List.contains_iff_mem, List.contains_iff_mem]
  exact falls_part wh wg sub [k] (x.id + 1) x hx (Nat.lt_succ_self _)

/-! ### the least number that is none of some -/
theorem least_spec (l : List Nat) : least l ∉ l ∧ ∀ k, k < least l → k ∈ l := by
  unfold least
  cases e : (List.range (l.length + 1)).find? fun n => !(l.contains n) with
  | none =>
    exfalso
    rw [List.find?_eq_none] at e
    have all : ∀ n ∈ List.range (l.length + 1), n ∈ l := by
      intro n hn
      have := e n hn
      cases q : l.contains n with
      | true => exact List.contains_iff_mem.mp q
      | false => rw [q] at this; exact absurd rfl this
    have := nodup_len (List.nodup_range (n := l.length + 1)) all
    rw [List.length_range] at this
    omega
  | some n =>
    have h1 := List.find?_some e
    refine ⟨fun q => ?_, fun k hk => ?_⟩
    · have : l.contains n = true := List.contains_iff_mem.mpr q
      have h1 : (!l.contains n) = true := h1
      rw [this] at h1
      cases h1
    · have hk : k < n := hk
      rw [List.find?_range_eq_some] at e
      have := e.2.2 k hk
      cases q : l.contains k with
      | true => exact List.contains_iff_mem.mp q
      | false => rw [q] at this; exact absurd this (by simp)
theorem least_eq {l : List Nat} {n : Nat} (h1 : n ∉ l) (h2 : ∀ k, k < n → k ∈ l) : least l = n := by
  obtain ⟨q1, q2⟩ := least_spec l
  rcases Nat.lt_trichotomy (least l) n with h | h | h
  · exact absurd (h2 _ h) q1
  · exact h
  · exact absurd (q2 _ h) h1

/-! ### what a house is worth, by what one take leaves -/
theorem self_falls {h : House} (w : Wf h) {i : Nat} (hi : i ∈ ids h) : i ∈ falls h [i] := by
  obtain ⟨x, hx, rfl⟩ := mem_ids.mp hi
  exact (falls_iff w hx).mpr (.inl (List.mem_cons_self ..))
theorem taken_len {h : House} (w : Wf h) {i : Nat} (hi : i ∈ ids h) : (taken h i).length < h.length := by
  obtain ⟨x, hx, rfl⟩ := mem_ids.mp hi
  have q := self_falls w hi
  unfold taken without
  rcases Nat.lt_or_ge (h.filter fun y => !(falls h [x.id]).contains y.id).length h.length with z | z
  · exact z
  · exfalso
    have e : (h.filter fun y => !(falls h [x.id]).contains y.id) = h := (List.filter_sublist ..).eq_of_length_le z
    have hx' := hx
    rw [← e] at hx'
    have := (List.mem_filter.mp hx').2
    rw [List.contains_iff_mem.mpr q] at this
    cases this
def valN : Nat → House → Nat
  | 0, _ => 0
  | n + 1, h => least ((ids h).map fun i => valN n (taken h i))
def val (h : House) : Nat := valN h.length h
theorem least_nil : least [] = 0 := rfl
theorem valN_eq : ∀ (n : Nat) {h : House}, Wf h → h.length ≤ n → valN n h = val h := by
  have go : ∀ (n m : Nat) {h : House}, Wf h → h.length ≤ n → h.length ≤ m → valN n h = valN m h := by
    intro n
    induction n with
    | zero =>
      intro m h w hn hm
      have e : h = [] := List.length_eq_zero_iff.mp (by omega)
      subst e
      cases m with
      | zero => rfl
      | succ m => rfl
    | succ n ih =>
      intro m h w hn hm
      cases m with
      | zero =>
        have e : h = [] := List.length_eq_zero_iff.mp (by omega)
        subst e
        rfl
      | succ m =>
        show least ((ids h).map fun i => valN n (taken h i)) = least ((ids h).map fun i => valN m (taken h i))
        congr 1
        refine List.map_congr_left fun i hi => ?_
        have := taken_len w hi
        exact ih m (taken_wf w i) (by omega) (by omega)
  intro n h w hn
  exact go n h.length w hn (Nat.le_refl _)
theorem val_eq {h : House} (w : Wf h) : val h = least ((ids h).map fun i => val (taken h i)) := by
  rw [← valN_eq (h.length + 1) w (Nat.le_succ _)]
  show least ((ids h).map fun i => valN h.length (taken h i)) = _
  congr 1
  refine List.map_congr_left fun i hi => ?_
  have := taken_len w hi
  exact valN_eq _ (taken_wf w i) (by omega)

/-! ### the pieces of a mask -/
def sub (h : House) (m : Nat) : House := h.filter fun x => m.testBit (place h x.id)
theorem sub_mem {h : House} {m : Nat} {x : Piece} : x ∈ sub h m ↔ x ∈ h ∧ m.testBit (place h x.id) = true := List.mem_filter
theorem fu_bit (h : House) (c : Nat) : (fu h).testBit c = decide (c < h.length) := by
  unfold fu
  rw [Nat.testBit_two_pow_sub_one]
theorem sub_full (h : House) : sub h (fu h) = h := by
  unfold sub
  refine List.filter_eq_self.mpr fun x hx => ?_
  rw [fu_bit]
  exact decide_eq_true (place_lt (mem_ids.mpr ⟨x, hx, rfl⟩))
theorem range_places {h : House} (nd : (ids h).Nodup) : (ids h).map (place h) = List.range h.length := by
  refine List.ext_getElem? fun c => ?_
  rw [List.getElem?_map, ids_get]
  by_cases hc : c < h.length
  · rw [List.getElem?_eq_getElem hc, List.getElem?_range hc]
    show some (place h h[c].id) = some c
    rw [place_of nd (List.getElem?_eq_getElem hc)]
  · rw [List.getElem?_eq_none (by omega), List.getElem?_eq_none (by rw [List.length_range]; omega)]
    rfl
/-- the places of a mask's pieces -/
theorem sub_places {h : House} (nd : (ids h).Nodup) (m : Nat) : (ids (sub h m)).map (place h) = (List.range h.length).filter fun c => m.testBit c := by
  rw [← range_places nd, List.filter_map]
  unfold sub ids
  rw [List.filter_map]
  rfl
/-- what a take leaves of a mask -/
def leftM (h : House) (m : Nat) (k : Nat) : Nat := mask ((List.range h.length).filter fun d => m.testBit d && (match h[d]? with
  | some y => !(falls h [k]).contains y.id
  | none => false))
theorem foldl_mask (p : Nat → Bool) : ∀ (l : List Nat) (a : Nat), l.foldl (fun a d => if p d = true then a + 2 ^ d else a) a = a + mask (l.filter p)
  | [], a => by simp [mask]
  | d :: l, a => by
    rw [List.foldl_cons, foldl_mask p l, List.filter_cons]
    split
    · rw [mask_cons]
      omega
    · rfl
theorem left_eq {h : House} {m c : Nat} {x : Piece} (hx : h[c]? = some x) : left_ h m c = leftM h m x.id := by
  unfold left_ leftM
  rw [hx]
  show (List.range h.length).foldl _ 0 = _
  rw [← Nat.zero_add (mask _), ← foldl_mask]
  congr 1
  funext a d
  cases h[d]? with
  | none => simp
  | some y => simp
theorem leftM_bit (h : House) (m k d : Nat) : (leftM h m k).testBit d = (decide (d < h.length) && (m.testBit d && (match h[d]? with
  | some y => !(falls h [k]).contains y.id
  | none => false))) := by
  unfold leftM
  rw [mask_bit (List.Pairwise.sublist (List.filter_sublist ..) List.nodup_range)]
  rw [Bool.eq_iff_iff, decide_eq_true_eq, List.mem_filter, List.mem_range, Bool.and_eq_true, Bool.and_eq_true, Bool.and_eq_true, decide_eq_true_eq]
theorem leftM_lt {h : House} (w : Wf h) {m k : Nat} (hk : k ∈ ids h) (hb : m.testBit (place h k) = true) : leftM h m k < m := by
  have le : leftM h m k &&& m = leftM h m k := by
    refine Nat.eq_of_testBit_eq fun d => ?_
    rw [Nat.testBit_and, leftM_bit]
    cases m.testBit d <;> simp
  have le2 : leftM h m k ≤ m := by
    rw [← le]
    exact Nat.and_le_right
  refine Nat.lt_of_le_of_ne le2 fun e => ?_
  have q := leftM_bit h m k (place h k)
  obtain ⟨x, hx, ex⟩ := place_get hk
  rw [e, hb, hx] at q
  have : (falls h [k]).contains x.id = true := by rw [ex]; exact List.contains_iff_mem.mpr (self_falls w hk)
  simp only [this] at q
  simp at q
theorem sub_left {h : House} (w : Wf h) {m : Nat} (ws : Wf (sub h m)) (k : Nat) : sub h (leftM h m k) = taken (sub h m) k := by
  rw [taken_part w ws (fun x hx => (sub_mem.mp hx).1) k]
  unfold sub
  rw [List.filter_filter]
  refine List.filter_congr fun x hx => ?_
  have hi : x.id ∈ ids h := mem_ids.mpr ⟨x, hx, rfl⟩
  obtain ⟨y, hy, ey⟩ := place_get hi
  rw [leftM_bit, hy, decide_eq_true (place_lt hi), Bool.true_and, Bool.and_comm, ← ey]
/-! ### the specification's table -/
def gW (h : House) (t : List Nat) (m : Nat) : Nat := least (((List.range h.length).filter fun (c : Nat) => m.testBit c).map fun (c : Nat) => t.getD (left_ h m c) 0)
theorem worths_list (h : House) : (worths h).toList = table (gW h) (2 ^ h.length) := by
  unfold worths table
  have go : ∀ (l : List Nat) (t : Array Nat), (l.foldl (fun (t : Array Nat) (m : Nat) => t.push (least (((List.range h.length).filter fun (c : Nat) => m.testBit c).map fun (c : Nat) => t.getD (left_ h m c) 0))) t).toList = l.foldl (fun t i => t ++ [gW h t i]) t.toList := by
    intro l
    induction l with
    | nil => intro t; rfl
    | cons m l ih =>
      intro t
      rw [List.foldl_cons, List.foldl_cons, ih, Array.toList_push]
      congr 3
      unfold gW
      congr 1
      refine List.map_congr_left fun c _ => ?_
      rw [Array.getD_eq_getD_getElem?, List.getD_eq_getElem?_getD, Array.getElem?_toList]
  exact go _ #[]
def wat (h : House) (m : Nat) : Nat := (table (gW h) (2 ^ h.length)).getD m 0
theorem worth_wat (h : House) : worth h = wat h (fu h) := by
  unfold worth wat
  rw [← worths_list, Array.getD_eq_getD_getElem?, List.getD_eq_getElem?_getD, Array.getElem?_toList]
  rfl
theorem wat_eq {h : House} (w : Wf h) {m : Nat} (hm : m < 2 ^ h.length) : wat h m = least ((ids (sub h m)).map fun i => wat h (leftM h m i)) := by
  unfold wat
  conv => lhs; rw [List.getD_eq_getElem?_getD, table_get _ _ _ hm]
  show gW h (table (gW h) m) m = _
  unfold gW
  congr 1
  rw [← sub_places w.nd m, List.map_map]
  refine List.map_congr_left fun i hi => ?_
  obtain ⟨x, hx, rfl⟩ := mem_ids.mp hi
  obtain ⟨hx1, hx2⟩ := sub_mem.mp hx
  have hi' : x.id ∈ ids h := mem_ids.mpr ⟨x, hx1, rfl⟩
  obtain ⟨y, hy, ey⟩ := place_get hi'
  show (table (gW h) m).getD (left_ h m (place h x.id)) 0 = _
  rw [left_eq hy, ey]
  exact table_pre _ (leftM_lt w hi' hx2) (Nat.le_of_lt hm)
theorem wat_val {h : House} (w : Wf h) : ∀ (n m : Nat), m < n → m < 2 ^ h.length → Wf (sub h m) → wat h m = val (sub h m)
  | 0, _, h, _, _ => absurd h (Nat.not_lt_zero _)
  | n + 1, m, hmn, hm, ws => by
    rw [wat_eq w hm, val_eq ws]
    congr 1
    refine List.map_congr_left fun i hi => ?_
    obtain ⟨x, hx, rfl⟩ := mem_ids.mp hi
    obtain ⟨hx1, hx2⟩ := sub_mem.mp hx
    have hi' : x.id ∈ ids h := mem_ids.mpr ⟨x, hx1, rfl⟩
    have lt := leftM_lt w hi' hx2
    have es := sub_left w ws x.id
    have ws' : Wf (sub h (leftM h m x.id)) := by rw [es]; exact taken_wf ws x.id
    rw [wat_val w n (leftM h m x.id) (by omega) (by omega) ws', es]
theorem worth_val {h : House} (w : Wf h) : worth h = val h := by
  rw [worth_wat, wat_val w (fu h + 1) (fu h) (Nat.lt_succ_self _) (fu_lt h) (by rw [sub_full]; exact w), sub_full]
theorem winning_val {h : House} (w : Wf h) : winning h = (ids h).find? fun i => val (taken h i) == 0 := by
  unfold winning
  congr 1
  funext i
  rw [worth_val (taken_wf w i)]
/-- the piece that a winning take names, by the whole house's own table -/
theorem taken_wat {h : House} (w : Wf h) {i : Nat} : val (taken h i) = wat h (leftM h (fu h) i) := by
  have es := sub_left (m := fu h) w (by rw [sub_full]; exact w) i
  rw [sub_full] at es
  have lt : leftM h (fu h) i < 2 ^ h.length := by
    refine Nat.lt_of_le_of_lt ?_ (fu_lt h)
    have le : leftM h (fu h) i &&& fu h = leftM h (fu h) i := by
      refine Nat.eq_of_testBit_eq fun d => ?_
      rw [Nat.testBit_and, leftM_bit]
      cases (fu h).testBit d <;> simp
    rw [← le]
    exact Nat.and_le_right
  rw [wat_val w _ _ (Nat.lt_succ_self _) lt (by rw [es]; exact taken_wf w i), es]
end HM

/-! ## HM7 -/
namespace HM
open Mu56

/-! ### the greatest of some -/
theorem most_from : ∀ (l : List Nat) (a : Nat), l.foldl (fun (a b : Nat) => max a b) a = max a (most l)
  | [], a => by show a = max a 0; omega
  | x :: l, a => by
    unfold most
    rw [List.foldl_cons, List.foldl_cons, most_from l (max a x), most_from l (max 0 x)]
    omega
theorem most_cons (x : Nat) (l : List Nat) : most (x :: l) = max x (most l) := by
  unfold most
  rw [List.foldl_cons, most_from l (max 0 x)]
  unfold most
  omega
theorem most_nil : most [] = 0 := rfl
theorem most_append (a b : List Nat) : most (a ++ b) = max (most a) (most b) := by
  induction a with
  | nil => rw [List.nil_append, most_nil]; omega
  | cons x a ih => rw [List.cons_append, most_cons, most_cons, ih]; omega
theorem most_le {l : List Nat} {n : Nat} : most l ≤ n ↔ ∀ x ∈ l, x ≤ n := by
  induction l with
  | nil => simp [most]
  | cons a l ih =>
    rw [most_cons]
    constructor
    · intro h x hx
      rcases List.mem_cons.mp hx with q | q
      · omega
      · exact ih.mp (by omega) x q
    · intro h
      have h1 := h a (List.mem_cons_self ..)
      have h2 := ih.mpr fun x hx => h x (List.mem_cons_of_mem _ hx)
      omega
theorem le_most {l : List Nat} {x : Nat} (h : x ∈ l) : x ≤ most l := most_le.mp (Nat.le_refl _) x h
theorem most_same {a b : List Nat} (h : ∀ x, x ∈ a ↔ x ∈ b) : most a = most b := by
  apply Nat.le_antisymm
  · exact most_le.mpr fun x hx => le_most ((h x).mp hx)
  · exact most_le.mpr fun x hx => le_most ((h x).mpr hx)
/-! ### how high -/
def stepH (m : List (Nat × Nat)) (x : Piece) : List (Nat × Nat) := m ++ [(x.id, most ((m.filter fun (y : Nat × Nat) => x.rests.contains y.1).map fun (y : Nat × Nat) => y.2) + 1)]
theorem heights_eq (h : House) : heights h = h.foldl stepH [] := rfl
theorem heights_snoc (h : House) (x : Piece) : heights (h ++ [x]) = stepH (heights h) x := by
  rw [heights_eq, List.foldl_append]
  rfl
/-- the height of a number in a list of heights -/
def htOf (m : List (Nat × Nat)) (i : Nat) : Nat := most ((m.filter fun (y : Nat × Nat) => y.1 == i).map fun (y : Nat × Nat) => y.2)
theorem htOf_snoc (m : List (Nat × Nat)) (p : Nat × Nat) (i : Nat) : htOf (m ++ [p]) i = if p.1 = i then max (htOf m i) p.2 else htOf m i := by
  unfold htOf
  rw [List.filter_append, List.map_append, most_append, List.filter_cons]
  by_cases e : p.1 = i
  · rw [if_pos e, if_pos (by simp [e])]
    show max _ (most [p.2]) = _
    rw [most_cons, most_nil]
    omega
  · rw [if_neg e, if_neg (by simp [e])]
    show max _ (most []) = _
    rw [most_nil]
    omega
theorem htOf_none {m : List (Nat × Nat)} {i : Nat} (h : ∀ y ∈ m, y.1 ≠ i) : htOf m i = 0 := by
  unfold htOf
  rw [List.filter_eq_nil_iff.mpr]
  · rfl
  · intro y hy q
    exact h y hy (by simpa using q)
theorem most_pick (m : List (Nat × Nat)) (l : List Nat) : most ((m.filter fun (y : Nat × Nat) => l.contains y.1).map fun (y : Nat × Nat) => y.2) = most (l.map (htOf m)) := by
  apply Nat.le_antisymm
  · refine most_le.mpr fun x hx => ?_
    obtain ⟨y, hy, rfl⟩ := List.mem_map.mp hx
    obtain ⟨h1, h2⟩ := List.mem_filter.mp hy
    have h3 : htOf m y.1 ≤ most (l.map (htOf m)) := le_most (List.mem_map.mpr ⟨y.1, List.contains_iff_mem.mp h2, rfl⟩)
    refine Nat.le_trans ?_ h3
    exact le_most (List.mem_map.mpr ⟨y, List.mem_filter.mpr ⟨h1, by simp⟩, rfl⟩)
  · refine most_le.mpr fun x hx => ?_
    obtain ⟨i, hi, rfl⟩ := List.mem_map.mp hx
    refine most_le.mpr fun z hz => ?_
    obtain ⟨y, hy, rfl⟩ := List.mem_map.mp hz
    obtain ⟨h1, h2⟩ := List.mem_filter.mp hy
    have e : y.1 = i := by simpa using h2
    exact le_most (List.mem_map.mpr ⟨y, List.mem_filter.mpr ⟨h1, List.contains_iff_mem.mpr (e ▸ hi)⟩, rfl⟩)
theorem heights_ids : ∀ (h : House) (m : List (Nat × Nat)), (h.foldl stepH m).map (·.1) = m.map (·.1) ++ ids h
  | [], m => by simp [ids]
  | x :: h, m => by
    rw [List.foldl_cons, heights_ids h]
    unfold stepH
    rw [List.map_append, ids_cons, List.append_assoc]
    rfl
/-- one piece more: the others stand as they did -/
theorem height_old (h : House) (x : Piece) {i : Nat} (hi : i ≠ x.id) : heightOf (h ++ [x]) i = heightOf h i := by
  show htOf (heights (h ++ [x])) i = htOf (heights h) i
  rw [heights_snoc]
  unfold stepH
  rw [htOf_snoc, if_neg (fun e => hi e.symm)]
theorem height_new {h : House} {x : Piece} (nin : x.id ∉ ids h) : heightOf (h ++ [x]) x.id = most (x.rests.map (heightOf h)) + 1 := by
  show htOf (heights (h ++ [x])) x.id = most (x.rests.map (htOf (heights h))) + 1
  rw [heights_snoc]
  unfold stepH
  rw [htOf_snoc, if_pos rfl, most_pick, htOf_none]
  · omega
  · intro y hy e
    refine nin ?_
    have := heights_ids h []
    rw [← heights_eq, List.map_nil, List.nil_append] at this
    rw [← this, ← e]
    exact List.mem_map.mpr ⟨y, hy, rfl⟩
theorem high_snoc (h : House) (x : Piece) (nin : x.id ∉ ids h) : high (h ++ [x]) = max (high h) (heightOf (h ++ [x]) x.id) := by
  rw [height_new nin]
  unfold high
  rw [heights_snoc]
  unfold stepH
  rw [List.map_append, most_append, most_pick]
  show max _ (most [most (x.rests.map (htOf (heights h))) + 1]) = _
  rw [most_cons, most_nil]
  show max _ (max _ 0) = max _ (most (x.rests.map (htOf (heights h))) + 1)
  omega
theorem high_eq : ∀ (n : Nat) {h : House}, h.length = n → (ids h).Nodup → high h = most ((ids h).map (heightOf h))
  | 0, h, e, _ => by
    have e : h = [] := List.length_eq_zero_iff.mp e
    subst e
    rfl
  | n + 1, h, e, nd => by
    obtain ⟨g, x, rfl⟩ : ∃ g x, h = g ++ [x] := ⟨h.dropLast, h.getLast (by intro z; rw [z] at e; cases e), (List.dropLast_concat_getLast _).symm⟩
    rw [ids_append] at nd
    have nin : x.id ∉ ids g := fun q => (List.nodup_append.mp nd).2.2 _ q _ (List.mem_cons_self ..) rfl
    have ng : (ids g).Nodup := (List.nodup_append.mp nd).1
    rw [high_snoc g x nin, ids_append, List.map_append, most_append, high_eq n (by rw [List.length_append] at e; exact Nat.succ.inj e) ng]
    have e1 : (ids g).map (heightOf (g ++ [x])) = (ids g).map (heightOf g) := List.map_congr_left fun i hi => height_old g x (fun z => nin (z ▸ hi))
    rw [e1]
    show _ = max _ (most [heightOf (g ++ [x]) x.id])
    rw [most_cons, most_nil]
    omega
/-- a part's heights stay when the rest comes -/
theorem height_pre : ∀ (b a : House) {i : Nat}, (ids (a ++ b)).Nodup → i ∈ ids a → heightOf (a ++ b) i = heightOf a i
  | [], a, i, _, _ => by rw [List.append_nil]
  | x :: b, a, i, nd, hi => by
    have e : a ++ x :: b = (a ++ [x]) ++ b := by rw [List.append_assoc]; rfl
    rw [e] at nd ⊢
    have hi' : i ∈ ids (a ++ [x]) := by rw [ids_append]; exact List.mem_append_left _ hi
    rw [height_pre b (a ++ [x]) nd hi', height_old]
    intro z
    rw [ids_append, ids_append] at nd
    have := (List.nodup_append.mp (List.nodup_append.mp nd).1).2.2 i hi x.id (List.mem_cons_self ..)
    exact this z
theorem height_eq {h : House} (w : Wf h) {x : Piece} (hx : x ∈ h) : heightOf h x.id = most (x.rests.map (heightOf h)) + 1 := by
  obtain ⟨a, b, rfl⟩ := List.append_of_mem hx
  have nd := w.nd
  have rs := w.rise
  rw [ids_append, ids_cons, List.pairwise_append] at rs
  obtain ⟨_, rb, hab⟩ := rs
  obtain ⟨rb1, _⟩ := List.pairwise_cons.mp rb
  have e : a ++ x :: b = (a ++ [x]) ++ b := by rw [List.append_assoc]; rfl
  have nin : x.id ∉ ids a := fun q => Nat.lt_irrefl _ (hab x.id q x.id (List.mem_cons_self ..))
  have hi : x.id ∈ ids (a ++ [x]) := by rw [ids_append]; exact List.mem_append_right _ (List.mem_cons_self ..)
  have nd2 : (ids ((a ++ [x]) ++ b)).Nodup := by rw [← e]; exact nd
  have early : ∀ i ∈ x.rests, i ∈ ids a := by
    intro i hi
    obtain ⟨r1, r2⟩ := w.rest x hx i hi
    rw [ids_append, ids_cons] at r1
    rcases List.mem_append.mp r1 with q | q
    · exact q
    · rcases List.mem_cons.mp q with q | q
      · omega
      · have := rb1 i q
        omega
  have e1 : heightOf (a ++ x :: b) x.id = heightOf (a ++ [x]) x.id := by rw [e]; exact height_pre b _ nd2 hi
  rw [e1, height_new nin]
  congr 2
  refine List.map_congr_left fun i hi => ?_
  have := height_pre (x :: b) a nd (early i hi)
  exact this.symm
/-! ### cards and storeys -/
theorem cardsFor_succ (n : Nat) : cardsFor (n + 1) = cardsFor n + (3 * n + 2) := by
  unfold cardsFor
  have e : (n + 1) * (3 * (n + 1) + 1) = n * (3 * n + 1) + 2 * (3 * n + 2) := by
    simp only [Nat.mul_add, Nat.add_mul, Nat.one_mul, Nat.mul_one]
    omega
  rw [e, Nat.add_mul_div_left _ _ (by decide)]
theorem cardsFor_zero : cardsFor 0 = 0 := rfl
theorem cardsFor_mono {a b : Nat} (h : a ≤ b) : cardsFor a ≤ cardsFor b := by
  induction b with
  | zero =>
    have : a = 0 := by omega
    subst this
    exact Nat.le_refl _
  | succ b ih =>
    rcases Nat.lt_or_ge a (b + 1) with q | q
    · rw [cardsFor_succ]
      have := ih (by omega)
      omega
    · have : a = b + 1 := by omega
      subst this
      exact Nat.le_refl _
theorem cardsFor_ge (n : Nat) : n ≤ cardsFor n := by
  induction n with
  | zero => exact Nat.zero_le _
  | succ n ih => rw [cardsFor_succ]; omega
theorem storeysOf_eq {c n : Nat} (h1 : cardsFor n ≤ c) (h2 : c < cardsFor (n + 1)) : storeysOf c = n := by
  unfold storeysOf
  have hn : n < c + 1 := by have := cardsFor_ge n; omega
  have e : (List.range (c + 1)).filter (fun k => decide (cardsFor k ≤ c)) = List.range (n + 1) := by
    have split : List.range (c + 1) = List.range (n + 1) ++ (List.range (c - n)).map (fun x => n + 1 + x) := by
      have : c + 1 = n + 1 + (c - n) := by omega
      rw [this, List.range_add]
    rw [split, List.filter_append, List.filter_eq_self.mpr, List.filter_eq_nil_iff.mpr, List.append_nil]
    · intro k hk q
      obtain ⟨x, _, rfl⟩ := List.mem_map.mp hk
      have q : cardsFor (n + 1 + x) ≤ c := by simpa using q
      have := cardsFor_mono (show n + 1 ≤ n + 1 + x by omega)
      omega
    · intro k hk
      have hk := List.mem_range.mp hk
      have := cardsFor_mono (show k ≤ n by omega)
      exact decide_eq_true (by omega)
  rw [e, List.range_succ, List.getLastD_concat]
end HM

/-! ## HM8 -/
namespace HM
open Mu56

/-! ### the bits of what falls with a piece -/
def fallM (h : House) (i : Nat) : Nat := mask ((falls h [i]).map (place h))
def fmarkAt (h : House) (c : Nat) : Nat × Nat := (2 ^ c, ((h[c]?).map fun x => fallM h x.id).getD 0)
def fmarksOf (h : House) : List (Nat × Nat) := (List.range h.length).map (fmarkAt h)
theorem fmarksOf_len (h : House) : (fmarksOf h).length = h.length := by unfold fmarksOf; rw [List.length_map, List.length_range]
theorem fmark_get {h : House} {c : Nat} {x : Piece} (hx : h[c]? = some x) : (fmarksOf h)[c]? = some (2 ^ c, fallM h x.id) := by
  unfold fmarksOf
  rw [List.getElem?_map, List.getElem?_range (List.getElem?_eq_some_iff.mp hx).1]
  unfold fmarkAt
  rw [Option.map_some, hx]
  rfl
theorem falls_nodup {h : House} (w : Wf h) (l : List Nat) : (falls h l).Nodup := by
  rw [falls_filter w.nd]
  exact List.Pairwise.sublist (List.filter_sublist ..) w.nd
theorem fallM_bit {h : House} (w : Wf h) (i d : Nat) : (fallM h i).testBit d = (match h[d]? with
  | some y => (falls h [i]).contains y.id
  | none => false) := by
  unfold fallM
  rw [mask_bit (places_nodup (falls_nodup w [i]) fun j hj => falls_sub w.nd hj)]
  cases e : h[d]? with
  | none =>
    refine decide_eq_false fun q => ?_
    obtain ⟨j, hj, rfl⟩ := List.mem_map.mp q
    obtain ⟨x, hx, _⟩ := place_get (falls_sub w.nd hj)
    rw [e] at hx
    cases hx
  | some y =>
    show _ = (falls h [i]).contains y.id
    rw [Bool.eq_iff_iff, decide_eq_true_eq, List.contains_iff_mem, List.mem_map]
    constructor
    · rintro ⟨j, hj, rfl⟩
      obtain ⟨x, hx, ex⟩ := place_get (falls_sub w.nd hj)
      rw [e] at hx
      cases hx
      rw [ex]
      exact hj
    · intro q
      exact ⟨y.id, q, place_of w.nd e⟩
theorem bit_low {m n d : Nat} (hm : m < 2 ^ n) (h : m.testBit d = true) : d < n := by
  rcases Nat.lt_or_ge d n with q | q
  · exact q
  · rw [Nat.testBit_lt_two_pow (Nat.lt_of_lt_of_le hm (Nat.pow_le_pow_right (by decide) q))] at h
    cases h
theorem leftM_and {h : House} (w : Wf h) {m : Nat} (hm : m < 2 ^ h.length) (i d : Nat) : (leftM h m i).testBit d = (m.testBit d && !(fallM h i).testBit d) := by
  rw [leftM_bit, fallM_bit w]
  cases e : m.testBit d with
  | false => rw [Bool.false_and, Bool.false_and, Bool.and_false]
  | true =>
    have lt := bit_low hm e
    rw [decide_eq_true lt, List.getElem?_eq_getElem lt, Bool.true_and]
theorem left_add {h : House} (w : Wf h) {m : Nat} (hm : m < 2 ^ h.length) (i : Nat) : leftM h m i + (m &&& fallM h i) = m := by
  rw [add_or]
  · refine Nat.eq_of_testBit_eq fun d => ?_
    rw [Nat.testBit_or, Nat.testBit_and, leftM_and w hm]
    cases m.testBit d <;> cases (fallM h i).testBit d <;> rfl
  · refine Nat.eq_of_testBit_eq fun d => ?_
    rw [Nat.testBit_and, Nat.testBit_and, leftM_and w hm, Nat.zero_testBit]
    cases m.testBit d <;> cases (fallM h i).testBit d <;> rfl
theorem left_sub {h : House} (w : Wf h) {m : Nat} (hm : m < 2 ^ h.length) (i : Nat) : (m : Int) - ((m &&& fallM h i : Nat) : Int) = ((leftM h m i : Nat) : Int) := by
  have := left_add w hm i
  omega
theorem full_and {h : House} (w : Wf h) (i : Nat) : fu h &&& fallM h i = fallM h i := by
  refine Nat.eq_of_testBit_eq fun d => ?_
  rw [Nat.testBit_and, fu_bit, fallM_bit w]
  by_cases lt : d < h.length
  · rw [decide_eq_true lt, Bool.true_and]
  · rw [List.getElem?_eq_none (by omega)]
    cases decide (d < h.length) <;> rfl
theorem full_sub {h : House} (w : Wf h) (i : Nat) : ((fu h : Nat) : Int) - ((fallM h i : Nat) : Int) = ((leftM h (fu h) i : Nat) : Int) := by
  have := left_sub w (fu_lt h) i
  rw [full_and w] at this
  exact this
/-! ### the table of worths, mark by mark -/
def leftsOf (h : House) (t : List Nat) (m : Nat) : List Nat := ((List.range h.length).filter fun (c : Nat) => m.testBit c).map fun (c : Nat) => t.getD (left_ h m c) 0
theorem gW_lefts (h : House) (t : List Nat) (m : Nat) : gW h t m = least (leftsOf h t m) := rfl
theorem and_own {m c : Nat} : decide (m &&& 2 ^ c ≠ 0) = m.testBit c := by
  cases e : m.testBit c with
  | false => exact decide_eq_false fun q => q ((and_pow m c).mpr e)
  | true => exact decide_eq_true fun q => by rw [(and_pow m c).mp q] at e; cases e
theorem left_lt {h : House} (w : Wf h) {m c : Nat} {x : Piece} (hx : h[c]? = some x) (hb : m.testBit c = true) : leftM h m x.id < m := by
  have hi : x.id ∈ ids h := mem_ids.mpr ⟨x, List.mem_of_getElem? hx, rfl⟩
  exact leftM_lt w hi (by rw [place_of w.nd hx]; exact hb)
theorem leftsOf_len (h : House) (t : List Nat) (m : Nat) : (leftsOf h t m).length ≤ h.length := by
  unfold leftsOf
  rw [List.length_map]
  exact Nat.le_trans (List.length_filter_le ..) (by rw [List.length_range]; exact Nat.le_refl _)
/-! ### the piece that wins -/
theorem winning_wat {h : House} (w : Wf h) : winning h = (ids h).find? fun i => wat h (leftM h (fu h) i) == 0 := by
  rw [winning_val w]
  congr 1
  funext i
  rw [taken_wat w]
theorem left_full_lt {h : House} (w : Wf h) (i : Nat) : leftM h (fu h) i < 2 ^ h.length := by
  have := left_add w (fu_lt h) i
  have := fu_lt h
  omega
theorem wat_get {h : House} {m : Nat} (hm : m < 2 ^ h.length) : (table (gW h) (2 ^ h.length))[m]? = some (wat h m) := by
  unfold wat
  rw [List.getD_eq_getElem?_getD, table_get _ _ _ hm]
  rfl
theorem find_at {l : List Nat} {p : Nat → Bool} {j i : Nat} (hj : l[j]? = some i) (hp : p i = true) (before : ∀ k ∈ l.take j, p k = false) : l.find? p = some i := by
  have lt := (List.getElem?_eq_some_iff.mp hj).1
  have e : l = l.take j ++ i :: l.drop (j + 1) := by
    have hc := (List.getElem?_eq_some_iff.mp hj).2
    conv => lhs; rw [← List.take_append_drop j l, List.drop_eq_getElem_cons lt, hc]
  rw [e, List.find?_append, List.find?_eq_none.mpr fun k hk => by rw [before k hk]; exact Bool.false_ne_true, List.find?_cons, hp]
  rfl
theorem find_none {l : List Nat} {p : Nat → Bool} (before : ∀ k ∈ l, p k = false) : l.find? p = none := List.find?_eq_none.mpr fun k hk => by rw [before k hk]; exact Bool.false_ne_true
theorem ids_len' (h : House) : (ids h).length = h.length := by unfold ids; exact List.length_map ..
/-! ### cards, in whole numbers -/
theorem two_tri (n : Nat) : 2 * (n * (n + 1) / 2) = n * (n + 1) := by
  have h : n * (n + 1) % 2 = 0 := by
    rw [Nat.mul_mod]
    rcases Nat.mod_two_eq_zero_or_one n with q | q
    · rw [q, Nat.zero_mul]
    · rw [Nat.add_mod, q]
  omega
theorem cards_needed_eq (n : Nat) : 2 * (((n : Int) * ((n : Int) + 1)) / 2) + 1 * (((n : Int) * ((n : Int) - 1)) / 2) = ((cardsFor n : Nat) : Int) := by
  cases n with
  | zero => rfl
  | succ k =>
    unfold cardsFor
    have h1 := two_tri (k + 1)
    have h2 := two_tri k
    have e1 : (((k + 1 : Nat) : Int) * (((k + 1 : Nat) : Int) + 1)) = (((k + 1) * (k + 1 + 1) : Nat) : Int) := by rw [Int.natCast_mul]; rfl
    have e2 : (((k + 1 : Nat) : Int) * (((k + 1 : Nat) : Int) - 1)) = ((k * (k + 1) : Nat) : Int) := by
      rw [Int.natCast_mul, Int.mul_comm]
      congr 1
      omega
    rw [e1, e2]
    have e3 : (k + 1) * (3 * (k + 1) + 1) = 2 * ((k + 1) * (k + 1 + 1)) + k * (k + 1) := by
      have e4 : k * (3 * k) = 3 * (k * k) := Nat.mul_left_comm ..
      simp only [Nat.mul_add, Nat.add_mul, Nat.one_mul, Nat.mul_one]
      omega
    rw [e3]
    generalize (k + 1) * (k + 1 + 1) = a at h1 ⊢
    generalize k * (k + 1) = b at h2 ⊢
    omega
end HM

/-! ## B0 -/
namespace LH
open PySem PySem.Spec PyProof.Rows L2
open Mu56 (Piece State House ids falls taken)
/-! ### the text by places -/
def tp (i : Nat) : Stmt := PySem.Challenge.pw_leanhouse_s01_answers.main.body.getD i (.Pass ⟨0, 0, 0, 0⟩)
abbrev sPieceInit : Stmt := inClass (tp 25) 0
abbrev sHouseInit : Stmt := inClass (tp 26) 0
abbrev sAnswers : Stmt := tp 27
abbrev sLength : Stmt := tp 28
abbrev sCall : Stmt := tp 29
abbrev sBegin : Stmt := tp 30
abbrev sPut : Stmt := tp 31
abbrev sStoreyed : Stmt := tp 32
abbrev sWould : Stmt := tp 33
abbrev sTake : Stmt := tp 34
abbrev sFree : Stmt := tp 35
abbrev sOrders : Stmt := tp 36
abbrev sHigh : Stmt := tp 37
abbrev sWorth : Stmt := tp 38
abbrev sPlay : Stmt := tp 39
abbrev sCountCards : Stmt := tp 40
abbrev sCountStoreys : Stmt := tp 41
abbrev sLook : Stmt := tp 42
abbrev sNeeded : Stmt := tp 43
abbrev sSetWorths : Stmt := tp 44
abbrev sLeast : Stmt := tp 45
abbrev sBits : Stmt := tp 46
abbrev sRestMarks : Stmt := tp 47
abbrev sFallMarks : Stmt := tp 48
abbrev sFalling : Stmt := tp 49
abbrev sClear : Stmt := tp 50
abbrev sAdd : Stmt := tp 51
abbrev sStorey : Stmt := tp 52
/-! ### heaps -/
theorem same_new {H : Hp} {p : Addr} {o : HO} (h : H p = none) : Same H (upd H p o) := fun b x e => (upd_ne (ne_of_none e h)).trans e
theorem same_in {H H' : Hp} {p : Addr} {o u : HO} (s : Same H H') (h : H p = none) (e : H' p = some u) : Same H (upd H' p o) := fun b x q => (upd_ne (ne_of_none q h)).trans (s b x q)
theorem Same.seqT {K : PySem.W.Frag} {H H' : Hp} {a : Addr} {xs : List V} (e : Same H H') (h : SqT K H a xs) : SqT K H' a xs := by
  rcases h with (h | ⟨o, h⟩) | h
  · exact .inl (.inl (e _ _ h))
  · exact .inl (.inr ⟨o, e _ _ h⟩)
  · exact .inr h
/-- behind a walk under the lock -/
theorem same_unlock {H H' : Hp} {d : Addr} {od : Obj} {u : HO} (h : H d = some u) (s : Same (upd H d (.frz od u)) H') : Same H (upd H' d u) := fun b x e => by
  by_cases q : b = d
  · subst q
    rw [upd_same]
    exact h.symm.trans e
  · rw [upd_ne q]
    exact s b x ((upd_ne q).trans e)
theorem lock_at {H : Hp} {d b : Addr} {od : Obj} {u o : HO} (h : H d = some u) (e : H b = some o) (n : o ≠ u) : upd H d (.frz od u) b = some o := (upd_ne (ne_of e h n)).trans e
/-! ### fields -/
theorem lkH {k : Str} {v : V} {r : List (Str × V)} : List.lookup k ((k, v) :: r) = some v := by
  have self : (k == k) = true := beq_self_eq_true k
  simp only [List.lookup, self]
theorem lkP {k g : Str} {v : V} {r : List (Str × V)} (h : (k == g) = false) : List.lookup k ((g, v) :: r) = List.lookup k r := by
  simp only [List.lookup, h]
theorem ptH {f : Str} {v x : V} {r : List (Str × V)} : putF f v ((f, x) :: r) = (f, v) :: r := if_pos rfl
theorem ptP {f g : Str} {v x : V} {r : List (Str × V)} (h : ¬ g = f) : putF f v ((g, x) :: r) = (g, x) :: putF f v r := if_neg h
theorem ptN {f : Str} {v : V} : putF f v [] = [(f, v)] := rfl
/-- a house's and a piece's attributes -/
def hF (b : Bool) (d : Addr) (n : Nat) : List (Str × V) := [("begun", .bl b), ("pieces", .ref d), ("coming", .int (n : Int))]
def pF (c : Nat) (r : Addr) : List (Str × V) := [("cards", .int (c : Int)), ("rests", .ref r)]
theorem hF_begun {b : Bool} {d : Addr} {n : Nat} : (hF b d n).lookup ("begun" : Str) = some (.bl b) := lkH
theorem hF_pieces {b : Bool} {d : Addr} {n : Nat} : (hF b d n).lookup ("pieces" : Str) = some (.ref d) := (lkP (by decide +kernel)).trans lkH
theorem hF_coming {b : Bool} {d : Addr} {n : Nat} : (hF b d n).lookup ("coming" : Str) = some (.int (n : Int)) := (lkP (by decide +kernel)).trans ((lkP (by decide +kernel)).trans lkH)
theorem pF_cards {c : Nat} {r : Addr} : (pF c r).lookup ("cards" : Str) = some (.int (c : Int)) := lkH
theorem pF_rests {c : Nat} {r : Addr} : (pF c r).lookup ("rests" : Str) = some (.ref r) := (lkP (by decide +kernel)).trans lkH
theorem hF_setBegun {b b' : Bool} {d : Addr} {n : Nat} : putF "begun" (.bl b') (hF b d n) = hF b' d n := ptH
theorem hF_setPieces {b : Bool} {d d' : Addr} {n : Nat} : putF "pieces" (.ref d') (hF b d n) = hF b d' n := (ptP (by decide +kernel)).trans (congrArg _ ptH)
theorem hF_setComing {b : Bool} {d : Addr} {n n' : Nat} : putF "coming" (.int (n' : Int)) (hF b d n) = hF b d n' := (ptP (by decide +kernel)).trans (congrArg _ ((ptP (by decide +kernel)).trans (congrArg _ ptH)))
/-! ### how a house lies in the heap -/
def nV (i : Nat) : V := .int (i : Int)
def PieceAt (CP : Addr) (H : Hp) (a : Addr) (x : Piece) : Prop := ∃ dx r, H a = some (.ins CP dx (pF x.cards r)) ∧ H r = some (.lst (x.rests.map nV))
def kvOf (ad : Nat → Addr) (x : Piece) : Key × V := (Sum.inl (x.id : Int), .ref (ad x.id))
structure HouseIs (CP CH : Addr) (H : Hp) (ph dx pd : Addr) (ad : Nat → Addr) (b : Bool) (s : State) : Prop where
  ob : H ph = some (.ins CH dx (hF b pd s.next))
  dc : H pd = some (.dK (s.house.map (kvOf ad)))
  pc : ∀ x ∈ s.house, PieceAt CP H (ad x.id) x
def HouseAt (CP CH : Addr) (H : Hp) (ph : Addr) (b : Bool) (s : State) : Prop := ∃ dx pd ad, HouseIs CP CH H ph dx pd ad b s
theorem PieceAt.mono {CP : Addr} {H H' : Hp} {a : Addr} {x : Piece} (p : PieceAt CP H a x) (s : Same H H') : PieceAt CP H' a x := by
  obtain ⟨dx, r, h1, h2⟩ := p
  exact ⟨dx, r, s _ _ h1, s _ _ h2⟩
theorem HouseIs.mono {CP CH : Addr} {H H' : Hp} {ph dx pd : Addr} {ad : Nat → Addr} {b : Bool} {t : State} (p : HouseIs CP CH H ph dx pd ad b t) (s : Same H H') : HouseIs CP CH H' ph dx pd ad b t :=
  ⟨s _ _ p.ob, s _ _ p.dc, fun x hx => (p.pc x hx).mono s⟩
theorem HouseAt.mono {CP CH : Addr} {H H' : Hp} {ph : Addr} {b : Bool} {t : State} (p : HouseAt CP CH H ph b t) (s : Same H H') : HouseAt CP CH H' ph b t := by
  obtain ⟨dx, pd, ad, h⟩ := p
  exact ⟨dx, pd, ad, h.mono s⟩
/-- a house of which no part stands at some places -/
def HouseAv (av : Addr → Prop) (CP CH : Addr) (H : Hp) (ph : Addr) (b : Bool) (t : State) : Prop := ∃ G, Same G H ∧ (∀ a, av a → G a = none) ∧ HouseAt CP CH G ph b t
theorem HouseAv.at {av : Addr → Prop} {CP CH : Addr} {H : Hp} {ph : Addr} {b : Bool} {t : State} (h : HouseAv av CP CH H ph b t) : HouseAt CP CH H ph b t := by
  obtain ⟨G, s, _, g⟩ := h
  exact g.mono s
theorem HouseAv.mono {av : Addr → Prop} {CP CH : Addr} {H H' : Hp} {ph : Addr} {b : Bool} {t : State} (h : HouseAv av CP CH H ph b t) (s : Same H H') : HouseAv av CP CH H' ph b t := by
  obtain ⟨G, s0, n, g⟩ := h
  exact ⟨G, s0.trans s, n, g⟩
theorem HouseAv.but {av : Addr → Prop} {CP CH : Addr} {H H' : Hp} {ph : Addr} {b : Bool} {t : State} (h : HouseAv av CP CH H ph b t) (s : ∀ c o, ¬ av c → H c = some o → H' c = some o) : HouseAv av CP CH H' ph b t := by
  obtain ⟨G, s0, n, g⟩ := h
  exact ⟨G, fun c o e => s c o (fun z => by rw [n c z] at e; cases e) (s0 c o e), n, g⟩
theorem HouseAv.less {av av' : Addr → Prop} {CP CH : Addr} {H : Hp} {ph : Addr} {b : Bool} {t : State} (h : HouseAv av CP CH H ph b t) (s : ∀ a, av' a → av a) : HouseAv av' CP CH H ph b t := by
  obtain ⟨G, s0, n, g⟩ := h
  exact ⟨G, s0, fun a z => n a (s a z), g⟩
/-- a new place is avoided from then on -/
theorem HouseAv.more {av : Addr → Prop} {CP CH : Addr} {H : Hp} {ph l : Addr} {b : Bool} {t : State} {o : HO} (h : HouseAv av CP CH H ph b t) (n : H l = none) : HouseAv (fun a => av a ∨ a = l) CP CH (upd H l o) ph b t := by
  obtain ⟨G, s0, na, g⟩ := h
  exact ⟨G, s0.trans (same_new n), fun a z => z.elim (na a) fun e => by rw [e]; exact s0.free n, g⟩
/-- pieces stand apart from the dict's lock -/
theorem PieceAt.lock {CP : Addr} {H : Hp} {a d : Addr} {x : Piece} {od : Obj} {kvs : List (Key × V)} (p : PieceAt CP H a x) (h : H d = some (.dK kvs)) : PieceAt CP (upd H d (.frz od (.dK kvs))) a x := by
  obtain ⟨dx, r, h1, h2⟩ := p
  exact ⟨dx, r, lock_at h h1 (by intro z; cases z), lock_at h h2 (by intro z; cases z)⟩
/-! ### the keys of the dict -/
theorem val_house {ad : Nat → Addr} (i : Nat) : ∀ (h : House), valV (h.map (kvOf ad)) (Sum.inl (i : Int) : Key) = if i ∈ ids h then some (.ref (ad i)) else none
  | [] => rfl
  | x :: h => by
    rw [List.map_cons, HM.ids_cons]
    by_cases e : x.id = i
    · subst e
      rw [valV_pos (by rfl), if_pos (List.mem_cons_self ..)]
      rfl
    · rw [valV_neg (fun q => e (by have : (Sum.inl (x.id : Int) : Key) = Sum.inl (i : Int) := q; injection this with this; omega)), val_house i h]
      by_cases m : i ∈ ids h
      · rw [if_pos m, if_pos (List.mem_cons_of_mem _ m)]
      · rw [if_neg m, if_neg (by intro q; rcases List.mem_cons.mp q with q | q; exact e q.symm; exact m q)]
/-- an entry of the house's dict as items() hands it out -/
theorem item_at {ad : Nat → Addr} {h : House} {j : Nat} {H H' : Hp} {v : V} (hj : j < (h.map (kvOf ad)).length) (y : YPair (fun i => (h.map (kvOf ad))[i]?.map fun kv => kV kv.1) (fun i => (h.map (kvOf ad))[i]?.map Prod.snd) j H v H') :
    ∃ T x, h[j]? = some x ∧ v = .ref T ∧ H T = none ∧ H' = upd H T (.tup [nV x.id, .ref (ad x.id)]) := by
  obtain ⟨T, x1, y1, h1, h2, h3, e1, e2⟩ := y
  rw [List.length_map] at hj
  have hx : h[j]? = some h[j] := List.getElem?_eq_getElem hj
  have e1 : ((h.map (kvOf ad))[j]?).map (fun kv => kV kv.1) = some x1 := e1
  have e2 : ((h.map (kvOf ad))[j]?).map Prod.snd = some y1 := e2
  rw [List.getElem?_map, hx] at e1 e2
  have e1 : nV h[j].id = x1 := Option.some.inj e1
  have e2 : V.ref (ad h[j].id) = y1 := Option.some.inj e2
  exact ⟨T, h[j], hx, h1, h2, by rw [h3, ← e1, ← e2]⟩
/-! ### small words -/
theorem flat_nV (l : List Nat) : (l.map nV).all flatV = true := by
  rw [List.all_eq_true]
  intro v hv
  obtain ⟨i, _, rfl⟩ := List.mem_map.mp hv
  rfl
theorem in_nV (i : Nat) (l : List Nat) : inV (nV i) (l.map nV) = l.contains i := by
  unfold inV
  rw [List.any_map, Bool.eq_iff_iff, List.any_eq_true, List.contains_iff_mem]
  constructor
  · rintro ⟨j, hj, e⟩
    have e1 : decide (((j : Nat) : Int) = ((i : Nat) : Int)) = true := e
    have e2 : j = i := by have := of_decide_eq_true e1; omega
    exact e2 ▸ hj
  · intro h
    refine ⟨i, h, ?_⟩
    show decide (((i : Nat) : Int) = ((i : Nat) : Int)) = true
    exact decide_eq_true rfl
theorem get_nV {l : List Nat} {c : Nat} {y : V} (h : (l.map nV)[c]? = some y) : ∃ i, l[c]? = some i ∧ y = nV i := by
  rw [List.getElem?_map] at h
  cases e : l[c]? with
  | none => rw [e] at h; cases h
  | some i => rw [e] at h; exact ⟨i, rfl, (Option.some.inj h).symm⟩
theorem take_one {α : Type} {l : List α} {c : Nat} {x : α} (h : l[c]? = some x) : l.take (c + 1) = l.take c ++ [x] := by
  rw [List.take_add_one, h]
  rfl
theorem size_le7 {n : Nat} (h : n ≤ 10000000) : n < sizeLine := Nat.lt_of_le_of_lt h (by decide)
theorem size_le {n : Nat} (h : n ≤ 100000) : n < sizeLine := Nat.lt_of_le_of_lt h (by decide)
/-! ### what the top has written -/
def Gi (mg : Str → Option Value) (x : Str) (i : Int) : Prop := ∃ t, mg x = some (.int i t)
theorem pe_gi {X : Cx} {x : Str} {i : Int} {pos : Pos} (hg : Gl X x) (h : Gi X.mg x i) (hd : (x == ("__debug__" : Str)) = false := by decide) : PE X (.Name x pos) (tC (.int i)) := by
  obtain ⟨tk, ek⟩ := h
  exact pe_glob hg ek ⟨tk, rfl⟩ hd
/-- how many numbers a call has, by its own number -/
def LEN : List Nat := [1, 3, 2, 2, 2, 1, 1, 1, 1, 1, 2, 2, 1]
structure Txt (K : PySem.W.Frag) (mg : Str → Option Value) (CP CH : Addr) : Prop where
  clP : Cls K CP
  clH : Cls K CH
  nCards : NoAttr K CP "cards"
  nRests : NoAttr K CP "rests"
  nBegun : NoAttr K CH "begun"
  nPieces : NoAttr K CH "pieces"
  nComing : NoAttr K CH "coming"
  gP : mg "Piece" = some (.ref CP)
  gH : mg "House" = some (.ref CH)
  len : mg "len" = none
  any_ : mg "any" = none
  sum : mg "sum" = none
  range : mg "range" = none
  zip : mg "zip" = none
  set_ : mg "set" = none
  max_ : mg "max" = none
  list_ : mg "list" = none
  cLENGTHS : ∃ a, mg "LENGTHS" = some (.ref a) ∧ ∀ H, SqT K H a (LEN.map nV)
  cBEGIN : Gi mg "BEGIN" 0
  cPUT : Gi mg "PUT" 1
  cSTOREYED : Gi mg "STOREYED" 2
  cWOULD : Gi mg "WOULD" 3
  cTAKE : Gi mg "TAKE" 4
  cFREE : Gi mg "FREE" 5
  cORDERS : Gi mg "ORDERS" 6
  cHIGH : Gi mg "HIGH" 7
  cWORTH : Gi mg "WORTH" 8
  cPLAY : Gi mg "PLAY" 9
  cCARDS : Gi mg "CARDS" 10
  cSTOREYS : Gi mg "STOREYS" 11
  cWRONG : Gi mg "WRONG" (-1)
  cNO_PIECE : Gi mg "NO_PIECE" (-2)
  cFULL : Gi mg "FULL" (-5)
  cNO_TAKE : Gi mg "NO_TAKE" (-6)
  cNO_HOUSE : Gi mg "NO_HOUSE" (-9)
  cCARD : Gi mg "CARD" 1
  cPAIR : Gi mg "PAIR" 2
  cMOST_PIECES : Gi mg "MOST_PIECES" 9
  cMOST_STOREYS : Gi mg "MOST_STOREYS" 3
  cMSC : Gi mg "MOST_STOREYS_COUNTED" 100
  cMCC : Gi mg "MOST_CARDS_COUNTED" 1000
end LH

/-! ## B00 -/
namespace LH
open PySem PySem.Spec PyProof.Rows L2
/-! ### a comprehension whose test and item leave the heap as it is -/
def outV (p : Nat → Bool) (f : Nat → V) (n : Nat) : List V := ((List.range n).filter p).map f
theorem outV_succ (p : Nat → Bool) (f : Nat → V) (n : Nat) : outV p f (n + 1) = outV p f n ++ (if p n = true then [f n] else []) := by
  unfold outV
  rw [List.range_succ, List.filter_append, List.map_append]
  congr 1
  rw [List.filter_cons]
  split <;> rfl
theorem outV_len (p : Nat → Bool) (f : Nat → V) (n : Nat) : (outV p f n).length ≤ n := by
  unfold outV
  rw [List.length_map]
  exact Nat.le_trans (List.length_filter_le ..) (by rw [List.length_range]; exact Nat.le_refl _)
theorem wipe_set (σ : L2.St) (v : Nat) (y : Option V) : wipe ((wipe σ [v]).set v y) [v] = wipe σ [v] := by
  show (((σ.set v none).set v y).set v none) = σ.set v none
  rw [List.set_set, List.set_set]
theorem lc_gen {J : It} {n : Nat} {G : Hp → Prop} {Y : Nat → Hp → V → Hp → Prop} (w : Walk J n G Y) {v : Nat} {te : TE} {tt : TT} {σ : L2.St} {H1 : Hp} {Q : Addr → Hp → Prop} (item : Nat → V) (p : Nat → Bool) (f : Nat → V)
    (hY : ∀ i H x H', i < n → Y i H x H' → H' = H ∧ x = item i) (hn : n ≤ 100000) (hG : ∀ H', Same H1 H' → G H')
    (ht : ∀ i, i < n → ∀ H', Same H1 H' → ∀ R : Bool → Hp → Prop, R (p i) H' → tt ((wipe σ [v]).set v (some (item i))) H' R)
    (he : ∀ i, i < n → p i = true → ∀ H', Same H1 H' → ∀ R : VK, R (f i) H' → te ((wipe σ [v]).set v (some (item i))) H' R)
    (q : ∀ D H', Same H1 H' → H1 D = none → H' D = some (.lst (outV p f n)) → Q D H') :
    ∀ D, H1 D = none → ∃ W : Nat → Nat → Hp → Prop, (∃ m, W 0 m (upd H1 D (.lst []))) ∧ ∀ i m H, W i m H →
      (J.stop i H ∧ Q D H) ∨ (J.go i H ∧ ∃ Nx : Hp → Prop, (∀ H', Nx H' → ∃ m', m' < m ∧ W (i + 1) m' H') ∧ ∀ x H', J.yld i H x H' → gName v x (wipe σ [v]) H' fun σ2 H2 => wipe σ2 [v] = wipe σ [v] ∧ tt σ2 H2 fun b H3 => if b = true then te σ2 H3 fun y H4 => ∃ acc, H4 D = some (.lst acc) ∧ acc.length < sizeLine ∧ Nx (upd H4 D (.lst (acc ++ [y]))) else Nx H3) := by
  intro D hD
  refine lc_it (Qd := Q D) w (fun i H => Same H1 H ∧ H D = some (.lst (outV p f i))) ⟨same_new hD, upd_same⟩ (fun i H _ h => hG H h.1) ?_ (fun H h => q D H h.1 hD h.2)
  rintro i x H H' hi ⟨s, hd⟩ y
  obtain ⟨rfl, rfl⟩ := hY i H x H' hi y
  refine ⟨wipe_set σ v _, ht i hi _ s _ ?_⟩
  cases hp : p i with
  | false =>
    refine iteF ⟨s, ?_⟩
    rw [hd, outV_succ, hp, if_neg Bool.false_ne_true, List.append_nil]
  | true =>
    refine iteT (he i hi hp _ s _ ⟨_, hd, size_le (Nat.le_trans (outV_len ..) (by omega)), same_in s hD hd, ?_⟩)
    rw [upd_same, outV_succ, hp, if_pos rfl]
/-- over a list, every item -/
theorem lc_map {K : PySem.W.Frag} {a : Addr} {xs : List V} {v : Nat} {te : TE} {σ : L2.St} {H1 : Hp} {Q : Addr → Hp → Prop} (f : V → V) (hx : SqL K H1 a xs) (hn : xs.length ≤ 100000)
    (he : ∀ y ∈ xs, ∀ H', Same H1 H' → ∀ R : VK, R (f y) H' → te ((wipe σ [v]).set v (some y)) H' R)
    (q : ∀ D H', Same H1 H' → H1 D = none → H' D = some (.lst (xs.map f)) → Q D H') :
    ∀ D, H1 D = none → ∃ W : Nat → Nat → Hp → Prop, (∃ m, W 0 m (upd H1 D (.lst []))) ∧ ∀ i m H, W i m H →
      ((Itl K a).stop i H ∧ Q D H) ∨ ((Itl K a).go i H ∧ ∃ Nx : Hp → Prop, (∀ H', Nx H' → ∃ m', m' < m ∧ W (i + 1) m' H') ∧ ∀ x H', (Itl K a).yld i H x H' → gName v x (wipe σ [v]) H' fun σ2 H2 => wipe σ2 [v] = wipe σ [v] ∧ tYes σ2 H2 fun b H3 => if b = true then te σ2 H3 fun y H4 => ∃ acc, H4 D = some (.lst acc) ∧ acc.length < sizeLine ∧ Nx (upd H4 D (.lst (acc ++ [y]))) else Nx H3) := by
  refine lc_gen (walk_list (xs := xs)) (fun i => xs.getD i .non) (fun _ => true) (fun i => f (xs.getD i .non)) (fun i H x H' hi y => ⟨y.1, ?_⟩) hn (fun H' s => s.seq hx) (fun i hi H' s R r => r) (fun i hi _ H' s R r => he _ ?_ H' s R r) (fun D H' s hD e => q D H' s hD ?_)
  · rw [List.getD_eq_getElem?_getD, y.2]
    rfl
  · rw [List.getD_eq_getElem?_getD, List.getElem?_eq_getElem hi]
    exact List.getElem_mem hi
  · rw [e]
    unfold outV
    congr 2
    rw [List.filter_eq_self.mpr (fun _ _ => rfl)]
    refine List.ext_getElem? fun i => ?_
    rw [List.getElem?_map, List.getElem?_map]
    by_cases hi : i < xs.length
    · rw [List.getElem?_range hi, List.getElem?_eq_getElem hi]
      show some (f (xs.getD i .non)) = some (f xs[i])
      rw [List.getD_eq_getElem?_getD, List.getElem?_eq_getElem hi]
      rfl
    · rw [List.getElem?_eq_none (by rw [List.length_range]; omega), List.getElem?_eq_none (by omega)]
      rfl
end LH

/-! ## BR -/
namespace LH
open PySem PySem.Spec PyProof.Rows L2
/-! ### values by their places -/
theorem vals_by : ∀ {xs : List V} {us : List Value}, us.length = xs.length → (∀ (j : Nat) (u : Value), us[j]? = some u → ∃ x, xs[j]? = some x ∧ RelV x u) → Vals xs us
  | [], [], _, _ => .nil
  | [], _ :: _, h, _ => by cases h
  | _ :: _, [], h, _ => by cases h
  | x :: xs, u :: us, h, q => by
    obtain ⟨y, e, r⟩ := q 0 u rfl
    obtain rfl : x = y := Option.some.inj e
    exact .cons r (vals_by (Nat.succ.inj h) fun j v e => q (j + 1) v e)
theorem KV.val_at {kvs : List (Key × V)} {vs : List (Key × Value)} (r : KV kvs vs) {i : Nat} {k : Key} {v : Value} (h : vs[i]? = some (k, v)) : ∃ x, (kvs.map (·.2))[i]? = some x ∧ RelV x v := by
  obtain ⟨x, h1, h2⟩ := KV.at' r h
  exact ⟨x, by rw [List.getElem?_map, h1]; rfl, h2⟩
/-! ### list(e.values()) -/
def tListVals (te : TE) : TE := fun σ H Q => te σ H fun x H1 => ∃ (d : Addr) (kvs : List (Key × V)), x = .ref d ∧ H1 d = some (.dK kvs) ∧ ∀ p, H1 p = none → Q (.ref p) (upd H1 p (.lst (kvs.map (·.2))))
theorem pe_listVals {X : Cx} {e : Expr} {te : TE} {p apos cpos pos : Pos} (hc : X.calm = true) (he : PE X e te) (hg : Gl X "list") (hm : X.mg "list" = none) (hv : bootBuiltins "list" = some (.type "list")) (hbase : attributeBase e "values" X.env (eval e X.env) = eval e X.env := by rfl) (hline : (apos.endLine == cpos.line) = true := by rfl)
    (hs : starEach [.Call (.Attribute e "values" apos) [] [] cpos] X.env = (false, eval (.Call (.Attribute e "values" apos) [] [] cpos) X.env) :: starEach [] X.env := by rfl) :
    PE X (.Call (.Name "list" p) [.Call (.Attribute e "values" apos) [] [] cpos] [] pos) (tListVals te) := by
  constructor
  intro pins s σ H Q I asks
  refine wpAny_Call_Name_kw (ld_blt I hg hm hv (PyProof.Rows.callWith_type1 ?_ hs rfl))
  rw [hs]
  show wpAny _ _ (spliced ((false, eval (.Call (.Attribute e "values" apos) [] [] cpos) X.env) :: backTo pos (starEach [] X.env))) _ _ s
  refine Calls.spliced_cons (wpAny_Call_method (T := "dict") (id := "dict.values") hbase rfl hline F.plainAttrs_dict F.slot_dict_values F.type_dict_values (thn (he.run pins s σ H _ I asks) ?_))
  rintro u st ⟨_, HD, J, rx, d, kvs, rfl, hd, answer⟩
  cases rx
  obtain ⟨most, low, pairs, kv, isD⟩ := J.hok d _ hd
  obtain ⟨ep, lies⟩ := isD.dictAt
  have same : kvs.length = pairs.length := KV.length kv
  -- the view is a new object
  have JV : Inv X pins σ HD { st with heap := st.heap.push { cls := .type "dict_values", data := .fields #[.ref d] } } := J.kept (t' := st.toks) fun _ _ there => Heap.get?_push_of_some _ there
  refine ⟨isD.typeIs, isD.mapOf.noDict, ?_⟩
  show wpAny _ _ (callWith cpos (.builtin "dict.values") [.ref d] [] []) _ X.xe st
  refine method_meetsIn F.slot_dict_values F.entry_dict_values rfl (PySem.evalArgs_none ⟨rfl, isD.typeIs, F.args_dict_values_1 _, _, meets_dict_values (mixKind X.prog X.w) d low, ⟨pairs, isD⟩, Calls.spliced_nil ?_⟩)
  refine PySem.W.kdl_call (PySem.W.kdl_values (knd := mixKind X.prog X.w) (r := st.heap.objs.size) (d := d) (kvs := pairs) (ep := ep)) (J.ok.hd hc) ⟨⟨_, Heap.get?_push_size _ rfl, rfl, rfl⟩, lies.push _⟩ (by omega) fun h' tk acc c keeps made items => ?_
  have held : Vals (kvs.map (·.2)) acc.toList := vals_by (by rw [Array.length_toList, List.length_map, same]; exact items.1) fun j v e => by
    obtain ⟨k, at_⟩ := items.2 j v (by rw [← Array.getElem?_toList]; exact e)
    exact KV.val_at kv at_
  refine ⟨.ref _, upd HD _ (.lst (kvs.map (·.2))), JV.laid (t' := tk) keeps (Nat.le_refl _) ?_, rfl, answer _ (JV.hok.fresh (Nat.le_refl _))⟩
  refine ⟨by rw [List.length_map]; exact most, acc.toList, c, held, ?_⟩
  rw [Array.toArray_toList]
  exact made
/-! ### max(xs, default=0), numbers from 0 on -/
def rMaxDef (K : PySem.W.Frag) : List V → List V → Hp → VK → Prop := fun vs zs H Q => ∃ (a : Addr) (ns : List Nat), vs = [V.ref a] ∧ zs = [.int 0] ∧ SqL K H a (ns.map nV) ∧ Q (nV (Mu56.most ns)) H
theorem most_at {ns : List Nat} {j : Nat} (hj : j < ns.length) (h : ∀ i, i < ns.length → ns.getD i 0 ≤ ns.getD j 0) : Mu56.most ns = ns.getD j 0 := by
  apply Nat.le_antisymm
  · refine HM.most_le.mpr fun x hx => ?_
    obtain ⟨i, hi, e⟩ := List.mem_iff_getElem.mp hx
    have := h i hi
    rw [List.getD_eq_getElem?_getD, List.getElem?_eq_getElem hi] at this
    rw [← e]
    exact this
  · refine HM.le_most ?_
    rw [List.getD_eq_getElem?_getD, List.getElem?_eq_getElem hj]
    exact List.getElem_mem hj
theorem vals_nat {ns : List Nat} {its : List Value} (rv : Vals (ns.map nV) its) {i : Nat} {v : Value} (h : its[i]? = some v) : ∃ t, v = .int ((ns.getD i 0 : Nat) : Int) t := by
  have hi := (List.getElem?_eq_some_iff.mp h).1
  rw [← rv.length, List.length_map] at hi
  have hx : (ns.map nV)[i]? = some (nV (ns.getD i 0)) := by
    rw [List.getElem?_map, List.getD_eq_getElem?_getD, List.getElem?_eq_getElem hi]
    rfl
  obtain ⟨u, eu, t, ru⟩ := rv.get hx
  rw [h] at eu
  cases eu
  exact ⟨t, ru⟩
theorem cr_maxDef {X : Cx} (hc : X.calm = true) : CallRK X (.builtin "max") [Str.ofString "default"] (rMaxDef X.K) := by
  rintro pins s σ H _ _ us ws Q I r rz ⟨a, ns, rfl, rfl, lst, q⟩
  obtain ⟨its, rv, hl, _⟩ := I.list lst
  obtain rfl := Vals.ref1 r
  obtain ⟨w1, rfl, t, e1⟩ := vals1 rz
  subst e1
  show wpAny _ _ (call (.builtin "max") [.ref a] [(Str.ofString "default", .int 0 t)]) _ _ _
  have hn : its.length = ns.length := by rw [← rv.length, List.length_map]
  refine PySem.call_max_walkD (PySem.W.iter_listW (A := X.A.in1) (I.ok.hd hc) hl.isList fun s₂ e W st hfp hw hk => ?_)
  have hval : ∀ (i : Nat) (v : Value), its.toArray[i]? = some v → ∃ t, v = Value.int ((ns.getD i 0 : Nat) : Int) t := fun i v h => vals_nat rv (by simpa using h)
  refine ⟨_, _, _, _, _, _, _, s.heap, fun i j => decide (((ns.getD i 0 : Nat) : Int) > ((ns.getD j 0 : Nat) : Int)), rfl, W, st, hfp, hw, hk, fun hz s' m => ?_, fun hp => ⟨fun i j vi vj s' Q E _ h1 h2 q => CmpOf.ints_gt (fun i => ((ns.getD i 0 : Nat) : Int)) hval i j vi vj s' Q E h1 h2 q, fun v s' hP m => ?_⟩⟩
  · obtain ⟨h', tk, rfl, hk'⟩ := PySem.W.moved_old e rfl m
    obtain rfl : ns = [] := List.eq_nil_of_length_eq_zero (by rw [← hn]; simpa using hz)
    exact ⟨.int 0, H, I.kept hk', ⟨_, rfl⟩, q⟩
  · obtain ⟨h', tk, rfl, hk'⟩ := PySem.W.moved_old e rfl m
    obtain ⟨t', rfl⟩ := hval _ v hP
    obtain ⟨b1, b2⟩ := argBest_gt (fun i => ((ns.getD i 0 : Nat) : Int)) (its.toArray.size - 1)
    have hsz : its.toArray.size = ns.length := by rw [List.size_toArray, hn]
    rw [hsz] at hp b1 b2
    rw [hsz]
    have em := most_at (ns := ns) (j := argBest (fun i j => decide (((ns.getD i 0 : Nat) : Int) > ((ns.getD j 0 : Nat) : Int))) (ns.length - 1)) (by omega) fun i hi => by
      have := b2 i (by omega)
      omega
    rw [em] at q
    exact ⟨.int _, H, I.kept hk', ⟨_, rfl⟩, q⟩
/-! ### a & ~b -/
theorem bit_andNot (a b : Nat) : Builtin.bitAnd (a : Int) (Builtin.bitNot (b : Int)) = (a : Int) - ((a &&& b : Nat) : Int) := by
  unfold Builtin.bitAnd
  rw [decide_eq_true (Int.natCast_nonneg a), decide_eq_false (show ¬ 0 ≤ Builtin.bitNot (b : Int) by unfold Builtin.bitNot; omega)]
  show (a : Int) - ((((a : Int).toNat &&& (Builtin.bitNot (Builtin.bitNot (b : Int))).toNat : Nat)) : Int) = _
  have e : (Builtin.bitNot (Builtin.bitNot (b : Int))).toNat = b := by unfold Builtin.bitNot; omega
  rw [e]
  rfl
end LH

/-! ## B1 -/
namespace LH
open PySem PySem.Spec PyProof.Rows L2
open Mu56 (Piece State House ids falls taken)
section
variable {P : Program} {w : World} {K : PySem.W.Frag} {mg : Str → Option Value} {base : Heap} {CP CH : Addr}
def spFalling (CP CH : Addr) : Sp := fun vs H Q _ => ∃ (ph : Addr) (i : Nat) (b : Bool) (t : State), vs = [.ref ph, nV i] ∧ HouseAt CP CH H ph b t ∧ HM.SWf t ∧ i ∈ ids t.house ∧
  ∀ H' p, Same H H' → H p = none → H' p = some (.lst ((falls t.house [i]).map nV)) → Q (.ref p) H'
theorem scFalling : FnScope ["house", "taken", "fallen", "number", "piece", "each"] ["house", "taken"] (defScope sFalling) := ⟨rfl, rfl, rfl, by decide +kernel, rfl, by decide +kernel, by decide +kernel⟩
theorem ok_falling {f : Addr} {fd : FuncData} (F : Fun K "falling" "falling" sFalling f fd) (T : Txt K mg CP CH) : FnOk P w K mg base CX0 1 f fd ["house", "taken"] (spFalling CP CH) := by
  refine F.ok scFalling (fun vs H Q E h => ?_) (fun cdv A outer s H vs Q E hr h => ?_)
  · obtain ⟨ph, i, b, t, rfl, _⟩ := h
    rfl
  · obtain ⟨ph, i, b, t, rfl, ⟨dx, pd, ad, HI⟩, W, hi, k⟩ := h
    refine ⟨_, pss_cons (ps_set (i := 2) scFalling.nd rfl (Or.inr rfl) (pe_lst (pa_cons (pv 1) pa_nil)))
      (pss_cons (ps_lock (ps_for PassesOwn.never rfl (pi_items (pe_fld (pv 0) rfl))
          (pg_tup rfl (pgs_cons (pg_name (i := 3) scFalling.nd rfl (.inl rfl)) (pgs_cons (pg_name (i := 4) scFalling.nd rfl (.inl rfl)) pgs_nil)))
        (pss_one (ps_if (pt_val (pe_callB (cr_any rfl) (by rfl) T.any_ (by decide +kernel) (pa_cons
            (pe_lc (own := [("each", 5)]) (g := gName 5) (tt := tYes) (te := tOp (rIn K false) (tVar 5) (tVar 2)) rfl scFalling.nd (pi_list (pe_fld (pv 4) rfl)) (blkOk_by (own := [("each", 5)]) (N := ["house", "taken", "fallen", "number", "piece", "each"]) (sc := defScope sFalling) (by decide +kernel))
              (fun _ _ _ _ _ => pg_name (i := 5) scFalling.nd rfl (Or.inl rfl)) (fun _ _ _ _ _ => pts_nil) (fun _ _ _ _ _ => pe_cmpR op_in_seq (pv 5) (pv 2) (by rfl))) pa_nil)))
          (pss_one (ps_expr (pe_bm PySem.F.plainAttrs_list PySem.F.slot_list_append PySem.F.type_list_append mt_append (pv 2) (pa_cons (pv 3) pa_nil)))) pss_nil))))
      (pss_one (ps_ret (pv 2)))), ?_⟩
    -- fallen = [taken]
    refine ⟨_, rfl, (by show 1 ≤ sizeLine; decide), fun l hl => ?_⟩
    have nlp : pd ≠ l := ne_of_none HI.dc hl
    refine ⟨pd, _, (upd_ne nlp).trans HI.dc, trivial, fun od => ?_⟩
    -- what stands while the dict is locked
    have hob := lock_at (od := od) HI.dc HI.ob (by intro z; cases z)
    have hpc := fun x hx => (HI.pc x hx).lock (od := od) HI.dc
    generalize hHL : upd H pd (.frz od (.dK (t.house.map (kvOf ad)))) = HL at hob hpc
    have hdc : HL pd = some (.frz od (.dK (t.house.map (kvOf ad)))) := by rw [← hHL]; exact upd_same
    have hlL : HL l = none := by rw [← hHL, upd_ne nlp.symm]; exact hl
    have s0 : Same HL (upd (upd H l (.lst [nV i])) pd (.frz od (.dK (t.house.map (kvOf ad))))) := fun b o e => by
      rw [← hHL] at e
      by_cases q : b = pd
      · subst q
        rw [upd_same] at e ⊢
        exact e
      · rw [upd_ne q] at e ⊢
        exact (upd_ne (ne_of_none e hl)).trans e
    have hl0 : (upd (upd H l (.lst [nV i])) pd (.frz od (.dK (t.house.map (kvOf ad))))) l = some (.lst [nV i]) := by rw [upd_ne nlp.symm, upd_same]
    refine ⟨_, rfl, ph, CH, dx, _, _, rfl, s0 _ _ hob, T.clH, T.nPieces, hF_pieces, pd, od, _, rfl, s0 _ _ hdc, ?_⟩
    refine for_it walk_items (fun j σ H' => ∃ v3 v4, σ = [some (.ref ph), some (nV i), some (.ref l), v3, v4, none] ∧ Same HL H' ∧ H' l = some (.lst (((t.house.take j).foldl HM.stepF [i]).map nV)))
      ⟨none, none, rfl, s0, hl0⟩ (fun j σ H' _ ⟨_, _, _, s1, _⟩ => s1 _ _ hdc) ?_ ?_
    · rintro j v σ H1 H2 hj ⟨v3, v4, rfl, s1, h1⟩ y
      obtain ⟨T0, x, hx, rfl, hT, rfl⟩ := item_at hj y
      have hm : x ∈ t.house := List.mem_of_getElem? hx
      have s2 : Same H1 (upd H1 T0 (.tup [nV x.id, .ref (ad x.id)])) := same_new hT
      refine ⟨T0, _, rfl, SqT.of upd_same, rfl, _, _, rfl, _, _, rfl, rfl, ?_⟩
      obtain ⟨dp, r, hp1, hp2⟩ := ((hpc x hm).mono s1).mono s2
      have h1' := s2 _ _ h1
      generalize upd H1 T0 (.tup [nV x.id, .ref (ad x.id)]) = H2 at s2 hp1 hp2 h1'
      generalize hmj : (t.house.take j).foldl HM.stepF [i] = m at h1'
      -- any([each in fallen for each in piece.rests])
      refine ⟨_, rfl, _, CP, dp, _, _, rfl, hp1, T.clP, T.nRests, pF_rests, r, rfl, ⟨_, SqL.of hp2⟩, ?_⟩
      refine lc_map (fun y => .bl (inV y (m.map nV))) (SqL.of hp2) ?_ ?_ ?_
      · rw [List.length_map]
        exact Nat.le_trans (HM.rests_len W.wf hm) (Nat.le_trans W.few (by decide))
      · intro y hy H3 s3 R hR
        obtain ⟨k0, _, rfl⟩ := List.mem_map.mp hy
        refine ⟨_, rfl, _, rfl, l, _, rfl, .inl (SqL.of (s3 _ _ h1')), rfl, flat_nV _, hR⟩
      · intro D H3 s3 hD e3
        have eb : (x.rests.map nV).map (fun y => V.bl (inV y (m.map nV))) = (x.rests.map fun c => m.contains c).map V.bl := by
          rw [List.map_map, List.map_map]
          exact List.map_congr_left fun c _ => congrArg V.bl (in_nV c m)
        rw [eb] at e3
        refine ⟨D, _, rfl, SqL.of e3, _, rfl, ?_⟩
        have ea : (x.rests.map fun c => m.contains c).any id = x.rests.any fun c => m.contains c := by rw [List.any_map]; rfl
        have es : (t.house.take (j + 1)).foldl HM.stepF [i] = HM.stepF m x := by rw [take_one hx, List.foldl_append, hmj]; rfl
        have sL : Same HL H3 := (s1.trans s2).trans s3
        rw [ea]
        cases ec : x.rests.any fun c => m.contains c with
        | false =>
          refine iteF ⟨_, _, rfl, sL, ?_⟩
          rw [es]
          unfold HM.stepF
          rw [ec, if_neg Bool.false_ne_true]
          exact s3 _ _ h1'
        | true =>
          have hl3 := s3 _ _ h1'
          refine iteT ⟨_, rfl, .inl ⟨rfl, _, SqL.of hl3⟩, _, rfl, l, _, _, rfl, rfl, hl3, ?_, ?_⟩
          · rw [List.length_map, ← hmj]
            refine size_le (Nat.le_trans (HM.foldF_len ..) ?_)
            have := List.length_take_le' j t.house
            have := W.few
            rw [List.length_cons, List.length_nil]
            omega
          · refine ⟨_, _, rfl, same_in sL hlL hl3, ?_⟩
            rw [upd_same, es]
            unfold HM.stepF
            rw [ec, if_pos rfl, List.map_append]
            rfl
    · rintro σ H1 ⟨v3, v4, rfl, s1, h1⟩
      rw [List.length_map, List.take_length] at h1
      refine ⟨s1 _ _ hdc, _, rfl, ?_⟩
      have hpd : H pd = some (.dK (t.house.map (kvOf ad))) := HI.dc
      rw [← hHL] at s1
      refine k _ l (same_unlock hpd s1) hl ?_
      rw [upd_ne nlp.symm, h1]
      exact congrArg (fun q => some (HO.lst (q.map nV))) (HM.fallP_eq W.wf hi)
end
end LH

/-! ## B2 -/
namespace LH
open PySem PySem.Spec PyProof.Rows L2
open Mu56 (Piece State House ids falls taken)
/-! ### what the house's calls leave as it was: all but the house itself and the dicts -/
structure Fr (ph : Addr) (H H' : Hp) : Prop where
  keep : ∀ b o, H b = some o → b ≠ ph → (∀ kvs, o ≠ .dK kvs) → H' b = some o
  free : ∀ b, H' b = none → H b = none
theorem Fr.of {ph : Addr} {H H' : Hp} (s : Same H H') : Fr ph H H' := ⟨fun b o e _ _ => s b o e, fun b e => s.free e⟩
theorem Fr.trans {ph : Addr} {H H1 H2 : Hp} (a : Fr ph H H1) (b : Fr ph H1 H2) : Fr ph H H2 := ⟨fun c o e n d => b.keep c o (a.keep c o e n d) n d, fun c e => a.free c (b.free c e)⟩
/-- a store to what stands there -/
theorem free_upd {H : Hp} {a b : Addr} {o : HO} (e : upd H a o b = none) : H b = none := by
  by_cases n : b = a
  · rw [n, upd_same] at e; cases e
  · rw [upd_ne n] at e; exact e
theorem free_but {H H1 : Hp} {a : Addr} {o : HO} (h : H1 a = some o) (k : ∀ b o, H b = some o → b ≠ a → H1 b = some o) {b : Addr} (e : H1 b = none) : H b = none := by
  cases q : H b with
  | none => rfl
  | some u =>
    by_cases n : b = a
    · rw [n, h] at e; cases e
    · rw [k b u q n] at e; cases e
theorem Fr.piece {CP CH : Addr} {ph dx pd : Addr} {b : Bool} {n : Nat} {H H' : Hp} {a : Addr} {x : Piece} (f : Fr ph H H') (h : H ph = some (.ins CH dx (hF b pd n))) (p : PieceAt CP H a x) : PieceAt CP H' a x := by
  obtain ⟨dp, r, h1, h2⟩ := p
  refine ⟨dp, r, f.keep _ _ h1 (ne_of h1 h ?_) (by intro _ z; cases z), f.keep _ _ h2 (ne_of h2 h (by intro z; cases z)) (by intro _ z; cases z)⟩
  intro z
  injection z with _ _ z
  have e : (pF x.cards r).length = (hF b pd n).length := by rw [z]
  exact absurd e (by show ¬ 2 = 3; decide)
def adNew (ad : Nat → Addr) (n : Nat) (x : Addr) (i : Nat) : Addr := if i = n then x else ad i
theorem adNew_new {ad : Nat → Addr} {n : Nat} {x : Addr} : adNew ad n x n = x := if_pos rfl
theorem adNew_old {ad : Nat → Addr} {n i : Nat} {x : Addr} (h : i < n) : adNew ad n x i = ad i := if_neg (Nat.ne_of_lt h)
section
variable {P : Program} {w : World} {K : PySem.W.Frag} {mg : Str → Option Value} {base : Heap} {CP CH : Addr}
/-! ### Piece(cards, rests) -/
def spPieceInit (CP : Addr) : Sp := fun vs H Q _ => ∃ (p dx r : Addr) (c : Nat), vs = [.ref p, nV c, .ref r] ∧ H p = some (.ins CP dx []) ∧ ∀ H' : Hp, H' p = some (.ins CP dx (pF c r)) → (∀ b o, H b = some o → b ≠ p → H' b = some o) → Q .non H'
theorem scPieceInit : FnScope ["self", "cards", "rests"] ["self", "cards", "rests"] (defScope sPieceInit) := ⟨rfl, rfl, rfl, by decide +kernel, rfl, by decide +kernel, by decide +kernel⟩
theorem ok_pieceInit {f : Addr} {fd : FuncData} (F : Fun K "__init__" "Piece.__init__" sPieceInit f fd) (T : Txt K mg CP CH) : FnOk P w K mg base CX0 1 f fd ["self", "cards", "rests"] (spPieceInit CP) := by
  refine F.ok scPieceInit (fun vs H Q E h => ?_) (fun cdv A outer s H vs Q E hr h => ?_)
  · obtain ⟨p, dx, r, c, rfl, _⟩ := h
    rfl
  · obtain ⟨p, dx, r, c, rfl, hp, k⟩ := h
    refine ⟨_, pss_cons (ps_fld (pv 0) (pv 1) rfl) (pss_one (ps_fld (pv 0) (pv 2) rfl)), ?_⟩
    refine ⟨_, rfl, _, rfl, p, CP, dx, [], rfl, hp, T.clP, T.nCards, (by show 0 < 1000; decide), ?_⟩
    refine ⟨_, rfl, _, rfl, p, CP, dx, _, rfl, upd_same, T.clP, T.nRests, (by show 1 < 1000; decide), ?_⟩
    refine k _ ?_ fun b o e hb => ?_
    · rw [upd_same]
      refine congrArg (fun q => some (HO.ins CP dx q)) ?_
      rw [ptN, ptP (by decide +kernel), ptN]
      rfl
    · rw [upd_ne hb, upd_ne hb]
      exact e
/-! ### House() -/
def spHouseInit (CH : Addr) : Sp := fun vs H Q _ => ∃ (p dx : Addr), vs = [.ref p] ∧ H p = some (.ins CH dx []) ∧ ∀ (d : Addr) (H' : Hp), H d = none → H' p = some (.ins CH dx (hF false d 0)) → H' d = some (.dK []) → (∀ b o, H b = some o → b ≠ p → H' b = some o) → Q .non H'
theorem scHouseInit : FnScope ["self"] ["self"] (defScope sHouseInit) := ⟨rfl, rfl, rfl, by decide +kernel, rfl, by decide +kernel, by decide +kernel⟩
theorem ok_houseInit {f : Addr} {fd : FuncData} (F : Fun K "__init__" "House.__init__" sHouseInit f fd) (T : Txt K mg CP CH) : FnOk P w K mg base CX0 1 f fd ["self"] (spHouseInit CH) := by
  refine F.ok scHouseInit (fun vs H Q E h => ?_) (fun cdv A outer s H vs Q E hr h => ?_)
  · obtain ⟨p, dx, rfl, _⟩ := h
    rfl
  · obtain ⟨p, dx, rfl, hp, k⟩ := h
    refine ⟨_, pss_cons (ps_fld (pv 0) pe_bl rfl) (pss_cons (ps_fld (pv 0) pe_dnewK rfl) (pss_one (ps_fld (pv 0) pe_int rfl))), ?_⟩
    refine ⟨_, rfl, p, CH, dx, [], rfl, hp, T.clH, T.nBegun, (by show 0 < 1000; decide), ?_⟩
    intro d hd
    have npd : p ≠ d := ne_of_none upd_same hd
    have hd0 : H d = none := by rw [← hd, upd_ne npd.symm]
    refine ⟨_, rfl, p, CH, dx, _, rfl, (upd_ne npd).trans upd_same, T.clH, T.nPieces, (by show 1 < 1000; decide), ?_⟩
    refine ⟨_, rfl, p, CH, dx, _, rfl, upd_same, T.clH, T.nComing, (by show 2 < 1000; decide), ?_⟩
    refine k d _ hd0 ?_ ?_ fun b o e hb => ?_
    · rw [upd_same]
      refine congrArg (fun q => some (HO.ins CH dx q)) ?_
      rw [ptN, ptP (by decide +kernel), ptN, ptP (by decide +kernel), ptP (by decide +kernel), ptN]
      rfl
    · rw [upd_ne npd.symm, upd_ne npd.symm, upd_same]
    · rw [upd_ne hb, upd_ne hb, upd_ne (ne_of_none e hd0), upd_ne hb]
      exact e
/-! ### clear_away -/
def spClear (CH : Addr) : Sp := fun vs H Q _ => ∃ (ph dx pd : Addr) (b : Bool) (n : Nat), vs = [.ref ph] ∧ H ph = some (.ins CH dx (hF b pd n)) ∧ ∀ (d : Addr) (H' : Hp), H d = none → H' ph = some (.ins CH dx (hF b d 0)) → H' d = some (.dK []) → (∀ b o, H b = some o → b ≠ ph → H' b = some o) → Q .non H'
theorem scClear : FnScope ["house"] ["house"] (defScope sClear) := ⟨rfl, rfl, rfl, by decide +kernel, rfl, by decide +kernel, by decide +kernel⟩
theorem ok_clear {f : Addr} {fd : FuncData} (F : Fun K "clear_away" "clear_away" sClear f fd) (T : Txt K mg CP CH) : FnOk P w K mg base CX0 1 f fd ["house"] (spClear CH) := by
  refine F.ok scClear (fun vs H Q E h => ?_) (fun cdv A outer s H vs Q E hr h => ?_)
  · obtain ⟨p, dx, pd, b, n, rfl, _⟩ := h
    rfl
  · obtain ⟨p, dx, pd, b, n, rfl, hp, k⟩ := h
    refine ⟨_, pss_cons (ps_fld (pv 0) pe_dnewK rfl) (pss_one (ps_fld (pv 0) pe_int rfl)), ?_⟩
    intro d hd
    have npd : p ≠ d := ne_of_none hp hd
    refine ⟨_, rfl, p, CH, dx, _, rfl, (upd_ne npd).trans hp, T.clH, T.nPieces, (by show 3 < 1000; decide), ?_⟩
    refine ⟨_, rfl, p, CH, dx, _, rfl, upd_same, T.clH, T.nComing, (by rw [hF_setPieces]; show 3 < 1000; decide), ?_⟩
    refine k d _ hd ?_ ?_ fun b o e hb => ?_
    · rw [upd_same, hF_setPieces]
      exact congrArg (fun q => some (HO.ins CH dx q)) (hF_setComing (n' := 0))
    · rw [upd_ne npd.symm, upd_ne npd.symm, upd_same]
    · rw [upd_ne hb, upd_ne hb, upd_ne (ne_of_none e hd)]
      exact e
/-! ### add_piece -/
def spAdd (CP CH : Addr) : Sp := fun vs H Q _ => ∃ (av : Addr → Prop) (ph r : Addr) (c : Nat) (l : List Nat) (b : Bool) (t : State), vs = [.ref ph, nV c, .ref r] ∧ HouseAv av CP CH H ph b t ∧ (∀ a, av a → H a ≠ none) ∧ H r = some (.lst (l.map nV)) ∧ ¬ av r ∧ t.house.length ≤ 1000 ∧ (∀ x ∈ t.house, x.id < t.next) ∧
  ∀ H' : Hp, HouseAv av CP CH H' ph b ⟨t.house ++ [⟨t.next, c, l⟩], t.next + 1⟩ → Fr ph H H' → Q (nV t.next) H'
theorem scAdd : FnScope ["house", "cards", "rests", "number"] ["house", "cards", "rests"] (defScope sAdd) := ⟨rfl, rfl, rfl, by decide +kernel, rfl, by decide +kernel, by decide +kernel⟩
theorem ok_add {f fI : Addr} {fd fdI : FuncData} (F : Fun K "add_piece" "add_piece" sAdd f fd) (T : Txt K mg CP CH) (M : Mk K CP fI) (FI : Fun K "__init__" "Piece.__init__" sPieceInit fI fdI) (bI : L2.Binds K fdI ["self", "cards", "rests"] []) :
    FnOk P w K mg base CX0 3 f fd ["house", "cards", "rests"] (spAdd CP CH) := by
  have GI : FnOk P w K mg base CX0 1 fI fdI ["self", "cards", "rests"] (spPieceInit CP) := ok_pieceInit FI T
  refine F.ok scAdd (fun vs H Q E h => ?_) (fun cdv A outer s H vs Q E hr h => ?_)
  · obtain ⟨av, ph, r, c, l, b, t, rfl, _⟩ := h
    rfl
  · obtain ⟨av, ph, r, c, l, b, t, rfl, ⟨G, sG, nG, dx, pd, ad, HI⟩, hav, hl, nr, hn, low, k⟩ := h
    have hu := hu_of hr
    refine ⟨_, pss_cons (ps_set (i := 3) scAdd.nd rfl (Or.inl rfl) (pe_fld (pv 0) rfl))
      (pss_cons (ps_dput hu (pe_fld (pv 0) rfl) (pv 3) (pe_make M GI hr rfl T.gP bI .nil pass0 (pa_cons (pv 1) (pa_cons (pv 2) pa_nil))) rfl)
      (pss_cons (ps_fld (pv 0) (pe_op op_add (pv 3) pe_int) rfl)
      (pss_one (ps_ret (pv 3))))), ?_⟩
    refine ⟨_, rfl, ph, CH, dx, _, _, rfl, sG _ _ HI.ob, T.clH, T.nComing, hF_coming, ?_⟩
    refine ⟨_, rfl, _, rfl, fun x dy nx ndy nex => ⟨x, dy, r, c, rfl, upd_same, fun H1 e1 kp => ⟨rfl, ?_⟩⟩⟩
    have s1 : Same H H1 := Same.made nx ndy kp
    have hob := s1 _ _ (sG _ _ HI.ob)
    have hdc := s1 _ _ (sG _ _ HI.dc)
    have npd : ph ≠ pd := ne_of hob hdc (by intro z; cases z)
    have el : (t.house.map (kvOf ad)).length < sizeLine := by rw [List.length_map]; exact size_le (Nat.le_trans hn (by decide))
    refine ⟨_, rfl, ph, CH, dx, _, _, rfl, hob, T.clH, T.nPieces, hF_pieces, _, rfl, pd, _, rfl, DPut.k (k := Sum.inl (t.next : Int)) hdc el, ?_⟩
    refine ⟨_, rfl, _, _, rfl, rfl, _, rfl, ph, CH, dx, _, rfl, (upd_ne npd).trans hob, T.clH, T.nComing, (by show 3 < 1000; decide), _, rfl, ?_⟩
    have nin : t.next ∉ ids t.house := fun q => by
      obtain ⟨y, hy, e⟩ := HM.mem_ids.mp q
      have := low y hy
      omega
    have ev : valV (t.house.map (kvOf ad)) (Sum.inl (t.next : Int) : Key) = none := by rw [val_house, if_neg nin]
    have fr : Fr ph H1 (upd (upd H1 pd (.dK (putK (t.house.map (kvOf ad)) (Sum.inl (t.next : Int)) (.ref x)))) ph (.ins CH dx (putF "coming" (.int ((t.next : Int) + 1)) (hF b pd t.next)))) := ⟨fun a o e n d => by
      rw [upd_ne n, upd_ne (ne_of e hdc (d _))]
      exact e, fun a e => free_upd (free_upd e)⟩
    -- the house's own part of the heap: what it had, the rests, the new piece
    have sR : Same (upd G r (.lst (l.map nV))) H := fun a o e => by
      by_cases q : a = r
      · rw [q, upd_same] at e
        rw [q, hl]
        exact e
      · rw [upd_ne q] at e
        exact sG _ _ e
    have kG : ∀ a o, G a = some o → upd G r (.lst (l.map nV)) a = some o := fun a o e => by
      by_cases q : a = r
      · rw [q, upd_same]
        rw [q] at e
        exact hl.symm.trans (sG _ _ e)
      · rw [upd_ne q]
        exact e
    have nR : ∀ a, av a → upd G r (.lst (l.map nV)) a = none := fun a z => by
      rw [upd_ne (show a ≠ r from fun q => nr (by rw [← q]; exact z))]
      exact nG a z
    have rR : upd G r (.lst (l.map nV)) r = some (.lst (l.map nV)) := upd_same
    generalize upd G r (.lst (l.map nV)) = G0 at sR kG nR rR
    have xG : G0 x = none := sR.free nx
    have sX : Same (upd G0 x (.ins CP dy (pF c r))) H1 := fun a o e => by
      by_cases q : a = x
      · rw [q, upd_same] at e
        rw [q, e1]
        exact e
      · rw [upd_ne q] at e
        exact s1 _ _ (sR _ _ e)
    have kX : ∀ a o, G a = some o → upd G0 x (.ins CP dy (pF c r)) a = some o := fun a o e => same_new xG _ _ (kG _ _ e)
    have nX : ∀ a, av a → upd G0 x (.ins CP dy (pF c r)) a = none := fun a z => by
      rw [upd_ne (show a ≠ x from fun q => hav a z (by rw [q]; exact nx))]
      exact nR a z
    have rX := same_new (o := .ins CP dy (pF c r)) xG _ _ rR
    have xX : upd G0 x (.ins CP dy (pF c r)) x = some (.ins CP dy (pF c r)) := upd_same
    generalize upd G0 x (.ins CP dy (pF c r)) = G1 at sX kX nX rX xX
    have nph : ¬ av ph := fun z => absurd HI.ob (by rw [nG ph z]; exact fun q => by cases q)
    have npdv : ¬ av pd := fun z => absurd HI.dc (by rw [nG pd z]; exact fun q => by cases q)
    have gob := kX _ _ HI.ob
    have gdc := kX _ _ HI.dc
    have frG : Fr ph G1 (upd (upd G1 pd (.dK (putK (t.house.map (kvOf ad)) (Sum.inl (t.next : Int)) (.ref x)))) ph (.ins CH dx (putF "coming" (.int ((t.next : Int) + 1)) (hF b pd t.next)))) := ⟨fun a o e n d => by
      rw [upd_ne n, upd_ne (ne_of e gdc (d _))]
      exact e, fun a e => free_upd (free_upd e)⟩
    refine k _ ⟨upd (upd G1 pd (.dK (putK (t.house.map (kvOf ad)) (Sum.inl (t.next : Int)) (.ref x)))) ph (.ins CH dx (putF "coming" (.int ((t.next : Int) + 1)) (hF b pd t.next))), ?_, ?_, dx, pd, adNew ad t.next x, ⟨?_, ?_, ?_⟩⟩ ((Fr.of s1).trans fr)
    · intro a o e
      by_cases q : a = ph
      · rw [q, upd_same] at e ⊢
        exact e
      · rw [upd_ne q] at e ⊢
        by_cases q2 : a = pd
        · rw [q2, upd_same] at e ⊢
          exact e
        · rw [upd_ne q2] at e ⊢
          exact sX _ _ e
    · intro a z
      rw [upd_ne (show a ≠ ph from fun q => nph (by rw [← q]; exact z)), upd_ne (show a ≠ pd from fun q => npdv (by rw [← q]; exact z))]
      exact nX a z
    · rw [upd_same]
      have q : putF "coming" (.int ((t.next : Int) + 1)) (hF b pd t.next) = hF b pd (t.next + 1) := hF_setComing (n' := t.next + 1)
      rw [q]
    · rw [upd_ne npd.symm, upd_same, putK_new _ ev, List.map_append]
      refine congrArg (fun q => some (HO.dK q)) ?_
      congr 1
      · refine List.map_congr_left fun y hy => ?_
        unfold kvOf
        rw [adNew_old (low y hy)]
      · show [(_, V.ref x)] = [(_, V.ref (adNew ad t.next x t.next))]
        rw [adNew_new]
    · intro y hy
      rcases List.mem_append.mp hy with q | q
      · rw [adNew_old (low y q)]
        obtain ⟨dp, r', p1, p2⟩ := HI.pc y q
        exact frG.piece gob ⟨dp, r', kX _ _ p1, kX _ _ p2⟩
      · obtain rfl : y = ⟨t.next, c, l⟩ := by simpa using q
        rw [adNew_new]
        exact frG.piece gob ⟨dy, r, xX, rX⟩
end
end LH

/-! ## B3 -/
namespace LH
open PySem PySem.Spec PyProof.Rows L2
open Mu56 (Piece State House ids falls taken)
/-! ### a def that is called by its name -/
def Cal (P : Program) (w : World) (K : PySem.W.Frag) (mg : Str → Option Value) (base : Heap) (nm : Str) (k : Nat) (ps : List Str) (sp : Sp) : Prop :=
  ∃ f fd, mg nm = some (.ref f) ∧ PySem.W.keepIn K (.ref f) = true ∧ L2.Binds K fd ps [] ∧ FnOk P w K mg base CX0 k f fd ps sp
theorem pe_cal {X : Cx} {nm : Str} {k : Nat} {ps : List Str} {sp : Sp} {e : Expr} {es : List Expr} {t : TA} {p pos : Pos} (C : Cal X.prog X.w X.K X.mg X.base nm k ps sp) (hr : Room k X.A) (hg : Gl X nm) (ha : PA X (e :: es) t)
    (hd : (nm == ("__debug__" : Str)) = false := by decide) (h1 : starEach (e :: es) X.env = (false, eval e X.env) :: starEach es X.env := by rfl) (h2 : (backTo pos (starEach es X.env)).any (·.1) = false := by rfl) :
    PE X (.Call (.Name nm p) (e :: es) [] pos) (tCall sp [] E0 t) := by
  obtain ⟨f, fd, hm, hk, hb, F⟩ := C
  exact pe_call F hr hg hm hk hb .nil pass0 ha hd h1 h2
/-! ### what a call answers and leaves, by the specification's own step -/
def Gives (av : Addr → Prop) (CP CH : Addr) (ph : Addr) (H : Hp) (Q : VK) (r : Mu56.Abs × List Int) : Prop :=
  ∀ t' H' p, r.1 = some t' → HouseAv av CP CH H' ph true t' → Fr ph H H' → H p = none → H' p = some (.lst (r.2.map V.int)) → Q (.ref p) H'
/-- one number, nothing changed -/
theorem Gives.one {av : Addr → Prop} {CP CH ph : Addr} {H : Hp} {Q : VK} {t : State} {z : Int} {p : Addr} (g : Gives av CP CH ph H Q (some t, [z])) (h : HouseAv av CP CH H ph true t) (hp : H p = none) : Q (.ref p) (upd H p (.lst [.int z])) :=
  g t _ p rfl (h.mono (same_new hp)) (.of (same_new hp)) hp upd_same
/-! ### len(set(xs)) -/
def tSetLen (K : PySem.W.Frag) (ta : TE) : TE := fun σ H Q => ta σ H fun x H1 => ∃ (l : Addr) (ns : List Int), x = .ref l ∧ SqL K H1 l (ns.map V.int) ∧ ns.length ≤ 4000 ∧ Q (.int (((ns.foldl step_dedup []).length : Nat) : Int)) H1
theorem met_fold (ns : List Int) : firstMet (fun i => ns.getD i 0) ns.length = ns.foldl step_dedup [] := by
  unfold firstMet
  congr 1
  refine List.ext_getElem? fun i => ?_
  rw [List.getElem?_map]
  by_cases hi : i < ns.length
  · rw [List.getElem?_range hi, List.getElem?_eq_getElem hi]
    show some (ns.getD i 0) = some ns[i]
    rw [List.getD_eq_getElem?_getD, List.getElem?_eq_getElem hi]
    rfl
  · rw [List.getElem?_eq_none (by rw [List.length_range]; omega), List.getElem?_eq_none (by omega)]
    rfl
theorem dedup_le : ∀ (l acc : List Int), (l.foldl step_dedup acc).length ≤ acc.length + l.length
  | [], _ => Nat.le_refl _
  | a :: l, acc => by
    have := dedup_le l (step_dedup acc a)
    rw [step_length] at this
    rw [List.foldl_cons, List.length_cons]
    split at this <;> omega
theorem dedup_iff : ∀ (l acc : List Int), (l.foldl step_dedup acc).length = acc.length + l.length ↔ l.Nodup ∧ ∀ x ∈ l, x ∉ acc
  | [], acc => by simp
  | a :: l, acc => by
    rw [List.foldl_cons, List.length_cons]
    have le := dedup_le l (step_dedup acc a)
    have ih := dedup_iff l (step_dedup acc a)
    rw [step_length] at le ih
    by_cases h : acc.any (· == a) = true
    · rw [if_pos h] at le ih
      obtain ⟨y, hy, e⟩ := List.any_eq_true.mp h
      have e : y = a := eq_of_beq e
      subst e
      constructor
      · intro q
        omega
      · rintro ⟨_, q⟩
        exact absurd hy (q y (List.mem_cons_self ..))
    · rw [if_neg h] at le ih
      have na : a ∉ acc := fun m => h (List.any_eq_true.mpr ⟨a, m, beq_self_eq_true a⟩)
      have es : step_dedup acc a = acc ++ [a] := by unfold step_dedup; exact if_neg h
      rw [show acc.length + (l.length + 1) = acc.length + 1 + l.length by omega, ih, es, List.nodup_cons]
      constructor
      · rintro ⟨n, q⟩
        refine ⟨⟨fun m => q a m (List.mem_append_right _ (List.mem_cons_self ..)), n⟩, fun x hx => ?_⟩
        rcases List.mem_cons.mp hx with z | z
        · rw [z]; exact na
        · exact fun m => q x z (List.mem_append_left _ m)
      · rintro ⟨⟨m, n⟩, q⟩
        refine ⟨n, fun x hx z => ?_⟩
        rcases List.mem_append.mp z with z | z
        · exact q x (List.mem_cons_of_mem _ hx) z
        · rw [List.mem_singleton.mp z] at hx
          exact m hx
theorem nodup_cast : ∀ {l : List Nat}, (l.map fun (i : Nat) => (i : Int)).Nodup ↔ l.Nodup
  | [] => by simp
  | a :: l => by
    rw [List.map_cons, List.nodup_cons, List.nodup_cons, nodup_cast (l := l)]
    constructor
    · rintro ⟨h1, h2⟩
      exact ⟨fun m => h1 (List.mem_map.mpr ⟨a, m, rfl⟩), h2⟩
    · rintro ⟨h1, h2⟩
      refine ⟨fun m => ?_, h2⟩
      obtain ⟨b, hb, e⟩ := List.mem_map.mp m
      have e : b = a := by omega
      exact h1 (e ▸ hb)
theorem dedup_lt (l : List Nat) : ((l.map fun (i : Nat) => (i : Int)).foldl step_dedup []).length < l.length ↔ ¬ l.Nodup := by
  have h1 := dedup_le (l.map fun (i : Nat) => (i : Int)) []
  have h2 := dedup_iff (l.map fun (i : Nat) => (i : Int)) []
  rw [List.length_map, List.length_nil, Nat.zero_add] at h1 h2
  rw [nodup_cast] at h2
  constructor
  · intro h n
    have := h2.mpr ⟨n, fun x _ => by simp⟩
    omega
  · intro n
    have : ¬ (((l.map fun (i : Nat) => (i : Int)).foldl step_dedup []).length = l.length) := fun e => n (h2.mp e).1
    omega
theorem nV_int (l : List Nat) : l.map nV = (l.map fun (i : Nat) => (i : Int)).map V.int := by
  rw [List.map_map]
  rfl
theorem pe_setLen {X : Cx} {a : Expr} {ta : TE} {p1 p2 q1 q2 : Pos} (gl : Gl X "len") (ml : X.mg "len" = none) (gs : Gl X "set") (ms : X.mg "set" = none) (ea : PE X a ta) (cm : X.calm = true := by rfl)
    (one : starEach [a] X.env = (false, eval a X.env) :: starEach [] X.env := by rfl) : PE X (.Call (.Name "len" p1) [.Call (.Name "set" p2) [a] [] q2] [] q1) (tSetLen X.K ta) := by
  refine ⟨fun pins s0 σ H0 Q I0 rd => ?_⟩
  refine Call_ (ld_blt I0 gl ml boot_len (callWith_builtin1 (args_cons (Call_ (ld_blt I0 gs ms boot_set ?_)) rfl) rfl rfl))
  refine callWith_type1 (args_cons (thn (ea.run pins s0 σ H0 _ I0 rd) fun v s1 got => args_nil ?_) one) one rfl
  obtain ⟨x, H1, I1, rx, l, ns, rfl, sq, few, rest⟩ := got
  cases rx
  obtain ⟨its, rv, il, _⟩ := I1.list sq
  have sz : its.toArray.size = ns.length := by rw [List.size_toArray, ← rv.length, List.length_map]
  refine call_set_list (I1.ok.hd cm) il.isList (by simpa using RZ.intsAre_vals rv) (by rw [sz]; unfold scanBound; omega) fun h2 tk so keep => args_nil ?_
  rw [sz, met_fold] at so
  have low := dedup_le ns []
  rw [List.length_nil, Nat.zero_add] at low
  obtain ⟨o, es, ep, tb, go, ex, dat, _, _, _, fits, cnt⟩ := so
  have I2 : Inv X pins σ H1 { s1 with heap := h2, toks := tk } := I1.kept fun b u e => keep b u (Heap.lt_size e) e
  exact call_len_set go ex dat fits (by rw [cnt]; omega) ⟨.int (((ns.foldl step_dedup []).length : Nat) : Int), H1, I2.tok _, ⟨_, by rw [cnt]⟩, rest⟩
section
variable {P : Program} {w : World} {K : PySem.W.Frag} {mg : Str → Option Value} {base : Heap} {CP CH : Addr}
/-! ### begin -/
def spBegin (CP CH : Addr) : Sp := fun vs H Q _ => ∃ (av : Addr → Prop) (ph : Addr) (b : Bool) (t : State), vs = [.ref ph] ∧ HouseAv av CP CH H ph b t ∧ (∀ a, av a → H a ≠ none) ∧ Gives av CP CH ph H Q (some ⟨[], 0⟩, [0])
theorem scBegin : FnScope ["house"] ["house"] (defScope sBegin) := ⟨rfl, rfl, rfl, by decide +kernel, rfl, by decide +kernel, by decide +kernel⟩
theorem ok_begin {f : Addr} {fd : FuncData} (F : Fun K "begin" "begin" sBegin f fd) (T : Txt K mg CP CH) (CC : Cal P w K mg base "clear_away" 1 ["house"] (spClear CH)) : FnOk P w K mg base CX0 2 f fd ["house"] (spBegin CP CH) := by
  refine F.ok scBegin (fun vs H Q E h => ?_) (fun cdv A outer s H vs Q E hr h => ?_)
  · obtain ⟨av, ph, b, t, rfl, _⟩ := h
    rfl
  · obtain ⟨av, ph, b, t, rfl, ⟨G, sG, nG, dx, pd, ad, HI⟩, hav, k⟩ := h
    refine ⟨_, pss_cons (ps_fld (pv 0) pe_bl rfl) (pss_cons (ps_expr (pe_cal CC hr rfl (pa_cons (pv 0) pa_nil))) (pss_one (ps_ret (pe_lst (pa_cons pe_int pa_nil))))), ?_⟩
    refine ⟨_, rfl, ph, CH, dx, _, rfl, sG _ _ HI.ob, T.clH, T.nBegun, (by show 3 < 1000; decide), ?_⟩
    refine ⟨_, rfl, ph, dx, pd, true, t.next, rfl, ?_, fun d H1 hd h1 h2 kp => ?_⟩
    · rw [upd_same, hF_setBegun]
    · refine ⟨(by show 1 ≤ sizeLine; decide), fun p hp => ?_⟩
      have kp' : ∀ b o, H b = some o → b ≠ ph → H1 b = some o := fun b o e n => kp b o ((upd_ne n).trans e) n
      have hp0 : H p = none := free_but h1 kp' hp
      have s1 : Same (upd (upd (fun _ => none) d (.dK [])) ph (.ins CH dx (hF true d 0))) H1 := fun a o e => by
        by_cases q : a = ph
        · rw [q, upd_same] at e
          rw [q, h1]
          exact e
        · rw [upd_ne q] at e
          by_cases q2 : a = d
          · rw [q2, upd_same] at e
            rw [q2, h2]
            exact e
          · rw [upd_ne q2] at e
            cases e
      have hd0 : H d = none := free_upd hd
      have ndp : d ≠ ph := fun q => by rw [q, sG _ _ HI.ob] at hd0; cases hd0
      refine k _ _ p rfl ⟨_, s1.trans (same_new hp), fun a z => ?_, dx, d, ad, ⟨upd_same, (upd_ne ndp).trans upd_same, fun x hx => by cases hx⟩⟩ ⟨fun b o e n _ => same_new hp _ _ (kp' b o e n), fun b e => free_but h1 kp' (free_upd e)⟩ hp0 upd_same
      rw [upd_ne (show a ≠ ph from fun q => by rw [q] at z; exact absurd HI.ob (by rw [nG ph z]; exact fun q => by cases q)), upd_ne (show a ≠ d from fun q => by rw [q] at z; exact hav d z hd0)]
end
end LH

/-! ## B4 -/
namespace LH
open PySem PySem.Spec PyProof.Rows L2
open Mu56 (Piece State House ids falls taken)
section
variable {P : Program} {w : World} {K : PySem.W.Frag} {mg : Str → Option Value} {base : Heap} {CP CH : Addr}
/-! ### put -/
def spPut (CP CH : Addr) : Sp := fun vs H Q _ => ∃ (av : Addr → Prop) (ph r : Addr) (c : Nat) (l : List Nat) (t : State), vs = [.ref ph, nV c, .ref r] ∧ HouseAv av CP CH H ph true t ∧ (∀ a, av a → H a ≠ none) ∧ HM.SWf t ∧ H r = some (.lst (l.map nV)) ∧ ¬ av r ∧ l.length ≤ 1000 ∧
  Gives av CP CH ph H Q (Mu56.step (some t) (.put c l))
theorem scPut : FnScope ["house", "cards", "rests", "number"] ["house", "cards", "rests"] (defScope sPut) := ⟨rfl, rfl, rfl, by decide +kernel, rfl, by decide +kernel, by decide +kernel⟩
theorem put_one {t : State} {c : Nat} {l : List Nat} (h : c < 1 ∨ 2 < c ∨ l.eraseDups.length ≠ l.length) : Mu56.step (some t) (.put c l) = (some t, [-1]) := if_pos h
theorem put_two {t : State} {c : Nat} {l : List Nat} (h : ¬ (c < 1 ∨ 2 < c ∨ l.eraseDups.length ≠ l.length)) (h2 : l.any (fun i => !(Mu56.has t i)) = true) : Mu56.step (some t) (.put c l) = (some t, [-2]) := (if_neg h).trans (if_pos h2)
theorem put_five {t : State} {c : Nat} {l : List Nat} (h : ¬ (c < 1 ∨ 2 < c ∨ l.eraseDups.length ≠ l.length)) (h2 : ¬ l.any (fun i => !(Mu56.has t i)) = true) (h3 : 9 ≤ t.house.length) : Mu56.step (some t) (.put c l) = (some t, [-5]) := (if_neg h).trans ((if_neg h2).trans (if_pos h3))
theorem put_done {t : State} {c : Nat} {l : List Nat} (h : ¬ (c < 1 ∨ 2 < c ∨ l.eraseDups.length ≠ l.length)) (h2 : ¬ l.any (fun i => !(Mu56.has t i)) = true) (h3 : ¬ 9 ≤ t.house.length) :
    Mu56.step (some t) (.put c l) = (some ⟨t.house ++ [⟨t.next, c, l⟩], t.next + 1⟩, [(t.next : Int)]) := (if_neg h).trans ((if_neg h2).trans (if_neg h3))
theorem in_12 (c : Nat) : inV (nV c) [.int 1, .int 2] = decide (c = 1 ∨ c = 2) := by
  show (decide ((1 : Int) = (c : Int)) || (decide ((2 : Int) = (c : Int)) || false)) = _
  rw [Bool.eq_iff_iff, Bool.or_eq_true, Bool.or_eq_true, decide_eq_true_eq, decide_eq_true_eq, decide_eq_true_eq]
  constructor
  · rintro (h | h | h)
    · exact .inl (by omega)
    · exact .inr (by omega)
    · cases h
  · rintro (h | h)
    · exact .inl (by omega)
    · exact .inr (.inl (by omega))
theorem ok_put {f : Addr} {fd : FuncData} (F : Fun K "put" "put" sPut f fd) (T : Txt K mg CP CH) (CA : Cal P w K mg base "add_piece" 3 ["house", "cards", "rests"] (spAdd CP CH)) : FnOk P w K mg base CX0 4 f fd ["house", "cards", "rests"] (spPut CP CH) := by
  refine F.ok scPut (fun vs H Q E h => ?_) (fun cdv A outer s H vs Q E hr h => ?_)
  · obtain ⟨av, ph, r, c, l, t, rfl, _⟩ := h
    rfl
  · obtain ⟨av, ph, r, c, l, t, rfl, HV, hav, W, hl, nr, hlen, k⟩ := h
    have hu := hu_of hr
    refine ⟨_, pss_cons (ps_if (PW.pt (pw_or (pt_cmpR op_notIn_seq (pv 1) (pe_tup (pa_cons (pe_gi rfl T.cCARD) (pa_cons (pe_gi rfl T.cPAIR) pa_nil))) (by rfl))
          (pw_or1 (pt_cmpR op_lt (pe_setLen rfl T.len rfl T.set_ (pv 2)) (pe_callB call_len_seq (by rfl) T.len PySem.boot_len (pa_cons (pv 2) pa_nil)) (nomark _)))))
        (pss_one (ps_ret (pe_lst (pa_cons (pe_gi rfl T.cWRONG) pa_nil)))) pss_nil)
      (pss_cons (ps_if (pt_val (pe_callB (cr_any rfl) (by rfl) T.any_ (by decide +kernel) (pa_cons
            (pe_lc (own := [("number", 3)]) (g := gName 3) (tt := tYes) (te := tDNotIn (tVar 3) (tFld K (tVar 0) "pieces")) rfl scPut.nd (pi_list (pv 2)) (blkOk_by (own := [("number", 3)]) (N := ["house", "cards", "rests", "number"]) (sc := defScope sPut) (by decide +kernel))
              (fun _ _ _ _ _ => pg_name (i := 3) scPut.nd rfl (Or.inl rfl)) (fun _ _ _ _ _ => pts_nil) (fun _ _ _ _ _ => pe_cmp (pc_dnotin hu (pv 3) (pe_fld (pv 0) rfl)) rfl)) pa_nil)))
        (pss_one (ps_ret (pe_lst (pa_cons (pe_gi rfl T.cNO_PIECE) pa_nil)))) pss_nil)
      (pss_cons (ps_if (pt_cmpR op_ge (pe_callB call_lenD (by rfl) T.len PySem.boot_len (pa_cons (pe_fld (pv 0) rfl) pa_nil)) (pe_gi rfl T.cMOST_PIECES) (nomark _))
        (pss_one (ps_ret (pe_lst (pa_cons (pe_gi rfl T.cFULL) pa_nil)))) pss_nil)
      (pss_one (ps_ret (pe_lst (pa_cons (pe_cal CA hr rfl (pa_cons (pv 0) (pa_cons (pv 1) (pa_cons (pv 2) pa_nil)))) pa_nil)))))), ?_⟩
    -- cards not in (CARD, PAIR)
    refine ⟨_, rfl, (by show 2 ≤ sizeLine; decide), fun T0 hT0 => ?_⟩
    have s1 : Same H (upd H T0 (.tup [.int 1, .int 2])) := same_new hT0
    refine ⟨T0, _, rfl, .inr (SqT.of upd_same), rfl, rfl, _, rfl, ?_⟩
    generalize upd H T0 (.tup [.int 1, .int 2]) = H1 at s1
    have HV1 := HV.mono s1
    have HA1 := HV1.at
    have k1 : Gives av CP CH ph H1 Q (Mu56.step (some t) (.put c l)) := fun t' H' p e h f n q => k t' H' p e h ((Fr.of s1).trans f) (s1.free n) q
    clear k
    rw [show (if true = true then !inV (nV c) [V.int 1, V.int 2] else inV (nV c) [V.int 1, V.int 2]) = !decide (c = 1 ∨ c = 2) from congrArg not (in_12 c)]
    by_cases hc : c = 1 ∨ c = 2
    · rw [decide_eq_true hc]
      refine iteF ?_
      -- len(set(rests)) < len(rests)
      refine ⟨_, rfl, r, l.map fun (i : Nat) => (i : Int), rfl, ?_, ?_, _, rfl, r, _, rfl, .inl (SqL.of (s1 _ _ hl)), _, _, rfl, rfl, _, rfl, ?_⟩
      · rw [← nV_int]
        exact SqL.of (s1 _ _ hl)
      · rw [List.length_map]
        omega
      rw [List.length_map]
      by_cases nd : l.Nodup
      · rw [decide_eq_false (fun z => (dedup_lt l).mp (by omega) nd)]
        refine iteF ?_
        have ok1 : ¬ (c < 1 ∨ 2 < c ∨ l.eraseDups.length ≠ l.length) := by
          rintro (h | h | h)
          · omega
          · omega
          · exact HM.dups_iff.mp h nd
        -- any([number not in house.pieces for number in rests])
        obtain ⟨dx, pd, ad, HI⟩ := id HA1
        refine ⟨_, rfl, r, rfl, ⟨_, SqL.of (s1 _ _ hl)⟩, ?_⟩
        refine lc_map (fun y => .bl (!inV y ((ids t.house).map nV))) (SqL.of (s1 _ _ hl)) (by rw [List.length_map]; omega) ?_ ?_
        · intro y hy H3 s3 R hR
          obtain ⟨i, _, rfl⟩ := List.mem_map.mp hy
          have g : DGet H3 pd (nV i) _ := DGet.k (k := Sum.inl (i : Int)) (s3 _ _ HI.dc)
          refine ⟨_, rfl, _, rfl, ph, CH, dx, _, _, rfl, s3 _ _ HI.ob, T.clH, T.nPieces, hF_pieces, pd, _, rfl, g, ?_⟩
          have e : (!(valV (t.house.map (kvOf ad)) (Sum.inl (i : Int) : Key)).isSome) = !inV (nV i) ((ids t.house).map nV) := by
            rw [in_nV, val_house]
            by_cases m : i ∈ ids t.house
            · rw [if_pos m, List.contains_iff_mem.mpr m]; rfl
            · rw [if_neg m]
              cases q : (ids t.house).contains i with
              | false => rfl
              | true => exact absurd (List.contains_iff_mem.mp q) m
          rw [e]
          exact hR
        · intro D H3 s3 hD e3
          have HV3 := HV1.mono s3
          have HA3 := HV3.at
          have k3 : Gives av CP CH ph H3 Q (Mu56.step (some t) (.put c l)) := fun t' H' p e h f n q => k1 t' H' p e h ((Fr.of s3).trans f) (s3.free n) q
          clear k1
          have eb : (l.map nV).map (fun y => V.bl (!inV y ((ids t.house).map nV))) = (l.map fun i => !(Mu56.has t i)).map V.bl := by
            rw [List.map_map, List.map_map]
            exact List.map_congr_left fun i _ => congrArg V.bl (congrArg not (in_nV i _))
          rw [eb] at e3
          refine ⟨D, _, rfl, SqL.of e3, _, rfl, ?_⟩
          rw [show (l.map fun i => !(Mu56.has t i)).any id = l.any fun i => !(Mu56.has t i) by rw [List.any_map]; rfl]
          cases ea : l.any fun i => !(Mu56.has t i) with
          | true =>
            refine iteT ⟨(by show 1 ≤ sizeLine; decide), fun p hp => ?_⟩
            rw [put_two ok1 ea] at k3
            exact k3.one HV3 hp
          | false =>
            refine iteF ?_
            have ok2 : ¬ l.any (fun i => !(Mu56.has t i)) = true := by rw [ea]; exact Bool.false_ne_true
            obtain ⟨dx, pd, ad, HI⟩ := id HA3
            refine ⟨_, rfl, ph, CH, dx, _, _, rfl, HI.ob, T.clH, T.nPieces, hF_pieces, pd, _, rfl, HI.dc, _, _, rfl, rfl, _, rfl, ?_⟩
            rw [List.length_map]
            by_cases h9 : 9 ≤ t.house.length
            · rw [decide_eq_true (show (9 : Int) ≤ ((t.house.length : Nat) : Int) by omega)]
              refine iteT ⟨(by show 1 ≤ sizeLine; decide), fun p hp => ?_⟩
              rw [put_five ok1 ok2 h9] at k3
              exact k3.one HV3 hp
            · rw [decide_eq_false (show ¬ (9 : Int) ≤ ((t.house.length : Nat) : Int) by omega)]
              refine iteF ?_
              refine ⟨_, rfl, _, rfl, _, rfl, av, ph, r, c, l, true, t, rfl, HV3, (fun a z q => hav a z ((s1.trans s3).free q)), s3 _ _ (s1 _ _ hl), nr, Nat.le_trans W.few (by decide), W.low, fun H4 HA4 f4 => ?_⟩
              refine ⟨(by show 1 ≤ sizeLine; decide), fun p hp => ?_⟩
              rw [put_done ok1 ok2 h9] at k3
              exact k3 _ _ p rfl (HA4.mono (same_new hp)) (f4.trans (.of (same_new hp))) (f4.free _ hp) upd_same
      · rw [decide_eq_true (by have := (dedup_lt l).mpr nd; omega)]
        refine iteT ⟨(by show 1 ≤ sizeLine; decide), fun p hp => ?_⟩
        rw [put_one (.inr (.inr (HM.dups_iff.mpr nd)))] at k1
        exact k1.one HV1 hp
    · rw [decide_eq_false hc]
      refine iteT (iteT ⟨(by show 1 ≤ sizeLine; decide), fun p hp => ?_⟩)
      rw [put_one (by omega)] at k1
      exact k1.one HV1 hp
end
end LH

/-! ## B5 -/
namespace LH
open PySem PySem.Spec PyProof.Rows L2
open Mu56 (Piece State House ids falls taken)
/-- a piece by its number in the dict -/
theorem has_false {t : State} {i : Nat} (h : i ∉ ids t.house) : Mu56.has t i = false := by
  cases q : Mu56.has t i with
  | false => rfl
  | true => exact absurd (HM.has_iff.mp q) h
theorem Gives.pull {av : Addr → Prop} {CP CH ph : Addr} {H H1 : Hp} {Q : VK} {r : Mu56.Abs × List Int} (k : Gives av CP CH ph H Q r) (s : Same H H1) : Gives av CP CH ph H1 Q r := fun t' H' p e h f n q => k t' H' p e h ((Fr.of s).trans f) (s.free n) q
theorem nums_V (l : List Nat) : (Mu56.nums l).map V.int = l.map nV := (nV_int l).symm
section
variable {P : Program} {w : World} {K : PySem.W.Frag} {mg : Str → Option Value} {base : Heap} {CP CH : Addr}
/-! ### would -/
def spWould (CP CH : Addr) : Sp := fun vs H Q _ => ∃ (av : Addr → Prop) (ph : Addr) (i : Nat) (t : State), vs = [.ref ph, nV i] ∧ HouseAv av CP CH H ph true t ∧ HM.SWf t ∧ Gives av CP CH ph H Q (Mu56.step (some t) (.would i))
theorem scWould : FnScope ["house", "number", "fallen", "cards", "each"] ["house", "number"] (defScope sWould) := ⟨rfl, rfl, rfl, by decide +kernel, rfl, by decide +kernel, by decide +kernel⟩
theorem ok_would {f : Addr} {fd : FuncData} (F : Fun K "would" "would" sWould f fd) (T : Txt K mg CP CH) (CF : Cal P w K mg base "falling" 1 ["house", "taken"] (spFalling CP CH)) : FnOk P w K mg base CX0 2 f fd ["house", "number"] (spWould CP CH) := by
  refine F.ok scWould (fun vs H Q E h => ?_) (fun cdv A outer s H vs Q E hr h => ?_)
  · obtain ⟨av, ph, i, t, rfl, _⟩ := h
    rfl
  · obtain ⟨av, ph, i, t, rfl, HV, W, k⟩ := h
    have HA := HV.at
    have hu := hu_of hr
    refine ⟨_, pss_cons (ps_if (pt_cmp (pc_dnotin hu (pv 1) (pe_fld (pv 0) rfl))) (pss_one (ps_ret (pe_lst (pa_cons (pe_gi rfl T.cNO_PIECE) pa_nil)))) pss_nil)
      (pss_cons (ps_set (i := 2) scWould.nd rfl (Or.inl rfl) (pe_cal CF hr rfl (pa_cons (pv 0) (pa_cons (pv 1) pa_nil))))
      (pss_cons (ps_set (i := 3) scWould.nd rfl (Or.inl rfl) (pe_callB (cr_sum rfl) (by rfl) T.sum (by decide +kernel) (pa_cons
        (pe_lc (own := [("each", 4)]) (g := gName 4) (tt := tYes) (te := tFld K (tDGet (tFld K (tVar 0) "pieces") (tVar 4)) "cards") rfl scWould.nd (pi_list (pv 2)) (blkOk_by (own := [("each", 4)]) (N := ["house", "number", "fallen", "cards", "each"]) (sc := defScope sWould) (by decide +kernel))
              (fun _ _ _ _ _ => pg_name (i := 4) scWould.nd rfl (Or.inl rfl)) (fun _ _ _ _ _ => pts_nil) (fun _ _ _ _ _ => pe_fld (pe_dget hu (pe_fld (pv 0) rfl) (pv 4) (fun _ _ => rfl)) rfl)) pa_nil)))
      (pss_one (ps_ret (pe_op op_cat (pe_lst (pa_cons (pe_callB call_len_seq (by rfl) T.len PySem.boot_len (pa_cons (pv 2) pa_nil)) (pa_cons (pv 3) pa_nil))) (pv 2)))))), ?_⟩
    obtain ⟨dx, pd, ad, HI⟩ := id HA
    refine ⟨_, rfl, _, rfl, ph, CH, dx, _, _, rfl, HI.ob, T.clH, T.nPieces, hF_pieces, pd, _, rfl, DGet.k (k := Sum.inl (i : Int)) HI.dc, _, rfl, ?_⟩
    rw [val_house]
    by_cases m : i ∈ ids t.house
    · rw [if_pos m]
      refine iteF ?_
      have hm := HM.has_iff.mpr m
      have est : Mu56.step (some t) (.would i) = (some t, Mu56.nums ((falls t.house [i]).length :: Mu56.cardsOf t.house (falls t.house [i]) :: falls t.house [i])) := by
        show (some t, if Mu56.has t i = false then _ else _) = _
        rw [if_neg (by rw [hm]; exact fun z => Bool.noConfusion z)]
      rw [est] at k
      refine ⟨_, rfl, _, rfl, ph, i, true, t, rfl, HA, W, m, fun H1 l s1 nl hl => ?_⟩
      have k1 := k.pull s1
      have HV1 := HV.mono s1
      have HI1 := HI.mono s1
      have hfl := HM.falls_len W.wf.nd [i]
      -- cards
      refine ⟨_, rfl, l, rfl, ⟨_, SqL.of hl⟩, ?_⟩
      refine lc_map (fun y => match y with | .int z => nV (((HM.look t.house z.toNat).map (·.cards)).getD 0) | _ => .non) (SqL.of hl) (by rw [List.length_map]; have := W.few; omega) ?_ ?_
      · intro y hy H3 s3 R hR
        obtain ⟨j, hj, rfl⟩ := List.mem_map.mp hy
        have hj' := HM.falls_sub W.wf.nd hj
        obtain ⟨x, hx, rfl⟩ := HM.mem_ids.mp hj'
        obtain ⟨dp, r, p1, _⟩ := (HI1.pc x hx).mono s3
        have g : DGet H3 pd (nV x.id) (some (.ref (ad x.id))) := by
          have := DGet.k (k := Sum.inl (x.id : Int)) (s3 _ _ HI1.dc)
          rw [val_house, if_pos hj'] at this
          exact this
        refine ⟨_, rfl, ph, CH, dx, _, _, rfl, s3 _ _ HI1.ob, T.clH, T.nPieces, hF_pieces, _, rfl, pd, _, rfl, g, ad x.id, CP, dp, _, _, rfl, p1, T.clP, T.nCards, pF_cards, ?_⟩
        have e : (HM.look t.house ((x.id : Int)).toNat) = some x := HM.look_mem W.wf.nd hx
        have hR : R (nV (((HM.look t.house ((x.id : Int)).toNat).map (·.cards)).getD 0)) H3 := hR
        rw [e] at hR
        exact hR
      · intro D H3 s3 hD e3
        have ec : ((falls t.house [i]).map nV).map (fun y => match y with | .int z => nV (((HM.look t.house z.toNat).map (·.cards)).getD 0) | _ => .non) = ((falls t.house [i]).map fun j => ((((HM.look t.house j).map (·.cards)).getD 0 : Nat) : Int)).map V.int := by
          rw [List.map_map, List.map_map]
          exact List.map_congr_left fun j _ => rfl
        rw [ec] at e3
        refine ⟨D, _, rfl, SqL.of e3, ?_⟩
        refine ⟨_, rfl, l, _, rfl, .inl (SqL.of (s3 _ _ hl)), _, rfl, (by show 2 ≤ sizeLine; decide), fun p hp => ?_⟩
        have s4 : Same H3 (upd H3 p (.lst [V.int (((falls t.house [i]).map nV).length : Nat), V.int ((falls t.house [i]).map fun j => ((((HM.look t.house j).map (·.cards)).getD 0 : Nat) : Int)).sum])) := same_new hp
        refine ⟨_, rfl, p, l, _, _, rfl, rfl, upd_same, s4 _ _ (s3 _ _ hl), ?_, fun q hq => ?_⟩
        · rw [List.length_map]
          exact Nat.le_of_lt (size_le (by show 2 + _ ≤ _; have := W.few; omega))
        · have s5 := (s3.trans s4).trans (same_new (o := .lst ([V.int (((falls t.house [i]).map nV).length : Nat), V.int ((falls t.house [i]).map fun j => ((((HM.look t.house j).map (·.cards)).getD 0 : Nat) : Int)).sum] ++ (falls t.house [i]).map nV)) hq)
          refine k1 t _ q rfl (HV1.mono s5) (.of s5) ((s3.trans s4).free hq) ?_
          rw [upd_same, nums_V, List.length_map]
          have esum : ∀ l : List Nat, (l.map fun j => ((((HM.look t.house j).map (·.cards)).getD 0 : Nat) : Int)).sum = ((HM.cardsP t.house l : Nat) : Int) := by
            intro l
            unfold HM.cardsP
            induction l with
            | nil => rfl
            | cons a l ih => rw [List.map_cons, List.map_cons, List.sum_cons, List.sum_cons, ih, Int.natCast_add]
          rw [esum, HM.cards_falls W.wf.nd]
          rfl
    · rw [if_neg m]
      refine iteT ⟨(by show 1 ≤ sizeLine; decide), fun p hp => ?_⟩
      have est : Mu56.step (some t) (.would i) = (some t, [-2]) := by
        show (some t, if Mu56.has t i = false then _ else _) = _
        rw [if_pos (has_false m)]
      rw [est] at k
      exact k.one HV hp
end
end LH

/-! ## B6 -/
namespace LH
open PySem PySem.Spec PyProof.Rows L2
open Mu56 (Piece State House ids falls taken)
theorem drop_house {ad : Nat → Addr} (h : House) (i : Nat) : dropK (h.map (kvOf ad)) (Sum.inl (i : Int) : Key) = (h.filter fun x => decide (x.id ≠ i)).map (kvOf ad) := by
  unfold dropK
  rw [List.filter_map]
  congr 2
  funext x
  show decide ((Sum.inl (x.id : Int) : Key) ≠ Sum.inl (i : Int)) = decide (x.id ≠ i)
  congr 1
  apply propext
  constructor
  · intro a b; exact a (by rw [b])
  · intro a b; injection b with b; exact a (by omega)
section
variable {P : Program} {w : World} {K : PySem.W.Frag} {mg : Str → Option Value} {base : Heap} {CP CH : Addr}
/-! ### take -/
def spTake (CP CH : Addr) : Sp := fun vs H Q _ => ∃ (av : Addr → Prop) (ph : Addr) (i : Nat) (t : State), vs = [.ref ph, nV i] ∧ HouseAv av CP CH H ph true t ∧ HM.SWf t ∧ Gives av CP CH ph H Q (Mu56.step (some t) (.take i))
theorem scTake : FnScope ["house", "number", "fallen", "each"] ["house", "number"] (defScope sTake) := ⟨rfl, rfl, rfl, by decide +kernel, rfl, by decide +kernel, by decide +kernel⟩
theorem ok_take {f : Addr} {fd : FuncData} (F : Fun K "take" "take" sTake f fd) (T : Txt K mg CP CH) (CF : Cal P w K mg base "falling" 1 ["house", "taken"] (spFalling CP CH)) : FnOk P w K mg base CX0 2 f fd ["house", "number"] (spTake CP CH) := by
  refine F.ok scTake (fun vs H Q E h => ?_) (fun cdv A outer s H vs Q E hr h => ?_)
  · obtain ⟨av, ph, i, t, rfl, _⟩ := h
    rfl
  · obtain ⟨av, ph, i, t, rfl, HV, W, k⟩ := h
    have HA := HV.at
    have hu := hu_of hr
    refine ⟨_, pss_cons (ps_if (pt_cmp (pc_dnotin hu (pv 1) (pe_fld (pv 0) rfl))) (pss_one (ps_ret (pe_lst (pa_cons (pe_gi rfl T.cNO_PIECE) pa_nil)))) pss_nil)
      (pss_cons (ps_set (i := 2) scTake.nd rfl (Or.inl rfl) (pe_cal CF hr rfl (pa_cons (pv 0) (pa_cons (pv 1) pa_nil))))
      (pss_cons (ps_for PassesOwn.never rfl (pi_list (pv 2)) (pg_name (i := 3) scTake.nd rfl (Or.inl rfl))
        (pss_one (ps_expr (pe_dpop1 (pe_fld (pv 0) rfl) (pv 3) ⟨rfl, rfl, rfl, rfl⟩))))
      (pss_one (ps_ret (pe_lst (pa_cons (pe_callB call_len_seq (by rfl) T.len PySem.boot_len (pa_cons (pv 2) pa_nil)) pa_nil)))))), ?_⟩
    obtain ⟨G, sG, nG, dx, pd, ad, HG⟩ := id HV
    have HI := HG.mono sG
    refine ⟨_, rfl, _, rfl, ph, CH, dx, _, _, rfl, HI.ob, T.clH, T.nPieces, hF_pieces, pd, _, rfl, DGet.k (k := Sum.inl (i : Int)) HI.dc, _, rfl, ?_⟩
    rw [val_house]
    by_cases m : i ∈ ids t.house
    · rw [if_pos m]
      refine iteF ?_
      have hm := HM.has_iff.mpr m
      have est : Mu56.step (some t) (.take i) = (some { t with house := taken t.house i }, [((falls t.house [i]).length : Int)]) := by
        show (if Mu56.has t i = false then _ else _) = _
        rw [if_neg (by rw [hm]; exact fun z => Bool.noConfusion z)]
      rw [est] at k
      refine ⟨_, rfl, _, rfl, ph, i, true, t, rfl, HA, W, m, fun H1 l s1 nl hl => ?_⟩
      have k1 := k.pull s1
      have HI1 := HI.mono s1
      clear k
      have npd : ph ≠ pd := ne_of HI1.ob HI1.dc (by intro z; cases z)
      have nlp : l ≠ pd := ne_of hl HI1.dc (by intro z; cases z)
      refine ⟨_, rfl, l, rfl, ⟨_, SqL.of hl⟩, for_list (K := K) (a := l) (xs := (falls t.house [i]).map nV) (fun j σ H' => ∃ v3, σ = [some (.ref ph), some (nV i), some (.ref l), v3] ∧ (∀ b o, H1 b = some o → b ≠ pd → H' b = some o) ∧
          H' pd = some (.dK ((t.house.filter fun x => !((falls t.house [i]).take j).contains x.id).map (kvOf ad)))) ⟨none, rfl, fun _ _ e _ => e, ?_⟩ (fun j σ H' _ ⟨_, _, kp, _⟩ => SqL.of (kp _ _ hl nlp)) ?_ ?_⟩
      · rw [HI1.dc]
        refine congrArg (fun q : List Piece => some (HO.dK (q.map (kvOf ad)))) ?_
        exact (List.filter_eq_self.mpr fun x _ => rfl).symm
      · rintro j y σ H2 hj ⟨v3, rfl, kp, hd⟩
        obtain ⟨c, hc, rfl⟩ := get_nV hj
        have hcm : c ∈ falls t.house [i] := List.mem_of_getElem? hc
        have hcid := HM.falls_sub W.wf.nd hcm
        refine ⟨_, rfl, ph, CH, dx, _, _, rfl, kp _ _ HI1.ob npd, T.clH, T.nPieces, hF_pieces, pd, rfl, .inl ⟨_, .inl hd⟩, _, rfl, _, Sum.inl (c : Int), .ref (ad c), hd, rfl, ?_, ?_⟩
        · rw [val_house, if_pos]
          obtain ⟨x, hx, rfl⟩ := HM.mem_ids.mp hcid
          refine HM.mem_ids.mpr ⟨x, List.mem_filter.mpr ⟨hx, ?_⟩, rfl⟩
          -- it has not come yet
          have nd : (falls t.house [i]).Nodup := by
            rw [HM.falls_filter W.wf.nd]
            exact List.Pairwise.sublist (List.filter_sublist ..) W.wf.nd
          cases q : ((falls t.house [i]).take j).contains x.id with
          | false => rfl
          | true =>
            exfalso
            obtain ⟨j', hj'⟩ := List.mem_iff_getElem?.mp (List.contains_iff_mem.mp q)
            rw [List.getElem?_take] at hj'
            split at hj'
            · have := nd_ix nd hj' hc
              omega
            · cases hj'
        · refine ⟨_, rfl, fun b o e n => (upd_ne n).trans (kp b o e n), ?_⟩
          rw [upd_same, drop_house, List.filter_filter]
          refine congrArg (fun q : List Piece => some (HO.dK (q.map (kvOf ad)))) ?_
          refine List.filter_congr fun x hx => ?_
          rw [take_one hc, Bool.eq_iff_iff, Bool.and_eq_true, decide_eq_true_eq, Bool.not_eq_true', Bool.not_eq_true']
          constructor
          · rintro ⟨h1, h2⟩
            cases q : ((falls t.house [i]).take j ++ [c]).contains x.id with
            | false => rfl
            | true =>
              rcases List.mem_append.mp (List.contains_iff_mem.mp q) with z | z
              · rw [List.contains_iff_mem.mpr z] at h2; cases h2
              · exact absurd (List.mem_singleton.mp z) h1
          · intro h
            have nm : x.id ∉ (falls t.house [i]).take j ++ [c] := fun z => by rw [List.contains_iff_mem.mpr z] at h; cases h
            refine ⟨fun z => nm (List.mem_append_right _ (List.mem_singleton.mpr z)), ?_⟩
            cases q : ((falls t.house [i]).take j).contains x.id with
            | false => rfl
            | true => exact absurd (List.mem_append_left _ (List.contains_iff_mem.mp q)) nm
      · rintro σ H2 ⟨v3, rfl, kp, hd⟩
        rw [List.length_map, List.take_length] at hd
        refine ⟨_, rfl, l, _, rfl, .inl (SqL.of (kp _ _ hl nlp)), (by show 1 ≤ sizeLine; decide), fun p hp => ?_⟩
        rw [List.length_map]
        have npv : ¬ av pd := fun z => absurd HG.dc (by rw [nG pd z]; exact fun q => by cases q)
        refine k1 _ _ p rfl ⟨upd G pd (.dK ((t.house.filter fun x => !(falls t.house [i]).contains x.id).map (kvOf ad))), fun a o e => ?_, fun a z => ?_, dx, pd, ad, ⟨(upd_ne npd).trans HG.ob, upd_same, fun x hx => ?_⟩⟩ ⟨fun b o e n d => same_new hp _ _ (kp b o e (ne_of e HI1.dc (d _))), fun b e => free_but hd kp (free_upd e)⟩ (free_but hd kp hp) upd_same
        · by_cases q : a = pd
          · rw [q, upd_same] at e
            rw [q, same_new hp _ _ hd]
            exact e
          · rw [upd_ne q] at e
            exact same_new hp _ _ (kp _ _ (s1 _ _ (sG _ _ e)) q)
        · rw [upd_ne (show a ≠ pd from fun q => npv (by rw [← q]; exact z))]
          exact nG a z
        · have hx' : x ∈ t.house := (List.mem_filter.mp hx).1
          obtain ⟨dp, r, p1, p2⟩ := HG.pc x hx'
          exact ⟨dp, r, (upd_ne (ne_of p1 HG.dc (by intro z; cases z))).trans p1, (upd_ne (ne_of p2 HG.dc (by intro z; cases z))).trans p2⟩
    · rw [if_neg m]
      refine iteT ⟨(by show 1 ≤ sizeLine; decide), fun p hp => ?_⟩
      have est : Mu56.step (some t) (.take i) = (some t, [-2]) := by
        show (if Mu56.has t i = false then _ else _) = _
        rw [if_pos (has_false m)]
      rw [est] at k
      exact k.one HV hp
end
end LH

/-! ## B7 -/
namespace LH
open PySem PySem.Spec PyProof.Rows L2
open Mu56 (Piece State House ids falls taken)
/-- a dict of marks: which numbers are keys -/
def Marked (kv : List (Key × V)) (L : List Nat) : Prop := kv.length ≤ L.length ∧ ∀ i : Nat, (valV kv (Sum.inl (i : Int) : Key)).isSome = L.contains i
theorem Marked.nil : Marked [] [] := ⟨Nat.le_refl _, fun _ => rfl⟩
theorem Marked.put {kv : List (Key × V)} {L : List Nat} (m : Marked kv L) (j : Nat) (v : V) : Marked (putK kv (Sum.inl (j : Int)) v) (L ++ [j]) := by
  refine ⟨?_, fun i => ?_⟩
  · rw [List.length_append]
    unfold putK
    split
    · rw [List.length_map]
      exact Nat.le_trans m.1 (Nat.le_add_right ..)
    · rw [List.length_append]
      exact Nat.add_le_add_right m.1 1
  · rw [valV_put]
    by_cases e : i = j
    · subst e
      rw [if_pos rfl, List.contains_iff_mem.mpr (List.mem_append_right _ (List.mem_cons_self ..))]
      rfl
    · rw [if_neg (by intro z; injection z with z; exact e (by omega)), m.2 i, Bool.eq_iff_iff, List.contains_iff_mem, List.contains_iff_mem, List.mem_append]
      constructor
      · exact fun z => .inl z
      · rintro (z | z)
        · exact z
        · exact absurd (List.mem_singleton.mp z) e
def idAt (h : House) (j : Nat) : Nat := ((h[j]?).map fun x => x.id).getD 0
theorem idAt_get {h : House} {j : Nat} {x : Piece} (e : h[j]? = some x) : idAt h j = x.id := by
  unfold idAt
  rw [e]
  rfl
/-- numbers picked out of the keys, as a walk over them gives it -/
theorem out_keys (h : House) (q : Nat → Bool) : outV (fun j => ((h[j]?).map fun x => q x.id).getD false) (fun j => nV (idAt h j)) h.length = ((ids h).filter q).map nV := by
  have go : ∀ n, n ≤ h.length → outV (fun j => ((h[j]?).map fun x => q x.id).getD false) (fun j => nV (idAt h j)) n = ((ids (h.take n)).filter q).map nV := by
    intro n
    induction n with
    | zero => intro _; rfl
    | succ n ih =>
      intro hn
      have hx : h[n]? = some h[n] := List.getElem?_eq_getElem hn
      rw [outV_succ, ih (Nat.le_of_succ_le hn), take_one hx, HM.ids_append, List.filter_append, List.map_append, hx, idAt_get hx]
      congr 1
      show (if q h[n].id = true then [nV h[n].id] else []) = (([h[n].id] : List Nat).filter q).map nV
      rw [List.filter_cons]
      split <;> rfl
  rw [go h.length (Nat.le_refl _), List.take_length]
theorem bear_len {h : House} (w : HM.Wf h) : ∀ j, ((h.take j).flatMap (·.rests)).length ≤ h.length * h.length := by
  intro j
  have go : ∀ (l : House), (∀ x ∈ l, x ∈ h) → (l.flatMap (·.rests)).length ≤ l.length * h.length := by
    intro l
    induction l with
    | nil => exact fun _ => Nat.zero_le _
    | cons x l ih =>
      intro hl
      rw [List.flatMap_cons, List.length_append, List.length_cons, Nat.succ_mul]
      have := ih fun y hy => hl y (List.mem_cons_of_mem _ hy)
      have := HM.rests_len w (hl x (List.mem_cons_self ..))
      omega
  exact Nat.le_trans (go _ fun x hx => List.mem_of_mem_take hx) (Nat.mul_le_mul_right _ (List.length_take_le' ..))
section
variable {P : Program} {w : World} {K : PySem.W.Frag} {mg : Str → Option Value} {base : Heap} {CP CH : Addr}
/-! ### free -/
def spFree (CP CH : Addr) : Sp := fun vs H Q _ => ∃ (av : Addr → Prop) (ph : Addr) (t : State), vs = [.ref ph] ∧ HouseAv av CP CH H ph true t ∧ HM.SWf t ∧ Gives av CP CH ph H Q (Mu56.step (some t) .free)
theorem scFree : FnScope ["house", "bearing", "piece", "number", "bare"] ["house"] (defScope sFree) := ⟨rfl, rfl, rfl, by decide +kernel, rfl, by decide +kernel, by decide +kernel⟩
theorem ok_free {f : Addr} {fd : FuncData} (F : Fun K "free" "free" sFree f fd) (T : Txt K mg CP CH) : FnOk P w K mg base CX0 1 f fd ["house"] (spFree CP CH) := by
  refine F.ok scFree (fun vs H Q E h => ?_) (fun cdv A outer s H vs Q E hr h => ?_)
  · obtain ⟨av, ph, t, rfl, _⟩ := h
    rfl
  · obtain ⟨av, ph, t, rfl, HV, W, k⟩ := h
    have HA := HV.at
    have hu := hu_of hr
    refine ⟨_, pss_cons (ps_set (i := 1) scFree.nd rfl (Or.inr rfl) pe_dnewK)
      (pss_cons (ps_lock (ps_for PassesOwn.never rfl (pi_values (pe_fld (pv 0) rfl)) (pg_name (i := 2) scFree.nd rfl (Or.inl rfl))
        (pss_one (ps_for PassesOwn.never rfl (pi_list (pe_fld (pv 2) rfl)) (pg_name (i := 3) scFree.nd rfl (Or.inl rfl))
          (pss_one (ps_dput hu (pv 1) (pv 3) pe_bl rfl))))))
      (pss_cons (ps_lock (ps_setLc (i := 4) (own := [("number", 3)]) (g := gName 3) (tt := tB (tDNotIn (tVar 3) (tVar 1))) (te := tVar 3) rfl scFree.nd rfl rfl (sw_true rfl rfl rfl (by decide +kernel)) (pi_keys (pe_fld (pv 0) rfl))
          (blkOk_by (own := [("number", 3)]) (N := ["house", "bearing", "piece", "number", "bare"]) (sc := defScope sFree) (by decide +kernel))
          (fun _ _ _ _ _ => pg_name (i := 3) scFree.nd rfl (Or.inl rfl)) (fun _ _ _ _ _ => pts_one (pt_cmp (pc_dnotin hu (pv 3) (pv 1)))) (fun _ _ _ _ _ => pv 3)))
      (pss_one (ps_ret (pe_op op_cat (pe_lst (pa_cons (pe_callB call_len_seq (by rfl) T.len PySem.boot_len (pa_cons (pv 4) pa_nil)) pa_nil)) (pv 4)))))), ?_⟩
    obtain ⟨dx, pd, ad, HI⟩ := id HA
    intro bd hbd
    have nbp : pd ≠ bd := ne_of_none HI.dc hbd
    refine ⟨pd, _, (upd_ne nbp).trans HI.dc, trivial, fun od => ?_⟩
    have hob := lock_at (od := od) HI.dc HI.ob (by intro z; cases z)
    have hpc := fun x hx => (HI.pc x hx).lock (od := od) HI.dc
    generalize hHL : upd H pd (.frz od (.dK (t.house.map (kvOf ad)))) = HL at hob hpc
    have hdc : HL pd = some (.frz od (.dK (t.house.map (kvOf ad)))) := by rw [← hHL]; exact upd_same
    have hbL : HL bd = none := by rw [← hHL, upd_ne nbp.symm]; exact hbd
    have s0 : Same HL (upd (upd H bd (.dK [])) pd (.frz od (.dK (t.house.map (kvOf ad))))) := fun b o e => by
      rw [← hHL] at e
      by_cases q : b = pd
      · subst q
        rw [upd_same] at e ⊢
        exact e
      · rw [upd_ne q] at e ⊢
        exact (upd_ne (ne_of_none e hbd)).trans e
    have hb0 : (upd (upd H bd (.dK [])) pd (.frz od (.dK (t.house.map (kvOf ad))))) bd = some (.dK []) := by rw [upd_ne nbp.symm, upd_same]
    refine ⟨_, rfl, ph, CH, dx, _, _, rfl, s0 _ _ hob, T.clH, T.nPieces, hF_pieces, pd, od, _, rfl, s0 _ _ hdc, ?_⟩
    refine for_it walk_values (fun j σ H' => ∃ v2 v3 kv, σ = [some (.ref ph), some (.ref bd), v2, v3, none] ∧ Same HL H' ∧ H' bd = some (.dK kv) ∧ Marked kv ((t.house.take j).flatMap (·.rests)))
      ⟨none, none, [], rfl, s0, hb0, Marked.nil⟩ (fun j σ H' _ ⟨_, _, _, _, s1, _⟩ => s1 _ _ hdc) ?_ ?_
    · rintro j v σ H1 H2 hj ⟨v2, v3, kv, rfl, s1, h1, mk⟩ ⟨rfl, kk, hk⟩
      rw [List.length_map] at hj
      have hx : t.house[j]? = some t.house[j] := List.getElem?_eq_getElem hj
      generalize t.house[j] = x at hx
      have hm : x ∈ t.house := List.mem_of_getElem? hx
      rw [List.getElem?_map, hx] at hk
      have hk : kvOf ad x = (kk, v) := Option.some.inj hk
      obtain rfl : V.ref (ad x.id) = v := congrArg Prod.snd hk
      obtain ⟨dp, r, q1, q2⟩ := hpc x hm
      have rl := HM.rests_len W.wf hm
      -- for number in piece.rests: bearing[number] = True
      refine ⟨_, rfl, _, CP, dp, _, _, rfl, s1 _ _ q1, T.clP, T.nRests, pF_rests, r, rfl, ⟨_, SqL.of (s1 _ _ q2)⟩, for_list (K := K) (a := r) (xs := x.rests.map nV) (fun c σ H' => ∃ v3 kv, σ = [some (.ref ph), some (.ref bd), some (.ref (ad x.id)), v3, none] ∧ Same HL H' ∧ H' bd = some (.dK kv) ∧
          Marked kv ((t.house.take j).flatMap (·.rests) ++ x.rests.take c)) ⟨v3, kv, rfl, s1, h1, ?_⟩ (fun c σ H' _ ⟨_, _, _, q, _⟩ => SqL.of (q _ _ q2)) ?_ ?_⟩
      · rw [List.take_zero, List.append_nil]
        exact mk
      · rintro c y σ H3 hc ⟨v3, kv, rfl, s3, h3, mk⟩
        obtain ⟨i, hi, rfl⟩ := get_nV hc
        have few : kv.length < sizeLine := by
          refine size_le (Nat.le_trans mk.1 ?_)
          rw [List.length_append]
          have l1 := bear_len W.wf j
          have l2 := List.length_take_le' c x.rests
          have := W.few
          have : t.house.length * t.house.length ≤ 9 * 9 := Nat.mul_le_mul W.few W.few
          omega
        refine ⟨_, rfl, _, rfl, bd, _, rfl, DPut.k (k := Sum.inl (i : Int)) h3 few, _, _, rfl, same_in s3 hbL h3, upd_same, ?_⟩
        rw [take_one hi, ← List.append_assoc]
        exact mk.put i _
      · rintro σ H3 ⟨v3, kv, rfl, s3, h3, mk⟩
        refine ⟨_, _, _, rfl, s3, h3, ?_⟩
        rw [List.length_map, List.take_length] at mk
        rw [take_one hx, List.flatMap_append]
        show Marked kv (_ ++ (x.rests ++ []))
        rw [List.append_nil]
        exact mk
    · rintro σ H1 ⟨v2, v3, kv, rfl, s1, h1, mk⟩
      rw [List.length_map, List.take_length] at mk
      refine ⟨s1 _ _ hdc, ?_⟩
      have s1' := s1
      rw [← hHL] at s1'
      have s2 : Same H (upd H1 pd (.dK (t.house.map (kvOf ad)))) := same_unlock HI.dc s1'
      have h2 : upd H1 pd (.dK (t.house.map (kvOf ad))) bd = some (.dK kv) := (upd_ne nbp.symm).trans h1
      generalize upd H1 pd (.dK (t.house.map (kvOf ad))) = H2 at s2 h2
      have HI2 := HI.mono s2
      have k2 := k.pull s2
      clear k s1 s1' h1 hob hpc hHL hdc s0 hb0 hbL
      -- bare = [number for number in house.pieces if number not in bearing]
      refine ⟨pd, _, HI2.dc, trivial, fun oe => ?_⟩
      have gob := lock_at (od := oe) HI2.dc HI2.ob (by intro z; cases z)
      have gbd := (upd_ne (o := .frz oe (.dK (t.house.map (kvOf ad)))) nbp.symm).trans h2
      refine ⟨_, rfl, ph, CH, dx, _, _, rfl, gob, T.clH, T.nPieces, hF_pieces, pd, oe, rfl, .inl ⟨_, upd_same, ?_⟩⟩
      generalize hHM : upd H2 pd (.frz oe (.dK (t.house.map (kvOf ad)))) = HM1 at gob gbd
      have gdc : HM1 pd = some (.frz oe (.dK (t.house.map (kvOf ad)))) := by rw [← hHM]; exact upd_same
      refine lc_gen walk_keys (fun j => nV (idAt t.house j)) (fun j => ((t.house[j]?).map fun x => !(t.house.flatMap (·.rests)).contains x.id).getD false) (fun j => nV (idAt t.house j)) ?_ ?_ (fun H' s => s _ _ gdc) ?_ ?_ ?_
      · rintro j H5 y H6 hj ⟨rfl, kk, v, hk, rfl⟩
        refine ⟨rfl, ?_⟩
        rw [List.length_map] at hj
        rw [List.getElem?_map, List.getElem?_eq_getElem hj] at hk
        have hk : kvOf ad t.house[j] = (kk, v) := Option.some.inj hk
        have hk1 : (Sum.inl ((t.house[j].id : Nat) : Int) : Key) = kk := congrArg Prod.fst hk
        rw [idAt_get (List.getElem?_eq_getElem hj), ← hk1]
        rfl
      · rw [List.length_map]
        exact Nat.le_trans W.few (by decide)
      · intro j hj H5 s5 R hR
        rw [List.length_map] at hj
        have hx : t.house[j]? = some t.house[j] := List.getElem?_eq_getElem hj
        refine ⟨_, rfl, _, rfl, bd, _, rfl, DGet.k (k := Sum.inl ((idAt t.house j : Nat) : Int)) (s5 _ _ gbd), _, rfl, ?_⟩
        rw [hx] at hR
        rw [idAt_get hx]
        have e : (valV kv (Sum.inl ((t.house[j].id : Nat) : Int) : Key)).isSome = _ := mk.2 t.house[j].id
        show R (!(valV kv (Sum.inl ((t.house[j].id : Nat) : Int) : Key)).isSome) H5
        rw [e]
        exact hR
      · intro j hj _ H5 s5 R hR
        exact ⟨_, rfl, hR⟩
      · intro D H5 s5 hD e5
        rw [List.length_map, out_keys t.house fun i => !(t.house.flatMap (·.rests)).contains i, ← HM.free_eq] at e5
        refine ⟨s5 _ _ gdc, ?_⟩
        have nDp : D ≠ pd := (ne_of_none gdc hD).symm
        have s5' := s5
        rw [← hHM] at s5' hD
        have s6 : Same H2 (upd H5 pd (.dK (t.house.map (kvOf ad)))) := same_unlock HI2.dc s5'
        have e6 : upd H5 pd (.dK (t.house.map (kvOf ad))) D = some (.lst ((Mu56.free t.house).map nV)) := (upd_ne nDp).trans e5
        generalize upd H5 pd (.dK (t.house.map (kvOf ad))) = H6 at s6 e6
        have k6 := k2.pull s6
        have HV6 := HV.mono (s2.trans s6)
        refine ⟨_, rfl, D, _, rfl, .inl (SqL.of e6), (by show 1 ≤ sizeLine; decide), fun p hp => ?_⟩
        have s7 : Same H6 (upd H6 p (.lst [V.int ((((Mu56.free t.house).map nV).length : Nat) : Int)])) := same_new hp
        refine ⟨_, rfl, p, D, _, _, rfl, rfl, upd_same, s7 _ _ e6, ?_, fun q hq => ?_⟩
        · rw [List.length_map, HM.free_eq]
          have := Nat.le_trans (List.length_filter_le (fun i => !(t.house.flatMap (·.rests)).contains i) (ids t.house)) (Nat.le_of_eq (HM.ids_len t.house))
          have := W.few
          exact Nat.le_of_lt (size_le (by show 1 + _ ≤ _; omega))
        · have s8 := s7.trans (same_new (o := .lst ([V.int ((((Mu56.free t.house).map nV).length : Nat) : Int)] ++ (Mu56.free t.house).map nV)) hq)
          refine k6 t _ q rfl (HV6.mono s8) (.of s8) (s7.free hq) ?_
          have est : Mu56.step (some t) .free = (some t, Mu56.nums ((Mu56.free t.house).length :: Mu56.free t.house)) := rfl
          rw [upd_same, est, nums_V, List.length_map]
          rfl
end
end LH

/-! ## B8 -/
namespace LH
open PySem PySem.Spec PyProof.Rows L2
open Mu56 (Piece State House ids falls taken)
/-! ### xs[i] op= e, xs a list, i from 0 on -/
def rGetN (K : PySem.W.Frag) : V → V → Hp → VK → Prop := fun o i H Q => ∃ p xs j v, o = .ref p ∧ i = nV j ∧ SqL K H p xs ∧ xs[j]? = some v ∧ Q v H
theorem get_listN {X : Cx} : PGet X (rGetN X.K) := by
  intro pins s σ H o i ov iv Q I ro ri h
  obtain ⟨p, xs, j, v, rfl, rfl, hq, hv, q⟩ := h
  cases ro
  obtain ⟨t, rfl⟩ := ri
  obtain ⟨its, r, il, hz⟩ := I.list hq
  obtain ⟨u, eu, ru⟩ := r.get hv
  have hl := r.length
  have hj := (List.getElem?_eq_some_iff.mp hv).1
  have hn := line63
  exact wpAny_getItem_list il.isList (Int.natCast_nonneg j) (by omega) (by simpa using eu) ⟨v, H, I, ru, q⟩
theorem val_map {f : Nat → V} (i : Nat) : ∀ (h : House), valV (h.map fun x => ((Sum.inl (x.id : Int), f x.id) : Key × V)) (Sum.inl (i : Int) : Key) = if i ∈ ids h then some (f i) else none
  | [] => rfl
  | x :: h => by
    rw [List.map_cons, HM.ids_cons]
    by_cases e : x.id = i
    · subst e
      rw [valV_pos (by rfl), if_pos (List.mem_cons_self ..)]
    · rw [valV_neg (fun q => e (by have : (Sum.inl (x.id : Int) : Key) = Sum.inl (i : Int) := q; injection this with this; omega)), val_map i h]
      by_cases m : i ∈ ids h
      · rw [if_pos m, if_pos (List.mem_cons_of_mem _ m)]
      · rw [if_neg m, if_neg (by intro q; rcases List.mem_cons.mp q with q | q; exact e q.symm; exact m q)]
/-- what comes earlier stands ahead -/
theorem early {h : House} (w : HM.Wf h) {j : Nat} {x : Piece} (hx : h[j]? = some x) {i : Nat} (hi : i ∈ ids h) (lt : i < x.id) : i ∈ ids (h.take j) := by
  obtain ⟨y, hy, rfl⟩ := HM.mem_ids.mp hi
  have es : h = h.take j ++ h.drop j := (List.take_append_drop j h).symm
  rw [es] at hy
  rcases List.mem_append.mp hy with q | q
  · exact HM.mem_ids.mpr ⟨y, q, rfl⟩
  · exfalso
    have hd : h.drop j = x :: h.drop (j + 1) := by
      have hj := (List.getElem?_eq_some_iff.mp hx).1
      rw [List.drop_eq_getElem_cons hj]
      congr 1
      exact (List.getElem?_eq_some_iff.mp hx).2
    have rs := w.rise
    rw [es, HM.ids_append, List.pairwise_append] at rs
    rw [hd] at q rs
    obtain ⟨p1, _⟩ := List.pairwise_cons.mp rs.2.1
    rcases List.mem_cons.mp q with q | q
    · rw [q] at lt; exact Nat.lt_irrefl _ lt
    · have : x.id < y.id := p1 y.id (List.mem_map.mpr ⟨y, q, rfl⟩)
      omega
/-- the marks as tuples in the heap -/
def MarksAt (H : Hp) (as : List Addr) (ms : List (Nat × Nat)) : Prop := as.length = ms.length ∧ ∀ (j : Nat) (m : Nat × Nat), ms[j]? = some m → ∃ a, as[j]? = some a ∧ H a = some (.tup [nV m.1, nV m.2])
theorem MarksAt.mono {H H' : Hp} {as : List Addr} {ms : List (Nat × Nat)} (m : MarksAt H as ms) (s : Same H H') : MarksAt H' as ms := ⟨m.1, fun j p hp => by
  obtain ⟨a, h1, h2⟩ := m.2 j p hp
  exact ⟨a, h1, s _ _ h2⟩⟩
theorem MarksAt.snoc {H : Hp} {as : List Addr} {ms : List (Nat × Nat)} {a : Addr} {m : Nat × Nat} (q : MarksAt H as ms) (h : H a = some (.tup [nV m.1, nV m.2])) : MarksAt H (as ++ [a]) (ms ++ [m]) := by
  refine ⟨by rw [List.length_append, List.length_append, q.1]; rfl, fun j p hp => ?_⟩
  by_cases hj : j < ms.length
  · rw [List.getElem?_append_left hj] at hp
    obtain ⟨b, h1, h2⟩ := q.2 j p hp
    exact ⟨b, by rw [List.getElem?_append_left (by rw [q.1]; exact hj)]; exact h1, h2⟩
  · rw [List.getElem?_append_right (by omega)] at hp
    by_cases e : j - ms.length = 0
    · rw [e] at hp
      obtain rfl : m = p := Option.some.inj hp
      refine ⟨a, ?_, h⟩
      rw [List.getElem?_append_right (by rw [q.1]; omega), q.1, e]
      rfl
    · rw [List.getElem?_eq_none (by show 1 ≤ _; omega)] at hp
      cases hp
theorem sum_cast (l : List Nat) (f : Nat → Nat) : (l.map fun i => ((f i : Nat) : Int)).sum = (((l.map f).sum : Nat) : Int) := by
  induction l with
  | nil => rfl
  | cons a l ih => rw [List.map_cons, List.map_cons, List.sum_cons, List.sum_cons, ih, Int.natCast_add]
section
variable {P : Program} {w : World} {K : PySem.W.Frag} {mg : Str → Option Value} {base : Heap} {CP CH : Addr}
def kvB (h : House) (x : Piece) : Key × V := (Sum.inl (x.id : Int), nV (2 ^ HM.place h x.id))
/-- a bit by its piece's number -/
theorem bit_get {h : House} {H : Hp} {bd : Addr} (hb : H bd = some (.dK (h.map (kvB h)))) {i : Nat} (hi : i ∈ ids h) : DGet H bd (nV i) (some (nV (2 ^ HM.place h i))) := by
  have := DGet.k (k := Sum.inl (i : Int)) hb
  rw [show valV (h.map (kvB h)) (Sum.inl (i : Int) : Key) = some (nV (2 ^ HM.place h i)) from (val_map (f := fun i => nV (2 ^ HM.place h i)) i h).trans (if_pos hi)] at this
  exact this
/-! ### piece_bits -/
def spBits (CP CH : Addr) : Sp := fun vs H Q _ => ∃ (ph : Addr) (t : State), vs = [.ref ph] ∧ HouseAt CP CH H ph true t ∧ HM.SWf t ∧
  ∀ H' p, Same H H' → H p = none → H' p = some (.dK (t.house.map (kvB t.house))) → Q (.ref p) H'
theorem scBits : FnScope ["house", "bits", "own", "number"] ["house"] (defScope sBits) := ⟨rfl, rfl, rfl, by decide +kernel, rfl, by decide +kernel, by decide +kernel⟩
theorem ok_bits {f : Addr} {fd : FuncData} (F : Fun K "piece_bits" "piece_bits" sBits f fd) (T : Txt K mg CP CH) : FnOk P w K mg base CX0 1 f fd ["house"] (spBits CP CH) := by
  refine F.ok scBits (fun vs H Q E h => ?_) (fun cdv A outer s H vs Q E hr h => ?_)
  · obtain ⟨ph, t, rfl, _⟩ := h
    rfl
  · obtain ⟨ph, t, rfl, HA, W, k⟩ := h
    have hu := hu_of hr
    refine ⟨_, pss_cons (ps_set (i := 1) scBits.nd rfl (Or.inl rfl) pe_dnewK)
      (pss_cons (ps_set (i := 2) scBits.nd rfl (Or.inl rfl) pe_int)
      (pss_cons (ps_lock (ps_for PassesOwn.never rfl (pi_keys (pe_fld (pv 0) rfl)) (pg_name (i := 3) scBits.nd rfl (Or.inl rfl))
        (pss_cons (ps_dput hu (pv 1) (pv 3) (pv 2) rfl)
        (pss_one (ps_set (i := 2) scBits.nd rfl (Or.inl rfl) (pe_op op_mul (pv 2) pe_int))))))
      (pss_one (ps_ret (pv 1))))), ?_⟩
    obtain ⟨dx, pd, ad, HI⟩ := id HA
    intro bd hbd
    have nbp : pd ≠ bd := ne_of_none HI.dc hbd
    refine ⟨pd, _, (upd_ne nbp).trans HI.dc, trivial, fun od => ?_⟩
    have hob := lock_at (od := od) HI.dc HI.ob (by intro z; cases z)
    generalize hHL : upd H pd (.frz od (.dK (t.house.map (kvOf ad)))) = HL at hob
    have hdc : HL pd = some (.frz od (.dK (t.house.map (kvOf ad)))) := by rw [← hHL]; exact upd_same
    have hbL : HL bd = none := by rw [← hHL, upd_ne nbp.symm]; exact hbd
    have s0 : Same HL (upd (upd H bd (.dK [])) pd (.frz od (.dK (t.house.map (kvOf ad))))) := fun b o e => by
      rw [← hHL] at e
      by_cases q : b = pd
      · subst q
        rw [upd_same] at e ⊢
        exact e
      · rw [upd_ne q] at e ⊢
        exact (upd_ne (ne_of_none e hbd)).trans e
    have hb0 : (upd (upd H bd (.dK [])) pd (.frz od (.dK (t.house.map (kvOf ad))))) bd = some (.dK []) := by rw [upd_ne nbp.symm, upd_same]
    refine ⟨_, rfl, ph, CH, dx, _, _, rfl, s0 _ _ hob, T.clH, T.nPieces, hF_pieces, pd, od, rfl, .inl ⟨_, s0 _ _ hdc, ?_⟩⟩
    refine for_it walk_keys (fun j σ H' => ∃ v3, σ = [some (.ref ph), some (.ref bd), some (nV (2 ^ j)), v3] ∧ Same HL H' ∧ H' bd = some (.dK ((t.house.take j).map (kvB t.house))))
      ⟨none, rfl, s0, hb0⟩ (fun j σ H' _ ⟨_, _, s1, _⟩ => s1 _ _ hdc) ?_ ?_
    · rintro j v σ H1 H2 hj ⟨v3, rfl, s1, h1⟩ ⟨rfl, kk, vv, hk, rfl⟩
      rw [List.length_map] at hj
      have hx : t.house[j]? = some t.house[j] := List.getElem?_eq_getElem hj
      generalize t.house[j] = x at hx
      have few := W.few
      rw [List.getElem?_map, hx] at hk
      have hk : kvOf ad x = (kk, vv) := Option.some.inj hk
      obtain rfl : (Sum.inl ((x.id : Nat) : Int) : Key) = kk := congrArg Prod.fst hk
      have lb : ((t.house.take j).map (kvB t.house)).length < sizeLine := by
        rw [List.length_map]
        exact size_le (Nat.le_trans (List.length_take_le' ..) (by omega))
      refine ⟨_, rfl, _, rfl, _, rfl, bd, _, rfl, DPut.k (k := Sum.inl (x.id : Int)) h1 lb, ?_⟩
      have nin : x.id ∉ ids (t.house.take j) := fun q => by
        obtain ⟨y, hy, e⟩ := HM.mem_ids.mp q
        obtain ⟨j', hj'⟩ := List.mem_iff_getElem?.mp hy
        rw [List.getElem?_take] at hj'
        split at hj'
        · have p1 := HM.place_of W.wf.nd hj'
          have p2 := HM.place_of W.wf.nd hx
          rw [e] at p1
          omega
        · cases hj'
      have eput : putK ((t.house.take j).map (kvB t.house)) (Sum.inl (x.id : Int) : Key) (nV (2 ^ j)) = (t.house.take (j + 1)).map (kvB t.house) := by
        rw [putK_new _ (by
          have := val_map (f := fun i => nV (2 ^ HM.place t.house i)) x.id (t.house.take j)
          rw [if_neg nin] at this
          exact this), take_one hx, List.map_append]
        show _ ++ [(_, nV (2 ^ j))] = _ ++ [(_, nV (2 ^ HM.place t.house x.id))]
        rw [HM.place_of W.wf.nd hx]
      rw [eput]
      refine ⟨_, rfl, _, _, rfl, rfl, .inl ⟨?_, ?_⟩, some (nV x.id), ?_, same_in s1 hbL h1, upd_same⟩
      · exact Int.lt_of_lt_of_le (by decide) (Int.natCast_nonneg (2 ^ j))
      · show ((2 ^ j : Nat) : Int) < 2 ^ 64
        have : 2 ^ j ≤ 2 ^ 9 := Nat.pow_le_pow_right (by decide) (by omega)
        omega
      · show [_, _, some (V.int (((2 ^ j : Nat) : Int) * 2)), _] = [_, _, some (nV (2 ^ (j + 1))), _]
        unfold nV
        rw [Nat.pow_succ, Int.natCast_mul]
        rfl
    · rintro σ H1 ⟨v3, rfl, s1, h1⟩
      rw [List.length_map, List.take_length] at h1
      refine ⟨s1 _ _ hdc, _, rfl, ?_⟩
      have s1' := s1
      rw [← hHL] at s1'
      exact k _ bd (same_unlock HI.dc s1') hbd ((upd_ne nbp.symm).trans h1)
/-! ### rest_marks -/
def spMarks (CP CH : Addr) : Sp := fun vs H Q _ => ∃ (ph : Addr) (t : State), vs = [.ref ph] ∧ HouseAt CP CH H ph true t ∧ HM.SWf t ∧
  ∀ H' p as, Same H H' → H p = none → H' p = some (.lst (as.map V.ref)) → MarksAt H' as (HM.marksOf t.house) → Q (.ref p) H'
theorem scMarks : FnScope ["house", "bits", "marks", "number", "piece", "each"] ["house"] (defScope sRestMarks) := ⟨rfl, rfl, rfl, by decide +kernel, rfl, by decide +kernel, by decide +kernel⟩
theorem ok_marks {f : Addr} {fd : FuncData} (F : Fun K "rest_marks" "rest_marks" sRestMarks f fd) (T : Txt K mg CP CH) (CB : Cal P w K mg base "piece_bits" 1 ["house"] (spBits CP CH)) : FnOk P w K mg base CX0 2 f fd ["house"] (spMarks CP CH) := by
  refine F.ok scMarks (fun vs H Q E h => ?_) (fun cdv A outer s H vs Q E hr h => ?_)
  · obtain ⟨ph, t, rfl, _⟩ := h
    rfl
  · obtain ⟨ph, t, rfl, HA, W, k⟩ := h
    have hu := hu_of hr
    refine ⟨_, pss_cons (ps_set (i := 1) scMarks.nd rfl (Or.inr rfl) (pe_cal CB hr rfl (pa_cons (pv 0) pa_nil)))
      (pss_cons (ps_set (i := 2) scMarks.nd rfl (Or.inl rfl) (pe_lst pa_nil))
      (pss_cons (ps_lock (ps_for PassesOwn.never rfl (pi_items (pe_fld (pv 0) rfl))
          (pg_tup rfl (pgs_cons (pg_name (i := 3) scMarks.nd rfl (.inl rfl)) (pgs_cons (pg_name (i := 4) scMarks.nd rfl (.inl rfl)) pgs_nil)))
        (pss_one (ps_expr (pe_bm PySem.F.plainAttrs_list PySem.F.slot_list_append PySem.F.type_list_append mt_append (pv 2) (pa_cons
          (pe_tup (pa_cons (pe_dget hu (pv 1) (pv 3) (fun _ _ => rfl)) (pa_cons (pe_callB (cr_sum rfl) (by rfl) T.sum (by decide +kernel) (pa_cons
            (pe_lc (own := [("each", 5)]) (g := gName 5) (tt := tYes) (te := tDGet (tVar 1) (tVar 5)) rfl scMarks.nd (pi_list (pe_fld (pv 4) rfl)) (blkOk_by (own := [("each", 5)]) (N := ["house", "bits", "marks", "number", "piece", "each"]) (sc := defScope sRestMarks) (by decide +kernel))
              (fun _ _ _ _ _ => pg_name (i := 5) scMarks.nd rfl (Or.inl rfl)) (fun _ _ _ _ _ => pts_nil) (fun _ _ _ _ _ => pe_dget hu (pv 1) (pv 5) (fun _ _ => rfl))) pa_nil)) pa_nil))) pa_nil))))))
      (pss_one (ps_ret (pv 2))))), ?_⟩
    obtain ⟨dx, pd, ad, HI⟩ := id HA
    refine ⟨_, rfl, ph, t, rfl, HA, W, fun HA1 bd sA hbd hb => ?_⟩
    have nbp : pd ≠ bd := ne_of_none HI.dc hbd
    refine ⟨Nat.zero_le _, fun l hl => ?_⟩
    have hl0 : H l = none := sA.free hl
    have nlb : bd ≠ l := ne_of_none hb hl
    have sB : Same H (upd HA1 l (.lst [])) := sA.trans (same_new hl)
    have hbB : upd HA1 l (.lst []) bd = some (.dK (t.house.map (kvB t.house))) := (upd_ne nlb).trans hb
    have hlB : upd HA1 l (.lst []) l = some (.lst []) := upd_same
    generalize upd HA1 l (.lst []) = HB at sB hbB hlB
    have nlp : pd ≠ l := ne_of_none HI.dc hl0
    refine ⟨pd, _, sB _ _ HI.dc, trivial, fun od => ?_⟩
    have hob := lock_at (od := od) HI.dc HI.ob (by intro z; cases z)
    have hpc := fun x hx => (HI.pc x hx).lock (od := od) HI.dc
    generalize hHL : upd H pd (.frz od (.dK (t.house.map (kvOf ad)))) = HL at hob hpc
    have hdc : HL pd = some (.frz od (.dK (t.house.map (kvOf ad)))) := by rw [← hHL]; exact upd_same
    have hlL : HL l = none := by rw [← hHL, upd_ne nlp.symm]; exact hl0
    have s0 : Same HL (upd HB pd (.frz od (.dK (t.house.map (kvOf ad))))) := fun b o e => by
      rw [← hHL] at e
      by_cases q : b = pd
      · subst q
        rw [upd_same] at e ⊢
        exact e
      · rw [upd_ne q] at e ⊢
        exact sB _ _ e
    refine ⟨_, rfl, ph, CH, dx, _, _, rfl, s0 _ _ hob, T.clH, T.nPieces, hF_pieces, pd, od, _, rfl, s0 _ _ hdc, ?_⟩
    refine for_it walk_items (fun j σ H' => ∃ v3 v4 as, σ = [some (.ref ph), some (.ref bd), some (.ref l), v3, v4, none] ∧ Same HL H' ∧ H' bd = some (.dK (t.house.map (kvB t.house))) ∧ H' l = some (.lst (as.map V.ref)) ∧ MarksAt H' as ((HM.marksOf t.house).take j))
      ⟨none, none, [], rfl, s0, (upd_ne nbp.symm).trans hbB, (upd_ne nlp.symm).trans hlB, ⟨rfl, fun j m h => by rw [List.take_zero] at h; cases h⟩⟩ (fun j σ H' _ ⟨_, _, _, _, s1, _⟩ => s1 _ _ hdc) ?_ ?_
    · rintro j v σ H1 H2 hj ⟨v3, v4, as, rfl, s1, h1, h2, mk⟩ y
      obtain ⟨T0, x, hx, rfl, hT, rfl⟩ := item_at hj y
      rw [List.length_map] at hj
      have hm : x ∈ t.house := List.mem_of_getElem? hx
      have few := W.few
      have sT : Same H1 (upd H1 T0 (.tup [nV x.id, .ref (ad x.id)])) := same_new hT
      refine ⟨T0, _, rfl, SqT.of upd_same, rfl, _, _, rfl, _, _, rfl, rfl, ?_⟩
      obtain ⟨dp, r, hp1', hp2'⟩ := ((hpc x hm).mono s1).mono sT
      have g3 := sT _ _ h1
      have g2' := sT _ _ h2
      have mk3 := mk.mono sT
      have sL3 := s1.trans sT
      generalize upd H1 T0 (.tup [nV x.id, .ref (ad x.id)]) = H3 at hp1' hp2' g3 g2' mk3 sL3
      have hid : x.id ∈ ids t.house := HM.mem_ids.mpr ⟨x, hm, rfl⟩
      have gx : DGet H3 bd (nV x.id) (some (nV (2 ^ j))) := by
        have := bit_get g3 hid
        rw [HM.place_of W.wf.nd hx] at this
        exact this
      -- marks.append((bits[number], sum([bits[each] for each in piece.rests])))
      refine ⟨_, rfl, .inl ⟨rfl, _, SqL.of g2'⟩, _, rfl, _, rfl, bd, _, rfl, gx, _, rfl, _, CP, dp, _, _, rfl, hp1', T.clP, T.nRests, pF_rests, r, rfl, ⟨_, SqL.of hp2'⟩, ?_⟩
      refine lc_map (fun y => match y with | .int z => nV (2 ^ HM.place t.house z.toNat) | _ => .non) (SqL.of hp2') (by rw [List.length_map]; have := HM.rests_len W.wf hm; omega) ?_ ?_
      · intro y hy H4 s4 R hR
        obtain ⟨i, hi, rfl⟩ := List.mem_map.mp hy
        exact ⟨_, rfl, _, rfl, bd, _, rfl, bit_get (s4 _ _ g3) (W.wf.rest x hm i hi).1, hR⟩
      · intro D H4 s4 hD e4
        have ec : (x.rests.map nV).map (fun y => match y with | .int z => nV (2 ^ HM.place t.house z.toNat) | _ => .non) = (x.rests.map fun i => ((2 ^ HM.place t.house i : Nat) : Int)).map V.int := by
          rw [List.map_map, List.map_map]
          exact List.map_congr_left fun i _ => rfl
        rw [ec] at e4
        refine ⟨D, _, rfl, SqL.of e4, (by show 2 ≤ sizeLine; decide), fun p hp => ?_⟩
        have en : (x.rests.map fun i => ((2 ^ HM.place t.house i : Nat) : Int)).sum = ((HM.needs t.house x : Nat) : Int) := by
          rw [sum_cast x.rests fun i => 2 ^ HM.place t.house i]
          unfold HM.needs HM.mask
          rw [List.map_map]
          rfl
        rw [en]
        have s5 : Same H4 (upd H4 p (.tup [nV (2 ^ j), V.int ((HM.needs t.house x : Nat) : Int)])) := same_new hp
        have sL5 : Same HL _ := (sL3.trans s4).trans s5
        have g5 := s5 _ _ (s4 _ _ g2')
        have g6 := s5 _ _ (s4 _ _ g3)
        have mk5 := (mk3.mono s4).mono s5
        have tp5 : upd H4 p (.tup [nV (2 ^ j), V.int ((HM.needs t.house x : Nat) : Int)]) p = some (.tup [nV (2 ^ j), nV (HM.needs t.house x)]) := upd_same
        generalize upd H4 p (.tup [nV (2 ^ j), V.int ((HM.needs t.house x : Nat) : Int)]) = H5 at s5 sL5 g5 g6 mk5 tp5
        have lm : (as.map V.ref).length < sizeLine := by
          rw [List.length_map, mk5.1]
          refine size_le (Nat.le_trans (List.length_take_le' ..) ?_)
          unfold HM.marksOf
          rw [List.length_map, List.length_range]
          omega
        refine ⟨l, _, _, rfl, rfl, g5, lm, ?_⟩
        refine ⟨some (nV x.id), some (.ref (ad x.id)), as ++ [p], rfl, same_in sL5 hlL g5, ?_, ?_, ?_⟩
        · rw [upd_ne (ne_of g6 g5 (by intro z; cases z))]
          exact g6
        · rw [upd_same, List.map_append]
          rfl
        · have em : (HM.marksOf t.house)[j]? = some (HM.markAt t.house j) := by
            unfold HM.marksOf
            rw [List.getElem?_map, List.getElem?_range hj]
            rfl
          rw [take_one em]
          have ek : HM.markAt t.house j = (2 ^ j, HM.needs t.house x) := by
            unfold HM.markAt
            rw [hx]
            rfl
          rw [ek]
          refine MarksAt.snoc ⟨mk5.1, fun i m hm => ?_⟩ ?_
          · obtain ⟨a, q1, q2⟩ := mk5.2 i m hm
            exact ⟨a, q1, (upd_ne (ne_of q2 g5 (by intro z; cases z))).trans q2⟩
          · exact (upd_ne (ne_of tp5 g5 (by intro z; cases z))).trans tp5
    · rintro σ H1 ⟨v3, v4, as, rfl, s1, h1, h2, mk⟩
      have em : (HM.marksOf t.house).take (t.house.map (kvOf ad)).length = HM.marksOf t.house := by
        rw [List.length_map]
        exact List.take_of_length_le (by unfold HM.marksOf; rw [List.length_map, List.length_range]; exact Nat.le_refl _)
      rw [em] at mk
      refine ⟨s1 _ _ hdc, _, rfl, ?_⟩
      have s1' := s1
      rw [← hHL] at s1'
      refine k _ l as (same_unlock HI.dc s1') hl0 ((upd_ne nlp.symm).trans h2) ⟨mk.1, fun i m hm => ?_⟩
      obtain ⟨a, q1, q2⟩ := mk.2 i m hm
      exact ⟨a, q1, (upd_ne (ne_of q2 (s1 _ _ hdc) (by intro z; cases z))).trans q2⟩
end
end LH

/-! ## B9 -/
namespace LH
open PySem PySem.Spec PyProof.Rows L2
open Mu56 (Piece State House ids falls taken)
def initW (j : Nat) : List Nat := 1 :: List.replicate (2 ^ j - 1) 0
theorem initW_len (j : Nat) : (initW j).length = 2 ^ j := by
  have : 0 < 2 ^ j := Nat.two_pow_pos _
  unfold initW
  rw [List.length_cons, List.length_replicate]
  omega
theorem initW_succ (j : Nat) : initW (j + 1) = initW j ++ List.replicate (2 ^ j) 0 := by
  have : 0 < 2 ^ j := Nat.two_pow_pos _
  unfold initW
  rw [List.cons_append, List.replicate_append_replicate]
  congr 2
  rw [Nat.pow_succ]
  omega
theorem flat_zero (n : Nat) : (List.replicate n [V.int 0]).flatten = (List.replicate n 0).map nV := by
  induction n with
  | zero => rfl
  | succ n ih =>
    rw [List.replicate_succ, List.replicate_succ, List.flatten_cons, ih]
    rfl
theorem bit_and (a b : Nat) : Builtin.bitAnd (a : Int) (b : Int) = ((a &&& b : Nat) : Int) := by
  rw [bitAnd_pp (Int.natCast_nonneg a) (Int.natCast_nonneg b)]
  rfl
theorem dec_nV (a b : Nat) : decide (V.int (a : Int) = V.int (b : Int)) = decide (a = b) := by
  congr 1
  apply propext
  constructor
  · intro h; injection h with h; omega
  · intro h; rw [h]
theorem and_eq (a b c : Nat) : V.bl (decide (V.int (Builtin.bitAnd (a : Int) (b : Int)) = V.int (c : Int))) = V.bl (decide (a &&& b = c)) := by rw [bit_and, dec_nV]
theorem at0_get {W : List Nat} {i : Nat} (h : i < W.length) : (W.map nV)[i]? = some (nV (HM.at0 W i)) := by
  rw [List.getElem?_map, List.getElem?_eq_getElem h]
  unfold HM.at0
  rw [List.getD_eq_getElem?_getD, List.getElem?_eq_getElem h]
  rfl
theorem get_ref {as : List Addr} {c : Nat} {y : V} (h : (as.map V.ref)[c]? = some y) : ∃ a, as[c]? = some a ∧ y = .ref a := by
  rw [List.getElem?_map] at h
  cases e : as[c]? with
  | none => rw [e] at h; cases h
  | some i => rw [e] at h; exact ⟨i, rfl, (Option.some.inj h).symm⟩
section
variable {P : Program} {w : World} {K : PySem.W.Frag} {mg : Str → Option Value} {base : Heap} {CP CH : Addr}
/-! ### orders -/
def spOrders (CP CH : Addr) : Sp := fun vs H Q _ => ∃ (av : Addr → Prop) (ph : Addr) (t : State), vs = [.ref ph] ∧ HouseAv av CP CH H ph true t ∧ HM.SWf t ∧ Gives av CP CH ph H Q (Mu56.step (some t) .orders)
theorem scOrders : FnScope ["house", "marks", "ways", "mark", "whole", "built", "own", "needed"] ["house"] (defScope sOrders) := ⟨rfl, rfl, rfl, by decide +kernel, rfl, by decide +kernel, by decide +kernel⟩
theorem ok_orders {f : Addr} {fd : FuncData} (F : Fun K "orders" "orders" sOrders f fd) (T : Txt K mg CP CH) (CM : Cal P w K mg base "rest_marks" 2 ["house"] (spMarks CP CH)) : FnOk P w K mg base CX0 3 f fd ["house"] (spOrders CP CH) := by
  refine F.ok scOrders (fun vs H Q E h => ?_) (fun cdv A outer s H vs Q E hr h => ?_)
  · obtain ⟨av, ph, t, rfl, _⟩ := h
    rfl
  · obtain ⟨av, ph, t, rfl, HV, W, k⟩ := h
    have HA := HV.at
    refine ⟨_, pss_cons (ps_set (i := 1) scOrders.nd rfl (Or.inl rfl) (pe_cal CM hr rfl (pa_cons (pv 0) pa_nil)))
      (pss_cons (ps_set (i := 2) scOrders.nd rfl (Or.inl rfl) (pe_lst (pa_cons pe_int pa_nil)))
      (pss_cons (ps_for PassesOwn.never rfl (pi_list (pv 1)) (pg_name (i := 3) scOrders.nd rfl (Or.inl rfl))
        (pss_one (ps_set (i := 2) scOrders.nd rfl (Or.inl rfl) (pe_op op_cat (pv 2) (pe_op op_rep (pe_lst (pa_cons pe_int pa_nil)) (pe_callB call_len_seq (by rfl) T.len PySem.boot_len (pa_cons (pv 2) pa_nil)))))))
      (pss_cons (ps_set (i := 4) scOrders.nd rfl (Or.inl rfl) (pe_op op_sub (pe_callB call_len_seq (by rfl) T.len PySem.boot_len (pa_cons (pv 2) pa_nil)) pe_int))
      (pss_cons (ps_for PassesOwn.never rfl (pi_range1 (by rfl) T.range (pa_cons (pv 4) pa_nil)) (pg_name (i := 5) scOrders.nd rfl (Or.inl rfl))
        (pss_one (ps_for PassesOwn.never rfl (pi_list (pv 1)) (pg_tup rfl (pgs_cons (pg_name (i := 6) scOrders.nd rfl (.inl rfl)) (pgs_cons (pg_name (i := 7) scOrders.nd rfl (.inl rfl)) pgs_nil)))
          (pss_one (ps_if (PW.pt (pw_and (pt_cmpR op_eq (pe_op op_and (pv 5) (pv 6)) pe_int (nomark _)) (pw_and1 (pt_cmpR op_eq (pe_op op_and (pv 5) (pv 7)) (pv 7) (nomark _)))))
            (pss_one (ps_augS (pv 2) (pe_op op_add (pv 5) (pv 6)) get_listN (pe_ix ix_list (pv 2) (pv 5) (fun _ _ => rfl)) ip_add set_list)) pss_nil)))))
      (pss_one (ps_ret (pe_lst (pa_cons (pe_ix ix_list (pv 2) (pv 4) (fun _ _ => rfl)) pa_nil)))))))), ?_⟩
    refine ⟨_, rfl, ph, t, rfl, HA, W, fun H1 pm as s1 npm hpm mk => ?_⟩
    have k1 := k.pull s1
    have HV1 := HV.mono s1
    clear k
    generalize hms : HM.marksOf t.house = ms at mk
    have lms : ms.length = t.house.length := by rw [← hms]; unfold HM.marksOf; rw [List.length_map, List.length_range]
    have few := W.few
    -- ways = [1]
    refine ⟨(by show 1 ≤ sizeLine; decide), fun w0 hw0 => ?_⟩
    refine ⟨_, rfl, pm, rfl, ⟨_, SqL.of (same_new hw0 _ _ hpm)⟩, for_list (K := K) (a := pm) (xs := as.map V.ref) (fun j σ H' => ∃ v3 pw, σ = [some (.ref ph), some (.ref pm), some (.ref pw), v3, none, none, none, none] ∧ Same H1 H' ∧ H1 pw = none ∧ H' pw = some (.lst ((initW j).map nV)))
      ⟨none, w0, rfl, same_new hw0, hw0, upd_same⟩ (fun j σ H' _ ⟨_, _, _, s2, _⟩ => SqL.of (s2 _ _ hpm)) ?_ ?_⟩
    · rintro j y σ H2 hj ⟨v3, pw, rfl, s2, nw, hw⟩
      have hj' := (List.getElem?_eq_some_iff.mp hj).1
      rw [List.length_map, mk.1, lms] at hj'
      have p9 : 2 ^ j ≤ 2 ^ 9 := Nat.pow_le_pow_right (by decide) (by omega)
      have p9 : 2 ^ j ≤ 512 := p9
      refine ⟨_, rfl, (by show 1 ≤ sizeLine; decide), fun z hz => ?_⟩
      have s3 : Same H2 (upd H2 z (.lst [V.int 0])) := same_new hz
      refine ⟨_, rfl, pw, _, rfl, .inl (SqL.of (s3 _ _ hw)), z, _, _, rfl, rfl, upd_same, ?_, ?_, ?_, fun q hq => ?_⟩
      · rw [List.length_map, initW_len]
        exact Int.le_trans (by decide) (Int.natCast_nonneg _)
      · rw [List.length_map, initW_len]
        omega
      · rw [List.length_map, initW_len]
        show 1 * (2 ^ j : Nat) ≤ sizeLine
        exact Nat.le_of_lt (size_le (by omega))
      · rw [List.length_map, initW_len]
        have s4 : Same (upd H2 z (.lst [V.int 0])) (upd (upd H2 z (.lst [V.int 0])) q (.lst (List.replicate ((2 ^ j : Nat) : Int).toNat [V.int 0]).flatten)) := same_new hq
        refine ⟨pw, q, _, _, rfl, rfl, s4 _ _ (s3 _ _ hw), upd_same, ?_, fun p hp => ?_⟩
        · rw [show ((2 ^ j : Nat) : Int).toNat = 2 ^ j from rfl, flat_zero, List.length_map, List.length_map, initW_len, List.length_replicate]
          exact Nat.le_of_lt (size_le (by omega))
        · refine ⟨_, p, rfl, ((s2.trans s3).trans s4).trans (same_new hp), ((s2.trans s3).trans s4).free hp, ?_⟩
          rw [upd_same, initW_succ, List.map_append, ← flat_zero]
          rfl
    · rintro σ H2 ⟨v3, pw, rfl, s2, nw, hw⟩
      rw [List.length_map, mk.1, lms] at hw
      have p9 : 2 ^ t.house.length ≤ 512 := Nat.pow_le_pow_right (n := 2) (by decide) few
      have p0 : 0 < 2 ^ t.house.length := Nat.two_pow_pos _
      -- whole = len(ways) - 1
      refine ⟨_, rfl, pw, _, rfl, .inl (SqL.of hw), _, _, rfl, rfl, ?_⟩
      rw [List.length_map, initW_len]
      have efu : (((2 ^ t.house.length : Nat) : Int) - 1) = ((HM.fu t.house : Nat) : Int) := by
        unfold HM.fu
        omega
      have hfl := HM.fu_lt t.house
      dsimp only
      rw [efu]
      refine ⟨_, rfl, _, rfl, Int.le_trans (by decide) (Int.natCast_nonneg _), (by omega), ?_⟩
      refine for_range (lo := 0) (n := ((HM.fu t.house : Nat) : Int).toNat) (fun b σ H' => ∃ v5 v6 v7, σ = [some (.ref ph), some (.ref pm), some (.ref pw), v3, some (nV (HM.fu t.house)), v5, v6, v7] ∧ Same H1 H' ∧ H' pw = some (.lst ((HM.waysAt ms t.house.length b).map nV)))
        ⟨none, none, none, rfl, s2, hw⟩ ?_ ?_
      · rintro b σ H3 hb ⟨v5, v6, v7, rfl, s3, h3⟩
        have hb : b < HM.fu t.house := hb
        rw [show (0 : Int) + (b : Nat) = ((b : Nat) : Int) by omega]
        refine ⟨_, rfl, pm, rfl, ⟨_, SqL.of (s3 _ _ hpm)⟩, for_list (K := K) (a := pm) (xs := as.map V.ref) (fun c σ H' => ∃ v6 v7, σ = [some (.ref ph), some (.ref pm), some (.ref pw), v3, some (nV (HM.fu t.house)), some (nV b), v6, v7] ∧ Same H1 H' ∧
            H' pw = some (.lst (((ms.take c).foldl (HM.stepM b) (HM.waysAt ms t.house.length b)).map nV))) ⟨v6, v7, rfl, s3, h3⟩ (fun j σ H' _ ⟨_, _, _, s2, _⟩ => SqL.of (s2 _ _ hpm)) ?_ ?_⟩
        · rintro c y σ H4 hc ⟨v6, v7, rfl, s4, h4⟩
          obtain ⟨a, ha, rfl⟩ := get_ref hc
          have hc' := (List.getElem?_eq_some_iff.mp ha).1
          rw [mk.1] at hc'
          have hm : ms[c]? = some ms[c] := List.getElem?_eq_getElem hc'
          generalize ms[c] = m at hm
          obtain ⟨a', ha', hta⟩ := mk.2 c m hm
          obtain rfl : a = a' := Option.some.inj (ha.symm.trans ha')
          generalize hW : (ms.take c).foldl (HM.stepM b) (HM.waysAt ms t.house.length b) = Wc at h4
          have lW : Wc.length = 2 ^ t.house.length := by rw [← hW, HM.foldM_len, HM.waysAt_len]
          have eW : (ms.take (c + 1)).foldl (HM.stepM b) (HM.waysAt ms t.house.length b) = HM.stepM b Wc m := by rw [take_one hm, List.foldl_append, hW]; rfl
          refine ⟨a, _, rfl, SqT.of (s4 _ _ hta), rfl, _, _, rfl, _, _, rfl, rfl, ?_⟩
          -- built & own == 0
          refine ⟨_, rfl, _, rfl, _, _, rfl, rfl, rfl, decide (b &&& m.1 = 0), and_eq b m.1 0, ?_⟩
          by_cases c1 : b &&& m.1 = 0
          · rw [decide_eq_true c1]
            refine iteT ⟨_, rfl, _, rfl, _, _, rfl, rfl, _, rfl, rfl, decide (b &&& m.2 = m.2), and_eq b m.2 m.2, ?_⟩
            by_cases c2 : b &&& m.2 = m.2
            · rw [decide_eq_true c2]
              -- ways[built + own] += ways[built]
              have hmm : m ∈ HM.marksOf t.house := by rw [hms]; exact List.mem_of_getElem? hm
              obtain ⟨e, he, em⟩ := (HM.marks_ok W.wf).own m hmm
              have lt : b + m.1 < 2 ^ t.house.length := by
                rw [em] at c1 ⊢
                exact HM.add_pow_lt ((HM.and_pow b e).mp c1) (by omega) he
              have es : HM.stepM b Wc m = Wc.set (b + m.1) (HM.at0 Wc (b + m.1) + HM.at0 Wc b) := if_pos ⟨c1, c2⟩
              refine iteT ⟨_, rfl, _, rfl, _, rfl, _, _, rfl, rfl, pw, _, b + m.1, _, rfl, ?_, SqL.of h4, at0_get (by rw [lW]; exact lt), _, rfl, _, rfl, pw, _, (b : Int), _, rfl, rfl, SqL.of h4, atI_nat (at0_get (by rw [lW]; omega)), _, _, rfl, rfl, pw, _, _, b + m.1, rfl, rfl, h4, ?_, ?_⟩
              · unfold nV
                rw [Int.natCast_add]
              · rw [List.length_map, lW]
                unfold ixN
                rw [if_pos (by omega), if_pos (by omega)]
                congr 1
              · refine ⟨_, _, rfl, same_in s4 nw h4, ?_⟩
                rw [upd_same, eW, es, List.map_set]
                refine congrArg (fun q => some (HO.lst ((Wc.map nV).set (b + m.1) q))) ?_
                unfold nV
                rw [Int.natCast_add]
            · rw [decide_eq_false c2]
              refine iteF ⟨_, _, rfl, s4, ?_⟩
              rw [eW]
              unfold HM.stepM
              rw [if_neg (fun z => c2 z.2)]
              exact h4
          · rw [decide_eq_false c1]
            refine iteF (iteF ⟨_, _, rfl, s4, ?_⟩)
            rw [eW]
            unfold HM.stepM
            rw [if_neg (fun z => c1 z.1)]
            exact h4
        · rintro σ H4 ⟨v6, v7, rfl, s4, h4⟩
          refine ⟨_, _, _, rfl, s4, ?_⟩
          rw [List.length_map, mk.1, List.take_length] at h4
          rw [HM.waysAt_succ]
          exact h4
      · rintro σ H3 ⟨v5, v6, v7, rfl, s3, h3⟩
        have h3 : H3 pw = some (.lst ((HM.waysAt ms t.house.length (HM.fu t.house)).map nV)) := h3
        refine ⟨_, rfl, _, rfl, pw, _, ((HM.fu t.house : Nat) : Int), _, rfl, rfl, SqL.of h3, atI_nat (at0_get (by rw [HM.waysAt_len]; exact hfl)), (by show 1 ≤ sizeLine; decide), fun p hp => ?_⟩
        rw [← hms, HM.orders_ways W.wf]
        exact (k1.pull s3).one (HV1.mono s3) hp
end
end LH

/-! ## B10 -/
namespace LH
open PySem PySem.Spec PyProof.Rows L2
open Mu56 (Piece State House ids falls taken)
/-! ### the mirror of add_storey: a pair on each ground, a card across each two neighbours -/
def addP (t : State) (c : Nat) (l : List Nat) : State := ⟨t.house ++ [⟨t.next, c, l⟩], t.next + 1⟩
def pairsM (t : State) : List (List Nat) → State
  | [] => t
  | g :: r => pairsM (addP t 2 g) r
/-- the next ones' numbers -/
def nums (n : Nat) (k : Nat) : List Nat := (List.range k).map fun i => n + i
def acrossM (t : State) : List (Nat × Nat) → State
  | [] => t
  | (a, b) :: r => acrossM (addP t 1 [a, b]) r
def two (l : List Nat) : List (Nat × Nat) := l.zip l.tail
def storeyM (t : State) (grounds : List (List Nat)) : State := acrossM (pairsM t grounds) (two (nums t.next grounds.length))
def aboveM (t : State) (grounds : List (List Nat)) : List (List Nat) := (nums (t.next + grounds.length) (grounds.length - 1)).map fun i => [i]
theorem pairsM_snoc (t : State) : ∀ (l : List (List Nat)) (g : List Nat), pairsM t (l ++ [g]) = addP (pairsM t l) 2 g := by
  intro l
  induction l generalizing t with
  | nil => intro g; rfl
  | cons a l ih => intro g; exact ih _ g
theorem acrossM_snoc (t : State) : ∀ (l : List (Nat × Nat)) (g : Nat × Nat), acrossM t (l ++ [g]) = addP (acrossM t l) 1 [g.1, g.2] := by
  intro l
  induction l generalizing t with
  | nil => intro g; rfl
  | cons a l ih => intro g; exact ih _ g
theorem pairsM_next (t : State) : ∀ (l : List (List Nat)), (pairsM t l).next = t.next + l.length ∧ (pairsM t l).house.length = t.house.length + l.length := by
  intro l
  induction l generalizing t with
  | nil => exact ⟨rfl, rfl⟩
  | cons a l ih =>
    obtain ⟨h1, h2⟩ := ih (addP t 2 a)
    refine ⟨?_, ?_⟩
    · show (pairsM (addP t 2 a) l).next = _
      rw [h1]
      show t.next + 1 + l.length = t.next + (l.length + 1)
      omega
    · show (pairsM (addP t 2 a) l).house.length = _
      rw [h2]
      show (t.house ++ [_]).length + l.length = t.house.length + (l.length + 1)
      rw [List.length_append]
      show t.house.length + 1 + l.length = _
      omega
theorem acrossM_next (t : State) : ∀ (l : List (Nat × Nat)), (acrossM t l).next = t.next + l.length ∧ (acrossM t l).house.length = t.house.length + l.length := by
  intro l
  induction l generalizing t with
  | nil => exact ⟨rfl, rfl⟩
  | cons a l ih =>
    obtain ⟨h1, h2⟩ := ih (addP t 1 [a.1, a.2])
    refine ⟨?_, ?_⟩
    · show (acrossM (addP t 1 [a.1, a.2]) l).next = _
      rw [h1]
      show t.next + 1 + l.length = t.next + (l.length + 1)
      omega
    · show (acrossM (addP t 1 [a.1, a.2]) l).house.length = _
      rw [h2]
      show (t.house ++ [_]).length + l.length = t.house.length + (l.length + 1)
      rw [List.length_append]
      show t.house.length + 1 + l.length = _
      omega
def Low (t : State) : Prop := ∀ x ∈ t.house, x.id < t.next
theorem addP_low {t : State} (h : Low t) (c : Nat) (l : List Nat) : Low (addP t c l) := by
  intro x hx
  rcases List.mem_append.mp hx with q | q
  · exact Nat.lt_succ_of_lt (h x q)
  · rw [List.mem_singleton.mp q]
    exact Nat.lt_succ_self _
theorem pairsM_low : ∀ (l : List (List Nat)) {t : State}, Low t → Low (pairsM t l)
  | [], _, h => h
  | a :: l, _, h => pairsM_low l (addP_low h 2 a)
theorem acrossM_low : ∀ (l : List (Nat × Nat)) {t : State}, Low t → Low (acrossM t l)
  | [], _, h => h
  | a :: l, _, h => acrossM_low l (addP_low h 1 [a.1, a.2])
theorem nums_get {n k i : Nat} (h : i < k) : (nums n k)[i]? = some (n + i) := by
  unfold nums
  rw [List.getElem?_map, List.getElem?_range h]
  rfl
theorem nums_len (n k : Nat) : (nums n k).length = k := by unfold nums; rw [List.length_map, List.length_range]
theorem nums_succ (n k : Nat) : nums n (k + 1) = nums n k ++ [n + k] := by
  unfold nums
  rw [List.range_succ, List.map_append]
  rfl
theorem two_get {n k i : Nat} (h : i + 1 < k) : (two (nums n k))[i]? = some (n + i, n + i + 1) := by
  unfold two
  rw [List.getElem?_zip_eq_some]
  refine ⟨nums_get (by omega), ?_⟩
  show ((nums n k).tail)[i]? = some (n + i + 1)
  rw [List.getElem?_tail, nums_get h]
  rfl
theorem two_len (n k : Nat) : (two (nums n k)).length = k - 1 := by
  unfold two
  rw [List.length_zip, List.length_tail, nums_len]
  omega
theorem cut_one (xs : List V) : cutV xs (some 1) none = xs.tail := by
  unfold cutV
  have first : HT.sIx xs.length 0 (some 1) = min 1 xs.length := HT.sIx_nat xs.length 0 1
  rw [first, HT.sIx_none]
  cases xs with
  | nil => rfl
  | cons x r =>
    rw [show min 1 (x :: r).length = 1 by rw [List.length_cons]; omega, List.length_cons, Nat.add_sub_cancel]
    exact List.take_length
section
variable {P : Program} {w : World} {K : PySem.W.Frag} {mg : Str → Option Value} {base : Heap} {CP CH : Addr}
/-- lists of numbers in the heap -/
def ListsAt (H : Hp) (as : List Addr) (ls : List (List Nat)) : Prop := as.length = ls.length ∧ ∀ (j : Nat) (l : List Nat), ls[j]? = some l → ∃ a, as[j]? = some a ∧ H a = some (.lst (l.map nV))
theorem ListsAt.fr {ph dx pd : Addr} {b : Bool} {n : Nat} {H H' : Hp} {as : List Addr} {ls : List (List Nat)} (m : ListsAt H as ls) (f : Fr ph H H') (h : H ph = some (.ins CH dx (hF b pd n))) : ListsAt H' as ls := ⟨m.1, fun j l hl => by
  obtain ⟨a, h1, h2⟩ := m.2 j l hl
  exact ⟨a, h1, f.keep _ _ h2 (ne_of h2 h (by intro z; cases z)) (by intro _ z; cases z)⟩⟩
theorem ListsAt.mono {H H' : Hp} {as : List Addr} {ls : List (List Nat)} (m : ListsAt H as ls) (s : Same H H') : ListsAt H' as ls := ⟨m.1, fun j l hl => by
  obtain ⟨a, h1, h2⟩ := m.2 j l hl
  exact ⟨a, h1, s _ _ h2⟩⟩
theorem ListsAt.snoc {H : Hp} {as : List Addr} {ls : List (List Nat)} {a : Addr} {l : List Nat} (q : ListsAt H as ls) (h : H a = some (.lst (l.map nV))) : ListsAt H (as ++ [a]) (ls ++ [l]) := by
  refine ⟨by rw [List.length_append, List.length_append, q.1]; rfl, fun j p hp => ?_⟩
  by_cases hj : j < ls.length
  · rw [List.getElem?_append_left hj] at hp
    obtain ⟨b, h1, h2⟩ := q.2 j p hp
    exact ⟨b, by rw [List.getElem?_append_left (by rw [q.1]; exact hj)]; exact h1, h2⟩
  · rw [List.getElem?_append_right (by omega)] at hp
    by_cases e : j - ls.length = 0
    · rw [e] at hp
      obtain rfl : l = p := Option.some.inj hp
      refine ⟨a, ?_, h⟩
      rw [List.getElem?_append_right (by rw [q.1]; omega), q.1, e]
      rfl
    · rw [List.getElem?_eq_none (by show 1 ≤ _; omega)] at hp
      cases hp
theorem Fr.at_new {ph l : Addr} {H H2 : Hp} {o : HO} (f : Fr ph H H2) (n : H l = none) : Fr ph H (upd H2 l o) := ⟨fun b u e nb d => (upd_ne (ne_of_none e n)).trans (f.keep b u e nb d), fun b e => f.free b (free_upd e)⟩
theorem ListsAt.at_ {H : Hp} {as : List Addr} {ls : List (List Nat)} {l : Addr} {o : HO} (m : ListsAt H as ls) (n : ∀ a ∈ as, a ≠ l) : ListsAt (upd H l o) as ls := ⟨m.1, fun j p hp => by
  obtain ⟨a, h1, h2⟩ := m.2 j p hp
  exact ⟨a, h1, (upd_ne (n a (List.mem_of_getElem? h1))).trans h2⟩⟩
/-! ### add_storey -/
def spStorey (CP CH : Addr) : Sp := fun vs H Q _ => ∃ (av : Addr → Prop) (ph g : Addr) (as : List Addr) (ls : List (List Nat)) (b : Bool) (t : State), vs = [.ref ph, .ref g] ∧ HouseAv av CP CH H ph b t ∧ (∀ a, av a → H a ≠ none) ∧ H g = some (.lst (as.map V.ref)) ∧ ListsAt H as ls ∧ (∀ a ∈ as, ¬ av a) ∧
  t.house.length ≤ 100 ∧ ls.length ≤ 100 ∧ Low t ∧
  ∀ H' p as', HouseAv av CP CH H' ph b (storeyM t ls) → Fr ph H H' → H p = none → H' p = some (.lst (as'.map V.ref)) → ListsAt H' as' (aboveM t ls) → (∀ a ∈ as', ¬ av a) → Q (.ref p) H'
theorem scStorey : FnScope ["house", "grounds", "pairs", "ground", "above", "left", "right"] ["house", "grounds"] (defScope sStorey) := ⟨rfl, rfl, rfl, by decide +kernel, rfl, by decide +kernel, by decide +kernel⟩
theorem ok_storey {f : Addr} {fd : FuncData} (F : Fun K "add_storey" "add_storey" sStorey f fd) (T : Txt K mg CP CH) (CA : Cal P w K mg base "add_piece" 3 ["house", "cards", "rests"] (spAdd CP CH)) : FnOk P w K mg base CX0 4 f fd ["house", "grounds"] (spStorey CP CH) := by
  refine F.ok scStorey (fun vs H Q E h => ?_) (fun cdv A outer s H vs Q E hr h => ?_)
  · obtain ⟨av, ph, g, as, ls, b, t, rfl, _⟩ := h
    rfl
  · obtain ⟨av, ph, g, as, ls, b, t, rfl, HV, hav, hg, hls, nas, ht, hn, low, k⟩ := h
    refine ⟨_, pss_cons (ps_set (i := 2) scStorey.nd rfl (Or.inl rfl) (pe_lst pa_nil))
      (pss_cons (ps_for PassesOwn.never rfl (pi_list (pv 1)) (pg_name (i := 3) scStorey.nd rfl (Or.inl rfl))
        (pss_one (ps_expr (pe_bm PySem.F.plainAttrs_list PySem.F.slot_list_append PySem.F.type_list_append mt_append (pv 2) (pa_cons (pe_cal CA hr rfl (pa_cons (pv 0) (pa_cons (pe_gi rfl T.cPAIR) (pa_cons (pv 3) pa_nil)))) pa_nil)))))
      (pss_cons (ps_set (i := 4) scStorey.nd rfl (Or.inl rfl) (pe_lst pa_nil))
      (pss_cons (ps_for PassesOwn.never rfl (pi_zip (by rfl) T.zip (pa_cons (pv 2) (pa_cons (pe_slice sl_list (pv 2) (po_some pe_int) po_none) pa_nil)))
          (pg_tup rfl (pgs_cons (pg_name (i := 5) scStorey.nd rfl (.inl rfl)) (pgs_cons (pg_name (i := 6) scStorey.nd rfl (.inl rfl)) pgs_nil)))
        (pss_one (ps_expr (pe_bm PySem.F.plainAttrs_list PySem.F.slot_list_append PySem.F.type_list_append mt_append (pv 4) (pa_cons (pe_lst (pa_cons (pe_cal CA hr rfl (pa_cons (pv 0) (pa_cons (pe_gi rfl T.cCARD) (pa_cons (pe_lst (pa_cons (pv 5) (pa_cons (pv 6) pa_nil))) pa_nil)))) pa_nil)) pa_nil)))))
      (pss_one (ps_ret (pv 4)))))), ?_⟩
    obtain ⟨_, dx0, pd0, ad0, HI0⟩ : ∃ x : Unit, ∃ dx pd ad, HouseIs CP CH H ph dx pd ad b t := ⟨(), HV.at⟩
    have notph : ∀ {c : Addr} {xs : List V}, H c = some (.lst xs) → c ≠ ph := fun e => ne_of e HI0.ob (by intro z; cases z)
    -- pairs = []
    refine ⟨Nat.zero_le _, fun lp hlp => ?_⟩
    have sq0 : SqL K (upd H lp (.lst [])) g (as.map V.ref) := SqL.of (same_new hlp _ _ hg)
    refine ⟨_, rfl, g, rfl, ⟨_, sq0⟩, for_list (K := K) (a := g) (xs := as.map V.ref) (fun j σ H' => ∃ v3, σ = [some (.ref ph), some (.ref g), some (.ref lp), v3, none, none, none] ∧ HouseAv (fun a => av a ∨ a = lp) CP CH H' ph b (pairsM t (ls.take j)) ∧ Fr ph H H' ∧ H' lp = some (.lst ((nums t.next j).map nV)))
      ⟨none, rfl, HV.more hlp, .of (same_new hlp), upd_same⟩ (fun j σ H' _ ⟨_, _, _, f, _⟩ => SqL.of (f.keep _ _ hg (notph hg) (by intro _ z; cases z))) ?_ ?_⟩
    · rintro j y σ H1 hj ⟨v3, rfl, HV1, f1, h1⟩
      obtain ⟨a, ha, rfl⟩ : ∃ a, as[j]? = some a ∧ y = .ref a := by
        rw [List.getElem?_map] at hj
        cases e : as[j]? with
        | none => rw [e] at hj; cases hj
        | some a => rw [e] at hj; exact ⟨a, rfl, (Option.some.inj hj).symm⟩
      have hjl := (List.getElem?_eq_some_iff.mp ha).1
      rw [hls.1] at hjl
      have hl : ls[j]? = some ls[j] := List.getElem?_eq_getElem hjl
      generalize ls[j] = l at hl
      obtain ⟨a', ha', hla⟩ := hls.2 j l hl
      obtain rfl : a = a' := Option.some.inj (ha.symm.trans ha')
      have hla1 := f1.keep _ _ hla (notph hla) (by intro _ z; cases z)
      have nal : a ≠ lp := ne_of_none hla hlp
      obtain ⟨n1, n2⟩ := pairsM_next t (ls.take j)
      have lt : (ls.take j).length = j := by rw [List.length_take]; omega
      refine ⟨_, rfl, .inl ⟨rfl, _, SqL.of h1⟩, _, rfl, _, rfl, fun a => av a ∨ a = lp, ph, a, 2, l, b, _, rfl, HV1, ?_, hla1, ?_, ?_, pairsM_low _ low, fun H2 HV2 f2 => ?_⟩
      · rintro c (z | z) q
        · exact hav c z (f1.free c q)
        · rw [z, h1] at q; cases q
      · rintro (z | z)
        · exact nas a (List.mem_of_getElem? ha) z
        · exact nal z
      · rw [n2, lt]
        omega
      · obtain ⟨dx1, pd1, ad1, HI1⟩ := HV1.at
        have h2 := f2.keep _ _ h1 (ne_of h1 HI1.ob (by intro z; cases z)) (by intro _ z; cases z)
        refine ⟨lp, _, _, rfl, rfl, h2, ?_, _, rfl, ?_, (f1.trans f2).at_new hlp, ?_⟩
        · rw [List.length_map, nums_len]
          exact size_le (by omega)
        · rw [take_one hl, pairsM_snoc]
          exact HV2.but fun c o nc e => (upd_ne (fun q => nc (.inr q))).trans e
        · rw [upd_same, nums_succ, List.map_append, n1, lt]
          rfl
    · rintro σ H1 ⟨v3, rfl, HV1, f1, h1⟩
      rw [List.length_map, hls.1] at HV1 h1
      rw [List.take_length] at HV1
      obtain ⟨n1, n2⟩ := pairsM_next t ls
      have low1 := pairsM_low ls low
      -- above = []
      refine ⟨Nat.zero_le _, fun lb hlb => ?_⟩
      have HV2 := HV1.more (o := .lst []) hlb
      have h2 := same_new (o := .lst []) hlb _ _ h1
      have s2 : Same H1 (upd H1 lb (.lst [])) := same_new hlb
      have b2 : upd H1 lb (.lst []) lb = some (.lst []) := upd_same
      generalize upd H1 lb (.lst []) = H2 at HV2 h2 s2 b2
      have hlbH : H lb = none := f1.free _ hlb
      -- zip(pairs, pairs[1:])
      refine ⟨_, rfl, _, rfl, 1, rfl, lp, _, rfl, SqL.of h2, fun c hc => ?_⟩
      have s3 : Same H2 (upd H2 c (.lst (cutV ((nums t.next ls.length).map nV) (some 1) none))) := same_new hc
      have c3 : upd H2 c (.lst (cutV ((nums t.next ls.length).map nV) (some 1) none)) c = some (.lst (((nums t.next ls.length).tail).map nV)) := by
        rw [upd_same, cut_one, List.map_tail]
      generalize upd H2 c (.lst (cutV ((nums t.next ls.length).map nV) (some 1) none)) = H3 at s3 c3
      have h3 := s3 _ _ h2
      have b3 := s3 _ _ b2
      have HV3 := HV2.mono s3
      have ncb : c ≠ lb := (ne_of_none b2 hc).symm
      have f3 : Fr ph H H3 := f1.trans ((Fr.of s2).trans (.of s3))
      have hcH : H1 c = none := s2.free hc
      obtain ⟨dx3, pd3, ad3, HI3⟩ := HV3.at
      refine ⟨lp, c, _, _, rfl, SqL.of h3, SqL.of c3, ?_⟩
      refine for_it (walk_zip (n := ls.length - 1) (xs := (nums t.next ls.length).map nV) (ys := ((nums t.next ls.length).tail).map nV) (by rw [List.length_map, List.length_map, List.length_tail, nums_len]; omega))
        (fun j σ H' => ∃ v5 v6 as', σ = [some (.ref ph), some (.ref g), some (.ref lp), v3, some (.ref lb), v5, v6] ∧ HouseAv (fun a => (av a ∨ a = lp) ∨ a = lb) CP CH H' ph b (acrossM (pairsM t ls) ((two (nums t.next ls.length)).take j)) ∧ Fr ph H H' ∧
          H' lp = some (.lst ((nums t.next ls.length).map nV)) ∧ H' c = some (.lst (((nums t.next ls.length).tail).map nV)) ∧ H' lb = some (.lst (as'.map V.ref)) ∧ ListsAt H' as' ((nums (t.next + ls.length) j).map fun i => [i]) ∧ ∀ a ∈ as', a ≠ lb ∧ H a = none)
        ⟨none, none, [], rfl, HV3, f3, h3, c3, b3, ⟨rfl, fun j l h => by cases h⟩, fun a h => by cases h⟩ (fun j σ H' _ ⟨_, _, _, _, _, _, q1, q2, _⟩ => ⟨SqL.of q1, SqL.of q2⟩) ?_ ?_
      · rintro j v σ H4 H5 hj ⟨v5, v6, as', rfl, HV4, f4, h4, c4, b4, l4, na4⟩ ⟨T0, x1, y1, rfl, hT, rfl, e1, e2⟩
        have e1 : ((nums t.next ls.length).map nV)[j]? = some x1 := e1
        have e2 : (((nums t.next ls.length).tail).map nV)[j]? = some y1 := e2
        rw [List.getElem?_map, nums_get (by omega)] at e1
        rw [List.getElem?_map, List.getElem?_tail, nums_get (by omega)] at e2
        obtain rfl : nV (t.next + j) = x1 := Option.some.inj e1
        obtain rfl : nV (t.next + (j + 1)) = y1 := Option.some.inj e2
        have sT : Same H4 (upd H4 T0 (.tup [nV (t.next + j), nV (t.next + (j + 1))])) := same_new hT
        refine ⟨T0, _, rfl, SqT.of upd_same, rfl, _, _, rfl, _, _, rfl, rfl, ?_⟩
        generalize upd H4 T0 (.tup [nV (t.next + j), nV (t.next + (j + 1))]) = H5 at sT
        refine ⟨_, rfl, .inl ⟨rfl, _, SqL.of (sT _ _ b4)⟩, _, rfl, _, rfl, _, rfl, (by show 2 ≤ sizeLine; decide), fun q0 hq0 => ?_⟩
        have s6 : Same H5 (upd H5 q0 (.lst [nV (t.next + j), nV (t.next + (j + 1))])) := same_new hq0
        have q6 : upd H5 q0 (.lst [nV (t.next + j), nV (t.next + (j + 1))]) q0 = some (.lst (([t.next + j, t.next + (j + 1)] : List Nat).map nV)) := upd_same
        generalize upd H5 q0 (.lst [nV (t.next + j), nV (t.next + (j + 1))]) = H6 at s6 q6
        have s46 := sT.trans s6
        have b6 := s46 _ _ b4
        have h6 := s46 _ _ h4
        have c6 := s46 _ _ c4
        have f6 : Fr ph H H6 := f4.trans (.of s46)
        obtain ⟨m1, m2⟩ := acrossM_next (pairsM t ls) ((two (nums t.next ls.length)).take j)
        have lj : ((two (nums t.next ls.length)).take j).length = j := by rw [List.length_take, two_len]; omega
        refine ⟨fun a => (av a ∨ a = lp) ∨ a = lb, ph, q0, 1, [t.next + j, t.next + (j + 1)], b, _, rfl, HV4.mono s46, ?_, q6, ?_, ?_, acrossM_low _ low1, fun H7 HV7 f7 => ?_⟩
        · rintro c ((z | z) | z) q
          · exact hav c z (f6.free c q)
          · rw [z, h6] at q; cases q
          · rw [z, b6] at q; cases q
        · rintro ((z | z) | z)
          · exact hav q0 z (f4.free _ (sT.free hq0))
          · rw [z, sT _ _ h4] at hq0; cases hq0
          · rw [z, sT _ _ b4] at hq0; cases hq0
        · rw [m2, lj, n2]
          omega
        · obtain ⟨dx6, pd6, ad6, HI6⟩ := (HV4.mono s46).at
          have np : ∀ {c : Addr} {xs : List V}, H6 c = some (.lst xs) → H7 c = some (.lst xs) := fun e => f7.keep _ _ e (ne_of e HI6.ob (by intro z; cases z)) (by intro _ z; cases z)
          refine ⟨(by show 1 ≤ sizeLine; decide), fun q1 hq1 => ?_⟩
          have s8 : Same H7 (upd H7 q1 (.lst [nV (acrossM (pairsM t ls) ((two (nums t.next ls.length)).take j)).next])) := same_new hq1
          have q8 : upd H7 q1 (.lst [nV (acrossM (pairsM t ls) ((two (nums t.next ls.length)).take j)).next]) q1 = some (.lst (([t.next + ls.length + j] : List Nat).map nV)) := by
            rw [upd_same, m1, lj, n1]
            rfl
          generalize upd H7 q1 (.lst [nV (acrossM (pairsM t ls) ((two (nums t.next ls.length)).take j)).next]) = H8 at s8 q8
          have b8 := s8 _ _ (np b6)
          have nq : q1 ≠ lb := (ne_of_none (np b6) hq1).symm
          refine ⟨lb, _, _, rfl, rfl, b8, ?_, _, _, as' ++ [q1], rfl, ?_, ((f6.trans f7).trans (.of s8)).at_new hlbH, ?_, ?_, ?_, ?_, ?_⟩
          · rw [List.length_map, l4.1, List.length_map, nums_len]
            exact size_le (by omega)
          · have et : (two (nums t.next ls.length))[j]? = some (t.next + j, t.next + j + 1) := two_get (by omega)
            rw [take_one et, acrossM_snoc]
            exact (HV7.mono s8).but fun c o nc e => (upd_ne (fun q => nc (.inr q))).trans e
          · exact (upd_ne (ne_of_none h1 hlb)).trans (s8 _ _ (np h6))
          · exact (upd_ne ncb).trans (s8 _ _ (np c6))
          · rw [upd_same, List.map_append]
            rfl
          · rw [nums_succ, List.map_append]
            refine ListsAt.snoc (ListsAt.at_ ((l4.mono s46).fr f7 HI6.ob |>.mono s8) fun a ha => (na4 a ha).1) ?_
            exact (upd_ne nq).trans q8
          · intro a ha
            rcases List.mem_append.mp ha with z | z
            · exact na4 a z
            · rw [List.mem_singleton.mp z]
              exact ⟨nq, f6.free _ (f7.free _ hq1)⟩
      · rintro σ H4 ⟨v5, v6, as', rfl, HV4, f4, h4, c4, b4, l4, na4⟩
        refine ⟨_, rfl, ?_⟩
        rw [List.take_of_length_le (by rw [two_len]; exact Nat.le_refl _)] at HV4
        exact k H4 lb as' (HV4.less fun a z => .inl (.inl z)) f4 hlbH b4 l4 fun a ha z => hav a z (na4 a ha).2
end
end LH

/-! ## B11 -/
namespace LH
open PySem PySem.Spec PyProof.Rows L2
open Mu56 (Piece State House ids falls taken)
def iterS (n : Nat) : Nat → State × List (List Nat)
  | 0 => (⟨[], 0⟩, List.replicate n [])
  | k + 1 => (storeyM (iterS n k).1 (iterS n k).2, aboveM (iterS n k).1 (iterS n k).2)
theorem iter_facts : ∀ n : Fin 4, ∀ k : Fin 4, k.val ≤ n.val → (iterS n.val k.val).2.length = n.val - k.val ∧ (iterS n.val k.val).1.house.length ≤ 9 ∧ ∀ x ∈ (iterS n.val k.val).1.house, x.id < (iterS n.val k.val).1.next := by decide +kernel
theorem iter_end : ∀ n : Fin 4, 1 ≤ n.val → (iterS n.val n.val).1 = ⟨Mu56.pyramid n.val, (Mu56.pyramid n.val).length⟩ := by decide +kernel
theorem HouseAv.empty {av : Addr → Prop} {CP CH : Addr} {H1 : Hp} {ph dx d : Addr} {b : Bool} (nph : ¬ av ph) (nd : ¬ av d) (h1 : H1 ph = some (.ins CH dx (hF b d 0))) (h2 : H1 d = some (.dK [])) : HouseAv av CP CH H1 ph b ⟨[], 0⟩ := by
  have ndp : d ≠ ph := ne_of h2 h1 (by intro z; cases z)
  refine ⟨upd (upd (fun _ => none) d (.dK [])) ph (.ins CH dx (hF b d 0)), fun a o e => ?_, fun a z => ?_, dx, d, fun _ => 0, ⟨upd_same, (upd_ne ndp).trans upd_same, fun x hx => by cases hx⟩⟩
  · by_cases q : a = ph
    · rw [q, upd_same] at e
      rw [q, h1]
      exact e
    · rw [upd_ne q] at e
      by_cases q2 : a = d
      · rw [q2, upd_same] at e
        rw [q2, h2]
        exact e
      · rw [upd_ne q2] at e
        cases e
  · rw [upd_ne (show a ≠ ph from fun q => nph (by rw [← q]; exact z)), upd_ne (show a ≠ d from fun q => nd (by rw [← q]; exact z))]
section
variable {P : Program} {w : World} {K : PySem.W.Frag} {mg : Str → Option Value} {base : Heap} {CP CH : Addr}
/-! ### storeyed -/
def spStoreyed (CP CH : Addr) : Sp := fun vs H Q _ => ∃ (av : Addr → Prop) (ph : Addr) (n : Nat) (t : State), vs = [.ref ph, nV n] ∧ HouseAv av CP CH H ph true t ∧ (∀ a, av a → H a ≠ none) ∧ Gives av CP CH ph H Q (Mu56.step (some t) (.pyramid n))
theorem scStoreyed : FnScope ["house", "storeys", "grounds", "place"] ["house", "storeys"] (defScope sStoreyed) := ⟨rfl, rfl, rfl, by decide +kernel, rfl, by decide +kernel, by decide +kernel⟩
theorem ok_storeyed {f : Addr} {fd : FuncData} (F : Fun K "storeyed" "storeyed" sStoreyed f fd) (T : Txt K mg CP CH) (CC : Cal P w K mg base "clear_away" 1 ["house"] (spClear CH)) (CS : Cal P w K mg base "add_storey" 4 ["house", "grounds"] (spStorey CP CH)) : FnOk P w K mg base CX0 5 f fd ["house", "storeys"] (spStoreyed CP CH) := by
  refine F.ok scStoreyed (fun vs H Q E h => ?_) (fun cdv A outer s H vs Q E hr h => ?_)
  · obtain ⟨av, ph, n, t, rfl, _⟩ := h
    rfl
  · obtain ⟨av, ph, n, t, rfl, HV, hav, k⟩ := h
    refine ⟨_, pss_cons (ps_if (PW.pt (pw_or (pt_cmpR op_lt (pv 1) pe_int (nomark _)) (pw_or1 (pt_cmpR op_gt (pv 1) (pe_gi rfl T.cMOST_STOREYS) (nomark _))))) (pss_one (ps_ret (pe_lst (pa_cons (pe_gi rfl T.cWRONG) pa_nil)))) pss_nil)
      (pss_cons (ps_expr (pe_cal CC (hr.mono (by decide)) rfl (pa_cons (pv 0) pa_nil)))
      (pss_cons (ps_setLc (i := 2) (own := [("place", 3)]) (g := gName 3) (tt := tYes) (te := tLst tNil) rfl scStoreyed.nd rfl rfl (sw_true rfl rfl rfl (by decide +kernel)) (pi_range1 (by rfl) T.range (pa_cons (pv 1) pa_nil))
          (blkOk_by (own := [("place", 3)]) (N := ["house", "storeys", "grounds", "place"]) (sc := defScope sStoreyed) (by decide +kernel))
          (fun _ _ _ _ _ => pg_name (i := 3) scStoreyed.nd rfl (Or.inl rfl)) (fun _ _ _ _ _ => pts_nil) (fun _ _ _ _ _ => pe_lst pa_nil))
      (pss_cons (ps_while PassesOwn.never (pt_cmpR op_gt (pe_callB call_len_seq (by rfl) T.len PySem.boot_len (pa_cons (pv 2) pa_nil)) pe_int (nomark _))
        (pss_one (ps_set (i := 2) scStoreyed.nd rfl (Or.inl rfl) (pe_cal CS hr rfl (pa_cons (pv 0) (pa_cons (pv 2) pa_nil))))))
      (pss_one (ps_ret (pe_lst (pa_cons (pe_callB call_lenD (by rfl) T.len PySem.boot_len (pa_cons (pe_fld (pv 0) rfl) pa_nil)) pa_nil))))))), ?_⟩
    have bad : n < 1 ∨ 3 < n → Mu56.step (some t) (.pyramid n) = (some t, [-1]) := fun h => if_pos h
    have good : ¬ (n < 1 ∨ 3 < n) → Mu56.step (some t) (.pyramid n) = (some ⟨Mu56.pyramid n, (Mu56.pyramid n).length⟩, [((Mu56.pyramid n).length : Int)]) := fun h => if_neg h
    refine ⟨_, rfl, _, _, rfl, rfl, _, rfl, ?_⟩
    by_cases h1 : n < 1
    · rw [decide_eq_true (show (n : Int) < 1 by omega)]
      refine iteT (iteT ⟨(by show 1 ≤ sizeLine; decide), fun p hp => ?_⟩)
      rw [bad (.inl h1)] at k
      exact k.one HV hp
    · rw [decide_eq_false (show ¬ (n : Int) < 1 by omega)]
      refine iteF ⟨_, rfl, _, _, rfl, rfl, _, rfl, ?_⟩
      by_cases h3 : 3 < n
      · rw [decide_eq_true (show (3 : Int) < (n : Int) by omega)]
        refine iteT ⟨(by show 1 ≤ sizeLine; decide), fun p hp => ?_⟩
        rw [bad (.inr h3)] at k
        exact k.one HV hp
      · rw [decide_eq_false (show ¬ (3 : Int) < (n : Int) by omega)]
        refine iteF ?_
        rw [good (by omega)] at k
        obtain ⟨G, sG, nG, dx, pd, ad, HI⟩ := HV
        -- clear_away(house)
        refine ⟨_, rfl, ph, dx, pd, true, t.next, rfl, sG _ _ HI.ob, fun d H1 hd g1 g2 kp => ?_⟩
        have nph : ¬ av ph := fun z => absurd HI.ob (by rw [nG ph z]; exact fun q => by cases q)
        have HV1 : HouseAv av CP CH H1 ph true ⟨[], 0⟩ := HouseAv.empty nph (fun z => hav d z hd) g1 g2
        have f1 : Fr ph H H1 := ⟨fun b o e n _ => kp b o e n, fun b e => free_but g1 kp e⟩
        -- grounds = [[] for place in range(storeys)]
        refine ⟨_, rfl, (n : Int), rfl, Int.le_trans (by decide) (Int.natCast_nonneg _), (by omega), fun D hD => ?_⟩
        refine lc_range (lo := 0) (n := ((n : Nat) : Int).toNat) (fun i H' => ∃ as, Same H1 H' ∧ H' D = some (.lst (as.map V.ref)) ∧ ListsAt H' as (List.replicate i []) ∧ ∀ a ∈ as, a ≠ D ∧ H1 a = none) ⟨[], same_new hD, upd_same, ⟨rfl, fun j l h => by cases h⟩, fun a h => by cases h⟩ ?_ ?_
        · rintro i H2 hi ⟨as, s2, d2, l2, n2⟩
          have hi : i < n := hi
          refine ⟨wipe_set _ _ _, ?_⟩
          refine ⟨Nat.zero_le _, fun q hq => ⟨_, same_new hq _ _ d2, ?_, as ++ [q], ?_, ?_, ?_, ?_⟩⟩
          · rw [List.length_map, l2.1, List.length_replicate]
            exact size_le (by omega)
          · exact same_in (s2.trans (same_new hq)) hD (same_new hq _ _ d2)
          · rw [upd_same, List.map_append]
            rfl
          · rw [List.replicate_succ']
            have nq : q ≠ D := (ne_of_none d2 hq).symm
            exact ListsAt.snoc ((l2.mono (same_new hq)).at_ fun a ha => (n2 a ha).1) ((upd_ne nq).trans upd_same)
          · intro a ha
            rcases List.mem_append.mp ha with z | z
            · exact n2 a z
            · rw [List.mem_singleton.mp z]
              exact ⟨(ne_of_none d2 hq).symm, s2.free hq⟩
        · rintro H2 ⟨as, s2, d2, l2, n2⟩
          have l2 : ListsAt H2 as (iterS n 0).2 := l2
          -- while len(grounds) > 0
          have facts := fun kk (hk : kk ≤ n) => iter_facts ⟨n, by omega⟩ ⟨kk, by omega⟩ hk
          refine ⟨fun m σ H' => ∃ kk g as, σ = [some (.ref ph), some (nV n), some (.ref g), none] ∧ m = n - kk ∧ kk ≤ n ∧ HouseAv av CP CH H' ph true (iterS n kk).1 ∧ Fr ph H H' ∧ H' g = some (.lst (as.map V.ref)) ∧ ListsAt H' as (iterS n kk).2 ∧ ∀ a ∈ as, ¬ av a,
            ⟨n, 0, D, as, rfl, rfl, Nat.zero_le _, HV1.mono s2, f1.trans (.of s2), d2, l2, fun a ha z => hav a z (f1.free _ (n2 a ha).2)⟩, ?_⟩
          rintro m σ H3 ⟨kk, g, as3, rfl, rfl, hk, HV3, f3, hg, l3, na3⟩
          obtain ⟨c1, c2, c3⟩ := facts kk hk
          have c1 : (iterS n kk).2.length = n - kk := c1
          have c2 : (iterS n kk).1.house.length ≤ 9 := c2
          refine ⟨_, rfl, g, _, rfl, .inl (SqL.of hg), _, _, rfl, rfl, _, rfl, ?_⟩
          rw [List.length_map, l3.1, c1]
          by_cases hlt : kk < n
          · rw [decide_eq_true (show (0 : Int) < ((n - kk : Nat) : Int) by omega)]
            refine iteT ⟨_, fun σ' H' q => q, ?_⟩
            refine ⟨_, rfl, _, rfl, av, ph, g, as3, (iterS n kk).2, true, (iterS n kk).1, rfl, HV3, fun a z q => hav a z (f3.free a q), hg, l3, na3, Nat.le_trans c2 (by decide), by rw [c1]; omega, c3, fun H4 p as4 HV4 f4 np hp l4 na4 => ?_⟩
            exact ⟨n - (kk + 1), by omega, kk + 1, p, as4, rfl, rfl, hlt, HV4, f3.trans f4, hp, l4, na4⟩
          · rw [decide_eq_false (show ¬ (0 : Int) < ((n - kk : Nat) : Int) by omega)]
            refine iteF ?_
            obtain rfl : kk = n := by omega
            have e := iter_end ⟨kk, by omega⟩ (by show 1 ≤ kk; omega)
            have e : (iterS kk kk).1 = ⟨Mu56.pyramid kk, (Mu56.pyramid kk).length⟩ := e
            rw [e] at HV3
            obtain ⟨dx3, pd3, ad3, HI3⟩ := HV3.at
            refine ⟨_, rfl, ph, CH, dx3, _, _, rfl, HI3.ob, T.clH, T.nPieces, hF_pieces, pd3, _, rfl, HI3.dc, (by show 1 ≤ sizeLine; decide), fun p hp => ?_⟩
            rw [List.length_map]
            exact k _ _ p rfl (HV3.mono (same_new hp)) (f3.trans (.of (same_new hp))) (f3.free _ hp) upd_same
end
end LH

/-! ## C1 -/
namespace LH
open PySem PySem.Spec PyProof.Rows L2
open Mu56 (Piece State House ids falls taken)
section
variable {P : Program} {w : World} {K : PySem.W.Frag} {mg : Str → Option Value} {base : Heap} {CP CH : Addr}
/-! ### cards_needed -/
def spNeeded : Sp := fun vs H Q _ => ∃ (n : Nat), vs = [nV n] ∧ n ≤ 100000 ∧ Q (nV (Mu56.cardsFor n)) H
theorem scNeeded : FnScope ["storeys", "pairs", "across"] ["storeys"] (defScope sNeeded) := ⟨rfl, rfl, rfl, by decide +kernel, rfl, by decide +kernel, by decide +kernel⟩
theorem ok_needed {f : Addr} {fd : FuncData} (F : Fun K "cards_needed" "cards_needed" sNeeded f fd) (T : Txt K mg CP CH) : FnOk P w K mg base CX0 1 f fd ["storeys"] spNeeded := by
  refine F.ok scNeeded (fun vs H Q E h => ?_) (fun cdv A outer s H vs Q E hr h => ?_)
  · obtain ⟨n, rfl, _⟩ := h
    rfl
  · obtain ⟨n, rfl, hn, k⟩ := h
    refine ⟨_, pss_cons (ps_set (i := 1) scNeeded.nd rfl (Or.inl rfl) (pe_op op_fdiv (pe_op op_mul (pv 0) (pe_op op_add (pv 0) pe_int)) pe_int))
      (pss_cons (ps_set (i := 2) scNeeded.nd rfl (Or.inl rfl) (pe_op op_fdiv (pe_op op_mul (pv 0) (pe_op op_sub (pv 0) pe_int)) pe_int))
      (pss_one (ps_ret (pe_op op_add (pe_op op_mul (pe_gi rfl T.cPAIR) (pv 1)) (pe_op op_mul (pe_gi rfl T.cCARD) (pv 2)))))), ?_⟩
    refine ⟨_, rfl, _, rfl, _, _, rfl, rfl, _, _, rfl, rfl, .inl ⟨by omega, by omega⟩, _, _, rfl, rfl, ⟨by decide, by decide⟩, ?_⟩
    refine ⟨_, rfl, _, rfl, _, _, rfl, rfl, _, _, rfl, rfl, .inl ⟨by omega, by omega⟩, _, _, rfl, rfl, ⟨by decide, by decide⟩, ?_⟩
    refine ⟨_, rfl, _, _, rfl, rfl, .inl ⟨by decide, by decide⟩, _, rfl, _, _, rfl, rfl, .inl ⟨by decide, by decide⟩, _, _, rfl, rfl, ?_⟩
    have e := HM.cards_needed_eq n
    unfold nV at k
    rw [← e] at k
    exact k
/-! ### count_cards -/
def cardsAns (n : Nat) : List Int := if 100 < n then [-1] else [(Mu56.cardsFor n : Int)]
def spCountCards : Sp := fun vs H Q _ => ∃ (n : Nat), vs = [nV n] ∧ n ≤ 10000 ∧ ∀ p, H p = none → Q (.ref p) (upd H p (.lst ((cardsAns n).map V.int)))
theorem scCountCards : FnScope ["storeys"] ["storeys"] (defScope sCountCards) := ⟨rfl, rfl, rfl, by decide +kernel, rfl, by decide +kernel, by decide +kernel⟩
theorem ok_countCards {f : Addr} {fd : FuncData} (F : Fun K "count_cards" "count_cards" sCountCards f fd) (T : Txt K mg CP CH) (CN : Cal P w K mg base "cards_needed" 1 ["storeys"] spNeeded) : FnOk P w K mg base CX0 2 f fd ["storeys"] spCountCards := by
  refine F.ok scCountCards (fun vs H Q E h => ?_) (fun cdv A outer s H vs Q E hr h => ?_)
  · obtain ⟨n, rfl, _⟩ := h
    rfl
  · obtain ⟨n, rfl, hn, k⟩ := h
    refine ⟨_, pss_cons (ps_if (pt_cmpR op_gt (pv 0) (pe_gi rfl T.cMSC) (nomark _)) (pss_one (ps_ret (pe_lst (pa_cons (pe_gi rfl T.cWRONG) pa_nil)))) pss_nil)
      (pss_one (ps_ret (pe_lst (pa_cons (pe_cal CN hr rfl (pa_cons (pv 0) pa_nil)) pa_nil)))), ?_⟩
    refine ⟨_, rfl, _, _, rfl, rfl, _, rfl, ?_⟩
    unfold cardsAns at k
    by_cases h : 100 < n
    · rw [decide_eq_true (show (100 : Int) < (n : Int) by omega)]
      rw [if_pos h] at k
      exact iteT ⟨(by show 1 ≤ sizeLine; decide), fun p hp => k p hp⟩
    · rw [decide_eq_false (show ¬ (100 : Int) < (n : Int) by omega)]
      rw [if_neg h] at k
      exact iteF ⟨_, rfl, n, rfl, by omega, (by show 1 ≤ sizeLine; decide), fun p hp => k p hp⟩
/-! ### count_storeys -/
def storeysAns (c : Nat) : List Int := if 1000 < c then [-1] else Mu56.nums [Mu56.storeysOf c, c - Mu56.cardsFor (Mu56.storeysOf c)]
def spCountStoreys : Sp := fun vs H Q _ => ∃ (c : Nat), vs = [nV c] ∧ c ≤ 10000 ∧ ∀ p, H p = none → Q (.ref p) (upd H p (.lst ((storeysAns c).map V.int)))
theorem scCountStoreys : FnScope ["cards", "storeys"] ["cards"] (defScope sCountStoreys) := ⟨rfl, rfl, rfl, by decide +kernel, rfl, by decide +kernel, by decide +kernel⟩
theorem ok_countStoreys {f : Addr} {fd : FuncData} (F : Fun K "count_storeys" "count_storeys" sCountStoreys f fd) (T : Txt K mg CP CH) (CN : Cal P w K mg base "cards_needed" 1 ["storeys"] spNeeded) : FnOk P w K mg base CX0 2 f fd ["cards"] spCountStoreys := by
  refine F.ok scCountStoreys (fun vs H Q E h => ?_) (fun cdv A outer s H vs Q E hr h => ?_)
  · obtain ⟨c, rfl, _⟩ := h
    rfl
  · obtain ⟨c, rfl, hc, k⟩ := h
    refine ⟨_, pss_cons (ps_if (pt_cmpR op_gt (pv 0) (pe_gi rfl T.cMCC) (nomark _)) (pss_one (ps_ret (pe_lst (pa_cons (pe_gi rfl T.cWRONG) pa_nil)))) pss_nil)
      (pss_cons (ps_set (i := 1) scCountStoreys.nd rfl (Or.inl rfl) pe_int)
      (pss_cons (ps_while PassesOwn.never (pt_cmpR op_le (pe_cal CN hr rfl (pa_cons (pe_op op_add (pv 1) pe_int) pa_nil)) (pv 0) (nomark _))
        (pss_one (ps_aug (i := 1) scCountStoreys.nd rfl (.inl rfl) pe_int ip_add)))
      (pss_one (ps_ret (pe_lst (pa_cons (pv 1) (pa_cons (pe_op op_sub (pv 0) (pe_cal CN hr rfl (pa_cons (pv 1) pa_nil))) pa_nil))))))), ?_⟩
    refine ⟨_, rfl, _, _, rfl, rfl, _, rfl, ?_⟩
    unfold storeysAns at k
    by_cases h : 1000 < c
    · rw [decide_eq_true (show (1000 : Int) < (c : Int) by omega)]
      rw [if_pos h] at k
      exact iteT ⟨(by show 1 ≤ sizeLine; decide), fun p hp => k p hp⟩
    · rw [decide_eq_false (show ¬ (1000 : Int) < (c : Int) by omega)]
      rw [if_neg h] at k
      refine iteF ?_
      refine ⟨fun m σ H' => ∃ n, σ = [some (nV c), some (nV n)] ∧ m = c - n ∧ Mu56.cardsFor n ≤ c ∧ H' = H, ⟨c, 0, rfl, rfl, Nat.zero_le _, rfl⟩, ?_⟩
      rintro m σ H' ⟨n, rfl, rfl, hn, rfl⟩
      have hge := HM.cardsFor_ge n
      refine ⟨_, rfl, _, _, rfl, rfl, n + 1, ?_, by omega, _, rfl, _, _, rfl, rfl, _, rfl, ?_⟩
      · show [V.int ((n : Int) + 1)] = [nV (n + 1)]
        unfold nV
        rw [Int.natCast_add]
        rfl
      by_cases hle : Mu56.cardsFor (n + 1) ≤ c
      · rw [decide_eq_true (show ((Mu56.cardsFor (n + 1) : Nat) : Int) ≤ (c : Int) by omega)]
        have := HM.cardsFor_ge (n + 1)
        refine iteT ⟨_, fun σ' H' q => q, ?_⟩
        refine ⟨_, rfl, _, _, rfl, rfl, c - (n + 1), by omega, n + 1, ?_, rfl, hle, rfl⟩
        show [_, some (V.int ((n : Int) + 1))] = [_, some (nV (n + 1))]
        unfold nV
        rw [Int.natCast_add]
        rfl
      · rw [decide_eq_false (show ¬ ((Mu56.cardsFor (n + 1) : Nat) : Int) ≤ (c : Int) by omega)]
        have es : Mu56.storeysOf c = n := HM.storeysOf_eq hn (by omega)
        rw [es] at k
        refine iteF ⟨_, rfl, _, rfl, _, rfl, n, rfl, by omega, _, _, rfl, rfl, (by show 2 ≤ sizeLine; decide), fun p hp => ?_⟩
        have e : ((c : Int) - ((Mu56.cardsFor n : Nat) : Int)) = ((c - Mu56.cardsFor n : Nat) : Int) := by omega
        have := k p hp
        rw [nums_V] at this
        show Q _ (upd H' p (.lst [nV n, V.int ((c : Int) - ((Mu56.cardsFor n : Nat) : Int))]))
        rw [e]
        exact this
end
end LH

/-! ## C2 -/
namespace LH
open PySem PySem.Spec PyProof.Rows L2
open Mu56 (Piece State House ids falls taken)
def lookF (x : Piece) : List Nat := x.id :: x.cards :: x.rests.length :: x.rests
theorem look_len {h : House} (w : HM.Wf h) (few : h.length ≤ 9) : ∀ j, ((h.take j).flatMap lookF).length ≤ 108 := by
  intro j
  have go : ∀ (l : House), (∀ x ∈ l, x ∈ h) → (l.flatMap lookF).length ≤ l.length * 12 := by
    intro l
    induction l with
    | nil => exact fun _ => Nat.zero_le _
    | cons x l ih =>
      intro hl
      rw [List.flatMap_cons, List.length_append, List.length_cons, Nat.succ_mul]
      have := ih fun y hy => hl y (List.mem_cons_of_mem _ hy)
      have := HM.rests_len w (hl x (List.mem_cons_self ..))
      have : (lookF x).length = x.rests.length + 1 + 1 + 1 := rfl
      omega
  have h1 := go (h.take j) fun x hx => List.mem_of_mem_take hx
  have h2 := List.length_take_le' j h
  omega
section
variable {P : Program} {w : World} {K : PySem.W.Frag} {mg : Str → Option Value} {base : Heap} {CP CH : Addr}
/-! ### look -/
def spLook (CP CH : Addr) : Sp := fun vs H Q _ => ∃ (av : Addr → Prop) (ph : Addr) (t : State), vs = [.ref ph] ∧ HouseAv av CP CH H ph true t ∧ HM.SWf t ∧ Gives av CP CH ph H Q (Mu56.step (some t) .look)
theorem scLook : FnScope ["house", "seen", "number", "piece"] ["house"] (defScope sLook) := ⟨rfl, rfl, rfl, by decide +kernel, rfl, by decide +kernel, by decide +kernel⟩
theorem ok_look {f : Addr} {fd : FuncData} (F : Fun K "look" "look" sLook f fd) (T : Txt K mg CP CH) : FnOk P w K mg base CX0 1 f fd ["house"] (spLook CP CH) := by
  refine F.ok scLook (fun vs H Q E h => ?_) (fun cdv A outer s H vs Q E hr h => ?_)
  · obtain ⟨av, ph, t, rfl, _⟩ := h
    rfl
  · obtain ⟨av, ph, t, rfl, HV, W, k⟩ := h
    have HA := HV.at
    refine ⟨_, pss_cons (ps_set (i := 1) scLook.nd rfl (Or.inl rfl) (pe_lst (pa_cons (pe_callB call_lenD (by rfl) T.len PySem.boot_len (pa_cons (pe_fld (pv 0) rfl) pa_nil)) pa_nil)))
      (pss_cons (ps_lock (ps_for PassesOwn.never rfl (pi_items (pe_fld (pv 0) rfl))
          (pg_tup rfl (pgs_cons (pg_name (i := 2) scLook.nd rfl (.inl rfl)) (pgs_cons (pg_name (i := 3) scLook.nd rfl (.inl rfl)) pgs_nil)))
        (pss_cons (ps_expr (pe_bm PySem.F.plainAttrs_list PySem.F.slot_list_extend PySem.F.type_list_extend mt_extend (pv 1) (pa_cons
            (pe_lst (pa_cons (pv 2) (pa_cons (pe_fld (pv 3) rfl) (pa_cons (pe_callB call_len_seq (by rfl) T.len PySem.boot_len (pa_cons (pe_fld (pv 3) rfl) pa_nil)) pa_nil)))) pa_nil)))
        (pss_one (ps_expr (pe_bm PySem.F.plainAttrs_list PySem.F.slot_list_extend PySem.F.type_list_extend mt_extend (pv 1) (pa_cons (pe_fld (pv 3) rfl) pa_nil)))))))
      (pss_one (ps_ret (pv 1)))), ?_⟩
    obtain ⟨dx, pd, ad, HI⟩ := id HA
    -- seen = [len(house.pieces)]
    refine ⟨_, rfl, ph, CH, dx, _, _, rfl, HI.ob, T.clH, T.nPieces, hF_pieces, pd, _, rfl, HI.dc, (by show 1 ≤ sizeLine; decide), fun l hl => ?_⟩
    have nlp : pd ≠ l := ne_of_none HI.dc hl
    have e0 : [V.int (((t.house.map (kvOf ad)).length : Nat) : Int)] = (t.house.length :: (t.house.take 0).flatMap lookF).map nV := by rw [List.length_map]; rfl
    rw [e0]
    refine ⟨pd, _, (upd_ne nlp).trans HI.dc, trivial, fun od => ?_⟩
    have hob := lock_at (od := od) HI.dc HI.ob (by intro z; cases z)
    have hpc := fun x hx => (HI.pc x hx).lock (od := od) HI.dc
    generalize hHL : upd H pd (.frz od (.dK (t.house.map (kvOf ad)))) = HL at hob hpc
    have hdc : HL pd = some (.frz od (.dK (t.house.map (kvOf ad)))) := by rw [← hHL]; exact upd_same
    have hlL : HL l = none := by rw [← hHL, upd_ne nlp.symm]; exact hl
    have s0 : Same HL (upd (upd H l (.lst ((t.house.length :: (t.house.take 0).flatMap lookF).map nV))) pd (.frz od (.dK (t.house.map (kvOf ad))))) := fun b o e => by
      rw [← hHL] at e
      by_cases q : b = pd
      · subst q
        rw [upd_same] at e ⊢
        exact e
      · rw [upd_ne q] at e ⊢
        exact (upd_ne (ne_of_none e hl)).trans e
    have hl0 : (upd (upd H l (.lst ((t.house.length :: (t.house.take 0).flatMap lookF).map nV))) pd (.frz od (.dK (t.house.map (kvOf ad))))) l = some (.lst ((t.house.length :: (t.house.take 0).flatMap lookF).map nV)) := by rw [upd_ne nlp.symm, upd_same]
    refine ⟨_, rfl, ph, CH, dx, _, _, rfl, s0 _ _ hob, T.clH, T.nPieces, hF_pieces, pd, od, _, rfl, s0 _ _ hdc, ?_⟩
    refine for_it walk_items (fun j σ H' => ∃ v2 v3, σ = [some (.ref ph), some (.ref l), v2, v3] ∧ Same HL H' ∧ H' l = some (.lst ((t.house.length :: (t.house.take j).flatMap lookF).map nV)))
      ⟨none, none, rfl, s0, hl0⟩ (fun j σ H' _ ⟨_, _, _, s1, _⟩ => s1 _ _ hdc) ?_ ?_
    · rintro j v σ H1 H2 hj ⟨v2, v3, rfl, s1, h1⟩ y
      obtain ⟨T0, x, hx, rfl, hT, rfl⟩ := item_at hj y
      have hm : x ∈ t.house := List.mem_of_getElem? hx
      have s2 : Same H1 (upd H1 T0 (.tup [nV x.id, .ref (ad x.id)])) := same_new hT
      refine ⟨T0, _, rfl, SqT.of upd_same, rfl, _, _, rfl, _, _, rfl, rfl, ?_⟩
      obtain ⟨dp, r, hp1, hp2⟩ := ((hpc x hm).mono s1).mono s2
      have h1' := s2 _ _ h1
      have sL := s1.trans s2
      generalize upd H1 T0 (.tup [nV x.id, .ref (ad x.id)]) = H2 at s2 hp1 hp2 h1' sL
      have ll := look_len W.wf W.few j
      have lr := HM.rests_len W.wf hm
      have few := W.few
      -- seen.extend([number, piece.cards, len(piece.rests)])
      refine ⟨_, rfl, .inl ⟨rfl, _, SqL.of h1'⟩, _, rfl, _, rfl, _, CP, dp, _, _, rfl, hp1, T.clP, T.nCards, pF_cards, _, rfl, _, CP, dp, _, _, rfl, hp1, T.clP, T.nRests, pF_rests, r, _, rfl, .inl (SqL.of hp2), (by show 3 ≤ sizeLine; decide), fun q hq => ?_⟩
      have s3 : Same H2 (upd H2 q (.lst [nV x.id, V.int ((x.cards : Nat) : Int), V.int (((x.rests.map nV).length : Nat) : Int)])) := same_new hq
      have q3 : upd H2 q (.lst [nV x.id, V.int ((x.cards : Nat) : Int), V.int (((x.rests.map nV).length : Nat) : Int)]) q = some (.lst (([x.id, x.cards, x.rests.length] : List Nat).map nV)) := by
        rw [upd_same, List.length_map]
        rfl
      generalize upd H2 q (.lst [nV x.id, V.int ((x.cards : Nat) : Int), V.int (((x.rests.map nV).length : Nat) : Int)]) = H3 at s3 q3
      have h3 := s3 _ _ h1'
      have nrl : r ≠ l := fun z => by
        have := hpc x hm
        obtain ⟨dp', r', a1, a2⟩ := this
        have b1 := s3 _ _ (s2 _ _ (s1 _ _ a1))
        rw [s3 _ _ hp1] at b1
        cases b1
        rw [z, hlL] at a2
        cases a2
      refine ⟨l, q, _, _, rfl, rfl, h3, q3, ?_, ?_⟩
      · rw [List.length_map, List.length_map, List.length_cons]
        exact Nat.le_of_lt (size_le (by show _ + 1 + 3 ≤ _; omega))
      have h4 : upd H3 l (.lst ((t.house.length :: (t.house.take j).flatMap lookF).map nV ++ ([x.id, x.cards, x.rests.length] : List Nat).map nV)) l = some (.lst ((t.house.length :: (t.house.take j).flatMap lookF).map nV ++ ([x.id, x.cards, x.rests.length] : List Nat).map nV)) := upd_same
      have s4 : ∀ b o, H3 b = some o → b ≠ l → upd H3 l (.lst ((t.house.length :: (t.house.take j).flatMap lookF).map nV ++ ([x.id, x.cards, x.rests.length] : List Nat).map nV)) b = some o := fun b o e n => (upd_ne n).trans e
      have sL4 := same_in (o := .lst ((t.house.length :: (t.house.take j).flatMap lookF).map nV ++ ([x.id, x.cards, x.rests.length] : List Nat).map nV)) (sL.trans s3) hlL h3
      generalize upd H3 l (.lst ((t.house.length :: (t.house.take j).flatMap lookF).map nV ++ ([x.id, x.cards, x.rests.length] : List Nat).map nV)) = H4 at h4 s4 sL4
      have hp1' := s4 _ _ (s3 _ _ hp1) (ne_of (s3 _ _ hp1) h3 (by intro z; cases z))
      have hp2' := s4 _ _ (s3 _ _ hp2) nrl
      -- seen.extend(piece.rests)
      refine ⟨_, rfl, .inl ⟨rfl, _, SqL.of h4⟩, _, rfl, _, CP, dp, _, _, rfl, hp1', T.clP, T.nRests, pF_rests, l, r, _, _, rfl, rfl, h4, hp2', ?_, ?_⟩
      · rw [List.length_append, List.length_map, List.length_map, List.length_map, List.length_cons]
        exact Nat.le_of_lt (size_le (by show _ + 1 + 3 + _ ≤ _; omega))
      · refine ⟨_, _, rfl, same_in sL4 hlL h4, ?_⟩
        rw [upd_same, take_one hx, List.flatMap_append, List.flatMap_cons, List.flatMap_nil, List.append_nil, ← List.map_append, ← List.map_append]
        refine congrArg (fun q : List Nat => some (HO.lst (q.map nV))) ?_
        unfold lookF
        rw [List.append_assoc, List.cons_append]
        rfl
    · rintro σ H1 ⟨v2, v3, rfl, s1, h1⟩
      rw [List.length_map, List.take_length] at h1
      refine ⟨s1 _ _ hdc, _, rfl, ?_⟩
      have s1' := s1
      rw [← hHL] at s1'
      have s2 := same_unlock HI.dc s1'
      refine k t _ l rfl (HV.mono s2) (.of s2) hl ?_
      rw [upd_ne nlp.symm, h1]
      have est : Mu56.step (some t) .look = (some t, Mu56.nums (t.house.length :: t.house.flatMap lookF)) := rfl
      rw [est, nums_V]
end
end LH

/-! ## C3 -/
namespace LH
open PySem PySem.Spec PyProof.Rows L2
open Mu56 (Piece State House ids falls taken)
def kvH (h : House) (x : Piece) : Key × V := (Sum.inl (x.id : Int), nV (Mu56.heightOf h x.id))
section
variable {P : Program} {w : World} {K : PySem.W.Frag} {mg : Str → Option Value} {base : Heap} {CP CH : Addr}
/-! ### high -/
def spHigh (CP CH : Addr) : Sp := fun vs H Q _ => ∃ (av : Addr → Prop) (ph : Addr) (t : State), vs = [.ref ph] ∧ HouseAv av CP CH H ph true t ∧ HM.SWf t ∧ Gives av CP CH ph H Q (Mu56.step (some t) .high)
theorem scHigh : FnScope ["house", "known", "number", "piece", "heights", "each"] ["house"] (defScope sHigh) := ⟨rfl, rfl, rfl, by decide +kernel, rfl, by decide +kernel, by decide +kernel⟩
theorem ok_high {f : Addr} {fd : FuncData} (F : Fun K "high" "high" sHigh f fd) (T : Txt K mg CP CH) : FnOk P w K mg base CX0 1 f fd ["house"] (spHigh CP CH) := by
  refine F.ok scHigh (fun vs H Q E h => ?_) (fun cdv A outer s H vs Q E hr h => ?_)
  · obtain ⟨av, ph, t, rfl, _⟩ := h
    rfl
  · obtain ⟨av, ph, t, rfl, HV, W, k⟩ := h
    have HA := HV.at
    have hu := hu_of hr
    refine ⟨_, pss_cons (ps_set (i := 1) scHigh.nd rfl (Or.inr rfl) pe_dnewK)
      (pss_cons (ps_lock (ps_for PassesOwn.never rfl (pi_items (pe_fld (pv 0) rfl))
          (pg_tup rfl (pgs_cons (pg_name (i := 2) scHigh.nd rfl (.inl rfl)) (pgs_cons (pg_name (i := 3) scHigh.nd rfl (.inl rfl)) pgs_nil)))
        (pss_one (ps_dput hu (pv 1) (pv 2) (pe_op op_add pe_int (pe_callBK (cr_maxDef rfl) (by rfl) T.max_ (by decide +kernel) (pa_cons
            (pe_lc (own := [("each", 5)]) (g := gName 5) (tt := tYes) (te := tDGet (tVar 1) (tVar 5)) rfl scHigh.nd (pi_list (pe_fld (pv 3) rfl)) (blkOk_by (own := [("each", 5)]) (N := ["house", "known", "number", "piece", "heights", "each"]) (sc := defScope sHigh) (by decide +kernel))
              (fun _ _ _ _ _ => pg_name (i := 5) scHigh.nd rfl (Or.inl rfl)) (fun _ _ _ _ _ => pts_nil) (fun _ _ _ _ _ => pe_dget hu (pv 1) (pv 5) (fun _ _ => rfl))) pa_nil) (pk_cons pe_int pk_nil))) rfl))))
      (pss_cons (ps_set (i := 4) scHigh.nd rfl (Or.inl rfl) (pe_listVals rfl (pv 1) (by rfl) T.list_ (by decide +kernel)))
      (pss_one (ps_ret (pe_op op_cat (pe_lst (pa_cons (pe_callBK (cr_maxDef rfl) (by rfl) T.max_ (by decide +kernel) (pa_cons (pv 4) pa_nil) (pk_cons pe_int pk_nil)) pa_nil)) (pv 4)))))), ?_⟩
    obtain ⟨dx, pd, ad, HI⟩ := id HA
    intro bd hbd
    have nbp : pd ≠ bd := ne_of_none HI.dc hbd
    refine ⟨pd, _, (upd_ne nbp).trans HI.dc, trivial, fun od => ?_⟩
    have hob := lock_at (od := od) HI.dc HI.ob (by intro z; cases z)
    have hpc := fun x hx => (HI.pc x hx).lock (od := od) HI.dc
    generalize hHL : upd H pd (.frz od (.dK (t.house.map (kvOf ad)))) = HL at hob hpc
    have hdc : HL pd = some (.frz od (.dK (t.house.map (kvOf ad)))) := by rw [← hHL]; exact upd_same
    have hbL : HL bd = none := by rw [← hHL, upd_ne nbp.symm]; exact hbd
    have s0 : Same HL (upd (upd H bd (.dK [])) pd (.frz od (.dK (t.house.map (kvOf ad))))) := fun b o e => by
      rw [← hHL] at e
      by_cases q : b = pd
      · subst q
        rw [upd_same] at e ⊢
        exact e
      · rw [upd_ne q] at e ⊢
        exact (upd_ne (ne_of_none e hbd)).trans e
    have hb0 : (upd (upd H bd (.dK [])) pd (.frz od (.dK (t.house.map (kvOf ad))))) bd = some (.dK []) := by rw [upd_ne nbp.symm, upd_same]
    refine ⟨_, rfl, ph, CH, dx, _, _, rfl, s0 _ _ hob, T.clH, T.nPieces, hF_pieces, pd, od, _, rfl, s0 _ _ hdc, ?_⟩
    refine for_it walk_items (fun j σ H' => ∃ v2 v3, σ = [some (.ref ph), some (.ref bd), v2, v3, none, none] ∧ Same HL H' ∧ H' bd = some (.dK ((t.house.take j).map (kvH t.house))))
      ⟨none, none, rfl, s0, hb0⟩ (fun j σ H' _ ⟨_, _, _, s1, _⟩ => s1 _ _ hdc) ?_ ?_
    · rintro j v σ H1 H2 hj ⟨v2, v3, rfl, s1, h1⟩ y
      obtain ⟨T0, x, hx, rfl, hT, rfl⟩ := item_at hj y
      rw [List.length_map] at hj
      have hm : x ∈ t.house := List.mem_of_getElem? hx
      have few := W.few
      have sT : Same H1 (upd H1 T0 (.tup [nV x.id, .ref (ad x.id)])) := same_new hT
      refine ⟨T0, _, rfl, SqT.of upd_same, rfl, _, _, rfl, _, _, rfl, rfl, ?_⟩
      obtain ⟨dp, r, hp1, hp2⟩ := ((hpc x hm).mono s1).mono sT
      have g1 := sT _ _ h1
      have sL := s1.trans sT
      generalize upd H1 T0 (.tup [nV x.id, .ref (ad x.id)]) = H2 at hp1 hp2 g1 sL
      -- known[number] = 1 + max([known[each] for each in piece.rests], default=0)
      refine ⟨_, rfl, _, CP, dp, _, _, rfl, hp1, T.clP, T.nRests, pF_rests, r, rfl, ⟨_, SqL.of hp2⟩, ?_⟩
      refine lc_map (fun y => match y with | .int z => nV (Mu56.heightOf t.house z.toNat) | _ => .non) (SqL.of hp2) (by rw [List.length_map]; have := HM.rests_len W.wf hm; omega) ?_ ?_
      · intro y hy H4 s4 R hR
        obtain ⟨i, hi, rfl⟩ := List.mem_map.mp hy
        obtain ⟨r1, r2⟩ := W.wf.rest x hm i hi
        have g : DGet H4 bd (nV i) (some (nV (Mu56.heightOf t.house i))) := by
          have := DGet.k (k := Sum.inl (i : Int)) (s4 _ _ g1)
          rw [show valV ((t.house.take j).map (kvH t.house)) (Sum.inl (i : Int) : Key) = some (nV (Mu56.heightOf t.house i)) from (val_map (f := fun i => nV (Mu56.heightOf t.house i)) i (t.house.take j)).trans (if_pos (early W.wf hx r1 r2))] at this
          exact this
        exact ⟨_, rfl, _, rfl, bd, _, rfl, g, hR⟩
      · intro D H4 s4 hD e4
        have ec : (x.rests.map nV).map (fun y => match y with | .int z => nV (Mu56.heightOf t.house z.toNat) | _ => .non) = (x.rests.map fun i => Mu56.heightOf t.house i).map nV := by
          rw [List.map_map, List.map_map]
          exact List.map_congr_left fun i _ => rfl
        rw [ec] at e4
        have g4 := s4 _ _ g1
        have lb : ((t.house.take j).map (kvH t.house)).length < sizeLine := by
          rw [List.length_map]
          exact size_le (Nat.le_trans (List.length_take_le' ..) (by omega))
        refine ⟨D, _, rfl, rfl, SqL.of e4, _, _, rfl, rfl, _, rfl, _, rfl, bd, _, rfl, DPut.k (k := Sum.inl (x.id : Int)) g4 lb, some (nV x.id), some (.ref (ad x.id)), rfl, same_in (sL.trans s4) hbL g4, ?_⟩
        have nin : x.id ∉ ids (t.house.take j) := fun q => by
          obtain ⟨y, hy, e⟩ := HM.mem_ids.mp q
          obtain ⟨j', hj'⟩ := List.mem_iff_getElem?.mp hy
          rw [List.getElem?_take] at hj'
          split at hj'
          · have p1 := HM.place_of W.wf.nd hj'
            have p2 := HM.place_of W.wf.nd hx
            rw [e] at p1
            omega
          · cases hj'
        rw [upd_same, putK_new _ (by
          have := val_map (f := fun i => nV (Mu56.heightOf t.house i)) x.id (t.house.take j)
          rw [if_neg nin] at this
          exact this), take_one hx, List.map_append]
        refine congrArg (fun q => some (HO.dK (_ ++ [(_, q)]))) ?_
        show V.int (1 + ((Mu56.most (x.rests.map fun i => Mu56.heightOf t.house i) : Nat) : Int)) = nV (Mu56.heightOf t.house x.id)
        unfold nV
        congr 1
        rw [HM.height_eq W.wf hm]
        show 1 + ((Mu56.most (x.rests.map (Mu56.heightOf t.house)) : Nat) : Int) = ((Mu56.most (x.rests.map (Mu56.heightOf t.house)) + 1 : Nat) : Int)
        omega
    · rintro σ H1 ⟨v2, v3, rfl, s1, h1⟩
      rw [List.length_map, List.take_length] at h1
      refine ⟨s1 _ _ hdc, ?_⟩
      have s1' := s1
      rw [← hHL] at s1'
      have s2 : Same H (upd H1 pd (.dK (t.house.map (kvOf ad)))) := same_unlock HI.dc s1'
      have h2 : upd H1 pd (.dK (t.house.map (kvOf ad))) bd = some (.dK (t.house.map (kvH t.house))) := (upd_ne nbp.symm).trans h1
      generalize upd H1 pd (.dK (t.house.map (kvOf ad))) = H2 at s2 h2
      have k2 := k.pull s2
      have HV2 := HV.mono s2
      -- heights = list(known.values())
      refine ⟨_, rfl, bd, _, rfl, h2, fun l hl => ?_⟩
      have eh : (t.house.map (kvH t.house)).map (·.2) = ((ids t.house).map (Mu56.heightOf t.house)).map nV := by
        unfold ids
        rw [List.map_map, List.map_map, List.map_map]
        rfl
      rw [eh]
      have s3 : Same H2 (upd H2 l (.lst (((ids t.house).map (Mu56.heightOf t.house)).map nV))) := same_new hl
      have h3 : upd H2 l (.lst (((ids t.house).map (Mu56.heightOf t.house)).map nV)) l = some (.lst (((ids t.house).map (Mu56.heightOf t.house)).map nV)) := upd_same
      generalize upd H2 l (.lst (((ids t.house).map (Mu56.heightOf t.house)).map nV)) = H3 at s3 h3
      have k3 := k2.pull s3
      have HV3 := HV2.mono s3
      refine ⟨_, rfl, l, _, rfl, rfl, SqL.of h3, (by show 1 ≤ sizeLine; decide), fun p hp => ?_⟩
      rw [← HM.high_eq t.house.length rfl W.wf.nd]
      have s4 : Same H3 (upd H3 p (.lst [nV (Mu56.high t.house)])) := same_new hp
      refine ⟨_, rfl, p, l, _, _, rfl, rfl, upd_same, s4 _ _ h3, ?_, fun q hq => ?_⟩
      · rw [List.length_map, List.length_map, HM.ids_len']
        have := W.few
        exact Nat.le_of_lt (size_le (by show 1 + _ ≤ _; omega))
      · have s5 := s4.trans (same_new (o := .lst ([nV (Mu56.high t.house)] ++ ((ids t.house).map (Mu56.heightOf t.house)).map nV)) hq)
        refine k3 t _ q rfl (HV3.mono s5) (.of s5) (s4.free hq) ?_
        have est : Mu56.step (some t) .high = (some t, Mu56.nums (Mu56.high t.house :: (ids t.house).map (Mu56.heightOf t.house))) := rfl
        rw [upd_same, est, nums_V]
        rfl
end
end LH

/-! ## C4 -/
namespace LH
open PySem PySem.Spec PyProof.Rows L2
open Mu56 (Piece State House ids falls taken)
/-- a house whose dict is being walked -/
structure HouseLk (CP CH : Addr) (H : Hp) (ph dx pd : Addr) (ad : Nat → Addr) (od : Obj) (t : State) : Prop where
  ob : H ph = some (.ins CH dx (hF true pd t.next))
  dc : H pd = some (.frz od (.dK (t.house.map (kvOf ad))))
  pc : ∀ x ∈ t.house, PieceAt CP H (ad x.id) x
theorem HouseLk.mono {CP CH : Addr} {H H' : Hp} {ph dx pd : Addr} {ad : Nat → Addr} {od : Obj} {t : State} (p : HouseLk CP CH H ph dx pd ad od t) (s : Same H H') : HouseLk CP CH H' ph dx pd ad od t := ⟨s _ _ p.ob, s _ _ p.dc, fun x hx => (p.pc x hx).mono s⟩
section
variable {P : Program} {w : World} {K : PySem.W.Frag} {mg : Str → Option Value} {base : Heap} {CP CH : Addr}
/-! ### falling, within a walk over the same dict -/
def spFallingL (CP CH : Addr) : Sp := fun vs H Q _ => ∃ (ph dx pd : Addr) (ad : Nat → Addr) (od : Obj) (i : Nat) (t : State), vs = [.ref ph, nV i] ∧ HouseLk CP CH H ph dx pd ad od t ∧ HM.SWf t ∧ i ∈ ids t.house ∧
  ∀ H' p, Same H H' → H p = none → H' p = some (.lst ((falls t.house [i]).map nV)) → Q (.ref p) H'
theorem ok_fallingL {f : Addr} {fd : FuncData} (F : Fun K "falling" "falling" sFalling f fd) (T : Txt K mg CP CH) : FnOk P w K mg base CX0 1 f fd ["house", "taken"] (spFallingL CP CH) := by
  refine F.ok scFalling (fun vs H Q E h => ?_) (fun cdv A outer s H vs Q E hr h => ?_)
  · obtain ⟨ph, dx, pd, ad, od, i, t, rfl, _⟩ := h
    rfl
  · obtain ⟨ph, dx, pd, ad, od, i, t, rfl, HI, W, hi, k⟩ := h
    refine ⟨_, pss_cons (ps_set (i := 2) scFalling.nd rfl (Or.inr rfl) (pe_lst (pa_cons (pv 1) pa_nil)))
      (pss_cons (ps_for PassesOwn.never rfl (pi_items (pe_fld (pv 0) rfl))
          (pg_tup rfl (pgs_cons (pg_name (i := 3) scFalling.nd rfl (.inl rfl)) (pgs_cons (pg_name (i := 4) scFalling.nd rfl (.inl rfl)) pgs_nil)))
        (pss_one (ps_if (pt_val (pe_callB (cr_any rfl) (by rfl) T.any_ (by decide +kernel) (pa_cons
            (pe_lc (own := [("each", 5)]) (g := gName 5) (tt := tYes) (te := tOp (rIn K false) (tVar 5) (tVar 2)) rfl scFalling.nd (pi_list (pe_fld (pv 4) rfl)) (blkOk_by (own := [("each", 5)]) (N := ["house", "taken", "fallen", "number", "piece", "each"]) (sc := defScope sFalling) (by decide +kernel))
              (fun _ _ _ _ _ => pg_name (i := 5) scFalling.nd rfl (Or.inl rfl)) (fun _ _ _ _ _ => pts_nil) (fun _ _ _ _ _ => pe_cmpR op_in_seq (pv 5) (pv 2) (by rfl))) pa_nil)))
          (pss_one (ps_expr (pe_bm PySem.F.plainAttrs_list PySem.F.slot_list_append PySem.F.type_list_append mt_append (pv 2) (pa_cons (pv 3) pa_nil)))) pss_nil)))
      (pss_one (ps_ret (pv 2)))), ?_⟩
    -- fallen = [taken]
    refine ⟨_, rfl, (by show 1 ≤ sizeLine; decide), fun l hl => ?_⟩
    have s0 : Same H (upd H l (.lst [nV i])) := same_new hl
    refine ⟨_, rfl, ph, CH, dx, _, _, rfl, s0 _ _ HI.ob, T.clH, T.nPieces, hF_pieces, pd, od, _, rfl, s0 _ _ HI.dc, ?_⟩
    refine for_it walk_items (fun j σ H' => ∃ v3 v4, σ = [some (.ref ph), some (nV i), some (.ref l), v3, v4, none] ∧ Same H H' ∧ H' l = some (.lst (((t.house.take j).foldl HM.stepF [i]).map nV)))
      ⟨none, none, rfl, s0, upd_same⟩ (fun j σ H' _ ⟨_, _, _, s1, _⟩ => s1 _ _ HI.dc) ?_ ?_
    · rintro j v σ H1 H2 hj ⟨v3, v4, rfl, s1, h1⟩ y
      obtain ⟨T0, x, hx, rfl, hT, rfl⟩ := item_at hj y
      have hm : x ∈ t.house := List.mem_of_getElem? hx
      have s2 : Same H1 (upd H1 T0 (.tup [nV x.id, .ref (ad x.id)])) := same_new hT
      refine ⟨T0, _, rfl, SqT.of upd_same, rfl, _, _, rfl, _, _, rfl, rfl, ?_⟩
      obtain ⟨dp, r, hp1, hp2⟩ := ((HI.pc x hm).mono s1).mono s2
      have h1' := s2 _ _ h1
      generalize upd H1 T0 (.tup [nV x.id, .ref (ad x.id)]) = H2 at s2 hp1 hp2 h1'
      generalize hmj : (t.house.take j).foldl HM.stepF [i] = m at h1'
      -- any([each in fallen for each in piece.rests])
      refine ⟨_, rfl, _, CP, dp, _, _, rfl, hp1, T.clP, T.nRests, pF_rests, r, rfl, ⟨_, SqL.of hp2⟩, ?_⟩
      refine lc_map (fun y => .bl (inV y (m.map nV))) (SqL.of hp2) ?_ ?_ ?_
      · rw [List.length_map]
        exact Nat.le_trans (HM.rests_len W.wf hm) (Nat.le_trans W.few (by decide))
      · intro y hy H3 s3 R hR
        obtain ⟨k0, _, rfl⟩ := List.mem_map.mp hy
        refine ⟨_, rfl, _, rfl, l, _, rfl, .inl (SqL.of (s3 _ _ h1')), rfl, flat_nV _, hR⟩
      · intro D H3 s3 hD e3
        have eb : (x.rests.map nV).map (fun y => V.bl (inV y (m.map nV))) = (x.rests.map fun c => m.contains c).map V.bl := by
          rw [List.map_map, List.map_map]
          exact List.map_congr_left fun c _ => congrArg V.bl (in_nV c m)
        rw [eb] at e3
        refine ⟨D, _, rfl, SqL.of e3, _, rfl, ?_⟩
        have ea : (x.rests.map fun c => m.contains c).any id = x.rests.any fun c => m.contains c := by rw [List.any_map]; rfl
        have es : (t.house.take (j + 1)).foldl HM.stepF [i] = HM.stepF m x := by rw [take_one hx, List.foldl_append, hmj]; rfl
        have sL : Same H H3 := (s1.trans s2).trans s3
        rw [ea]
        cases ec : x.rests.any fun c => m.contains c with
        | false =>
          refine iteF ⟨_, _, rfl, sL, ?_⟩
          rw [es]
          unfold HM.stepF
          rw [ec, if_neg Bool.false_ne_true]
          exact s3 _ _ h1'
        | true =>
          have hl3 := s3 _ _ h1'
          refine iteT ⟨_, rfl, .inl ⟨rfl, _, SqL.of hl3⟩, _, rfl, l, _, _, rfl, rfl, hl3, ?_, ?_⟩
          · rw [List.length_map, ← hmj]
            refine size_le (Nat.le_trans (HM.foldF_len ..) ?_)
            have := List.length_take_le' j t.house
            have := W.few
            rw [List.length_cons, List.length_nil]
            omega
          · refine ⟨_, _, rfl, same_in sL hl hl3, ?_⟩
            rw [upd_same, es]
            unfold HM.stepF
            rw [ec, if_pos rfl, List.map_append]
            rfl
    · rintro σ H1 ⟨v3, v4, rfl, s1, h1⟩
      rw [List.length_map, List.take_length] at h1
      refine ⟨_, rfl, ?_⟩
      refine k _ l s1 hl ?_
      rw [h1]
      exact congrArg (fun q => some (HO.lst (q.map nV))) (HM.fallP_eq W.wf hi)
/-! ### fall_marks -/
def spFallMarks (CP CH : Addr) : Sp := fun vs H Q _ => ∃ (ph : Addr) (t : State), vs = [.ref ph] ∧ HouseAt CP CH H ph true t ∧ HM.SWf t ∧
  ∀ H' p as, Same H H' → H p = none → H' p = some (.lst (as.map V.ref)) → MarksAt H' as (HM.fmarksOf t.house) → Q (.ref p) H'
theorem scFallMarks : FnScope ["house", "bits", "marks", "number", "each"] ["house"] (defScope sFallMarks) := ⟨rfl, rfl, rfl, by decide +kernel, rfl, by decide +kernel, by decide +kernel⟩
theorem ok_fallMarks {f : Addr} {fd : FuncData} (F : Fun K "fall_marks" "fall_marks" sFallMarks f fd) (T : Txt K mg CP CH) (CB : Cal P w K mg base "piece_bits" 1 ["house"] (spBits CP CH)) (CF : Cal P w K mg base "falling" 1 ["house", "taken"] (spFallingL CP CH)) : FnOk P w K mg base CX0 2 f fd ["house"] (spFallMarks CP CH) := by
  refine F.ok scFallMarks (fun vs H Q E h => ?_) (fun cdv A outer s H vs Q E hr h => ?_)
  · obtain ⟨ph, t, rfl, _⟩ := h
    rfl
  · obtain ⟨ph, t, rfl, HA, W, k⟩ := h
    have hu := hu_of hr
    refine ⟨_, pss_cons (ps_set (i := 1) scFallMarks.nd rfl (Or.inr rfl) (pe_cal CB hr rfl (pa_cons (pv 0) pa_nil)))
      (pss_cons (ps_set (i := 2) scFallMarks.nd rfl (Or.inl rfl) (pe_lst pa_nil))
      (pss_cons (ps_lock (ps_for PassesOwn.never rfl (pi_keys (pe_fld (pv 0) rfl)) (pg_name (i := 3) scFallMarks.nd rfl (Or.inl rfl))
        (pss_one (ps_expr (pe_bm PySem.F.plainAttrs_list PySem.F.slot_list_append PySem.F.type_list_append mt_append (pv 2) (pa_cons
          (pe_tup (pa_cons (pe_dget hu (pv 1) (pv 3) (fun _ _ => rfl)) (pa_cons (pe_callB (cr_sum rfl) (by rfl) T.sum (by decide +kernel) (pa_cons
            (pe_lc (own := [("each", 4)]) (g := gName 4) (tt := tYes) (te := tDGet (tVar 1) (tVar 4)) rfl scFallMarks.nd (pi_list (pe_cal CF hr rfl (pa_cons (pv 0) (pa_cons (pv 3) pa_nil)))) (blkOk_by (own := [("each", 4)]) (N := ["house", "bits", "marks", "number", "each"]) (sc := defScope sFallMarks) (by decide +kernel))
              (fun _ _ _ _ _ => pg_name (i := 4) scFallMarks.nd rfl (Or.inl rfl)) (fun _ _ _ _ _ => pts_nil) (fun _ _ _ _ _ => pe_dget hu (pv 1) (pv 4) (fun _ _ => rfl))) pa_nil)) pa_nil))) pa_nil))))))
      (pss_one (ps_ret (pv 2))))), ?_⟩
    obtain ⟨dx, pd, ad, HI⟩ := id HA
    refine ⟨_, rfl, ph, t, rfl, HA, W, fun HA1 bd sA hbd hb => ?_⟩
    have nbp : pd ≠ bd := ne_of_none HI.dc hbd
    refine ⟨Nat.zero_le _, fun l hl => ?_⟩
    have hl0 : H l = none := sA.free hl
    have nlb : bd ≠ l := ne_of_none hb hl
    have sB : Same H (upd HA1 l (.lst [])) := sA.trans (same_new hl)
    have hbB : upd HA1 l (.lst []) bd = some (.dK (t.house.map (kvB t.house))) := (upd_ne nlb).trans hb
    have hlB : upd HA1 l (.lst []) l = some (.lst []) := upd_same
    generalize upd HA1 l (.lst []) = HB at sB hbB hlB
    have nlp : pd ≠ l := ne_of_none HI.dc hl0
    refine ⟨pd, _, sB _ _ HI.dc, trivial, fun od => ?_⟩
    have hob := lock_at (od := od) HI.dc HI.ob (by intro z; cases z)
    have hpc := fun x hx => (HI.pc x hx).lock (od := od) HI.dc
    generalize hHL : upd H pd (.frz od (.dK (t.house.map (kvOf ad)))) = HL at hob hpc
    have hdc : HL pd = some (.frz od (.dK (t.house.map (kvOf ad)))) := by rw [← hHL]; exact upd_same
    have hlL : HL l = none := by rw [← hHL, upd_ne nlp.symm]; exact hl0
    have LK : HouseLk CP CH HL ph dx pd ad od t := ⟨hob, hdc, hpc⟩
    have s0 : Same HL (upd HB pd (.frz od (.dK (t.house.map (kvOf ad))))) := fun b o e => by
      rw [← hHL] at e
      by_cases q : b = pd
      · subst q
        rw [upd_same] at e ⊢
        exact e
      · rw [upd_ne q] at e ⊢
        exact sB _ _ e
    refine ⟨_, rfl, ph, CH, dx, _, _, rfl, s0 _ _ hob, T.clH, T.nPieces, hF_pieces, pd, od, rfl, .inl ⟨_, s0 _ _ hdc, ?_⟩⟩
    refine for_it walk_keys (fun j σ H' => ∃ v3 as, σ = [some (.ref ph), some (.ref bd), some (.ref l), v3, none] ∧ Same HL H' ∧ H' bd = some (.dK (t.house.map (kvB t.house))) ∧ H' l = some (.lst (as.map V.ref)) ∧ MarksAt H' as ((HM.fmarksOf t.house).take j))
      ⟨none, [], rfl, s0, (upd_ne nbp.symm).trans hbB, (upd_ne nlp.symm).trans hlB, ⟨rfl, fun j m h => by rw [List.take_zero] at h; cases h⟩⟩ (fun j σ H' _ ⟨_, _, _, s1, _⟩ => s1 _ _ hdc) ?_ ?_
    · rintro j v σ H1 H2 hj ⟨v3, as, rfl, s1, h1, h2, mk⟩ ⟨rfl, kk, vv, hk, rfl⟩
      rw [List.length_map] at hj
      have hx : t.house[j]? = some t.house[j] := List.getElem?_eq_getElem hj
      generalize t.house[j] = x at hx
      have hm : x ∈ t.house := List.mem_of_getElem? hx
      have few := W.few
      rw [List.getElem?_map, hx] at hk
      have hk : kvOf ad x = (kk, vv) := Option.some.inj hk
      obtain rfl : (Sum.inl ((x.id : Nat) : Int) : Key) = kk := congrArg Prod.fst hk
      have hid : x.id ∈ ids t.house := HM.mem_ids.mpr ⟨x, hm, rfl⟩
      have gx : DGet H2 bd (nV x.id) (some (nV (2 ^ j))) := by
        have := bit_get h1 hid
        rw [HM.place_of W.wf.nd hx] at this
        exact this
      -- marks.append((bits[number], sum([bits[each] for each in falling(house, number)])))
      refine ⟨_, rfl, .inl ⟨rfl, _, SqL.of h2⟩, _, rfl, _, rfl, bd, _, rfl, gx, _, rfl, _, rfl, ph, dx, pd, ad, od, x.id, t, rfl, LK.mono s1, W, hid, fun H3 r s3 nr hr3 => ⟨r, rfl, ⟨_, SqL.of hr3⟩, ?_⟩⟩
      have g2' := s3 _ _ h2
      have g3 := s3 _ _ h1
      have mk3 := mk.mono s3
      have sL3 := s1.trans s3
      have hfl := HM.falls_len W.wf.nd [x.id]
      refine lc_map (fun y => match y with | .int z => nV (2 ^ HM.place t.house z.toNat) | _ => .non) (SqL.of hr3) (by rw [List.length_map]; omega) ?_ ?_
      · intro y hy H4 s4 R hR
        obtain ⟨i, hi, rfl⟩ := List.mem_map.mp hy
        exact ⟨_, rfl, _, rfl, bd, _, rfl, bit_get (s4 _ _ g3) (HM.falls_sub W.wf.nd hi), hR⟩
      · intro D H4 s4 hD e4
        have ec : ((falls t.house [x.id]).map nV).map (fun y => match y with | .int z => nV (2 ^ HM.place t.house z.toNat) | _ => .non) = ((falls t.house [x.id]).map fun i => ((2 ^ HM.place t.house i : Nat) : Int)).map V.int := by
          rw [List.map_map, List.map_map]
          exact List.map_congr_left fun i _ => rfl
        rw [ec] at e4
        refine ⟨D, _, rfl, SqL.of e4, (by show 2 ≤ sizeLine; decide), fun p hp => ?_⟩
        have en : ((falls t.house [x.id]).map fun i => ((2 ^ HM.place t.house i : Nat) : Int)).sum = ((HM.fallM t.house x.id : Nat) : Int) := by
          rw [sum_cast (falls t.house [x.id]) fun i => 2 ^ HM.place t.house i]
          unfold HM.fallM HM.mask
          rw [List.map_map]
          rfl
        rw [en]
        have s5 : Same H4 (upd H4 p (.tup [nV (2 ^ j), V.int ((HM.fallM t.house x.id : Nat) : Int)])) := same_new hp
        have sL5 : Same HL _ := (sL3.trans s4).trans s5
        have g5 := s5 _ _ (s4 _ _ g2')
        have g6 := s5 _ _ (s4 _ _ g3)
        have mk5 := (mk3.mono s4).mono s5
        have tp5 : upd H4 p (.tup [nV (2 ^ j), V.int ((HM.fallM t.house x.id : Nat) : Int)]) p = some (.tup [nV (2 ^ j), nV (HM.fallM t.house x.id)]) := upd_same
        generalize upd H4 p (.tup [nV (2 ^ j), V.int ((HM.fallM t.house x.id : Nat) : Int)]) = H5 at s5 sL5 g5 g6 mk5 tp5
        have lm : (as.map V.ref).length < sizeLine := by
          rw [List.length_map, mk5.1]
          refine size_le (Nat.le_trans (List.length_take_le' ..) ?_)
          rw [HM.fmarksOf_len]
          omega
        refine ⟨l, _, _, rfl, rfl, g5, lm, ?_⟩
        refine ⟨some (nV x.id), as ++ [p], rfl, same_in sL5 hlL g5, ?_, ?_, ?_⟩
        · rw [upd_ne (ne_of g6 g5 (by intro z; cases z))]
          exact g6
        · rw [upd_same, List.map_append]
          rfl
        · rw [take_one (HM.fmark_get hx)]
          refine MarksAt.snoc ⟨mk5.1, fun i m hm => ?_⟩ ?_
          · obtain ⟨a, q1, q2⟩ := mk5.2 i m hm
            exact ⟨a, q1, (upd_ne (ne_of q2 g5 (by intro z; cases z))).trans q2⟩
          · exact (upd_ne (ne_of tp5 g5 (by intro z; cases z))).trans tp5
    · rintro σ H1 ⟨v3, as, rfl, s1, h1, h2, mk⟩
      have em : (HM.fmarksOf t.house).take (t.house.map (kvOf ad)).length = HM.fmarksOf t.house := by
        rw [List.length_map]
        exact List.take_of_length_le (by rw [HM.fmarksOf_len]; exact Nat.le_refl _)
      rw [em] at mk
      refine ⟨s1 _ _ hdc, _, rfl, ?_⟩
      have s1' := s1
      rw [← hHL] at s1'
      refine k _ l as (same_unlock HI.dc s1') hl0 ((upd_ne nlp.symm).trans h2) ⟨mk.1, fun i m hm => ?_⟩
      obtain ⟨a, q1, q2⟩ := mk.2 i m hm
      exact ⟨a, q1, (upd_ne (ne_of q2 (s1 _ _ hdc) (by intro z; cases z))).trans q2⟩
end
end LH

/-! ## C5 -/
namespace LH
open PySem PySem.Spec PyProof.Rows L2
open Mu56 (Piece State House ids falls taken)
def leftsTo (h : House) (t : List Nat) (m c : Nat) : List Nat := ((List.range c).filter fun (c : Nat) => m.testBit c).map fun (c : Nat) => t.getD (Mu56.left_ h m c) 0
theorem leftsTo_succ (h : House) (t : List Nat) (m c : Nat) : leftsTo h t m (c + 1) = leftsTo h t m c ++ (if m.testBit c = true then [t.getD (Mu56.left_ h m c) 0] else []) := by
  unfold leftsTo
  rw [List.range_succ, List.filter_append, List.map_append]
  congr 1
  rw [List.filter_cons]
  split <;> rfl
theorem leftsTo_len (h : House) (t : List Nat) (m c : Nat) : (leftsTo h t m c).length ≤ c := by
  unfold leftsTo
  rw [List.length_map]
  exact Nat.le_trans (List.length_filter_le ..) (by rw [List.length_range]; exact Nat.le_refl _)
theorem and_ne (m c : Nat) : V.bl (!decide (V.int (Builtin.bitAnd (m : Int) ((2 ^ c : Nat) : Int)) = V.int 0)) = V.bl (m.testBit c) := by
  rw [bit_and, show (0 : Int) = ((0 : Nat) : Int) from rfl, dec_nV, ← HM.and_own]
  congr 1
  by_cases h : m &&& 2 ^ c = 0
  · rw [decide_eq_true h, decide_eq_false (fun q => q h)]
    rfl
  · rw [decide_eq_false h, decide_eq_true h]
    rfl
section
variable {P : Program} {w : World} {K : PySem.W.Frag} {mg : Str → Option Value} {base : Heap} {CP CH : Addr}
/-! ### least_beside -/
def spLeast (K : PySem.W.Frag) : Sp := fun vs H Q _ => ∃ (a : Addr) (l : List Nat), vs = [.ref a] ∧ SqL K H a (l.map nV) ∧ Q (nV (Mu56.least l)) H
theorem scLeast : FnScope ["numbers", "least"] ["numbers"] (defScope sLeast) := ⟨rfl, rfl, rfl, by decide +kernel, rfl, by decide +kernel, by decide +kernel⟩
theorem ok_least {f : Addr} {fd : FuncData} (F : Fun K "least_beside" "least_beside" sLeast f fd) (T : Txt K mg CP CH) : FnOk P w K mg base CX0 1 f fd ["numbers"] (spLeast K) := by
  refine F.ok scLeast (fun vs H Q E h => ?_) (fun cdv A outer s H vs Q E hr h => ?_)
  · obtain ⟨a, l, rfl, _⟩ := h
    rfl
  · obtain ⟨a, l, rfl, hl, k⟩ := h
    refine ⟨_, pss_cons (ps_set (i := 1) scLeast.nd rfl (Or.inl rfl) pe_int)
      (pss_cons (ps_while PassesOwn.never (pt_cmpR op_in_seq (pv 1) (pv 0) (by rfl))
        (pss_one (ps_aug (i := 1) scLeast.nd rfl (.inl rfl) pe_int ip_add)))
      (pss_one (ps_ret (pv 1)))), ?_⟩
    obtain ⟨l1, l2⟩ := HM.least_spec l
    refine ⟨fun m σ H' => ∃ n, σ = [some (.ref a), some (nV n)] ∧ m = Mu56.least l - n ∧ n ≤ Mu56.least l ∧ H' = H, ⟨_, 0, rfl, rfl, Nat.zero_le _, rfl⟩, ?_⟩
    rintro m σ H' ⟨n, rfl, rfl, hn, rfl⟩
    refine ⟨_, rfl, _, rfl, a, _, rfl, .inl hl, rfl, flat_nV _, _, rfl, ?_⟩
    show if inV (nV n) (l.map nV) = true then _ else _
    rw [in_nV]
    cases ec : l.contains n with
    | true =>
      have hm := List.contains_iff_mem.mp ec
      have lt : n < Mu56.least l := Nat.lt_of_le_of_ne hn fun z => l1 (z ▸ hm)
      refine iteT ⟨_, fun σ' H' q => q, ?_⟩
      refine ⟨_, rfl, _, _, rfl, rfl, Mu56.least l - (n + 1), by omega, n + 1, ?_, rfl, lt, rfl⟩
      show [_, some (V.int ((n : Int) + 1))] = [_, some (nV (n + 1))]
      unfold nV
      rw [Int.natCast_add]
      rfl
    | false =>
      refine iteF ⟨_, rfl, ?_⟩
      have e : n = Mu56.least l := by
        rcases Nat.lt_or_ge n (Mu56.least l) with q | q
        · rw [List.contains_iff_mem.mpr (l2 n q)] at ec
          cases ec
        · omega
      rw [e]
      exact k
/-! ### set_worths -/
def spSetWorths : Sp := fun vs H Q _ => ∃ (pm : Addr) (as : List Addr) (h : House), vs = [.ref pm] ∧ H pm = some (.lst (as.map V.ref)) ∧ MarksAt H as (HM.fmarksOf h) ∧ HM.Wf h ∧ h.length ≤ 9 ∧
  ∀ H' p, Same H H' → H p = none → H' p = some (.lst ((HM.table (HM.gW h) (2 ^ h.length)).map nV)) → Q (.ref p) H'
theorem scSetWorths : FnScope ["marks", "size", "mark", "worths", "stood", "left", "own", "falls"] ["marks"] (defScope sSetWorths) := ⟨rfl, rfl, rfl, by decide +kernel, rfl, by decide +kernel, by decide +kernel⟩
theorem ok_setWorths {f : Addr} {fd : FuncData} (F : Fun K "set_worths" "set_worths" sSetWorths f fd) (T : Txt K mg CP CH) (CL : Cal P w K mg base "least_beside" 1 ["numbers"] (spLeast K)) : FnOk P w K mg base CX0 2 f fd ["marks"] spSetWorths := by
  refine F.ok scSetWorths (fun vs H Q E h => ?_) (fun cdv A outer s H vs Q E hr h => ?_)
  · obtain ⟨pm, as, h, rfl, _⟩ := h
    rfl
  · obtain ⟨pm, as, h, rfl, hpm, mk, W, few, k⟩ := h
    refine ⟨_, pss_cons (ps_set (i := 1) scSetWorths.nd rfl (Or.inl rfl) pe_int)
      (pss_cons (ps_for PassesOwn.never rfl (pi_list (pv 0)) (pg_name (i := 2) scSetWorths.nd rfl (Or.inl rfl))
        (pss_one (ps_set (i := 1) scSetWorths.nd rfl (Or.inl rfl) (pe_op op_mul (pv 1) pe_int))))
      (pss_cons (ps_set (i := 3) scSetWorths.nd rfl (Or.inr rfl) (pe_lst pa_nil))
      (pss_cons (ps_for PassesOwn.never rfl (pi_range1 (by rfl) T.range (pa_cons (pv 1) pa_nil)) (pg_name (i := 4) scSetWorths.nd rfl (Or.inr rfl))
        (pss_cons (ps_setLc (i := 5) (own := [("own", 6), ("falls", 7)]) (g := gTup K 2 (gCons (gName 6) (gCons (gName 7) gNil)))
            (tt := tTest (tOp rNe (tOp (rI0 fun i j => .int (Builtin.bitAnd i j)) (tVar 4) (tVar 6)) (tC (.int 0)))) (te := tOp (rIxL K) (tVar 3) (tOp (rI0 fun i j => .int (Builtin.bitAnd i j)) (tVar 4) (tUn (rU fun i => .int (Builtin.bitNot i)) (tVar 7))))
            rfl scSetWorths.nd rfl rfl (sw_true rfl rfl rfl (by decide +kernel)) (pi_list (pv 0))
            (blkOk_by (own := [("own", 6), ("falls", 7)]) (N := ["marks", "size", "mark", "worths", "stood", "left", "own", "falls"]) (sc := defScope sSetWorths) (by decide +kernel))
            (fun _ _ _ _ _ => pg_tup rfl (pgs_cons (pg_name (i := 6) scSetWorths.nd rfl (.inl rfl)) (pgs_cons (pg_name (i := 7) scSetWorths.nd rfl (.inl rfl)) pgs_nil)))
            (fun _ _ _ _ _ => pts_one (pt_cmpR op_ne (pe_op op_and (pv 4) (pv 6)) pe_int (nomark _)))
            (fun _ _ _ _ _ => pe_ix ix_list (pv 3) (pe_op op_and (pv 4) (pe_un un_inv (pv 7))) (fun _ _ => rfl)))
        (pss_one (ps_expr (pe_bm PySem.F.plainAttrs_list PySem.F.slot_list_append PySem.F.type_list_append mt_append (pv 3) (pa_cons (pe_cal CL hr rfl (pa_cons (pv 5) pa_nil)) pa_nil))))))
      (pss_one (ps_ret (pv 3)))))), ?_⟩
    have lms : (HM.fmarksOf h).length = h.length := HM.fmarksOf_len h
    have las : (as.map V.ref).length = h.length := by rw [List.length_map, mk.1, lms]
    -- size
    refine ⟨_, rfl, pm, rfl, ⟨_, SqL.of hpm⟩, for_list (K := K) (a := pm) (xs := as.map V.ref) (fun j σ H' => ∃ v2, σ = [some (.ref pm), some (nV (2 ^ j)), v2, none, none, none, none, none] ∧ H' = H) ⟨none, rfl, rfl⟩ (fun j σ H' _ ⟨_, _, e⟩ => by rw [e]; exact SqL.of hpm) ?_ ?_⟩
    · rintro j y σ H' hj ⟨v2, rfl, rfl⟩
      have hj' := (List.getElem?_eq_some_iff.mp hj).1
      rw [las] at hj'
      refine ⟨_, rfl, _, _, rfl, rfl, .inl ⟨?_, ?_⟩, some y, ?_, rfl⟩
      · exact Int.lt_of_lt_of_le (by decide) (Int.natCast_nonneg (2 ^ j))
      · show ((2 ^ j : Nat) : Int) < 2 ^ 64
        have : 2 ^ j ≤ 2 ^ 9 := Nat.pow_le_pow_right (by decide) (by omega)
        omega
      · show [_, some (V.int (((2 ^ j : Nat) : Int) * 2)), _, _, _, _, _, _] = [_, some (nV (2 ^ (j + 1))), _, _, _, _, _, _]
        unfold nV
        rw [Nat.pow_succ, Int.natCast_mul]
        rfl
    · rintro σ H' ⟨v2, rfl, rfl⟩
      rw [las]
      have p9 : 2 ^ h.length ≤ 512 := Nat.pow_le_pow_right (n := 2) (by decide) few
      -- worths = []
      refine ⟨Nat.zero_le _, fun lw hlw => ?_⟩
      refine ⟨_, rfl, _, rfl, Int.le_trans (by decide) (Int.natCast_nonneg _), (by omega), ?_⟩
      refine for_range (lo := 0) (n := ((2 ^ h.length : Nat) : Int).toNat) (fun m σ H2 => ∃ v4 v5, σ = [some (.ref pm), some (nV (2 ^ h.length)), v2, some (.ref lw), v4, v5, none, none] ∧ Same H' H2 ∧ H2 lw = some (.lst ((HM.table (HM.gW h) m).map nV)))
        ⟨none, none, rfl, same_new hlw, upd_same⟩ ?_ ?_
      · rintro m σ H2 hm ⟨v4, v5, rfl, s2, h2⟩
        have hm : m < 2 ^ h.length := hm
        rw [show (0 : Int) + (m : Nat) = ((m : Nat) : Int) by omega]
        have nlp : pm ≠ lw := ne_of_none hpm hlw
        generalize htm : HM.table (HM.gW h) m = t at h2
        have ltm : t.length = m := by rw [← htm, HM.table_len]
        -- left = [..]
        refine ⟨_, rfl, pm, rfl, ⟨_, SqL.of (s2 _ _ hpm)⟩, fun D hD => ?_⟩
        have nDl : D ≠ lw := (ne_of_none h2 hD).symm
        refine lc_it (walk_list (xs := as.map V.ref)) (fun c H3 => Same H2 H3 ∧ H3 D = some (.lst ((leftsTo h t m c).map nV))) ⟨same_new hD, upd_same⟩ (fun c H3 _ q => SqL.of (q.1 _ _ (s2 _ _ hpm))) ?_ ?_
        · rintro c y H3 H4 hc ⟨s3, h3⟩ ⟨rfl, ey⟩
          obtain ⟨a, ha, rfl⟩ := get_ref ey
          rw [las] at hc
          have hx : h[c]? = some h[c] := List.getElem?_eq_getElem hc
          generalize h[c] = x at hx
          obtain ⟨a', ha', hta⟩ := mk.2 c _ (HM.fmark_get hx)
          obtain rfl : a = a' := Option.some.inj (ha.symm.trans ha')
          refine ⟨a, _, rfl, SqT.of (s3 _ _ (s2 _ _ hta)), rfl, _, _, rfl, _, _, rfl, rfl, rfl, ?_⟩
          -- stood & own != 0
          refine ⟨_, rfl, _, rfl, _, _, rfl, rfl, rfl, m.testBit c, and_ne m c, ?_⟩
          cases hb : m.testBit c with
          | false =>
            refine iteF ⟨s3, ?_⟩
            rw [leftsTo_succ, hb, if_neg Bool.false_ne_true, List.append_nil]
            exact h3
          | true =>
            have lt := HM.left_lt W hx hb
            refine iteT ⟨_, rfl, _, rfl, _, rfl, _, rfl, _, _, rfl, rfl, lw, _, ((HM.leftM h m x.id : Nat) : Int), _, rfl, ?_, SqL.of (s3 _ _ h2), atI_nat (at0_get (W := t) (by rw [ltm]; exact lt)), _, h3, ?_, same_in s3 hD h3, ?_⟩
            · show V.int (Builtin.bitAnd (m : Int) (Builtin.bitNot ((HM.fallM h x.id : Nat) : Int))) = _
              rw [bit_andNot, HM.left_sub W hm]
            · rw [List.length_map]
              exact size_le (Nat.le_trans (leftsTo_len ..) (by omega))
            · rw [upd_same, leftsTo_succ, hb, if_pos rfl, List.map_append, HM.left_eq hx]
              rfl
        · rintro H3 ⟨s3, h3⟩
          rw [las] at h3
          have h3 : H3 D = some (.lst ((HM.leftsOf h t m).map nV)) := h3
          have w3 := s3 _ _ h2
          -- worths.append(least_beside(left))
          refine ⟨_, rfl, .inl ⟨rfl, _, SqL.of w3⟩, _, rfl, D, _, rfl, SqL.of h3, lw, _, _, rfl, rfl, w3, ?_, ?_⟩
          · rw [List.length_map, ltm]
            exact size_le (by omega)
          · refine ⟨_, _, rfl, same_in (s2.trans s3) hlw w3, ?_⟩
            rw [upd_same, HM.table_succ, htm, HM.gW_lefts, List.map_append]
            rfl
      · rintro σ H2 ⟨v4, v5, rfl, s2, h2⟩
        exact ⟨_, rfl, k H2 lw s2 hlw h2⟩
end
end LH

/-! ## C6 -/
namespace LH
open PySem PySem.Spec PyProof.Rows L2
open Mu56 (Piece State House ids falls taken)
theorem step_worth (t : State) : Mu56.step (some t) .worth = (some t, Mu56.nums (Mu56.worth t.house :: (Mu56.winning t.house).toList)) := rfl
section
variable {P : Program} {w : World} {K : PySem.W.Frag} {mg : Str → Option Value} {base : Heap} {CP CH : Addr}
/-! ### worth -/
def spWorth (CP CH : Addr) : Sp := fun vs H Q _ => ∃ (av : Addr → Prop) (ph : Addr) (t : State), vs = [.ref ph] ∧ HouseAv av CP CH H ph true t ∧ HM.SWf t ∧ Gives av CP CH ph H Q (Mu56.step (some t) .worth)
theorem scWorth : FnScope ["house", "marks", "worths", "whole", "number", "mark"] ["house"] (defScope sWorth) := ⟨rfl, rfl, rfl, by decide +kernel, rfl, by decide +kernel, by decide +kernel⟩
theorem ok_worth {f : Addr} {fd : FuncData} (F : Fun K "worth" "worth" sWorth f fd) (T : Txt K mg CP CH) (CM : Cal P w K mg base "fall_marks" 2 ["house"] (spFallMarks CP CH)) (CS : Cal P w K mg base "set_worths" 2 ["marks"] spSetWorths) : FnOk P w K mg base CX0 3 f fd ["house"] (spWorth CP CH) := by
  refine F.ok scWorth (fun vs H Q E h => ?_) (fun cdv A outer s H vs Q E hr h => ?_)
  · obtain ⟨av, ph, t, rfl, _⟩ := h
    rfl
  · obtain ⟨av, ph, t, rfl, HV, W, k⟩ := h
    have HA := HV.at
    refine ⟨_, pss_cons (ps_set (i := 1) scWorth.nd rfl (Or.inl rfl) (pe_cal CM hr rfl (pa_cons (pv 0) pa_nil)))
      (pss_cons (ps_set (i := 2) scWorth.nd rfl (Or.inl rfl) (pe_cal CS hr rfl (pa_cons (pv 1) pa_nil)))
      (pss_cons (ps_set (i := 3) scWorth.nd rfl (Or.inl rfl) (pe_op op_sub (pe_callB call_len_seq (by rfl) T.len PySem.boot_len (pa_cons (pv 2) pa_nil)) pe_int))
      (pss_cons (ps_for PassesOwn.never rfl (pi_zip (by rfl) T.zip (pa_cons (pe_callTy (call_list_dK rfl) (by rfl) T.list_ (by decide +kernel) (pa_cons (pe_fld (pv 0) rfl) pa_nil)) (pa_cons (pv 1) pa_nil)))
          (pg_tup rfl (pgs_cons (pg_name (i := 4) scWorth.nd rfl (.inl rfl)) (pgs_cons (pg_name (i := 5) scWorth.nd rfl (.inl rfl)) pgs_nil)))
        (pss_one (ps_if (pt_cmpR op_eq (pe_ix ix_list (pv 2) (pe_op op_sub (pv 3) (pe_ix ix_tup (pv 5) pe_int (fun _ _ => rfl))) (fun _ _ => rfl)) pe_int (nomark _))
          (pss_one (ps_ret (pe_lst (pa_cons (pe_ix ix_list (pv 2) (pv 3) (fun _ _ => rfl)) (pa_cons (pv 4) pa_nil))))) pss_nil)))
      (pss_one (ps_ret (pe_lst (pa_cons (pe_ix ix_list (pv 2) (pv 3) (fun _ _ => rfl)) pa_nil))))))), ?_⟩
    refine ⟨_, rfl, ph, t, rfl, HA, W, fun H1 pm as s1 npm hpm mk => ?_⟩
    refine ⟨_, rfl, pm, as, t.house, rfl, hpm, mk, W.wf, W.few, fun H2 pw s2 npw hpw => ?_⟩
    have few := W.few
    have p9 : 2 ^ t.house.length ≤ 512 := Nat.pow_le_pow_right (n := 2) (by decide) few
    have p0 : 0 < 2 ^ t.house.length := Nat.two_pow_pos _
    have hfl := HM.fu_lt t.house
    -- whole = len(worths) - 1
    refine ⟨_, rfl, pw, _, rfl, .inl (SqL.of hpw), _, _, rfl, rfl, ?_⟩
    rw [List.length_map, HM.table_len]
    have efu : (((2 ^ t.house.length : Nat) : Int) - 1) = ((HM.fu t.house : Nat) : Int) := by
      unfold HM.fu
      omega
    dsimp only
    rw [efu]
    have HV2 := HV.mono (s1.trans s2)
    have k2 := k.pull (s1.trans s2)
    clear k
    obtain ⟨dx, pd, ad, HI2⟩ := HV2.at
    have hpm2 := s2 _ _ hpm
    have mk2 := mk.mono s2
    -- zip(list(house.pieces), marks)
    refine ⟨_, rfl, ph, CH, dx, _, _, rfl, HI2.ob, T.clH, T.nPieces, hF_pieces, pd, _, rfl, HI2.dc, fun lk hlk => ?_⟩
    have ek : ((t.house.map (kvOf ad)).map fun kv => kV kv.1) = (ids t.house).map nV := by
      unfold ids
      rw [List.map_map, List.map_map]
      rfl
    rw [ek]
    have s3 : Same H2 (upd H2 lk (.lst ((ids t.house).map nV))) := same_new hlk
    have l3 : upd H2 lk (.lst ((ids t.house).map nV)) lk = some (.lst ((ids t.house).map nV)) := upd_same
    generalize upd H2 lk (.lst ((ids t.house).map nV)) = H3 at s3 l3
    have hpm3 := s3 _ _ hpm2
    have hpw3 := s3 _ _ hpw
    have mk3 := mk2.mono s3
    refine ⟨_, rfl, lk, pm, _, _, rfl, SqL.of l3, SqL.of hpm3, ?_⟩
    have la : as.length = t.house.length := by rw [mk.1, HM.fmarksOf_len]
    have wf_ : (HM.table (HM.gW t.house) (2 ^ t.house.length)).length = 2 ^ t.house.length := HM.table_len _ _
    have atW : ∀ i, i < 2 ^ t.house.length → ((HM.table (HM.gW t.house) (2 ^ t.house.length)).map nV)[i]? = some (nV (HM.wat t.house i)) := fun i hi => by rw [List.getElem?_map, HM.wat_get hi]; rfl
    refine for_it (walk_zip (n := t.house.length) (xs := (ids t.house).map nV) (ys := as.map V.ref) (by rw [List.length_map, List.length_map, HM.ids_len', la]; omega))
      (fun j σ H' => ∃ v4 v5, σ = [some (.ref ph), some (.ref pm), some (.ref pw), some (nV (HM.fu t.house)), v4, v5] ∧ Same H3 H' ∧ ∀ i ∈ (ids t.house).take j, (HM.wat t.house (HM.leftM t.house (HM.fu t.house) i) == 0) = false)
      ⟨none, none, rfl, fun _ _ e => e, fun i hi => by rw [List.take_zero] at hi; cases hi⟩ (fun j σ H' _ ⟨_, _, _, q, _⟩ => ⟨SqL.of (q _ _ l3), SqL.of (q _ _ hpm3)⟩) ?_ ?_
    · rintro j v σ H4 H5 hj ⟨v4, v5, rfl, s4, bf⟩ ⟨T0, x1, y1, rfl, hT, rfl, e1, e2⟩
      have hx : t.house[j]? = some t.house[j] := List.getElem?_eq_getElem hj
      generalize t.house[j] = x at hx
      have hid : (ids t.house)[j]? = some x.id := by rw [HM.ids_get, hx]; rfl
      have e1 : ((ids t.house).map nV)[j]? = some x1 := e1
      have e2 : (as.map V.ref)[j]? = some y1 := e2
      rw [List.getElem?_map, hid] at e1
      obtain rfl : nV x.id = x1 := Option.some.inj e1
      obtain ⟨a, ha, hta⟩ := mk3.2 j _ (HM.fmark_get hx)
      rw [List.getElem?_map, ha] at e2
      obtain rfl : V.ref a = y1 := Option.some.inj e2
      have sT : Same H4 (upd H4 T0 (.tup [nV x.id, .ref a])) := same_new hT
      refine ⟨T0, _, rfl, SqT.of upd_same, rfl, _, _, rfl, _, _, rfl, rfl, ?_⟩
      have s5 := s4.trans sT
      generalize upd H4 T0 (.tup [nV x.id, .ref a]) = H5 at sT s5
      have lt := HM.left_full_lt W.wf x.id
      -- worths[whole - mark[1]] == 0
      refine ⟨_, rfl, _, rfl, _, rfl, a, _, _, _, rfl, rfl, SqT.of (s5 _ _ hta), atI_nat (j := 1) rfl, _, _, rfl, rfl, pw, _, ((HM.leftM t.house (HM.fu t.house) x.id : Nat) : Int), _, rfl, ?_, SqL.of (s5 _ _ hpw3), atI_nat (atW _ lt), rfl, decide (HM.wat t.house (HM.leftM t.house (HM.fu t.house) x.id) = 0), congrArg V.bl (dec_nV _ 0), ?_⟩
      · exact congrArg V.int (HM.full_sub W.wf x.id)
      by_cases h0 : HM.wat t.house (HM.leftM t.house (HM.fu t.house) x.id) = 0
      · rw [decide_eq_true h0]
        refine iteT ⟨_, rfl, _, rfl, pw, _, ((HM.fu t.house : Nat) : Int), _, rfl, rfl, SqL.of (s5 _ _ hpw3), atI_nat (atW _ hfl), _, rfl, (by show 2 ≤ sizeLine; decide), fun p hp => ?_⟩
        have ew : Mu56.winning t.house = some x.id := by
          rw [HM.winning_wat W.wf]
          exact HM.find_at hid (by rw [h0]; rfl) bf
        have s6 := s3.trans (s5.trans (same_new (o := .lst [nV (HM.wat t.house (HM.fu t.house)), nV x.id]) hp))
        refine k2 t _ p rfl (HV2.mono s6) (.of s6) ((s3.trans s5).free hp) ?_
        rw [upd_same, step_worth, ew, HM.worth_wat, nums_V]
        rfl
      · rw [decide_eq_false h0]
        refine iteF ⟨_, _, rfl, s5, fun i hi => ?_⟩
        rw [take_one hid] at hi
        rcases List.mem_append.mp hi with q | q
        · exact bf i q
        · rw [List.mem_singleton.mp q]
          exact beq_eq_false_iff_ne.mpr h0
    · rintro σ H4 ⟨v4, v5, rfl, s4, bf⟩
      rw [List.take_of_length_le (by rw [HM.ids_len']; exact Nat.le_refl _)] at bf
      refine ⟨_, rfl, _, rfl, pw, _, ((HM.fu t.house : Nat) : Int), _, rfl, rfl, SqL.of (s4 _ _ hpw3), atI_nat (atW _ hfl), (by show 1 ≤ sizeLine; decide), fun p hp => ?_⟩
      have ew : Mu56.winning t.house = none := by
        rw [HM.winning_wat W.wf]
        exact HM.find_none bf
      have s6 := s3.trans (s4.trans (same_new (o := .lst [nV (HM.wat t.house (HM.fu t.house))]) hp))
      refine k2 t _ p rfl (HV2.mono s6) (.of s6) ((s3.trans s4).free hp) ?_
      rw [upd_same, step_worth, ew, HM.worth_wat, nums_V]
      rfl
/-! ### play -/
def spPlay (CP CH : Addr) : Sp := fun vs H Q _ => ∃ (av : Addr → Prop) (ph : Addr) (t : State), vs = [.ref ph] ∧ HouseAv av CP CH H ph true t ∧ HM.SWf t ∧ Gives av CP CH ph H Q (Mu56.step (some t) .play)
theorem scPlay : FnScope ["house", "told"] ["house"] (defScope sPlay) := ⟨rfl, rfl, rfl, by decide +kernel, rfl, by decide +kernel, by decide +kernel⟩
theorem ok_play {f : Addr} {fd : FuncData} (F : Fun K "play" "play" sPlay f fd) (T : Txt K mg CP CH) (CW : Cal P w K mg base "worth" 3 ["house"] (spWorth CP CH)) (CT : Cal P w K mg base "take" 2 ["house", "number"] (spTake CP CH)) : FnOk P w K mg base CX0 4 f fd ["house"] (spPlay CP CH) := by
  refine F.ok scPlay (fun vs H Q E h => ?_) (fun cdv A outer s H vs Q E hr h => ?_)
  · obtain ⟨av, ph, t, rfl, _⟩ := h
    rfl
  · obtain ⟨av, ph, t, rfl, HV, W, k⟩ := h
    refine ⟨_, pss_cons (ps_set (i := 1) scPlay.nd rfl (Or.inl rfl) (pe_cal CW hr rfl (pa_cons (pv 0) pa_nil)))
      (pss_cons (ps_if (pt_cmpR op_eq (pe_callB call_len_seq (by rfl) T.len PySem.boot_len (pa_cons (pv 1) pa_nil)) pe_int (nomark _)) (pss_one (ps_ret (pe_lst (pa_cons (pe_gi rfl T.cNO_TAKE) pa_nil)))) pss_nil)
      (pss_cons (ps_expr (pe_cal CT (hr.mono (by decide)) rfl (pa_cons (pv 0) (pa_cons (pe_ix ix_list (pv 1) pe_int (fun _ _ => rfl)) pa_nil))))
      (pss_one (ps_ret (pe_lst (pa_cons (pe_ix ix_list (pv 1) pe_int (fun _ _ => rfl)) pa_nil)))))), ?_⟩
    refine ⟨_, rfl, av, ph, t, rfl, HV, W, fun t' H1 p e HV1 f1 np hp => ?_⟩
    obtain rfl : t = t' := Option.some.inj e
    rw [step_worth, nums_V] at hp
    cases ew : Mu56.winning t.house with
    | none =>
      rw [ew] at hp
      have hp : H1 p = some (.lst [nV (Mu56.worth t.house)]) := hp
      refine ⟨_, rfl, p, _, rfl, .inl (SqL.of hp), rfl, true, rfl, ?_⟩
      refine iteT ⟨(by show 1 ≤ sizeLine; decide), fun q hq => ?_⟩
      have est : Mu56.step (some t) .play = (some t, [-6]) := by
        show (match Mu56.winning t.house with | none => (some t, [-6]) | some i => _) = _
        rw [ew]
      rw [est] at k
      exact k t _ q rfl (HV1.mono (same_new hq)) (f1.trans (.of (same_new hq))) (f1.free _ hq) upd_same
    | some i =>
      rw [ew] at hp
      have hp : H1 p = some (.lst [nV (Mu56.worth t.house), nV i]) := hp
      refine ⟨_, rfl, p, _, rfl, .inl (SqL.of hp), rfl, false, rfl, ?_⟩
      refine iteF ?_
      have hi : i ∈ ids t.house := List.mem_of_find?_eq_some ew
      have est : Mu56.step (some t) .play = (some { t with house := taken t.house i }, [(i : Int)]) := by
        show (match Mu56.winning t.house with | none => (some t, [-6]) | some i => _) = _
        rw [ew]
      have et : Mu56.step (some t) (.take i) = (some { t with house := taken t.house i }, [((falls t.house [i]).length : Int)]) := by
        show (if Mu56.has t i = false then _ else _) = _
        rw [if_neg (by rw [HM.has_iff.mpr hi]; exact fun z => Bool.noConfusion z)]
      rw [est] at k
      refine ⟨_, rfl, _, rfl, p, _, _, _, rfl, rfl, SqL.of hp, atI_nat (j := 1) rfl, av, ph, i, t, rfl, HV1, W, fun t' H2 q e2 HV2 f2 nq hq => ?_⟩
      obtain ⟨dx, pd, ad, HI1⟩ := HV1.at
      have hp2 := f2.keep _ _ hp (ne_of hp HI1.ob (by intro z; cases z)) (by intro _ z; cases z)
      rw [et] at e2
      obtain rfl : ({ t with house := taken t.house i } : State) = t' := Option.some.inj e2
      refine ⟨_, rfl, p, _, _, _, rfl, rfl, SqL.of hp2, atI_nat (j := 1) rfl, (by show 1 ≤ sizeLine; decide), fun r hr2 => ?_⟩
      exact k _ _ r rfl (HV2.mono (same_new hr2)) ((f1.trans f2).trans (.of (same_new hr2))) (f1.free _ (f2.free _ hr2)) upd_same
end
end LH

/-! ## B12 -/
namespace LH
open PySem PySem.Spec PyProof.Rows L2
open Mu56 (Piece State House ids falls taken)
/-- the calls that are written -/
def S1 (x : Mu56.Call) : Prop := HM.code x < 13
theorem s1_all (x : Mu56.Call) : S1 x := by
  unfold S1
  cases x <;> simp [HM.code]
theorem cut_from (xs : List V) (n : Nat) : cutV xs (some (n : Int)) none = xs.drop n := by
  unfold cutV
  rw [HT.sIx_nat, HT.sIx_none]
  by_cases h : n ≤ xs.length
  · rw [Nat.min_eq_left h, List.take_of_length_le]
    rw [List.length_drop]
    exact Nat.le_refl _
  · rw [Nat.min_eq_right (by omega), List.drop_of_length_le (Nat.le_refl _), List.drop_of_length_le (by omega), List.take_nil]
theorem cut_mid (xs : List V) {i j : Nat} (h1 : i ≤ j) (h2 : j ≤ xs.length) : cutV xs (some (i : Int)) (some (j : Int)) = (xs.drop i).take (j - i) := by
  unfold cutV
  rw [HT.sIx_nat, HT.sIx_nat, Nat.min_eq_left h2, Nat.min_eq_left (Nat.le_trans h1 h2)]
theorem if_t {c : Bool} {A B : Prop} (e : c = true) (h : A) : if c = true then A else B := by
  rw [if_pos e]
  exact h
theorem if_f {c : Bool} {A B : Prop} (e : c = false) (h : B) : if c = true then A else B := by
  rw [if_neg (by rw [e]; exact Bool.false_ne_true)]
  exact h
theorem Fr.seq {K : PySem.W.Frag} {ph a : Addr} {H H' : Hp} {xs : List V} (f : Fr ph H H') (h : SqL K H a xs) (n : a ≠ ph) : SqL K H' a xs := by
  rcases h with (h | ⟨o, h⟩) | h
  · exact .inl (.inl (f.keep _ _ h n (by intro _ z; cases z)))
  · exact .inl (.inr ⟨o, f.keep _ _ h n (by intro _ z; cases z)⟩)
  · exact .inr h
/-- what stands: no house, or one -/
def AbsAt (av : Addr → Prop) (CP CH : Addr) (H : Hp) (ph : Addr) : Mu56.Abs → Prop
  | none => HouseAv av CP CH H ph false ⟨[], 0⟩
  | some t => HouseAv av CP CH H ph true t
theorem AbsAt.any {av : Addr → Prop} {CP CH : Addr} {H : Hp} {ph : Addr} {o : Mu56.Abs} (h : AbsAt av CP CH H ph o) : ∃ b t, HouseAv av CP CH H ph b t ∧ b = o.isSome := by
  cases o with
  | none => exact ⟨false, _, h, rfl⟩
  | some t => exact ⟨true, t, h, rfl⟩
theorem AbsAt.mono {av : Addr → Prop} {CP CH : Addr} {H H' : Hp} {ph : Addr} {o : Mu56.Abs} (h : AbsAt av CP CH H ph o) (s : Same H H') : AbsAt av CP CH H' ph o := by
  cases o with
  | none => exact HouseAv.mono h s
  | some t => exact HouseAv.mono h s
theorem AbsAt.but {av : Addr → Prop} {CP CH : Addr} {H H' : Hp} {ph : Addr} {o : Mu56.Abs} (h : AbsAt av CP CH H ph o) (s : ∀ c u, ¬ av c → H c = some u → H' c = some u) : AbsAt av CP CH H' ph o := by
  cases o with
  | none => exact HouseAv.but h s
  | some t => exact HouseAv.but h s
/-- a call answers and leaves what it should -/
def Does (av : Addr → Prop) (CP CH : Addr) (ph : Addr) (H : Hp) (Q : VK) (r : Mu56.Abs × List Int) : Prop :=
  ∀ H' p, AbsAt av CP CH H' ph r.1 → Fr ph H H' → H p = none → H' p = some (.lst (r.2.map V.int)) → Q (.ref p) H'
theorem Does.gives {av : Addr → Prop} {CP CH ph : Addr} {H : Hp} {Q : VK} {r : Mu56.Abs × List Int} (d : Does av CP CH ph H Q r) : Gives av CP CH ph H Q r := fun t' H' p e h f n q => d H' p (by rw [e]; exact h) f n q
theorem Does.pull {av : Addr → Prop} {CP CH ph : Addr} {H H1 : Hp} {Q : VK} {r : Mu56.Abs × List Int} (k : Does av CP CH ph H Q r) (s : Same H H1) : Does av CP CH ph H1 Q r := fun H' p h f n q => k H' p h ((Fr.of s).trans f) (s.free n) q
/-! ### the numbers of a call -/
theorem form_head {c : List (List Int)} {x : Mu56.Call} (f : HM.Form c x) : ∃ r, HM.flatC c = ((HM.code x : Nat) : Int) :: r := by
  cases f <;> exact ⟨_, rfl⟩
theorem form_put {c : List (List Int)} {x : Mu56.Call} (f : HM.Form c x) (h : HM.code x = 1) : ∃ k l, k ≤ 9 ∧ l.length ≤ 10 ∧ x = .put k l ∧ HM.flatC c = 1 :: (k : Int) :: (l.length : Int) :: l.map fun (i : Nat) => (i : Int) := by
  cases f with
  | put k l h1 h2 =>
    refine ⟨k, l, h1, h2, rfl, ?_⟩
    show [1, (k : Int)] ++ ((((l.map fun (i : Nat) => (i : Int)).length : Nat) : Int) :: (l.map fun (i : Nat) => (i : Int)) ++ []) = _
    rw [List.length_map, List.append_nil]
    rfl
  | _ => simp [HM.code] at h
theorem form_len {c : List (List Int)} {x : Mu56.Call} (f : HM.Form c x) (h : HM.code x ≠ 1) (s : S1 x) : LEN[HM.code x]? = some (HM.flatC c).length := by
  cases f <;> first | rfl | exact absurd rfl h
section
variable {P : Program} {w : World} {K : PySem.W.Frag} {mg : Str → Option Value} {base : Heap} {CP CH : Addr}
/-! ### call_length -/
def spLength (K : PySem.W.Frag) : Sp := fun vs H Q _ => ∃ (a : Addr) (i : Nat) (ns : List Int) (c : List (List Int)) (x : Mu56.Call) (rest : List Int), vs = [.ref a, nV i] ∧ SqL K H a (ns.map V.int) ∧ ns.drop i = HM.flatC c ++ rest ∧ HM.Form c x ∧ S1 x ∧ Q (nV (HM.flatC c).length) H
theorem scLength : FnScope ["calls", "at", "length"] ["calls", "at"] (defScope sLength) := ⟨rfl, rfl, rfl, by decide +kernel, rfl, by decide +kernel, by decide +kernel⟩
theorem ok_length {f : Addr} {fd : FuncData} (F : Fun K "call_length" "call_length" sLength f fd) (T : Txt K mg CP CH) : FnOk P w K mg base CX0 1 f fd ["calls", "at"] (spLength K) := by
  refine F.ok scLength (fun vs H Q E h => ?_) (fun cdv A outer s H vs Q E hr h => ?_)
  · obtain ⟨a, i, ns, c, x, rest, rfl, _⟩ := h
    rfl
  · obtain ⟨a, i, ns, c, x, rest, rfl, hS, hd, fm, s1, k⟩ := h
    obtain ⟨aL, gL, sL⟩ := T.cLENGTHS
    refine ⟨_, pss_cons (ps_set (i := 2) scLength.nd rfl (Or.inl rfl) (pe_ix ix_tup (pe_glob (v := .ref aL) rfl gL rfl) (pe_ix ix_list (pv 0) (pv 1) (fun _ _ => rfl)) (fun _ _ => rfl)))
      (pss_cons (ps_if (pt_cmpR op_eq (pe_ix ix_list (pv 0) (pv 1) (fun _ _ => rfl)) (pe_gi rfl T.cPUT) (nomark _))
        (pss_one (ps_ret (pe_op op_add (pv 2) (pe_ix ix_list (pv 0) (pe_op op_add (pv 1) pe_int) (fun _ _ => rfl))))) pss_nil)
      (pss_one (ps_ret (pv 2)))), ?_⟩
    obtain ⟨r, er⟩ := form_head fm
    have at_ : ∀ j, (ns.map V.int)[i + j]? = ((HM.flatC c ++ rest)[j]?).map V.int := by
      intro j
      rw [List.getElem?_map, ← hd, List.getElem?_drop]
    have h0 : (ns.map V.int)[i]? = some (nV (HM.code x)) := by
      have := at_ 0
      rw [er] at this
      exact this
    have hc : HM.code x < 13 := s1
    have hL : (LEN.map nV)[HM.code x]? = some (nV (LEN.getD (HM.code x) 0)) := by
      rw [List.getElem?_map, List.getD_eq_getElem?_getD]
      have : HM.code x < LEN.length := hc
      rw [List.getElem?_eq_getElem this]
      rfl
    refine ⟨_, rfl, _, rfl, a, _, _, _, rfl, rfl, hS, atI_nat h0, aL, _, _, _, rfl, rfl, sL _, atI_nat hL, ?_⟩
    refine ⟨_, rfl, _, rfl, a, _, _, _, rfl, rfl, hS, atI_nat h0, rfl, decide (HM.code x = 1), ?_, ?_⟩
    · exact congrArg V.bl (dec_nV (HM.code x) 1)
    · by_cases e1 : HM.code x = 1
      · rw [decide_eq_true e1]
        obtain ⟨kk, l, _, _, rfl, ef⟩ := form_put fm e1
        have h2 : (ns.map V.int)[i + 2]? = some (nV l.length) := by
          rw [at_ 2, ef]
          rfl
        refine iteT ⟨_, rfl, _, rfl, _, rfl, _, _, rfl, rfl, a, _, ((i + 2 : Nat) : Int), _, rfl, ?_, hS, atI_nat h2, _, _, rfl, rfl, ?_⟩
        · rw [Int.natCast_add]
          rfl
        · have e : V.int (((3 : Nat) : Int) + ((l.length : Nat) : Int)) = nV (HM.flatC c).length := by
            rw [ef]
            unfold nV
            rw [List.length_cons, List.length_cons, List.length_cons, List.length_map, ← Int.natCast_add]
            congr 2
            omega
          have k' := k
          rw [← e] at k'
          exact k'
      · rw [decide_eq_false e1]
        refine iteF ⟨_, rfl, ?_⟩
        have e := form_len fm e1 s1
        rw [List.getD_eq_getElem?_getD, e]
        exact k
end
end LH

/-! ## B13 -/
namespace LH
open PySem PySem.Spec PyProof.Rows L2
open Mu56 (Piece State House ids falls taken)
theorem none_nine {c : Mu56.Call} (h : HM.code c ≠ 0) : Mu56.step none c = (none, [-9]) := by
  cases c <;> first | rfl | exact absurd rfl h
section
variable {P : Program} {w : World} {K : PySem.W.Frag} {mg : Str → Option Value} {base : Heap} {CP CH : Addr}
/-! ### answer_call -/
def spCall (CP CH : Addr) : Sp := fun vs H Q _ => ∃ (av : Addr → Prop) (ph q : Addr) (c : List (List Int)) (x : Mu56.Call) (o : Mu56.Abs), vs = [.ref ph, .ref q] ∧ AbsAt av CP CH H ph o ∧ HM.AWf o ∧ (∀ a, av a → H a ≠ none) ∧ H q = some (.lst ((HM.flatC c).map V.int)) ∧ HM.Form c x ∧ S1 x ∧ Does av CP CH ph H Q (Mu56.step o x)
theorem scCall : FnScope ["house", "call", "name"] ["house", "call"] (defScope sCall) := ⟨rfl, rfl, rfl, by decide +kernel, rfl, by decide +kernel, by decide +kernel⟩
theorem ok_call {f : Addr} {fd : FuncData} (F : Fun K "answer_call" "answer_call" sCall f fd) (T : Txt K mg CP CH)
    (CB : Cal P w K mg base "begin" 2 ["house"] (spBegin CP CH)) (CPu : Cal P w K mg base "put" 4 ["house", "cards", "rests"] (spPut CP CH)) (CS : Cal P w K mg base "storeyed" 5 ["house", "storeys"] (spStoreyed CP CH))
    (CW : Cal P w K mg base "would" 2 ["house", "number"] (spWould CP CH)) (CT : Cal P w K mg base "take" 2 ["house", "number"] (spTake CP CH)) (CF : Cal P w K mg base "free" 1 ["house"] (spFree CP CH)) (CO : Cal P w K mg base "orders" 3 ["house"] (spOrders CP CH))
    (CHi : Cal P w K mg base "high" 1 ["house"] (spHigh CP CH)) (CWo : Cal P w K mg base "worth" 3 ["house"] (spWorth CP CH)) (CPl : Cal P w K mg base "play" 4 ["house"] (spPlay CP CH))
    (CCa : Cal P w K mg base "count_cards" 2 ["storeys"] spCountCards) (CSt : Cal P w K mg base "count_storeys" 2 ["cards"] spCountStoreys) (CLo : Cal P w K mg base "look" 1 ["house"] (spLook CP CH)) :
    FnOk P w K mg base CX0 6 f fd ["house", "call"] (spCall CP CH) := by
  refine F.ok scCall (fun vs H Q E h => ?_) (fun cdv A outer s H vs Q E hr h => ?_)
  · obtain ⟨av, ph, q, c, x, o, rfl, _⟩ := h
    rfl
  · obtain ⟨av, ph, q, c, x, o, rfl, HO, wo, hav, hq, fm, s1, k⟩ := h
    have hr1 : Room 1 _ := hr.mono (by decide)
    have hr2 : Room 2 _ := hr.mono (by decide)
    have hr3 : Room 3 _ := hr.mono (by decide)
    have hr4 : Room 4 _ := hr.mono (by decide)
    refine ⟨_, pss_cons (ps_set (i := 2) scCall.nd rfl (Or.inl rfl) (pe_ix ix_list (pv 1) pe_int (fun _ _ => rfl)))
      (pss_cons (ps_if (pt_cmpR op_eq (pv 2) (pe_gi rfl T.cBEGIN) (nomark _)) (pss_one (ps_ret (pe_cal CB hr2 rfl (pa_cons (pv 0) pa_nil)))) pss_nil)
      (pss_cons (ps_if (pt_not (pt_val (pe_fld (pv 0) rfl))) (pss_one (ps_ret (pe_lst (pa_cons (pe_gi rfl T.cNO_HOUSE) pa_nil)))) pss_nil)
      (pss_cons (ps_if (pt_cmpR op_eq (pv 2) (pe_gi rfl T.cPUT) (nomark _)) (pss_one (ps_ret (pe_cal CPu hr4 rfl (pa_cons (pv 0) (pa_cons (pe_ix ix_list (pv 1) pe_int (fun _ _ => rfl)) (pa_cons (pe_slice sl_list (pv 1) (po_some pe_int) po_none) pa_nil)))))) pss_nil)
      (pss_cons (ps_if (pt_cmpR op_eq (pv 2) (pe_gi rfl T.cSTOREYED) (nomark _)) (pss_one (ps_ret (pe_cal CS hr rfl (pa_cons (pv 0) (pa_cons (pe_ix ix_list (pv 1) pe_int (fun _ _ => rfl)) pa_nil))))) pss_nil)
      (pss_cons (ps_if (pt_cmpR op_eq (pv 2) (pe_gi rfl T.cWOULD) (nomark _)) (pss_one (ps_ret (pe_cal CW hr2 rfl (pa_cons (pv 0) (pa_cons (pe_ix ix_list (pv 1) pe_int (fun _ _ => rfl)) pa_nil))))) pss_nil)
      (pss_cons (ps_if (pt_cmpR op_eq (pv 2) (pe_gi rfl T.cTAKE) (nomark _)) (pss_one (ps_ret (pe_cal CT hr2 rfl (pa_cons (pv 0) (pa_cons (pe_ix ix_list (pv 1) pe_int (fun _ _ => rfl)) pa_nil))))) pss_nil)
      (pss_cons (ps_if (pt_cmpR op_eq (pv 2) (pe_gi rfl T.cFREE) (nomark _)) (pss_one (ps_ret (pe_cal CF hr1 rfl (pa_cons (pv 0) pa_nil)))) pss_nil)
      (pss_cons (ps_if (pt_cmpR op_eq (pv 2) (pe_gi rfl T.cORDERS) (nomark _)) (pss_one (ps_ret (pe_cal CO hr3 rfl (pa_cons (pv 0) pa_nil)))) pss_nil)
      (pss_cons (ps_if (pt_cmpR op_eq (pv 2) (pe_gi rfl T.cHIGH) (nomark _)) (pss_one (ps_ret (pe_cal CHi hr1 rfl (pa_cons (pv 0) pa_nil)))) pss_nil)
      (pss_cons (ps_if (pt_cmpR op_eq (pv 2) (pe_gi rfl T.cWORTH) (nomark _)) (pss_one (ps_ret (pe_cal CWo hr3 rfl (pa_cons (pv 0) pa_nil)))) pss_nil)
      (pss_cons (ps_if (pt_cmpR op_eq (pv 2) (pe_gi rfl T.cPLAY) (nomark _)) (pss_one (ps_ret (pe_cal CPl hr4 rfl (pa_cons (pv 0) pa_nil)))) pss_nil)
      (pss_cons (ps_if (pt_cmpR op_eq (pv 2) (pe_gi rfl T.cCARDS) (nomark _)) (pss_one (ps_ret (pe_cal CCa hr2 rfl (pa_cons (pe_ix ix_list (pv 1) pe_int (fun _ _ => rfl)) pa_nil)))) pss_nil)
      (pss_cons (ps_if (pt_cmpR op_eq (pv 2) (pe_gi rfl T.cSTOREYS) (nomark _)) (pss_one (ps_ret (pe_cal CSt hr2 rfl (pa_cons (pe_ix ix_list (pv 1) pe_int (fun _ _ => rfl)) pa_nil)))) pss_nil)
      (pss_one (ps_ret (pe_cal CLo hr1 rfl (pa_cons (pv 0) pa_nil))))))))))))))))), ?_⟩
    obtain ⟨r, er⟩ := form_head fm
    have h0 : ((HM.flatC c).map V.int)[0]? = some (nV (HM.code x)) := by rw [er]; rfl
    refine ⟨_, rfl, q, _, _, _, rfl, rfl, SqL.of hq, atI_nat (j := 0) h0, ?_⟩
    obtain ⟨b, t, HV, eb⟩ := HO.any
    -- name == BEGIN
    refine ⟨_, rfl, rfl, decide (HM.code x = 0), congrArg V.bl (dec_nV (HM.code x) 0), ?_⟩
    by_cases e0 : HM.code x = 0
    · refine if_t (decide_eq_true e0) ?_
      obtain rfl : x = .begin_ := by cases fm <;> first | rfl | (simp [HM.code] at e0)
      exact ⟨_, rfl, av, ph, b, t, rfl, HV, hav, k.gives⟩
    · refine if_f (decide_eq_false e0) ?_
      -- not house.begun
      obtain ⟨dx, pd, ad, HI⟩ := HV.at
      refine ⟨_, rfl, ph, CH, dx, _, _, rfl, HI.ob, T.clH, T.nBegun, hF_begun, b, rfl, ?_⟩
      cases o with
      | none =>
        subst eb
        refine if_t rfl ⟨(by show 1 ≤ sizeLine; decide), fun p hp => ?_⟩
        rw [none_nine e0] at k
        exact k _ p (HO.mono (same_new hp)) (.of (same_new hp)) hp upd_same
      | some t =>
        subst eb
        refine if_f rfl ?_
        have HV : HouseAv av CP CH H ph true t := HO
        have W : HM.SWf t := wo
        refine ⟨_, rfl, rfl, decide (HM.code x = 1), congrArg V.bl (dec_nV (HM.code x) 1), ?_⟩
        by_cases e1 : HM.code x = 1
        · refine if_t (decide_eq_true e1) ?_
          obtain ⟨kk, l, _, hl, rfl, ef⟩ := form_put fm e1
          have h1 : ((HM.flatC c).map V.int)[1]? = some (nV kk) := by rw [ef]; rfl
          refine ⟨_, rfl, _, rfl, q, _, _, _, rfl, rfl, SqL.of hq, atI_nat (j := 1) h1, _, rfl, 3, rfl, q, _, rfl, SqL.of hq, fun p hp => ?_⟩
          have ep : cutV ((HM.flatC c).map V.int) (some 3) none = l.map nV := by
            rw [show (3 : Int) = ((3 : Nat) : Int) from rfl, cut_from, ef, nV_int]
            rfl
          have s2 : Same H (upd H p (.lst (cutV ((HM.flatC c).map V.int) (some 3) none))) := same_new hp
          refine ⟨av, ph, p, kk, l, t, rfl, HV.mono s2, fun a z n => hav a z (s2.free n), W, ?_, fun z => hav p z hp, by omega, (k.pull s2).gives⟩
          rw [upd_same, ep]
        · refine if_f (decide_eq_false e1) ?_
          refine ⟨_, rfl, rfl, decide (HM.code x = 2), congrArg V.bl (dec_nV (HM.code x) 2), ?_⟩
          by_cases e2 : HM.code x = 2
          · refine if_t (decide_eq_true e2) ?_
            obtain ⟨n, rfl, ef⟩ : ∃ n, x = .pyramid n ∧ HM.flatC c = [2, (n : Int)] := by cases fm <;> first | exact ⟨_, rfl, rfl⟩ | (simp [HM.code] at e2)
            have h1 : ((HM.flatC c).map V.int)[1]? = some (nV n) := by rw [ef]; rfl
            exact ⟨_, rfl, _, rfl, q, _, _, _, rfl, rfl, SqL.of hq, atI_nat (j := 1) h1, av, ph, n, t, rfl, HV, hav, k.gives⟩
          · refine if_f (decide_eq_false e2) ?_
            refine ⟨_, rfl, rfl, decide (HM.code x = 3), congrArg V.bl (dec_nV (HM.code x) 3), ?_⟩
            by_cases e3 : HM.code x = 3
            · refine if_t (decide_eq_true e3) ?_
              obtain ⟨n, rfl, ef⟩ : ∃ n, x = .would n ∧ HM.flatC c = [3, (n : Int)] := by cases fm <;> first | exact ⟨_, rfl, rfl⟩ | (simp [HM.code] at e3)
              have h1 : ((HM.flatC c).map V.int)[1]? = some (nV n) := by rw [ef]; rfl
              exact ⟨_, rfl, _, rfl, q, _, _, _, rfl, rfl, SqL.of hq, atI_nat (j := 1) h1, av, ph, n, t, rfl, HV, W, k.gives⟩
            · refine if_f (decide_eq_false e3) ?_
              refine ⟨_, rfl, rfl, decide (HM.code x = 4), congrArg V.bl (dec_nV (HM.code x) 4), ?_⟩
              by_cases e4 : HM.code x = 4
              · refine if_t (decide_eq_true e4) ?_
                obtain ⟨n, rfl, ef⟩ : ∃ n, x = .take n ∧ HM.flatC c = [4, (n : Int)] := by cases fm <;> first | exact ⟨_, rfl, rfl⟩ | (simp [HM.code] at e4)
                have h1 : ((HM.flatC c).map V.int)[1]? = some (nV n) := by rw [ef]; rfl
                exact ⟨_, rfl, _, rfl, q, _, _, _, rfl, rfl, SqL.of hq, atI_nat (j := 1) h1, av, ph, n, t, rfl, HV, W, k.gives⟩
              · refine if_f (decide_eq_false e4) ?_
                refine ⟨_, rfl, rfl, decide (HM.code x = 5), congrArg V.bl (dec_nV (HM.code x) 5), ?_⟩
                by_cases e5 : HM.code x = 5
                · refine if_t (decide_eq_true e5) ?_
                  obtain rfl : x = .free := by cases fm <;> first | rfl | (simp [HM.code] at e5)
                  exact ⟨_, rfl, av, ph, t, rfl, HV, W, k.gives⟩
                · refine if_f (decide_eq_false e5) ?_
                  refine ⟨_, rfl, rfl, decide (HM.code x = 6), congrArg V.bl (dec_nV (HM.code x) 6), ?_⟩
                  by_cases e6 : HM.code x = 6
                  · refine if_t (decide_eq_true e6) ?_
                    obtain rfl : x = .orders := by cases fm <;> first | rfl | (simp [HM.code] at e6)
                    exact ⟨_, rfl, av, ph, t, rfl, HV, W, k.gives⟩
                  · refine if_f (decide_eq_false e6) ?_
                    refine ⟨_, rfl, rfl, decide (HM.code x = 7), congrArg V.bl (dec_nV (HM.code x) 7), ?_⟩
                    by_cases e7 : HM.code x = 7
                    · refine if_t (decide_eq_true e7) ?_
                      obtain rfl : x = .high := by cases fm <;> first | rfl | (simp [HM.code] at e7)
                      exact ⟨_, rfl, av, ph, t, rfl, HV, W, k.gives⟩
                    · refine if_f (decide_eq_false e7) ?_
                      refine ⟨_, rfl, rfl, decide (HM.code x = 8), congrArg V.bl (dec_nV (HM.code x) 8), ?_⟩
                      by_cases e8 : HM.code x = 8
                      · refine if_t (decide_eq_true e8) ?_
                        obtain rfl : x = .worth := by cases fm <;> first | rfl | (simp [HM.code] at e8)
                        exact ⟨_, rfl, av, ph, t, rfl, HV, W, k.gives⟩
                      · refine if_f (decide_eq_false e8) ?_
                        refine ⟨_, rfl, rfl, decide (HM.code x = 9), congrArg V.bl (dec_nV (HM.code x) 9), ?_⟩
                        by_cases e9 : HM.code x = 9
                        · refine if_t (decide_eq_true e9) ?_
                          obtain rfl : x = .play := by cases fm <;> first | rfl | (simp [HM.code] at e9)
                          exact ⟨_, rfl, av, ph, t, rfl, HV, W, k.gives⟩
                        · refine if_f (decide_eq_false e9) ?_
                          refine ⟨_, rfl, rfl, decide (HM.code x = 10), congrArg V.bl (dec_nV (HM.code x) 10), ?_⟩
                          by_cases e10 : HM.code x = 10
                          · refine if_t (decide_eq_true e10) ?_
                            obtain ⟨n, rfl, ef, hn⟩ : ∃ n, x = .cards n ∧ HM.flatC c = [10, (n : Int)] ∧ n ≤ 10000 := by cases fm <;> first | exact ⟨_, rfl, rfl, by omega⟩ | (simp [HM.code] at e10)
                            have h1 : ((HM.flatC c).map V.int)[1]? = some (nV n) := by rw [ef]; rfl
                            exact ⟨_, rfl, q, _, _, _, rfl, rfl, SqL.of hq, atI_nat (j := 1) h1, n, rfl, hn, fun p hp => k _ p (HO.mono (same_new hp)) (.of (same_new hp)) hp upd_same⟩
                          · refine if_f (decide_eq_false e10) ?_
                            refine ⟨_, rfl, rfl, decide (HM.code x = 11), congrArg V.bl (dec_nV (HM.code x) 11), ?_⟩
                            by_cases e11 : HM.code x = 11
                            · refine if_t (decide_eq_true e11) ?_
                              obtain ⟨n, rfl, ef, hn⟩ : ∃ n, x = .storeys n ∧ HM.flatC c = [11, (n : Int)] ∧ n ≤ 10000 := by cases fm <;> first | exact ⟨_, rfl, rfl, by omega⟩ | (simp [HM.code] at e11)
                              have h1 : ((HM.flatC c).map V.int)[1]? = some (nV n) := by rw [ef]; rfl
                              exact ⟨_, rfl, q, _, _, _, rfl, rfl, SqL.of hq, atI_nat (j := 1) h1, n, rfl, hn, fun p hp => k _ p (HO.mono (same_new hp)) (.of (same_new hp)) hp upd_same⟩
                            · refine if_f (decide_eq_false e11) ?_
                              obtain rfl : x = .look := by cases fm <;> first | rfl | (exfalso; simp [HM.code] at e0 e1 e2 e3 e4 e5 e6 e7 e8 e9 e10 e11; done)
                              exact ⟨_, rfl, av, ph, t, rfl, HV, W, k.gives⟩
end
end LH

/-! ## B14 -/
namespace LH
open PySem PySem.Spec PyProof.Rows L2
open Mu56 (Piece State House ids falls taken)
def spAnswers (K : PySem.W.Frag) : Sp := fun vs H Q _ => ∃ (a : Addr) (ns : List Int), vs = [.ref a] ∧ SqL K H a (ns.map V.int) ∧ ns.length ≤ 780 ∧ PyMu56.answers_asked ns = true ∧ ∀ (H' : Hp) (p : Addr), H' p = some (.lst ((PyMu56.answers ns).map V.int)) → Q (.ref p) H'
/-- where the j-th call begins -/
def off (cs : List (List (List Int))) (j : Nat) : Nat := ((cs.take j).flatMap HM.flatC).length
theorem off_succ {cs : List (List (List Int))} {j : Nat} {c : List (List Int)} (h : cs[j]? = some c) : off cs (j + 1) = off cs j + (HM.flatC c).length := by
  unfold off
  rw [take_one h, List.flatMap_append, List.length_append, List.flatMap_cons, List.flatMap_nil, List.append_nil]
theorem off_drop {cs : List (List (List Int))} {j : Nat} {c : List (List Int)} (h : cs[j]? = some c) : (cs.flatMap HM.flatC).drop (off cs j) = HM.flatC c ++ (cs.drop (j + 1)).flatMap HM.flatC := by
  have e : cs = cs.take j ++ c :: cs.drop (j + 1) := by
    have hj := (List.getElem?_eq_some_iff.mp h).1
    have hc := (List.getElem?_eq_some_iff.mp h).2
    conv => lhs; rw [← List.take_append_drop j cs, List.drop_eq_getElem_cons hj, hc]
  conv => lhs; rw [e, List.flatMap_append, List.flatMap_cons]
  have : off (cs.take j ++ c :: cs.drop (j + 1)) j = ((cs.take j).flatMap HM.flatC).length := by rw [← e]; rfl
  rw [this, List.drop_left]
theorem off_all (cs : List (List (List Int))) : off cs cs.length = (cs.flatMap HM.flatC).length := by
  unfold off
  rw [List.take_length]
section
variable {P : Program} {w : World} {K : PySem.W.Frag} {mg : Str → Option Value} {base : Heap} {CP CH : Addr}
theorem scAnswers : FnScope ["calls", "house", "told", "at", "end", "answer"] ["calls"] (defScope sAnswers) := ⟨rfl, rfl, rfl, by decide +kernel, rfl, by decide +kernel, by decide +kernel⟩
theorem ok_answers {f fI : Addr} {fd fdI : FuncData} (F : Fun K "answers" "answers" sAnswers f fd) (T : Txt K mg CP CH) (M : Mk K CH fI) (FI : Fun K "__init__" "House.__init__" sHouseInit fI fdI) (bI : L2.Binds K fdI ["self"] [])
    (CL : Cal P w K mg base "call_length" 1 ["calls", "at"] (spLength K)) (CC : Cal P w K mg base "answer_call" 6 ["house", "call"] (spCall CP CH)) (hS1 : ∀ x, S1 x) : FnOk P w K mg base CX0 7 f fd ["calls"] (spAnswers K) := by
  have GI : FnOk P w K mg base CX0 1 fI fdI ["self"] (spHouseInit CH) := ok_houseInit FI T
  refine F.ok scAnswers (fun vs H Q E h => ?_) (fun cdv A outer s H vs Q E hr h => ?_)
  · obtain ⟨a, ns, rfl, _⟩ := h
    rfl
  · obtain ⟨a, ns, rfl, hS, hlen, hask, k⟩ := h
    refine ⟨_, pss_cons (ps_set (i := 1) scAnswers.nd rfl (Or.inl rfl) (pe_make0 M GI (hr.mono (by decide)) rfl T.gH bI .nil pass0))
      (pss_cons (ps_set (i := 2) scAnswers.nd rfl (Or.inl rfl) (pe_lst pa_nil))
      (pss_cons (ps_set (i := 3) scAnswers.nd rfl (Or.inl rfl) pe_int)
      (pss_cons (ps_while PassesOwn.never (pt_cmpR op_lt (pv 3) (pe_callB call_len_seq (by rfl) T.len PySem.boot_len (pa_cons (pv 0) pa_nil)) (nomark _))
        (pss_cons (ps_set (i := 4) scAnswers.nd rfl (Or.inl rfl) (pe_op op_add (pv 3) (pe_cal CL (hr.mono (by decide)) rfl (pa_cons (pv 0) (pa_cons (pv 3) pa_nil)))))
        (pss_cons (ps_set (i := 5) scAnswers.nd rfl (Or.inl rfl) (pe_cal CC hr rfl (pa_cons (pv 1) (pa_cons (pe_slice sl_list (pv 0) (po_some (pv 3)) (po_some (pv 4))) pa_nil))))
        (pss_cons (ps_expr (pe_bm PySem.F.plainAttrs_list PySem.F.slot_list_append PySem.F.type_list_append mt_append (pv 2) (pa_cons (pe_callB call_len_seq (by rfl) T.len PySem.boot_len (pa_cons (pv 5) pa_nil)) pa_nil)))
        (pss_cons (ps_expr (pe_bm PySem.F.plainAttrs_list PySem.F.slot_list_extend PySem.F.type_list_extend mt_extend (pv 2) (pa_cons (pv 5) pa_nil)))
        (pss_one (ps_set (i := 3) scAnswers.nd rfl (Or.inl rfl) (pv 4))))))))
      (pss_one (ps_ret (pv 2)))))), ?_⟩
    obtain ⟨cs, ens, _, hcs, eans, hal⟩ := HM.asked_calls hask
    -- house = House()
    intro ph dx nx ndx nex
    refine ⟨ph, dx, rfl, upd_same, fun d H1 hd g1 g2 kp => ⟨rfl, ?_⟩⟩
    have s1 : Same H H1 := Same.made nx ndx kp
    have hS1' := s1.seq hS
    have nap : ∀ {b : Addr} {u : HO}, H b = some u → b ≠ ph := fun e => ne_of_none e nx
    -- told = []
    refine ⟨Nat.zero_le _, fun lt hlt => ?_⟩
    have s2 : Same H1 (upd H1 lt (.lst [])) := same_new hlt
    have b2 : upd H1 lt (.lst []) lt = some (.lst []) := upd_same
    have HV2 : HouseAv (fun a => a = lt) CP CH (upd H1 lt (.lst [])) ph false ⟨[], 0⟩ := HouseAv.empty (fun z => by rw [z, hlt] at g1; cases g1) (fun z => by rw [z, hlt] at g2; cases g2) (s2 _ _ g1) (s2 _ _ g2)
    have sq2 := s2.seq hS1'
    generalize upd H1 lt (.lst []) = H2 at s2 b2 HV2 sq2
    -- the list that was handed in is no house
    have notph : ∀ H', SqL K H a (ns.map V.int) → Fr ph H H' → SqL K H' a (ns.map V.int) := fun H' q f => by
      rcases q with (q | ⟨o, q⟩) | q
      · exact .inl (.inl (f.keep _ _ q (nap q) (by intro _ z; cases z)))
      · exact .inl (.inr ⟨o, f.keep _ _ q (nap q) (by intro _ z; cases z)⟩)
      · exact .inr q
    have hltH : H lt = none := s1.free hlt
    refine ⟨fun m σ H' => ∃ j v4 v5, σ = [some (.ref a), some (.ref ph), some (.ref lt), some (nV (off cs j)), v4, v5] ∧ m = cs.length - j ∧ j ≤ cs.length ∧ AbsAt (fun a => a = lt) CP CH H' ph (HM.after (cs.take j)) ∧ HM.AWf (HM.after (cs.take j)) ∧ Fr ph H H' ∧ H' lt = some (.lst ((HM.toldOf (cs.take j)).map V.int)),
      ⟨cs.length, 0, none, none, rfl, rfl, Nat.zero_le _, HV2, trivial, .of (s1.trans s2), b2⟩, ?_⟩
    rintro m σ H3 ⟨j, v4, v5, rfl, rfl, hj, HO3, w3, f3, h3⟩
    have sq3 := notph H3 hS f3
    refine ⟨_, rfl, _, rfl, a, _, rfl, .inl sq3, _, _, rfl, rfl, _, rfl, ?_⟩
    rw [List.length_map]
    by_cases hlt' : j < cs.length
    · have hc : cs[j]? = some cs[j] := List.getElem?_eq_getElem hlt'
      generalize cs[j] = c at hc
      have hcm : c ∈ cs := List.mem_of_getElem? hc
      obtain ⟨ask, nem⟩ := hcs c hcm
      obtain ⟨x, fm, ex⟩ := HM.form_of ask
      have hd := off_drop hc
      rw [← ens] at hd
      have hl1 : 0 < (HM.flatC c).length := List.length_pos_iff.mpr nem
      have le : off cs j + (HM.flatC c).length ≤ ns.length := by
        have := congrArg List.length hd
        rw [List.length_drop, List.length_append] at this
        omega
      rw [decide_eq_true (show ((off cs j : Nat) : Int) < ((ns.length : Nat) : Int) by omega)]
      refine iteT ⟨_, fun σ' H' q => q, ?_⟩
      -- end = at + call_length(calls, at)
      refine ⟨_, rfl, _, rfl, _, rfl, a, off cs j, ns, c, x, _, rfl, sq3, hd, fm, hS1 x, _, _, rfl, rfl, ?_⟩
      -- answer = answer_call(house, calls[at:end])
      refine ⟨_, rfl, _, rfl, _, rfl, _, rfl, _, rfl, _, rfl, a, _, rfl, sq3, fun q hq => ?_⟩
      have ecut : cutV (ns.map V.int) (some ((off cs j : Nat) : Int)) (some (((off cs j : Nat) : Int) + ((HM.flatC c).length : Int))) = (HM.flatC c).map V.int := by
        rw [← Int.natCast_add, cut_mid _ (Nat.le_add_right ..) (by rw [List.length_map]; exact le), ← List.map_drop, hd, Nat.add_sub_cancel_left, ← List.map_take, List.take_left]
      have s4 : Same H3 (upd H3 q (.lst (cutV (ns.map V.int) (some ((off cs j : Nat) : Int)) (some (((off cs j : Nat) : Int) + ((HM.flatC c).length : Int)))))) := same_new hq
      have q4 : upd H3 q (.lst (cutV (ns.map V.int) (some ((off cs j : Nat) : Int)) (some (((off cs j : Nat) : Int) + ((HM.flatC c).length : Int))))) q = some (.lst ((HM.flatC c).map V.int)) := by rw [upd_same, ecut]
      generalize upd H3 q (.lst (cutV (ns.map V.int) (some ((off cs j : Nat) : Int)) (some (((off cs j : Nat) : Int) + ((HM.flatC c).length : Int))))) = H4 at s4 q4
      have h4 := s4 _ _ h3
      refine ⟨fun a => a = lt, ph, q, c, x, _, rfl, HO3.mono s4, w3, fun b z n => (by rw [z, h4] at n; cases n), q4, fm, hS1 x, fun H5 p HO5 f5 np hp => ?_⟩
      have est := HM.stepN (o := HM.after (cs.take j)) ex
      rw [← est] at HO5 hp
      have nltp : lt ≠ ph := by
        obtain ⟨b, t, HV, _⟩ := HO3.any
        obtain ⟨dx3, pd3, ad3, HI3⟩ := HV.at
        exact ne_of h3 HI3.ob (by intro z; cases z)
      have h5 := f5.keep _ _ h4 nltp (by intro _ z; cases z)
      have npl : p ≠ lt := (ne_of_none h4 np).symm
      -- sizes
      have tb : (HM.toldOf (cs.take (j + 1))).length ≤ 10000000 := by
        have := HM.toldOf_le (cs.take (j + 1)) (cs.drop (j + 1))
        rw [List.take_append_drop] at this
        have e : HM.toldOf cs = PyMu56.answers ns := eans.symm
        rw [e] at this
        omega
      have et := HM.toldOf_snoc (cs.take j) c
      rw [← take_one hc] at et
      have tl := congrArg List.length et
      rw [List.length_append, List.length_cons] at tl
      -- told.append(len(answer))
      refine ⟨_, rfl, .inl ⟨rfl, _, SqL.of h5⟩, _, rfl, p, _, rfl, .inl (SqL.of hp), lt, _, _, rfl, rfl, h5, ?_, ?_⟩
      · rw [List.length_map]
        exact size_le7 (by omega)
      · rw [List.length_map]
        -- told.extend(answer)
        have h6 : upd H5 lt (.lst ((HM.toldOf (cs.take j)).map V.int ++ [V.int (((Mu56Neutral.step (HM.after (cs.take j)) c).2.length : Nat) : Int)])) lt = some (.lst ((HM.toldOf (cs.take j)).map V.int ++ [V.int (((Mu56Neutral.step (HM.after (cs.take j)) c).2.length : Nat) : Int)])) := upd_same
        have hp6 := (upd_ne (H := H5) (o := .lst ((HM.toldOf (cs.take j)).map V.int ++ [V.int (((Mu56Neutral.step (HM.after (cs.take j)) c).2.length : Nat) : Int)])) npl).trans hp
        refine ⟨_, rfl, .inl ⟨rfl, _, SqL.of h6⟩, _, rfl, lt, p, _, _, rfl, rfl, h6, hp6, ?_, ?_⟩
        · rw [List.length_append, List.length_map, List.length_map]
          exact Nat.le_of_lt (size_le7 (by show _ + 1 + _ ≤ _; omega))
        · -- at = end
          refine ⟨_, rfl, cs.length - (j + 1), by omega, j + 1, some (V.int (((off cs j : Nat) : Int) + ((HM.flatC c).length : Int))), some (.ref p), ?_, rfl, hlt', ?_, ?_, ?_, ?_⟩
          · show [_, _, _, some (V.int (((off cs j : Nat) : Int) + ((HM.flatC c).length : Int))), _, _] = [_, _, _, some (nV (off cs (j + 1))), _, _]
            rw [off_succ hc]
            unfold nV
            rw [Int.natCast_add]
          · rw [take_one hc, HM.after_snoc]
            exact HO5.but fun b o nb e => (upd_ne nb).trans ((upd_ne nb).trans e)
          · rw [take_one hc, HM.after_snoc, est]
            exact HM.step_wf w3 x
          · exact ((f3.trans (.of s4)).trans f5).at_new hltH |>.at_new hltH
          · rw [upd_same, et, List.map_append, List.append_assoc]
            rfl
    · obtain rfl : j = cs.length := by omega
      rw [decide_eq_false (show ¬ ((off cs cs.length : Nat) : Int) < ((ns.length : Nat) : Int) by rw [off_all, ← ens]; omega)]
      refine iteF ⟨_, rfl, ?_⟩
      rw [List.take_length] at h3
      refine k H3 lt ?_
      rw [h3, eans]
      rfl
end
end LH

/-! ## BH -/
namespace LH
open PySem PySem.Spec PyProof.Rows L2
open PySem.W (Codec)
theorem all_mk {P : Program} {w : World} {K : PySem.W.Frag} {h : Heap} {mg : Str → Option Value} {fa CP CH fP fH fT f0 f1 f2 f3 f4 f5 f6 f7 f8 f9 f10 f11 f12 f13 f14 f15 f16 f17 f18 f19 f20 f21 f22 f23 f24 f25 : Addr} {odT : Option Addr} {itT : Array Value} {nT : Nat} {slT : Array (Option Value)} (X : K.In h) (G : h.Ns mainGlobals mg) (hfa : mg "answers" = some (.ref fa))
    {odP anP odH anH od0 an0 od1 an1 od2 an2 od3 an3 od4 an4 od5 an5 od6 an6 od7 an7 od8 an8 od9 an9 od10 an10 od11 an11 od12 an12 od13 an13 od14 an14 od15 an15 od16 an16 od17 an17 od18 an18 od19 an19 od20 an20 od21 an21 od22 an22 od23 an23 od24 an24 od25 an25 : Option Addr} {slP slH sl0 sl1 sl2 sl3 sl4 sl5 sl6 sl7 sl8 sl9 sl10 sl11 sl12 sl13 sl14 sl15 sl16 sl17 sl18 sl19 sl20 sl21 sl22 sl23 sl24 sl25 : Array (Option Value)}
    {ocP kVP dcP pmP cdP ctP ocH kVH dcH pmH cdH ctH oc0 kV0 dc0 pm0 cd0 ct0 oc1 kV1 dc1 pm1 cd1 ct1 oc2 kV2 dc2 pm2 cd2 ct2 oc3 kV3 dc3 pm3 cd3 ct3 oc4 kV4 dc4 pm4 cd4 ct4 oc5 kV5 dc5 pm5 cd5 ct5 oc6 kV6 dc6 pm6 cd6 ct6 oc7 kV7 dc7 pm7 cd7 ct7 oc8 kV8 dc8 pm8 cd8 ct8 oc9 kV9 dc9 pm9 cd9 ct9 oc10 kV10 dc10 pm10 cd10 ct10 oc11 kV11 dc11 pm11 cd11 ct11 oc12 kV12 dc12 pm12 cd12 ct12 oc13 kV13 dc13 pm13 cd13 ct13 oc14 kV14 dc14 pm14 cd14 ct14 oc15 kV15 dc15 pm15 cd15 ct15 oc16 kV16 dc16 pm16 cd16 ct16 oc17 kV17 dc17 pm17 cd17 ct17 oc18 kV18 dc18 pm18 cd18 ct18 oc19 kV19 dc19 pm19 cd19 ct19 oc20 kV20 dc20 pm20 cd20 ct20 oc21 kV21 dc21 pm21 cd21 ct21 oc22 kV22 dc22 pm22 cd22 ct22 oc23 kV23 dc23 pm23 cd23 ct23 oc24 kV24 dc24 pm24 cd24 ct24 oc25 kV25 dc25 pm25 cd25 ct25 : Value} {tk0 tk1 tk2 tk3 tk4 tk5 tk6 tk7 tk8 tk9 tk10 tk11 tk12 tk13 tk14 tk15 tk16 tk17 tk18 tk19 tk20 tk21 tk22 : Tok}
    (aCP : PySem.W.nsIn K mainGlobals "Piece" = some (some (.ref CP)))
    (aP : PySem.W.findIn K (.ref CP) "__init__" = some (some (.ref fP)))
    (iP : PySem.W.isFn K (.ref fP) = true)
    (lP : K.lookup fP = some ⟨ocP, odP, .func (PySem.W.fnOf "__init__" "Piece.__init__" (defArgs sPieceInit) (defBody sPieceInit) (defScope sPieceInit) .none kVP dcP pmP anP cdP ctP), slP⟩)
    (cP : PySem.W.codeIn K cdP "Piece.__init__" = true)
    (kP : PySem.W.keepIn K (.ref fP) = true)
    (pgP : PySem.W.plainGet K CP Str.empty = true)
    (hdP : PySem.W.hasDictIn K CP = true)
    (poP : PySem.W.plainOver K CP = true)
    (saP : PySem.W.findIn K (.ref CP) "__setattr__" = some (some (.builtin "object.__setattr__")))
    (mkP : PySem.W.makesIn K CP = true)
    (kcP : PySem.W.keepIn K (.ref CP) = true)
    (aCH : PySem.W.nsIn K mainGlobals "House" = some (some (.ref CH)))
    (aH : PySem.W.findIn K (.ref CH) "__init__" = some (some (.ref fH)))
    (iH : PySem.W.isFn K (.ref fH) = true)
    (lH : K.lookup fH = some ⟨ocH, odH, .func (PySem.W.fnOf "__init__" "House.__init__" (defArgs sHouseInit) (defBody sHouseInit) (defScope sHouseInit) .none kVH dcH pmH anH cdH ctH), slH⟩)
    (cH : PySem.W.codeIn K cdH "House.__init__" = true)
    (kH : PySem.W.keepIn K (.ref fH) = true)
    (pgH : PySem.W.plainGet K CH Str.empty = true)
    (hdH : PySem.W.hasDictIn K CH = true)
    (poH : PySem.W.plainOver K CH = true)
    (saH : PySem.W.findIn K (.ref CH) "__setattr__" = some (some (.builtin "object.__setattr__")))
    (mkH : PySem.W.makesIn K CH = true)
    (kcH : PySem.W.keepIn K (.ref CH) = true)
    (n_cards : PySem.W.findIn K (.ref CP) "cards" = some none)
    (n_rests : PySem.W.findIn K (.ref CP) "rests" = some none)
    (n_begun : PySem.W.findIn K (.ref CH) "begun" = some none)
    (n_pieces : PySem.W.findIn K (.ref CH) "pieces" = some none)
    (n_coming : PySem.W.findIn K (.ref CH) "coming" = some none)
    (a0 : PySem.W.nsIn K mainGlobals "answers" = some (some (.ref f0)))
    (l0 : K.lookup f0 = some ⟨oc0, od0, .func (PySem.W.fnOf "answers" "answers" (defArgs sAnswers) (defBody sAnswers) (defScope sAnswers) .none kV0 dc0 pm0 an0 cd0 ct0), sl0⟩)
    (c0 : PySem.W.codeIn K cd0 "answers" = true)
    (k0 : PySem.W.keepIn K (.ref f0) = true)
    (a1 : PySem.W.nsIn K mainGlobals "call_length" = some (some (.ref f1)))
    (l1 : K.lookup f1 = some ⟨oc1, od1, .func (PySem.W.fnOf "call_length" "call_length" (defArgs sLength) (defBody sLength) (defScope sLength) .none kV1 dc1 pm1 an1 cd1 ct1), sl1⟩)
    (c1 : PySem.W.codeIn K cd1 "call_length" = true)
    (k1 : PySem.W.keepIn K (.ref f1) = true)
    (a2 : PySem.W.nsIn K mainGlobals "answer_call" = some (some (.ref f2)))
    (l2 : K.lookup f2 = some ⟨oc2, od2, .func (PySem.W.fnOf "answer_call" "answer_call" (defArgs sCall) (defBody sCall) (defScope sCall) .none kV2 dc2 pm2 an2 cd2 ct2), sl2⟩)
    (c2 : PySem.W.codeIn K cd2 "answer_call" = true)
    (k2 : PySem.W.keepIn K (.ref f2) = true)
    (a3 : PySem.W.nsIn K mainGlobals "begin" = some (some (.ref f3)))
    (l3 : K.lookup f3 = some ⟨oc3, od3, .func (PySem.W.fnOf "begin" "begin" (defArgs sBegin) (defBody sBegin) (defScope sBegin) .none kV3 dc3 pm3 an3 cd3 ct3), sl3⟩)
    (c3 : PySem.W.codeIn K cd3 "begin" = true)
    (k3 : PySem.W.keepIn K (.ref f3) = true)
    (a4 : PySem.W.nsIn K mainGlobals "put" = some (some (.ref f4)))
    (l4 : K.lookup f4 = some ⟨oc4, od4, .func (PySem.W.fnOf "put" "put" (defArgs sPut) (defBody sPut) (defScope sPut) .none kV4 dc4 pm4 an4 cd4 ct4), sl4⟩)
    (c4 : PySem.W.codeIn K cd4 "put" = true)
    (k4 : PySem.W.keepIn K (.ref f4) = true)
    (a5 : PySem.W.nsIn K mainGlobals "storeyed" = some (some (.ref f5)))
    (l5 : K.lookup f5 = some ⟨oc5, od5, .func (PySem.W.fnOf "storeyed" "storeyed" (defArgs sStoreyed) (defBody sStoreyed) (defScope sStoreyed) .none kV5 dc5 pm5 an5 cd5 ct5), sl5⟩)
    (c5 : PySem.W.codeIn K cd5 "storeyed" = true)
    (k5 : PySem.W.keepIn K (.ref f5) = true)
    (a6 : PySem.W.nsIn K mainGlobals "would" = some (some (.ref f6)))
    (l6 : K.lookup f6 = some ⟨oc6, od6, .func (PySem.W.fnOf "would" "would" (defArgs sWould) (defBody sWould) (defScope sWould) .none kV6 dc6 pm6 an6 cd6 ct6), sl6⟩)
    (c6 : PySem.W.codeIn K cd6 "would" = true)
    (k6 : PySem.W.keepIn K (.ref f6) = true)
    (a7 : PySem.W.nsIn K mainGlobals "take" = some (some (.ref f7)))
    (l7 : K.lookup f7 = some ⟨oc7, od7, .func (PySem.W.fnOf "take" "take" (defArgs sTake) (defBody sTake) (defScope sTake) .none kV7 dc7 pm7 an7 cd7 ct7), sl7⟩)
    (c7 : PySem.W.codeIn K cd7 "take" = true)
    (k7 : PySem.W.keepIn K (.ref f7) = true)
    (a8 : PySem.W.nsIn K mainGlobals "free" = some (some (.ref f8)))
    (l8 : K.lookup f8 = some ⟨oc8, od8, .func (PySem.W.fnOf "free" "free" (defArgs sFree) (defBody sFree) (defScope sFree) .none kV8 dc8 pm8 an8 cd8 ct8), sl8⟩)
    (c8 : PySem.W.codeIn K cd8 "free" = true)
    (k8 : PySem.W.keepIn K (.ref f8) = true)
    (a9 : PySem.W.nsIn K mainGlobals "orders" = some (some (.ref f9)))
    (l9 : K.lookup f9 = some ⟨oc9, od9, .func (PySem.W.fnOf "orders" "orders" (defArgs sOrders) (defBody sOrders) (defScope sOrders) .none kV9 dc9 pm9 an9 cd9 ct9), sl9⟩)
    (c9 : PySem.W.codeIn K cd9 "orders" = true)
    (k9 : PySem.W.keepIn K (.ref f9) = true)
    (a10 : PySem.W.nsIn K mainGlobals "high" = some (some (.ref f10)))
    (l10 : K.lookup f10 = some ⟨oc10, od10, .func (PySem.W.fnOf "high" "high" (defArgs sHigh) (defBody sHigh) (defScope sHigh) .none kV10 dc10 pm10 an10 cd10 ct10), sl10⟩)
    (c10 : PySem.W.codeIn K cd10 "high" = true)
    (k10 : PySem.W.keepIn K (.ref f10) = true)
    (a11 : PySem.W.nsIn K mainGlobals "worth" = some (some (.ref f11)))
    (l11 : K.lookup f11 = some ⟨oc11, od11, .func (PySem.W.fnOf "worth" "worth" (defArgs sWorth) (defBody sWorth) (defScope sWorth) .none kV11 dc11 pm11 an11 cd11 ct11), sl11⟩)
    (c11 : PySem.W.codeIn K cd11 "worth" = true)
    (k11 : PySem.W.keepIn K (.ref f11) = true)
    (a12 : PySem.W.nsIn K mainGlobals "play" = some (some (.ref f12)))
    (l12 : K.lookup f12 = some ⟨oc12, od12, .func (PySem.W.fnOf "play" "play" (defArgs sPlay) (defBody sPlay) (defScope sPlay) .none kV12 dc12 pm12 an12 cd12 ct12), sl12⟩)
    (c12 : PySem.W.codeIn K cd12 "play" = true)
    (k12 : PySem.W.keepIn K (.ref f12) = true)
    (a13 : PySem.W.nsIn K mainGlobals "count_cards" = some (some (.ref f13)))
    (l13 : K.lookup f13 = some ⟨oc13, od13, .func (PySem.W.fnOf "count_cards" "count_cards" (defArgs sCountCards) (defBody sCountCards) (defScope sCountCards) .none kV13 dc13 pm13 an13 cd13 ct13), sl13⟩)
    (c13 : PySem.W.codeIn K cd13 "count_cards" = true)
    (k13 : PySem.W.keepIn K (.ref f13) = true)
    (a14 : PySem.W.nsIn K mainGlobals "count_storeys" = some (some (.ref f14)))
    (l14 : K.lookup f14 = some ⟨oc14, od14, .func (PySem.W.fnOf "count_storeys" "count_storeys" (defArgs sCountStoreys) (defBody sCountStoreys) (defScope sCountStoreys) .none kV14 dc14 pm14 an14 cd14 ct14), sl14⟩)
    (c14 : PySem.W.codeIn K cd14 "count_storeys" = true)
    (k14 : PySem.W.keepIn K (.ref f14) = true)
    (a15 : PySem.W.nsIn K mainGlobals "look" = some (some (.ref f15)))
    (l15 : K.lookup f15 = some ⟨oc15, od15, .func (PySem.W.fnOf "look" "look" (defArgs sLook) (defBody sLook) (defScope sLook) .none kV15 dc15 pm15 an15 cd15 ct15), sl15⟩)
    (c15 : PySem.W.codeIn K cd15 "look" = true)
    (k15 : PySem.W.keepIn K (.ref f15) = true)
    (a16 : PySem.W.nsIn K mainGlobals "cards_needed" = some (some (.ref f16)))
    (l16 : K.lookup f16 = some ⟨oc16, od16, .func (PySem.W.fnOf "cards_needed" "cards_needed" (defArgs sNeeded) (defBody sNeeded) (defScope sNeeded) .none kV16 dc16 pm16 an16 cd16 ct16), sl16⟩)
    (c16 : PySem.W.codeIn K cd16 "cards_needed" = true)
    (k16 : PySem.W.keepIn K (.ref f16) = true)
    (a17 : PySem.W.nsIn K mainGlobals "set_worths" = some (some (.ref f17)))
    (l17 : K.lookup f17 = some ⟨oc17, od17, .func (PySem.W.fnOf "set_worths" "set_worths" (defArgs sSetWorths) (defBody sSetWorths) (defScope sSetWorths) .none kV17 dc17 pm17 an17 cd17 ct17), sl17⟩)
    (c17 : PySem.W.codeIn K cd17 "set_worths" = true)
    (k17 : PySem.W.keepIn K (.ref f17) = true)
    (a18 : PySem.W.nsIn K mainGlobals "least_beside" = some (some (.ref f18)))
    (l18 : K.lookup f18 = some ⟨oc18, od18, .func (PySem.W.fnOf "least_beside" "least_beside" (defArgs sLeast) (defBody sLeast) (defScope sLeast) .none kV18 dc18 pm18 an18 cd18 ct18), sl18⟩)
    (c18 : PySem.W.codeIn K cd18 "least_beside" = true)
    (k18 : PySem.W.keepIn K (.ref f18) = true)
    (a19 : PySem.W.nsIn K mainGlobals "piece_bits" = some (some (.ref f19)))
    (l19 : K.lookup f19 = some ⟨oc19, od19, .func (PySem.W.fnOf "piece_bits" "piece_bits" (defArgs sBits) (defBody sBits) (defScope sBits) .none kV19 dc19 pm19 an19 cd19 ct19), sl19⟩)
    (c19 : PySem.W.codeIn K cd19 "piece_bits" = true)
    (k19 : PySem.W.keepIn K (.ref f19) = true)
    (a20 : PySem.W.nsIn K mainGlobals "rest_marks" = some (some (.ref f20)))
    (l20 : K.lookup f20 = some ⟨oc20, od20, .func (PySem.W.fnOf "rest_marks" "rest_marks" (defArgs sRestMarks) (defBody sRestMarks) (defScope sRestMarks) .none kV20 dc20 pm20 an20 cd20 ct20), sl20⟩)
    (c20 : PySem.W.codeIn K cd20 "rest_marks" = true)
    (k20 : PySem.W.keepIn K (.ref f20) = true)
    (a21 : PySem.W.nsIn K mainGlobals "fall_marks" = some (some (.ref f21)))
    (l21 : K.lookup f21 = some ⟨oc21, od21, .func (PySem.W.fnOf "fall_marks" "fall_marks" (defArgs sFallMarks) (defBody sFallMarks) (defScope sFallMarks) .none kV21 dc21 pm21 an21 cd21 ct21), sl21⟩)
    (c21 : PySem.W.codeIn K cd21 "fall_marks" = true)
    (k21 : PySem.W.keepIn K (.ref f21) = true)
    (a22 : PySem.W.nsIn K mainGlobals "falling" = some (some (.ref f22)))
    (l22 : K.lookup f22 = some ⟨oc22, od22, .func (PySem.W.fnOf "falling" "falling" (defArgs sFalling) (defBody sFalling) (defScope sFalling) .none kV22 dc22 pm22 an22 cd22 ct22), sl22⟩)
    (c22 : PySem.W.codeIn K cd22 "falling" = true)
    (k22 : PySem.W.keepIn K (.ref f22) = true)
    (a23 : PySem.W.nsIn K mainGlobals "clear_away" = some (some (.ref f23)))
    (l23 : K.lookup f23 = some ⟨oc23, od23, .func (PySem.W.fnOf "clear_away" "clear_away" (defArgs sClear) (defBody sClear) (defScope sClear) .none kV23 dc23 pm23 an23 cd23 ct23), sl23⟩)
    (c23 : PySem.W.codeIn K cd23 "clear_away" = true)
    (k23 : PySem.W.keepIn K (.ref f23) = true)
    (a24 : PySem.W.nsIn K mainGlobals "add_piece" = some (some (.ref f24)))
    (l24 : K.lookup f24 = some ⟨oc24, od24, .func (PySem.W.fnOf "add_piece" "add_piece" (defArgs sAdd) (defBody sAdd) (defScope sAdd) .none kV24 dc24 pm24 an24 cd24 ct24), sl24⟩)
    (c24 : PySem.W.codeIn K cd24 "add_piece" = true)
    (k24 : PySem.W.keepIn K (.ref f24) = true)
    (a25 : PySem.W.nsIn K mainGlobals "add_storey" = some (some (.ref f25)))
    (l25 : K.lookup f25 = some ⟨oc25, od25, .func (PySem.W.fnOf "add_storey" "add_storey" (defArgs sStorey) (defBody sStorey) (defScope sStorey) .none kV25 dc25 pm25 an25 cd25 ct25), sl25⟩)
    (c25 : PySem.W.codeIn K cd25 "add_storey" = true)
    (k25 : PySem.W.keepIn K (.ref f25) = true)
    (t0 : PySem.W.nsIn K mainGlobals "BEGIN" = some (some (.int (0) tk0)))
    (t1 : PySem.W.nsIn K mainGlobals "PUT" = some (some (.int (1) tk1)))
    (t2 : PySem.W.nsIn K mainGlobals "STOREYED" = some (some (.int (2) tk2)))
    (t3 : PySem.W.nsIn K mainGlobals "WOULD" = some (some (.int (3) tk3)))
    (t4 : PySem.W.nsIn K mainGlobals "TAKE" = some (some (.int (4) tk4)))
    (t5 : PySem.W.nsIn K mainGlobals "FREE" = some (some (.int (5) tk5)))
    (t6 : PySem.W.nsIn K mainGlobals "ORDERS" = some (some (.int (6) tk6)))
    (t7 : PySem.W.nsIn K mainGlobals "HIGH" = some (some (.int (7) tk7)))
    (t8 : PySem.W.nsIn K mainGlobals "WORTH" = some (some (.int (8) tk8)))
    (t9 : PySem.W.nsIn K mainGlobals "PLAY" = some (some (.int (9) tk9)))
    (t10 : PySem.W.nsIn K mainGlobals "CARDS" = some (some (.int (10) tk10)))
    (t11 : PySem.W.nsIn K mainGlobals "STOREYS" = some (some (.int (11) tk11)))
    (t12 : PySem.W.nsIn K mainGlobals "WRONG" = some (some (.int (-1) tk12)))
    (t13 : PySem.W.nsIn K mainGlobals "NO_PIECE" = some (some (.int (-2) tk13)))
    (t14 : PySem.W.nsIn K mainGlobals "FULL" = some (some (.int (-5) tk14)))
    (t15 : PySem.W.nsIn K mainGlobals "NO_TAKE" = some (some (.int (-6) tk15)))
    (t16 : PySem.W.nsIn K mainGlobals "NO_HOUSE" = some (some (.int (-9) tk16)))
    (t17 : PySem.W.nsIn K mainGlobals "CARD" = some (some (.int (1) tk17)))
    (t18 : PySem.W.nsIn K mainGlobals "PAIR" = some (some (.int (2) tk18)))
    (t19 : PySem.W.nsIn K mainGlobals "MOST_PIECES" = some (some (.int (9) tk19)))
    (t20 : PySem.W.nsIn K mainGlobals "MOST_STOREYS" = some (some (.int (3) tk20)))
    (t21 : PySem.W.nsIn K mainGlobals "MOST_STOREYS_COUNTED" = some (some (.int (100) tk21)))
    (t22 : PySem.W.nsIn K mainGlobals "MOST_CARDS_COUNTED" = some (some (.int (1000) tk22)))
    (z0 : PySem.W.nsIn K mainGlobals "len" = some none)
    (z1 : PySem.W.nsIn K mainGlobals "any" = some none)
    (z2 : PySem.W.nsIn K mainGlobals "sum" = some none)
    (z3 : PySem.W.nsIn K mainGlobals "range" = some none)
    (z4 : PySem.W.nsIn K mainGlobals "zip" = some none)
    (z5 : PySem.W.nsIn K mainGlobals "set" = some none)
    (z6 : PySem.W.nsIn K mainGlobals "max" = some none)
    (z7 : PySem.W.nsIn K mainGlobals "list" = some none)
    (aT : PySem.W.nsIn K mainGlobals "LENGTHS" = some (some (.ref fT)))
    (lT : K.lookup fT = some ⟨.type "tuple", odT, .seq itT nT, slT⟩)
    (sT : itT.size ≤ sizeLine)
    (vT : Vals (LEN.map nV) itT.toList)
    : ∃ fd : FuncData, (∀ (s : Shared) (us : List Value), us.length = (["calls"] : List Str).length → BindsTo s fd ⟨us, []⟩ ((["calls"] : List Str).zip us)) ∧ ∀ base : Heap, K.In base → base.Ns mainGlobals mg → FnOk P w K mg base CX0 7 fa fd ["calls"] (spAnswers K) := by
  have e := hfa.symm.trans (PySem.W.mg_of X G a0)
  cases e
  have T : Txt K mg CP CH := ⟨⟨pgP, hdP, poP, saP⟩, ⟨pgH, hdH, poH, saH⟩, n_cards, n_rests, n_begun, n_pieces, n_coming, PySem.W.mg_of X G aCP, PySem.W.mg_of X G aCH, PySem.W.mg_none_of X G z0, PySem.W.mg_none_of X G z1, PySem.W.mg_none_of X G z2, PySem.W.mg_none_of X G z3, PySem.W.mg_none_of X G z4, PySem.W.mg_none_of X G z5, PySem.W.mg_none_of X G z6, PySem.W.mg_none_of X G z7, ⟨fT, PySem.W.mg_of X G aT, fun _ => .inr ⟨_, itT, nT, lT, rfl, rfl, sT, vT⟩⟩, ⟨_, PySem.W.mg_of X G t0⟩, ⟨_, PySem.W.mg_of X G t1⟩, ⟨_, PySem.W.mg_of X G t2⟩, ⟨_, PySem.W.mg_of X G t3⟩, ⟨_, PySem.W.mg_of X G t4⟩, ⟨_, PySem.W.mg_of X G t5⟩, ⟨_, PySem.W.mg_of X G t6⟩, ⟨_, PySem.W.mg_of X G t7⟩, ⟨_, PySem.W.mg_of X G t8⟩, ⟨_, PySem.W.mg_of X G t9⟩, ⟨_, PySem.W.mg_of X G t10⟩, ⟨_, PySem.W.mg_of X G t11⟩, ⟨_, PySem.W.mg_of X G t12⟩, ⟨_, PySem.W.mg_of X G t13⟩, ⟨_, PySem.W.mg_of X G t14⟩, ⟨_, PySem.W.mg_of X G t15⟩, ⟨_, PySem.W.mg_of X G t16⟩, ⟨_, PySem.W.mg_of X G t17⟩, ⟨_, PySem.W.mg_of X G t18⟩, ⟨_, PySem.W.mg_of X G t19⟩, ⟨_, PySem.W.mg_of X G t20⟩, ⟨_, PySem.W.mg_of X G t21⟩, ⟨_, PySem.W.mg_of X G t22⟩⟩
  have FP := fun_mk (st := sPieceInit) lP cP kP
  have bP := FP.binds (ps := ["self", "cards", "rests"]) fun _ _ _ _ _ _ us hl => match us, hl with | [_, _, _], _ => rfl
  have FH := fun_mk (st := sHouseInit) lH cH kH
  have bH := FH.binds (ps := ["self"]) fun _ _ _ _ _ _ us hl => match us, hl with | [_], _ => rfl
  have F0 := fun_mk (st := sAnswers) l0 c0 k0
  have F1 := fun_mk (st := sLength) l1 c1 k1
  have b1 := F1.binds (ps := ["calls", "at"]) fun _ _ _ _ _ _ us hl => match us, hl with | [_, _], _ => rfl
  have F2 := fun_mk (st := sCall) l2 c2 k2
  have b2 := F2.binds (ps := ["house", "call"]) fun _ _ _ _ _ _ us hl => match us, hl with | [_, _], _ => rfl
  have F3 := fun_mk (st := sBegin) l3 c3 k3
  have b3 := F3.binds (ps := ["house"]) fun _ _ _ _ _ _ us hl => match us, hl with | [_], _ => rfl
  have F4 := fun_mk (st := sPut) l4 c4 k4
  have b4 := F4.binds (ps := ["house", "cards", "rests"]) fun _ _ _ _ _ _ us hl => match us, hl with | [_, _, _], _ => rfl
  have F5 := fun_mk (st := sStoreyed) l5 c5 k5
  have b5 := F5.binds (ps := ["house", "storeys"]) fun _ _ _ _ _ _ us hl => match us, hl with | [_, _], _ => rfl
  have F6 := fun_mk (st := sWould) l6 c6 k6
  have b6 := F6.binds (ps := ["house", "number"]) fun _ _ _ _ _ _ us hl => match us, hl with | [_, _], _ => rfl
  have F7 := fun_mk (st := sTake) l7 c7 k7
  have b7 := F7.binds (ps := ["house", "number"]) fun _ _ _ _ _ _ us hl => match us, hl with | [_, _], _ => rfl
  have F8 := fun_mk (st := sFree) l8 c8 k8
  have b8 := F8.binds (ps := ["house"]) fun _ _ _ _ _ _ us hl => match us, hl with | [_], _ => rfl
  have F9 := fun_mk (st := sOrders) l9 c9 k9
  have b9 := F9.binds (ps := ["house"]) fun _ _ _ _ _ _ us hl => match us, hl with | [_], _ => rfl
  have F10 := fun_mk (st := sHigh) l10 c10 k10
  have b10 := F10.binds (ps := ["house"]) fun _ _ _ _ _ _ us hl => match us, hl with | [_], _ => rfl
  have F11 := fun_mk (st := sWorth) l11 c11 k11
  have b11 := F11.binds (ps := ["house"]) fun _ _ _ _ _ _ us hl => match us, hl with | [_], _ => rfl
  have F12 := fun_mk (st := sPlay) l12 c12 k12
  have b12 := F12.binds (ps := ["house"]) fun _ _ _ _ _ _ us hl => match us, hl with | [_], _ => rfl
  have F13 := fun_mk (st := sCountCards) l13 c13 k13
  have b13 := F13.binds (ps := ["storeys"]) fun _ _ _ _ _ _ us hl => match us, hl with | [_], _ => rfl
  have F14 := fun_mk (st := sCountStoreys) l14 c14 k14
  have b14 := F14.binds (ps := ["cards"]) fun _ _ _ _ _ _ us hl => match us, hl with | [_], _ => rfl
  have F15 := fun_mk (st := sLook) l15 c15 k15
  have b15 := F15.binds (ps := ["house"]) fun _ _ _ _ _ _ us hl => match us, hl with | [_], _ => rfl
  have F16 := fun_mk (st := sNeeded) l16 c16 k16
  have b16 := F16.binds (ps := ["storeys"]) fun _ _ _ _ _ _ us hl => match us, hl with | [_], _ => rfl
  have F17 := fun_mk (st := sSetWorths) l17 c17 k17
  have b17 := F17.binds (ps := ["marks"]) fun _ _ _ _ _ _ us hl => match us, hl with | [_], _ => rfl
  have F18 := fun_mk (st := sLeast) l18 c18 k18
  have b18 := F18.binds (ps := ["numbers"]) fun _ _ _ _ _ _ us hl => match us, hl with | [_], _ => rfl
  have F19 := fun_mk (st := sBits) l19 c19 k19
  have b19 := F19.binds (ps := ["house"]) fun _ _ _ _ _ _ us hl => match us, hl with | [_], _ => rfl
  have F20 := fun_mk (st := sRestMarks) l20 c20 k20
  have b20 := F20.binds (ps := ["house"]) fun _ _ _ _ _ _ us hl => match us, hl with | [_], _ => rfl
  have F21 := fun_mk (st := sFallMarks) l21 c21 k21
  have b21 := F21.binds (ps := ["house"]) fun _ _ _ _ _ _ us hl => match us, hl with | [_], _ => rfl
  have F22 := fun_mk (st := sFalling) l22 c22 k22
  have b22 := F22.binds (ps := ["house", "taken"]) fun _ _ _ _ _ _ us hl => match us, hl with | [_, _], _ => rfl
  have F23 := fun_mk (st := sClear) l23 c23 k23
  have b23 := F23.binds (ps := ["house"]) fun _ _ _ _ _ _ us hl => match us, hl with | [_], _ => rfl
  have F24 := fun_mk (st := sAdd) l24 c24 k24
  have b24 := F24.binds (ps := ["house", "cards", "rests"]) fun _ _ _ _ _ _ us hl => match us, hl with | [_, _, _], _ => rfl
  have F25 := fun_mk (st := sStorey) l25 c25 k25
  have b25 := F25.binds (ps := ["house", "grounds"]) fun _ _ _ _ _ _ us hl => match us, hl with | [_, _], _ => rfl
  refine ⟨PySem.W.fnOf "answers" "answers" (defArgs sAnswers) (defBody sAnswers) (defScope sAnswers) .none kV0 dc0 pm0 an0 cd0 ct0, fun s us hu => match us, hu with | [_], _ => .of_eq rfl, fun base _ _ => ?_⟩
  have cFall : Cal P w K mg base "falling" 1 ["house", "taken"] (spFalling CP CH) := ⟨_, _, PySem.W.mg_of X G a22, k22, b22, ok_falling F22 T⟩
  have cFallL : Cal P w K mg base "falling" 1 ["house", "taken"] (spFallingL CP CH) := ⟨_, _, PySem.W.mg_of X G a22, k22, b22, ok_fallingL F22 T⟩
  have cClear : Cal P w K mg base "clear_away" 1 ["house"] (spClear CH) := ⟨_, _, PySem.W.mg_of X G a23, k23, b23, ok_clear F23 T⟩
  have cAdd : Cal P w K mg base "add_piece" 3 ["house", "cards", "rests"] (spAdd CP CH) := ⟨_, _, PySem.W.mg_of X G a24, k24, b24, ok_add F24 T ⟨mkP, aP, iP, kcP⟩ FP bP⟩
  have cStorey : Cal P w K mg base "add_storey" 4 ["house", "grounds"] (spStorey CP CH) := ⟨_, _, PySem.W.mg_of X G a25, k25, b25, ok_storey F25 T cAdd⟩
  have cBits : Cal P w K mg base "piece_bits" 1 ["house"] (spBits CP CH) := ⟨_, _, PySem.W.mg_of X G a19, k19, b19, ok_bits F19 T⟩
  have cMarks : Cal P w K mg base "rest_marks" 2 ["house"] (spMarks CP CH) := ⟨_, _, PySem.W.mg_of X G a20, k20, b20, ok_marks F20 T cBits⟩
  have cFMarks : Cal P w K mg base "fall_marks" 2 ["house"] (spFallMarks CP CH) := ⟨_, _, PySem.W.mg_of X G a21, k21, b21, ok_fallMarks F21 T cBits cFallL⟩
  have cLeast : Cal P w K mg base "least_beside" 1 ["numbers"] (spLeast K) := ⟨_, _, PySem.W.mg_of X G a18, k18, b18, ok_least F18 T⟩
  have cSetW : Cal P w K mg base "set_worths" 2 ["marks"] spSetWorths := ⟨_, _, PySem.W.mg_of X G a17, k17, b17, ok_setWorths F17 T cLeast⟩
  have cNeed : Cal P w K mg base "cards_needed" 1 ["storeys"] spNeeded := ⟨_, _, PySem.W.mg_of X G a16, k16, b16, ok_needed F16 T⟩
  have cBegin : Cal P w K mg base "begin" 2 ["house"] (spBegin CP CH) := ⟨_, _, PySem.W.mg_of X G a3, k3, b3, ok_begin F3 T cClear⟩
  have cPut : Cal P w K mg base "put" 4 ["house", "cards", "rests"] (spPut CP CH) := ⟨_, _, PySem.W.mg_of X G a4, k4, b4, ok_put F4 T cAdd⟩
  have cStoreyed : Cal P w K mg base "storeyed" 5 ["house", "storeys"] (spStoreyed CP CH) := ⟨_, _, PySem.W.mg_of X G a5, k5, b5, ok_storeyed F5 T cClear cStorey⟩
  have cWould : Cal P w K mg base "would" 2 ["house", "number"] (spWould CP CH) := ⟨_, _, PySem.W.mg_of X G a6, k6, b6, ok_would F6 T cFall⟩
  have cTake : Cal P w K mg base "take" 2 ["house", "number"] (spTake CP CH) := ⟨_, _, PySem.W.mg_of X G a7, k7, b7, ok_take F7 T cFall⟩
  have cFree : Cal P w K mg base "free" 1 ["house"] (spFree CP CH) := ⟨_, _, PySem.W.mg_of X G a8, k8, b8, ok_free F8 T⟩
  have cOrders : Cal P w K mg base "orders" 3 ["house"] (spOrders CP CH) := ⟨_, _, PySem.W.mg_of X G a9, k9, b9, ok_orders F9 T cMarks⟩
  have cHigh : Cal P w K mg base "high" 1 ["house"] (spHigh CP CH) := ⟨_, _, PySem.W.mg_of X G a10, k10, b10, ok_high F10 T⟩
  have cWorth : Cal P w K mg base "worth" 3 ["house"] (spWorth CP CH) := ⟨_, _, PySem.W.mg_of X G a11, k11, b11, ok_worth F11 T cFMarks cSetW⟩
  have cPlay : Cal P w K mg base "play" 4 ["house"] (spPlay CP CH) := ⟨_, _, PySem.W.mg_of X G a12, k12, b12, ok_play F12 T cWorth cTake⟩
  have cCards : Cal P w K mg base "count_cards" 2 ["storeys"] spCountCards := ⟨_, _, PySem.W.mg_of X G a13, k13, b13, ok_countCards F13 T cNeed⟩
  have cStoreys : Cal P w K mg base "count_storeys" 2 ["cards"] spCountStoreys := ⟨_, _, PySem.W.mg_of X G a14, k14, b14, ok_countStoreys F14 T cNeed⟩
  have cLook : Cal P w K mg base "look" 1 ["house"] (spLook CP CH) := ⟨_, _, PySem.W.mg_of X G a15, k15, b15, ok_look F15 T⟩
  have cLen : Cal P w K mg base "call_length" 1 ["calls", "at"] (spLength K) := ⟨_, _, PySem.W.mg_of X G a1, k1, b1, ok_length F1 T⟩
  have cCall : Cal P w K mg base "answer_call" 6 ["house", "call"] (spCall CP CH) := ⟨_, _, PySem.W.mg_of X G a2, k2, b2, ok_call F2 T cBegin cPut cStoreyed cWould cTake cFree cOrders cHigh cWorth cPlay cCards cStoreys cLook⟩
  exact ok_answers F0 T ⟨mkH, aH, iH, kcH⟩ FH bH cLen cCall s1_all
end LH
open PySem PySem.W PyProof.Rows
set_option maxRecDepth 100000 in
set_option maxHeartbeats 0 in
theorem PySem.Challenge.cw_leanhouse_s01_answers_holds : PySem.Challenge.rw_leanhouse_s01_answers.Holds := by
  w_on; k_headS; (case hw => exact ⟨[.list [.int 0]], by decide +kernel, by decide +kernel⟩)
  k_fillS
  refine L2.walk_specK (r := PySem.Challenge.rw_leanhouse_s01_answers) (k := 7) (CX := L2.CX0) (ps := ["calls"]) (sp := LH.spAnswers) (by decide +kernel) rfl rfl ⟨rfl, by decide, by decide⟩ (fun w h Y => PySem.W.kIn_of Y) ?F ?S (fun _ _ _ _ z => z)
  case F =>
    intro w mg fa h Y KX G hmg
    refine' LH.all_mk KX G hmg ?aCP ?aP ?iP ?lP ?cP ?kP ?pgP ?hdP ?poP ?saP ?mkP ?kcP ?aCH ?aH ?iH ?lH ?cH ?kH ?pgH ?hdH ?poH ?saH ?mkH ?kcH ?n_cards ?n_rests ?n_begun ?n_pieces ?n_coming ?a0 ?l0 ?c0 ?k0 ?a1 ?l1 ?c1 ?k1 ?a2 ?l2 ?c2 ?k2 ?a3 ?l3 ?c3 ?k3 ?a4 ?l4 ?c4 ?k4 ?a5 ?l5 ?c5 ?k5 ?a6 ?l6 ?c6 ?k6 ?a7 ?l7 ?c7 ?k7 ?a8 ?l8 ?c8 ?k8 ?a9 ?l9 ?c9 ?k9 ?a10 ?l10 ?c10 ?k10 ?a11 ?l11 ?c11 ?k11 ?a12 ?l12 ?c12 ?k12 ?a13 ?l13 ?c13 ?k13 ?a14 ?l14 ?c14 ?k14 ?a15 ?l15 ?c15 ?k15 ?a16 ?l16 ?c16 ?k16 ?a17 ?l17 ?c17 ?k17 ?a18 ?l18 ?c18 ?k18 ?a19 ?l19 ?c19 ?k19 ?a20 ?l20 ?c20 ?k20 ?a21 ?l21 ?c21 ?k21 ?a22 ?l22 ?c22 ?k22 ?a23 ?l23 ?c23 ?k23 ?a24 ?l24 ?c24 ?k24 ?a25 ?l25 ?c25 ?k25 ?t0 ?t1 ?t2 ?t3 ?t4 ?t5 ?t6 ?t7 ?t8 ?t9 ?t10 ?t11 ?t12 ?t13 ?t14 ?t15 ?t16 ?t17 ?t18 ?t19 ?t20 ?t21 ?t22 ?z0 ?z1 ?z2 ?z3 ?z4 ?z5 ?z6 ?z7 ?aT ?lT ?sT ?vT
    (case aCP => k_is)
    (case aP => k_is)
    (case iP => k_is)
    (case lP => k_is)
    (case cP => k_is)
    (case kP => k_is)
    (case pgP => k_is)
    (case hdP => k_is)
    (case poP => k_is)
    (case saP => k_is)
    (case mkP => k_is)
    (case kcP => k_is)
    (case aCH => k_is)
    (case aH => k_is)
    (case iH => k_is)
    (case lH => k_is)
    (case cH => k_is)
    (case kH => k_is)
    (case pgH => k_is)
    (case hdH => k_is)
    (case poH => k_is)
    (case saH => k_is)
    (case mkH => k_is)
    (case kcH => k_is)
    (case n_cards => k_is)
    (case n_rests => k_is)
    (case n_begun => k_is)
    (case n_pieces => k_is)
    (case n_coming => k_is)
    (case a0 => k_is)
    (case l0 => k_is)
    (case c0 => k_is)
    (case k0 => k_is)
    (case a1 => k_is)
    (case l1 => k_is)
    (case c1 => k_is)
    (case k1 => k_is)
    (case a2 => k_is)
    (case l2 => k_is)
    (case c2 => k_is)
    (case k2 => k_is)
    (case a3 => k_is)
    (case l3 => k_is)
    (case c3 => k_is)
    (case k3 => k_is)
    (case a4 => k_is)
    (case l4 => k_is)
    (case c4 => k_is)
    (case k4 => k_is)
    (case a5 => k_is)
    (case l5 => k_is)
    (case c5 => k_is)
    (case k5 => k_is)
    (case a6 => k_is)
    (case l6 => k_is)
    (case c6 => k_is)
    (case k6 => k_is)
    (case a7 => k_is)
    (case l7 => k_is)
    (case c7 => k_is)
    (case k7 => k_is)
    (case a8 => k_is)
    (case l8 => k_is)
    (case c8 => k_is)
    (case k8 => k_is)
    (case a9 => k_is)
    (case l9 => k_is)
    (case c9 => k_is)
    (case k9 => k_is)
    (case a10 => k_is)
    (case l10 => k_is)
    (case c10 => k_is)
    (case k10 => k_is)
    (case a11 => k_is)
    (case l11 => k_is)
    (case c11 => k_is)
    (case k11 => k_is)
    (case a12 => k_is)
    (case l12 => k_is)
    (case c12 => k_is)
    (case k12 => k_is)
    (case a13 => k_is)
    (case l13 => k_is)
    (case c13 => k_is)
    (case k13 => k_is)
    (case a14 => k_is)
    (case l14 => k_is)
    (case c14 => k_is)
    (case k14 => k_is)
    (case a15 => k_is)
    (case l15 => k_is)
    (case c15 => k_is)
    (case k15 => k_is)
    (case a16 => k_is)
    (case l16 => k_is)
    (case c16 => k_is)
    (case k16 => k_is)
    (case a17 => k_is)
    (case l17 => k_is)
    (case c17 => k_is)
    (case k17 => k_is)
    (case a18 => k_is)
    (case l18 => k_is)
    (case c18 => k_is)
    (case k18 => k_is)
    (case a19 => k_is)
    (case l19 => k_is)
    (case c19 => k_is)
    (case k19 => k_is)
    (case a20 => k_is)
    (case l20 => k_is)
    (case c20 => k_is)
    (case k20 => k_is)
    (case a21 => k_is)
    (case l21 => k_is)
    (case c21 => k_is)
    (case k21 => k_is)
    (case a22 => k_is)
    (case l22 => k_is)
    (case c22 => k_is)
    (case k22 => k_is)
    (case a23 => k_is)
    (case l23 => k_is)
    (case c23 => k_is)
    (case k23 => k_is)
    (case a24 => k_is)
    (case l24 => k_is)
    (case c24 => k_is)
    (case k24 => k_is)
    (case a25 => k_is)
    (case l25 => k_is)
    (case c25 => k_is)
    (case k25 => k_is)
    (case t0 => k_is)
    (case t1 => k_is)
    (case t2 => k_is)
    (case t3 => k_is)
    (case t4 => k_is)
    (case t5 => k_is)
    (case t6 => k_is)
    (case t7 => k_is)
    (case t8 => k_is)
    (case t9 => k_is)
    (case t10 => k_is)
    (case t11 => k_is)
    (case t12 => k_is)
    (case t13 => k_is)
    (case t14 => k_is)
    (case t15 => k_is)
    (case t16 => k_is)
    (case t17 => k_is)
    (case t18 => k_is)
    (case t19 => k_is)
    (case t20 => k_is)
    (case t21 => k_is)
    (case t22 => k_is)
    (case z0 => k_is)
    (case z1 => k_is)
    (case z2 => k_is)
    (case z3 => k_is)
    (case z4 => k_is)
    (case z5 => k_is)
    (case z6 => k_is)
    (case z7 => k_is)
    (case aT => k_is)
    (case lT => k_is)
    (case sT => decide)
    (case vT => exact .cons ⟨_, rfl⟩ (.cons ⟨_, rfl⟩ (.cons ⟨_, rfl⟩ (.cons ⟨_, rfl⟩ (.cons ⟨_, rfl⟩ (.cons ⟨_, rfl⟩ (.cons ⟨_, rfl⟩ (.cons ⟨_, rfl⟩ (.cons ⟨_, rfl⟩ (.cons ⟨_, rfl⟩ (.cons ⟨_, rfl⟩ (.cons ⟨_, rfl⟩ (.cons ⟨_, rfl⟩ (.nil))))))))))))))
  case S =>
    intro K H xs a hO hwi hask hx
    cases hx with
    | cons h1 h2 =>
      cases h2
      cases h1 with
      | lst hs ha =>
        have e := L2.ints_dw a.1 _ ha
        subst e
        have q : ((Codec.inLen 0 780 a.1 && a.1.all (Codec.inInt 0 2000)) && true) = true := hwi
        rw [Bool.and_eq_true, Bool.and_eq_true] at q
        exact ⟨_, a.1, rfl, hs, (Codec.inNat_iff.mp q.1.1).2, hask, fun H' p hp => .lst (L2.SqL.of hp) (L2.dw_ints _)⟩
