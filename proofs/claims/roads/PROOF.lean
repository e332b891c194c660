import PyProof.Rows.All
import Wide.All
import OpenK.AllK
import Wide.FinOn
import PyProof.EqAt
import PyProof.EqKinds
import PyProof.TupleCall
import Open.SpecLaws
import KE.OsGo
import HandS.ForSpec
import HandS.Comp
import HandS.Dict
import HandS.Iter
import HandS.Walk
import HandS.Text
import HandS.More
import HandS.TupSets
import HandS.Flow
import HandS.WordsDict
import KE.DataMinMax
import PySem.Challenge.RW_knownroads_s01_answers
set_option Elab.async false
set_option maxRecDepth 100000
set_option maxHeartbeats 4000000
set_option linter.all false
/-! Lists of whole numbers, the least of a list, what is rising, how many there can be. Core Lean alone. -/
namespace KR
open Ql82

theorem pigeon : ∀ (n : Nat) (l : List Nat), l.Nodup → (∀ x ∈ l, x < n) → l.length ≤ n
  | 0, [], _, _ => Nat.le_refl _
  | 0, x :: r, _, h => absurd (h x (List.mem_cons_self ..)) (Nat.not_lt_zero _)
  | n + 1, l, hn, h => by
    have hf : (l.filter (fun x => decide (x ≠ n))).length ≤ n := by
      refine pigeon n _ (List.Pairwise.filter _ hn) fun x hx => ?_
      rw [List.mem_filter] at hx
      have h1 := h x hx.1
      have h2 : x ≠ n := of_decide_eq_true hx.2
      omega
    have key : ∀ (l : List Nat), l.Nodup → l.length ≤ (l.filter (fun x => decide (x ≠ n))).length + 1 := by
      intro l
      induction l with
      | nil => intro _; simp
      | cons a r ih =>
        intro hn
        rw [List.nodup_cons] at hn
        have ih' := ih hn.2
        by_cases e : a = n
        · subst e
          have hall : r.filter (fun x => decide (x ≠ a)) = r := by
            rw [List.filter_eq_self]
            intro x hx
            exact decide_eq_true (fun q => hn.1 (q ▸ hx))
          rw [List.filter_cons_of_neg (by simp), hall]
          simp
        · rw [List.filter_cons_of_pos (by simp [e])]
          simp only [List.length_cons]
          omega
    have := key l hn
    omega

/-! ### the least -/
theorem least_none : ∀ {l : List Nat}, least l = none ↔ l = []
  | [] => by simp [least]
  | a :: l => by
    simp [least]
theorem least_some_mem : ∀ {l : List Nat} {m : Nat}, least l = some m → m ∈ l ∧ ∀ x ∈ l, m ≤ x
  | [], m, h => by simp [least] at h
  | a :: l, m, h => by
    simp only [least, Option.some.injEq] at h
    cases e : least l with
    | none =>
      rw [e] at h
      have h' : a = m := h
      subst h'
      have := least_none.mp e
      subst this
      simp
    | some b =>
      rw [e] at h
      have h' : min a b = m := h
      obtain ⟨h1, h2⟩ := least_some_mem e
      subst h'
      refine ⟨?_, fun x hx => ?_⟩
      · by_cases c : a ≤ b
        · rw [Nat.min_eq_left c]; exact List.mem_cons_self ..
        · rw [Nat.min_eq_right (by omega)]; exact List.mem_cons_of_mem _ h1
      · rcases List.mem_cons.mp hx with rfl | hx
        · exact Nat.min_le_left _ _
        · exact Nat.le_trans (Nat.min_le_right _ _) (h2 x hx)
theorem least_eq_some {l : List Nat} {m : Nat} (h1 : m ∈ l) (h2 : ∀ x ∈ l, m ≤ x) : least l = some m := by
  cases e : least l with
  | none => rw [least_none.mp e] at h1; cases h1
  | some b =>
    obtain ⟨g1, g2⟩ := least_some_mem e
    have a := h2 b g1
    have b' := g2 m h1
    rw [Nat.le_antisymm a b']
theorem least_le {l : List Nat} {x : Nat} (h : x ∈ l) : ∃ m, least l = some m ∧ m ≤ x := by
  cases e : least l with
  | none => rw [least_none.mp e] at h; cases h
  | some b => exact ⟨b, rfl, (least_some_mem e).2 x h⟩
/-- one more at the end -/
theorem least_snoc (l : List Nat) (c : Nat) : least (l ++ [c]) = some (match least l with | none => c | some b => min c b) := by
  cases e : least l with
  | none =>
    rw [least_none.mp e]; rfl
  | some b =>
    obtain ⟨h1, h2⟩ := least_some_mem e
    refine least_eq_some ?_ ?_
    · show min c b ∈ _
      by_cases q : c ≤ b
      · rw [Nat.min_eq_left q]; simp
      · rw [Nat.min_eq_right (by omega)]; exact List.mem_append_left _ h1
    · intro x hx
      show min c b ≤ x
      rcases List.mem_append.mp hx with hx | hx
      · exact Nat.le_trans (Nat.min_le_right _ _) (h2 x hx)
      · simp at hx; subst hx; exact Nat.min_le_left _ _
/-- two lists with the same members have the same least -/
theorem least_congr {l r : List Nat} (h : ∀ x, x ∈ l ↔ x ∈ r) : least l = least r := by
  cases e : least l with
  | none =>
    have := least_none.mp e
    subst this
    have : r = [] := by
      cases r with
      | nil => rfl
      | cons a r => exact absurd ((h a).mpr (List.mem_cons_self ..)) (by simp)
    rw [this]; rfl
  | some m =>
    obtain ⟨h1, h2⟩ := least_some_mem e
    exact (least_eq_some ((h m).mp h1) fun x hx => h2 x ((h x).mpr hx)).symm

/-! ### rising lists -/
theorem rise_eq : ∀ {l r : List Nat}, l.Pairwise (· < ·) → r.Pairwise (· < ·) → (∀ x, x ∈ l ↔ x ∈ r) → l = r
  | [], [], _, _, _ => rfl
  | [], b :: r, _, _, h => absurd ((h b).mpr (List.mem_cons_self ..)) (by simp)
  | a :: l, [], _, _, h => absurd ((h a).mp (List.mem_cons_self ..)) (by simp)
  | a :: l, b :: r, hl, hr, h => by
    rw [List.pairwise_cons] at hl hr
    have e : a = b := by
      have h1 : a ∈ b :: r := (h a).mp (List.mem_cons_self ..)
      have h2 : b ∈ a :: l := (h b).mpr (List.mem_cons_self ..)
      rcases List.mem_cons.mp h1 with e | h1
      · exact e
      · rcases List.mem_cons.mp h2 with e | h2
        · exact e.symm
        · have := hl.1 b h2
          have := hr.1 a h1
          omega
    subst e
    rw [rise_eq hl.2 hr.2 fun x => ?_]
    constructor
    · intro hx
      have h1 := (h x).mp (List.mem_cons_of_mem _ hx)
      rcases List.mem_cons.mp h1 with e | h1
      · have := hl.1 x hx; omega
      · exact h1
    · intro hx
      have h1 := (h x).mpr (List.mem_cons_of_mem _ hx)
      rcases List.mem_cons.mp h1 with e | h1
      · have := hr.1 x hx; omega
      · exact h1
theorem range_rise (n : Nat) : (List.range n).Pairwise (· < ·) := List.pairwise_lt_range

theorem filterMap_range {α β : Type} (g : α → Option β) : ∀ (l : List α), ((List.range l.length).filterMap fun p => (l[p]?).bind g) = l.filterMap g := by
  intro l
  induction l with
  | nil => rfl
  | cons a r ih =>
    rw [List.length_cons, List.range_succ_eq_map, List.filterMap_cons, List.filterMap_map, List.filterMap_cons]
    have e : (fun p => ((a :: r)[p]?).bind g) ∘ Nat.succ = fun p => (r[p]?).bind g := by
      funext p
      simp
    rw [e, ih]
    rfl

/-! ### a line list of the program: what the specification says of it -/
/-- (nb, cost); cost 0: the line is down -/
def lineOf (x : Nat × Nat) : Option (Nat × Nat) := if x.2 = 0 then none else some x
def linesOf (ls : List (Nat × Nat)) : Nat → Option (Nat × Nat) := fun p => (ls[p]?).bind lineOf
/-- what it costs to v by each of the lines -/
def costs (ls : List (Nat × Nat)) (v : Nat) : List Nat := ls.filterMap fun x => if x.2 ≠ 0 ∧ x.1 = v then some x.2 else none
def roadsBy (ls : List (Nat × Nat)) : List (Nat × Nat) := (List.range ROUTERS).filterMap fun v => (least (costs ls v)).map fun c => (v, c)
theorem roads_is {s : St} {ls : List (Nat × Nat)} (h : s.lines = linesOf ls) (hl : ls.length = 8) : s.roads = roadsBy ls := by
  unfold St.roads roadsBy
  congr 1
  funext v
  have e : ((List.range LINES).filterMap fun (p : Nat) => (s.lines p).bind fun (x : Nat × Nat) => if x.1 = v then some x.2 else none) = costs ls v := by
    unfold costs
    rw [← filterMap_range _ ls, hl, h]
    show List.filterMap _ (List.range 8) = _
    congr 1
    funext p
    unfold linesOf
    cases ls[p]? with
    | none => rfl
    | some x =>
      show (lineOf x).bind _ = (if x.2 ≠ 0 ∧ x.1 = v then some x.2 else none)
      unfold lineOf
      by_cases c : x.2 = 0
      · simp [c]
      · simp [c]
  rw [e]
theorem costs_snoc (ls : List (Nat × Nat)) (x : Nat × Nat) (v : Nat) : costs (ls ++ [x]) v = costs ls v ++ (if x.2 ≠ 0 ∧ x.1 = v then [x.2] else []) := by
  unfold costs
  rw [List.filterMap_append]
  congr 1
  by_cases c : x.2 ≠ 0 ∧ x.1 = v
  · simp [c]
  · simp [c]
theorem costs_pos {ls : List (Nat × Nat)} {v c : Nat} (h : c ∈ costs ls v) : 0 < c ∧ (v, c) ∈ ls := by
  unfold costs at h
  rw [List.mem_filterMap] at h
  obtain ⟨x, hx, e⟩ := h
  by_cases q : x.2 ≠ 0 ∧ x.1 = v
  · rw [if_pos q] at e
    have e' : x.2 = c := Option.some.inj e
    subst e'
    obtain ⟨q1, rfl⟩ := q
    exact ⟨by omega, hx⟩
  · rw [if_neg q] at e; cases e
theorem roadsBy_mem {ls : List (Nat × Nat)} {r : Nat × Nat} : r ∈ roadsBy ls ↔ r.1 < 64 ∧ least (costs ls r.1) = some r.2 := by
  unfold roadsBy
  rw [List.mem_filterMap]
  constructor
  · rintro ⟨v, hv, e⟩
    rw [List.mem_range] at hv
    cases q : least (costs ls v) with
    | none => rw [q] at e; cases e
    | some c =>
      rw [q] at e
      have e' : (v, c) = r := Option.some.inj e
      subst e'
      exact ⟨hv, q⟩
  · rintro ⟨h1, h2⟩
    exact ⟨r.1, List.mem_range.mpr h1, by rw [h2]; rfl⟩
theorem roadsBy_rise (ls : List (Nat × Nat)) : (roadsBy ls).Pairwise fun a b => a.1 < b.1 := by
  unfold roadsBy
  refine List.Pairwise.filterMap (R := (· < ·)) _ ?_ (range_rise _)
  intro a a' h b hb b' hb'
  cases q : least (costs ls a) with
  | none => rw [q] at hb; cases hb
  | some c =>
    cases q' : least (costs ls a') with
    | none => rw [q'] at hb'; cases hb'
    | some c' =>
      rw [q] at hb; rw [q'] at hb'
      have e : (a, c) = b := Option.some.inj hb
      have e' : (a', c') = b' := Option.some.inj hb'
      subst e e'
      exact h
theorem roadsBy_len (ls : List (Nat × Nat)) : (roadsBy ls).length ≤ 64 := by
  unfold roadsBy
  refine Nat.le_trans (List.length_filterMap_le _ _) ?_
  rw [List.length_range]
  exact Nat.le_refl _
/-- the program's way: the keys that have a cost, rising, each with the least of its costs -/
theorem roadsBy_by {ls : List (Nat × Nat)} {ys : List Nat} {f : Nat → Nat} (h : ys.Pairwise (· < ·)) (hm : ∀ v, v ∈ ys ↔ v < 64 ∧ costs ls v ≠ []) (hf : ∀ v ∈ ys, least (costs ls v) = some (f v)) :
    roadsBy ls = ys.map fun v => (v, f v) := by
  have e : ys = (List.range 64).filter fun v => decide (costs ls v ≠ []) := by
    refine rise_eq h (List.Pairwise.filter _ (range_rise _)) fun x => ?_
    rw [hm, List.mem_filter, List.mem_range]
    simp
  unfold roadsBy
  show (List.range 64).filterMap _ = _
  have key : ∀ (l : List Nat), (∀ v ∈ l, v < 64) → (l.filterMap fun v => (least (costs ls v)).map fun c => (v, c)) = (l.filter fun v => decide (costs ls v ≠ [])).map fun v => (v, f v) := by
    intro l
    induction l with
    | nil => intro _; rfl
    | cons a r ih =>
      intro hl
      have ih' := ih fun v hv => hl v (List.mem_cons_of_mem _ hv)
      by_cases c : costs ls a = []
      · rw [List.filterMap_cons_none (by rw [least_none.mpr c]; rfl), List.filter_cons_of_neg (by simp [c]), ih']
      · have q := hf a ((hm a).mpr ⟨hl a (List.mem_cons_self ..), c⟩)
        rw [List.filterMap_cons_some (b := (a, f a)) (by rw [q]; rfl), List.filter_cons_of_pos (by simp [c]), ih']
        rfl
  rw [key _ fun v hv => List.mem_range.mp hv, ← e]
end KR

/-! Messages: what is well formed, what it tells. Core Lean alone. -/
namespace KR
open Ql82

/-- what the roads of a router x must be -/
def RoadsOk (x : Nat) (rs : List (Nat × Nat)) : Prop := (rs.Pairwise fun a b => a.1 < b.1) ∧ ∀ r ∈ rs, r.1 < 64 ∧ r.1 ≠ x ∧ 0 < r.2
structure AdOk (x : Nat) (a : Ad) : Prop where
  pos : 1 ≤ a.seq
  top : a.seq ≤ LAST
  ok : RoadsOk x a.roads
  wide : ∀ r ∈ a.roads, r.2 ≤ 65535
  few : a.roads.length ≤ 64

theorem rising_iff : ∀ {l : List (Nat × Nat)}, rising l = true ↔ l.Pairwise fun a b => a.1 < b.1
  | [] => by simp [rising]
  | [x] => by simp [rising]
  | x :: y :: l => by
    show (decide (x.1 < y.1) && rising (y :: l)) = true ↔ _
    rw [Bool.and_eq_true, decide_eq_true_iff, rising_iff (l := y :: l), List.pairwise_cons (a := x)]
    constructor
    · rintro ⟨h1, h2⟩
      refine ⟨fun z hz => ?_, h2⟩
      rcases List.mem_cons.mp hz with rfl | hz
      · exact h1
      · exact Nat.lt_trans h1 ((List.pairwise_cons.mp h2).1 z hz)
    · rintro ⟨h1, h2⟩
      exact ⟨h1 y (List.mem_cons_self ..), h2⟩

/-- the i-th road of the bytes behind the head -/
def tri (r : List Nat) (i : Nat) : Nat × Nat := (r.getD (3 * i) 0, 256 * r.getD (3 * i + 1) 0 + r.getD (3 * i + 2) 0)
theorem roadsOf_is : ∀ (k : Nat) (r : List Nat), r.length = 3 * k → roadsOf r = some ((List.range k).map (tri r))
  | 0, [], _ => rfl
  | 0, _ :: _, h => by simp at h
  | k + 1, [], h => by simp at h
  | k + 1, [_], h => by simp at h; omega
  | k + 1, [_, _], h => by simp at h; omega
  | k + 1, v :: a :: b :: r, h => by
    have hr : r.length = 3 * k := by simp at h; omega
    rw [roadsOf, roadsOf_is k r hr, List.range_succ_eq_map, List.map_cons, List.map_map]
    have e : tri (v :: a :: b :: r) ∘ Nat.succ = tri r := by
      funext i
      show tri (v :: a :: b :: r) (i + 1) = tri r i
      unfold tri
      have e0 : 3 * (i + 1) = (3 * i) + 3 := by omega
      have e1 : 3 * (i + 1) + 1 = (3 * i + 1) + 3 := by omega
      have e2 : 3 * (i + 1) + 2 = (3 * i + 2) + 3 := by omega
      rw [e0]
      have e1 : 3 * i + 3 + 1 = (3 * i + 1) + 3 := by omega
      have e2 : 3 * i + 3 + 2 = (3 * i + 2) + 3 := by omega
      rw [e1, e2]
      rfl
    rw [e]
    rfl
theorem roadsOf_len : ∀ {r : List Nat} {l : List (Nat × Nat)}, roadsOf r = some l → r.length = 3 * l.length
  | [], l, h => by
    have e : [] = l := Option.some.inj h
    subst e; rfl
  | [_], l, h => by simp [roadsOf] at h
  | [_, _], l, h => by simp [roadsOf] at h
  | v :: a :: b :: r, l, h => by
    rw [roadsOf] at h
    cases e : roadsOf r with
    | none => rw [e] at h; cases h
    | some l' =>
      rw [e] at h
      have e' : (v, 256 * a + b) :: l' = l := Option.some.inj h
      subst e'
      have := roadsOf_len e
      simp; omega

/-- the number of the head -/
def numOf (b : List Nat) : Nat := 16777216 * b.getD 2 0 + 65536 * b.getD 3 0 + 256 * b.getD 4 0 + b.getD 5 0
def hasLen (b : List Nat) : Prop := 6 ≤ b.length ∧ b.getD 1 0 ≤ 8 ∧ b.length = 6 + 3 * b.getD 1 0
def roadsIn (b : List Nat) : List (Nat × Nat) := (List.range (b.getD 1 0)).map (tri (b.drop 6))
theorem heard_short {b : List Nat} (h : b.length < 6) : heard b = none := by
  match b, h with
  | [], _ => rfl
  | [_], _ => rfl
  | [_, _], _ => rfl
  | [_, _, _], _ => rfl
  | [_, _, _, _], _ => rfl
  | [_, _, _, _, _], _ => rfl
  | _ :: _ :: _ :: _ :: _ :: _ :: r, h => simp at h; omega
theorem heard_not {b : List Nat} (h : ¬ hasLen b) : heard b = none := by
  by_cases h6 : b.length < 6
  · exact heard_short h6
  · match b, h6, h with
    | x :: k :: a :: b :: c :: d :: r, _, h =>
      unfold heard
      show (roadsOf r).bind _ = none
      cases e : roadsOf r with
      | none => rfl
      | some l =>
        have hl := roadsOf_len e
        rw [Option.bind_some]
        refine if_neg fun q => h ?_
        obtain ⟨_, q1, q2, _⟩ := q
        have q3 : k ≤ 8 := q2
        refine ⟨by simp, q3, ?_⟩
        show (x :: k :: a :: b :: c :: d :: r).length = 6 + 3 * k
        simp; omega
    | [], h6, _ => simp at h6
    | [_], h6, _ => simp at h6
    | [_, _], h6, _ => simp at h6
    | [_, _, _], h6, _ => simp at h6
    | [_, _, _, _], h6, _ => simp at h6
    | [_, _, _, _, _], h6, _ => simp at h6
/-- what is well formed -/
def Wf (x n : Nat) (rs : List (Nat × Nat)) : Prop := x < 64 ∧ n ≠ 0 ∧ RoadsOk x rs
theorem all_ok {x : Nat} {rs : List (Nat × Nat)} : (rising rs = true ∧ (rs.all fun (y : Nat × Nat) => decide (y.1 < ROUTERS) && (y.1 != x && y.2 != 0)) = true) ↔ RoadsOk x rs := by
  rw [rising_iff, List.all_eq_true]
  unfold RoadsOk
  refine and_congr Iff.rfl (forall_congr' fun r => forall_congr' fun _ => ?_)
  rw [Bool.and_eq_true, Bool.and_eq_true, decide_eq_true_iff]
  show (r.1 < 64 ∧ _) ↔ _
  simp
  omega
theorem heard_has {b : List Nat} (h : hasLen b) : (Wf (b.getD 0 0) (numOf b) (roadsIn b) → heard b = some (b.getD 0 0, ⟨numOf b, roadsIn b⟩)) ∧ (¬ Wf (b.getD 0 0) (numOf b) (roadsIn b) → heard b = none) := by
  match b, h with
  | x :: k :: a :: b :: c :: d :: r, h =>
    obtain ⟨_, h1, h2⟩ := h
    have h1' : k ≤ 8 := h1
    have h2' : (x :: k :: a :: b :: c :: d :: r).length = 6 + 3 * k := h2
    have hr : r.length = 3 * k := by simp at h2'; omega
    have e : heard (x :: k :: a :: b :: c :: d :: r) = if x < ROUTERS ∧ ((List.range k).map (tri r)).length = k ∧ k ≤ LINES ∧ 1 ≤ 16777216 * a + 65536 * b + 256 * c + d ∧ rising ((List.range k).map (tri r)) = true ∧ (((List.range k).map (tri r)).all fun (y : Nat × Nat) => decide (y.1 < ROUTERS) && (y.1 != x && y.2 != 0)) = true then some (x, (⟨16777216 * a + 65536 * b + 256 * c + d, (List.range k).map (tri r)⟩ : Ad)) else none := by
      show (roadsOf r).bind _ = _
      rw [roadsOf_is k r hr, Option.bind_some]
    show (Wf x (16777216 * a + 65536 * b + 256 * c + d) ((List.range k).map (tri r)) → _ = some (x, (⟨16777216 * a + 65536 * b + 256 * c + d, (List.range k).map (tri r)⟩ : Ad))) ∧ (¬ Wf x (16777216 * a + 65536 * b + 256 * c + d) ((List.range k).map (tri r)) → _)
    rw [e]
    constructor
    · intro w
      rw [if_pos]
      obtain ⟨w1, w2, w3⟩ := w
      have w3' := all_ok.mpr w3
      exact ⟨w1, by simp, h1', by omega, w3'.1, w3'.2⟩
    · intro w
      rw [if_neg]
      rintro ⟨q1, _, _, q2, q3, q4⟩
      exact w ⟨q1, by omega, all_ok.mp ⟨q3, q4⟩⟩
  | [], h => exact absurd h.1 (by simp)
  | [_], h => exact absurd h.1 (by simp)
  | [_, _], h => exact absurd h.1 (by simp)
  | [_, _, _], h => exact absurd h.1 (by simp)
  | [_, _, _, _], h => exact absurd h.1 (by simp)
  | [_, _, _, _, _], h => exact absurd h.1 (by simp)
theorem getD_byte {b : List Nat} (h : ∀ x ∈ b, x < 256) (i : Nat) : b.getD i 0 < 256 := by
  rw [List.getD_eq_getElem?_getD]
  cases e : b[i]? with
  | none => simp
  | some x => simpa using h x (List.mem_of_getElem? e)
theorem numOf_le {b : List Nat} (h : ∀ x ∈ b, x < 256) : numOf b ≤ LAST := by
  have h2 := getD_byte h 2
  have h3 := getD_byte h 3
  have h4 := getD_byte h 4
  have h5 := getD_byte h 5
  unfold numOf LAST
  omega
theorem roadsIn_wide {b : List Nat} (h : ∀ x ∈ b, x < 256) : ∀ r ∈ roadsIn b, r.2 ≤ 65535 := by
  intro r hr
  unfold roadsIn at hr
  rw [List.mem_map] at hr
  obtain ⟨i, _, rfl⟩ := hr
  have hd : ∀ x ∈ b.drop 6, x < 256 := fun x hx => h x (List.mem_of_mem_drop hx)
  have h1 := getD_byte hd (3 * i + 1)
  have h2 := getD_byte hd (3 * i + 2)
  show 256 * _ + _ ≤ 65535
  omega
theorem adOk_heard {b : List Nat} (h : ∀ x ∈ b, x < 256) (hl : hasLen b) (w : Wf (b.getD 0 0) (numOf b) (roadsIn b)) : AdOk (b.getD 0 0) ⟨numOf b, roadsIn b⟩ := by
  refine ⟨?_, numOf_le h, w.2.2, roadsIn_wide h, ?_⟩
  · have := w.2.1
    show 1 ≤ numOf b
    omega
  · have := hl.2.1
    show (roadsIn b).length ≤ 64
    unfold roadsIn
    rw [List.length_map, List.length_range]
    omega
/-- the bytes that tell of a router, as whole numbers -/
def toldI (x : Nat) (a : Ad) : List Int := (told x a).map fun (n : Nat) => (n : Int)
theorem told_is (x : Nat) (a : Ad) : told x a = [x, a.roads.length, a.seq / 16777216 % 256, a.seq / 65536 % 256, a.seq / 256 % 256, a.seq % 256] ++ a.roads.flatMap fun (r : Nat × Nat) => [r.1, r.2 / 256 % 256, r.2 % 256] := rfl
theorem told_len (x : Nat) (a : Ad) : (told x a).length = 6 + 3 * a.roads.length := by
  rw [told_is, List.length_append]
  have : ∀ l : List (Nat × Nat), (l.flatMap fun (r : Nat × Nat) => [r.1, r.2 / 256 % 256, r.2 % 256]).length = 3 * l.length := by
    intro l
    induction l with
    | nil => rfl
    | cons r l ih => rw [List.flatMap_cons, List.length_append, ih, List.length_cons]; simp; omega
  rw [this]; rfl
end KR

/-! What a router always keeps to. Core Lean alone. -/
namespace KR
open Ql82

structure Good (s : St) : Prop where
  me : s.me < 64
  ln : ∀ p x, s.lines p = some x → p < 8 ∧ x.1 < 64 ∧ x.1 ≠ s.me ∧ 0 < x.2 ∧ x.2 ≤ 65535
  ad : ∀ x a, s.ads x = some a → x < 64 ∧ AdOk x a
  own : (s.ads s.me).isSome = true
  wt : ∀ p x, s.waits p x = true → p < 8 ∧ s.isUp p = true ∧ (s.ads x).isSome = true
theorem Good.own_is {s : St} (g : Good s) : s.ads s.me = some s.own := by
  unfold St.own
  cases e : s.ads s.me with
  | none => have := g.own; rw [e] at this; cases this
  | some a => rfl
theorem good_begun {m : Nat} (h : m < 64) : Good (begun m) := by
  refine ⟨h, fun p x e => (by cases e), fun x a e => ?_, ?_, fun p x e => (by cases e)⟩
  · have e' : (if x = m then some (⟨1, []⟩ : Ad) else none) = some a := e
    by_cases c : x = m
    · rw [if_pos c] at e'
      cases e'
      subst c
      exact ⟨h, by show (1 : Nat) ≤ 1; decide, by show (1 : Nat) ≤ LAST; decide, ⟨List.Pairwise.nil, fun r hr => (by cases hr)⟩, fun r hr => (by cases hr), by show (0 : Nat) ≤ 64; decide⟩
    · rw [if_neg c] at e'; cases e'
  · show (if m = m then some (⟨1, []⟩ : Ad) else none).isSome = true
    rw [if_pos rfl]; rfl
/-- the lines as a list -/
theorem good_ls {s : St} (g : ∀ p x, s.lines p = some x → p < 8 ∧ x.1 < 64 ∧ x.1 ≠ s.me ∧ 0 < x.2 ∧ x.2 ≤ 65535) : ∃ ls : List (Nat × Nat), ls.length = 8 ∧ s.lines = linesOf ls := by
  refine ⟨(List.range 8).map fun p => (s.lines p).getD (0, 0), by simp, ?_⟩
  funext p
  unfold linesOf
  rw [List.getElem?_map]
  by_cases hp : p < 8
  · rw [List.getElem?_range hp]
    show s.lines p = lineOf ((s.lines p).getD (0, 0))
    cases e : s.lines p with
    | none => rfl
    | some x =>
      have := (g p x e).2.2.2.1
      show some x = lineOf x
      unfold lineOf
      rw [if_neg (by omega)]
  · rw [List.getElem?_eq_none (by simp; omega)]
    cases e : s.lines p with
    | none => rfl
    | some x => exact absurd (g p x e).1 hp
theorem roads_ok {s : St} (hm : ∀ p x, s.lines p = some x → p < 8 ∧ x.1 < 64 ∧ x.1 ≠ s.me ∧ 0 < x.2 ∧ x.2 ≤ 65535) {n : Nat} (h1 : 1 ≤ n) (h2 : n ≤ LAST) : AdOk s.me ⟨n, s.roads⟩ := by
  obtain ⟨ls, l8, e⟩ := good_ls hm
  have er : s.roads = roadsBy ls := roads_is e l8
  rw [er]
  have key : ∀ r ∈ roadsBy ls, r.1 < 64 ∧ r.1 ≠ s.me ∧ 0 < r.2 ∧ r.2 ≤ 65535 := by
    intro r hr
    obtain ⟨q1, q2⟩ := roadsBy_mem.mp hr
    obtain ⟨q3, _⟩ := least_some_mem q2
    obtain ⟨q4, q5⟩ := costs_pos q3
    obtain ⟨i, hi, ei⟩ := List.getElem_of_mem q5
    have el : s.lines i = some (r.1, r.2) := by
      rw [e]
      unfold linesOf
      rw [List.getElem?_eq_getElem hi, ei]
      show lineOf (r.1, r.2) = _
      unfold lineOf
      exact if_neg (by show ¬ r.2 = 0; omega)
    obtain ⟨_, a, b, c, d⟩ := hm i _ el
    exact ⟨a, b, c, d⟩
  exact ⟨h1, h2, ⟨roadsBy_rise ls, fun r hr => ⟨(key r hr).1, (key r hr).2.1, (key r hr).2.2.1⟩⟩, fun r hr => (key r hr).2.2.2, roadsBy_len ls⟩
theorem good_known {s : St} (g : Good s) {x : Nat} {a : Ad} (hx : x < 64) (ha : AdOk x a) : Good (s.known x a) := by
  refine ⟨g.me, g.ln, fun y b e => ?_, ?_, fun p y e => ?_⟩
  · have e' : (if y = x then some a else s.ads y) = some b := e
    by_cases c : y = x
    · subst c; rw [if_pos rfl] at e'; cases e'; exact ⟨hx, ha⟩
    · rw [if_neg c] at e'; exact g.ad y b e'
  · show (if s.me = x then some a else s.ads s.me).isSome = true
    by_cases c : s.me = x
    · rw [if_pos c]; rfl
    · rw [if_neg c]; exact g.own
  · obtain ⟨h1, h2, h3⟩ := g.wt p y e
    refine ⟨h1, h2, ?_⟩
    show (if y = x then some a else s.ads y).isSome = true
    by_cases c : y = x
    · rw [if_pos c]; rfl
    · rw [if_neg c]; exact h3
theorem good_wait {s : St} (g : Good s) {p x : Nat} {b : Bool} (h : b = true → p < 8 ∧ s.isUp p = true ∧ (s.ads x).isSome = true) : Good (s.wait p x b) := by
  refine ⟨g.me, g.ln, g.ad, g.own, fun q y e => ?_⟩
  have e' : (if q = p ∧ y = x then b else s.waits q y) = true := e
  by_cases c : q = p ∧ y = x
  · rw [if_pos c] at e'
    obtain ⟨rfl, rfl⟩ := c
    exact h e'
  · rw [if_neg c] at e'; exact g.wt q y e'
theorem good_spread {s : St} (g : Good s) {x : Nat} {but : Option Nat} (h : (s.ads x).isSome = true) : Good (s.spread x but) := by
  refine ⟨g.me, g.ln, g.ad, g.own, fun q y e => ?_⟩
  have e' : (if y = x then decide (but ≠ some q) && (decide (q < LINES) && s.isUp q) else s.waits q y) = true := e
  by_cases c : y = x
  · rw [if_pos c, Bool.and_eq_true, Bool.and_eq_true, decide_eq_true_iff, decide_eq_true_iff] at e'
    subst c
    exact ⟨e'.2.1, e'.2.2, h⟩
  · rw [if_neg c] at e'; exact g.wt q y e'
theorem good_renewed {s : St} (g : Good s) {n : Nat} (h1 : 1 ≤ n) (h2 : n ≤ LAST) : Good (s.renewed n) := by
  refine good_spread (good_known g g.me (roads_ok g.ln h1 h2)) ?_
  show (if s.me = s.me then some (⟨n, s.roads⟩ : Ad) else s.ads s.me).isSome = true
  rw [if_pos rfl]; rfl
/-- a line set, before anything is told -/
def lined (s : St) (p nb cost : Nat) : St := { s with lines := fun (q : Nat) => if q = p then (if cost = 0 then none else some (nb, cost)) else s.lines q, waits := fun (q x : Nat) => if q = p then decide (cost ≠ 0) && (s.ads x).isSome else s.waits q x }
theorem line_eq (s : St) (p nb cost : Nat) : s.line p nb cost = if (lined s p nb cost).roads = s.own.roads then some (lined s p nb cost) else if s.own.seq = LAST then none else some ((lined s p nb cost).renewed (s.own.seq + 1)) := rfl
theorem good_lined {s : St} (g : Good s) {p nb cost : Nat} (hp : p < 8) (h1 : nb < 64) (h2 : nb ≠ s.me) (h3 : cost ≤ 65535) : Good (lined s p nb cost) := by
  refine ⟨g.me, fun q x e => ?_, g.ad, g.own, fun q x e => ?_⟩
  · have e' : (if q = p then (if cost = 0 then none else some (nb, cost)) else s.lines q) = some x := e
    by_cases c : q = p
    · rw [if_pos c] at e'
      by_cases d : cost = 0
      · rw [if_pos d] at e'; cases e'
      · rw [if_neg d] at e'
        cases e'
        subst c
        refine ⟨hp, h1, h2, ?_, h3⟩
        show 0 < cost
        omega
    · rw [if_neg c] at e'; exact g.ln q x e'
  · have e' : (if q = p then decide (cost ≠ 0) && (s.ads x).isSome else s.waits q x) = true := e
    by_cases c : q = p
    · rw [if_pos c, Bool.and_eq_true, decide_eq_true_iff] at e'
      subst c
      refine ⟨hp, ?_, e'.2⟩
      show (if q = q then (if cost = 0 then none else some (nb, cost)) else s.lines q).isSome = true
      rw [if_pos rfl, if_neg e'.1]; rfl
    · rw [if_neg c] at e'
      obtain ⟨a1, a2, a3⟩ := g.wt q x e'
      refine ⟨a1, ?_, a3⟩
      show (if q = p then (if cost = 0 then none else some (nb, cost)) else s.lines q).isSome = true
      rw [if_neg c]; exact a2
theorem good_line {s t : St} (g : Good s) {p nb cost : Nat} (hp : p < 8) (h1 : nb < 64) (h2 : nb ≠ s.me) (h3 : cost ≤ 65535) (e : s.line p nb cost = some t) : Good t := by
  have gl := good_lined g hp h1 h2 h3
  rw [line_eq] at e
  split at e
  · cases e; exact gl
  · split at e
    · cases e
    · rename_i c
      cases e
      have q := (g.ad _ _ g.own_is).2
      have := q.top
      exact good_renewed gl (by omega) (by omega)
theorem good_hear {s : St} {t : St × Bool} (g : Good s) {p x : Nat} {a : Ad} (hp : p < 8) (hu : s.isUp p = true) (hx : x < 64) (ha : AdOk x a) (e : s.hear p x a = some t) : Good t.1 := by
  have kn : ((s.known x a).ads x).isSome = true := by
    show (if x = x then some a else s.ads x).isSome = true
    rw [if_pos rfl]; rfl
  unfold St.hear at e
  split at e
  · rename_i cm
    subst cm
    split at e
    · cases e; exact good_wait g fun _ => ⟨hp, hu, g.own⟩
    · split at e
      · cases e; exact good_wait g fun z => (by cases z)
      · split at e
        · cases e
        · cases e
          have := ha.top
          exact good_renewed g (by omega) (by omega)
  · split at e
    · cases e; exact good_spread (good_known g hx ha) kn
    · rename_i h hh
      split at e
      · cases e; exact good_spread (good_known g hx ha) kn
      · split at e
        · cases e; exact good_wait g fun _ => ⟨hp, hu, by rw [hh]; rfl⟩
        · cases e; exact good_wait g fun z => (by cases z)
theorem good_next {s : St} (g : Good s) {p : Nat} {z : Nat × Ad × St} (e : s.next p = some z) : Good z.2.2 := by
  unfold St.next at e
  cases q : (List.range ROUTERS).find? fun (x : Nat) => s.waits p x with
  | none => rw [q] at e; cases e
  | some x =>
    rw [q, Option.bind_some] at e
    cases r : s.ads x with
    | none => rw [r] at e; cases e
    | some a =>
      rw [r] at e
      cases e
      exact good_wait g fun z => (by cases z)
/-- who waits with the least name -/
theorem next_is {s : St} (g : Good s) {p x : Nat} (h1 : s.waits p x = true) (h2 : ∀ y, s.waits p y = true → x ≤ y) : ∃ a, s.ads x = some a ∧ s.next p = some (x, a, s.wait p x false) := by
  obtain ⟨_, _, h3⟩ := g.wt p x h1
  cases r : s.ads x with
  | none => rw [r] at h3; cases h3
  | some a =>
    refine ⟨a, rfl, ?_⟩
    have q : ((List.range ROUTERS).find? fun (x : Nat) => s.waits p x) = some x := by
      rw [List.find?_eq_some_iff_getElem]
      have hx := (g.ad x a r).1
      refine ⟨h1, x, by rw [List.length_range]; exact hx, by simp, fun j hj => ?_⟩
      rw [List.getElem_range]
      cases c : s.waits p j with
      | false => rfl
      | true => exact absurd (h2 j c) (by omega)
    unfold St.next
    rw [q, Option.bind_some, r]
    rfl
theorem next_none {s : St} {p : Nat} (h : ∀ y, s.waits p y = false) : s.next p = none := by
  have q : ((List.range ROUTERS).find? fun (x : Nat) => s.waits p x) = none := by
    rw [List.find?_eq_none]
    intro x _
    rw [h x]
    decide
  unfold St.next
  rw [q]
  rfl
end KR

/-! The least cost of a way: walks, no more than 63 roads, the table. Core Lean alone. -/
namespace KR
open Ql82

/-- a way from u to d, what its roads cost together, how many they are -/
inductive Walk (s : St) (d : Nat) : Nat → Nat → Nat → Prop where
  | here : Walk s d d 0 0
  | step {u v c y n : Nat} : v < 64 → s.road u v = some c → Walk s d v y n → Walk s d u (c + y) (n + 1)

theorem within_zero (s : St) (d u : Nat) : s.within d 0 u = if u = d then some 0 else none := rfl
theorem within_succ (s : St) (d n u : Nat) : s.within d (n + 1) u = least ((s.within d n u).toList ++ (List.range ROUTERS).filterMap fun (v : Nat) => (s.road u v).bind fun (c : Nat) => (s.within d n v).map fun (y : Nat) => c + y) := rfl
theorem within_sound (s : St) (d : Nat) : ∀ (n u x : Nat), s.within d n u = some x → ∃ m, m ≤ n ∧ Walk s d u x m
  | 0, u, x, h => by
    rw [within_zero] at h
    by_cases e : u = d
    · rw [if_pos e] at h; cases h; subst e; exact ⟨0, Nat.le_refl _, .here⟩
    · rw [if_neg e] at h; cases h
  | n + 1, u, x, h => by
    rw [within_succ] at h
    obtain ⟨hm, _⟩ := least_some_mem h
    rcases List.mem_append.mp hm with hm | hm
    · have e : s.within d n u = some x := by
        cases q : s.within d n u with
        | none => rw [q] at hm; cases hm
        | some y =>
          rw [q] at hm
          have : x = y := List.mem_singleton.mp hm
          rw [this]
      obtain ⟨m, h1, h2⟩ := within_sound s d n u x e
      exact ⟨m, by omega, h2⟩
    · rw [List.mem_filterMap] at hm
      obtain ⟨v, hv, e⟩ := hm
      rw [List.mem_range] at hv
      cases q : s.road u v with
      | none => rw [q] at e; cases e
      | some c =>
        rw [q, Option.bind_some] at e
        cases r : s.within d n v with
        | none => rw [r] at e; cases e
        | some y =>
          rw [r] at e
          cases e
          obtain ⟨m, h1, h2⟩ := within_sound s d n v y r
          exact ⟨m + 1, by omega, .step hv q h2⟩
theorem within_mono (s : St) (d n u x : Nat) (h : s.within d n u = some x) : ∃ y, s.within d (n + 1) u = some y ∧ y ≤ x := by
  rw [within_succ]
  refine least_le (List.mem_append_left _ ?_)
  rw [h]
  exact List.mem_singleton.mpr rfl
theorem within_le (s : St) (d u x : Nat) : ∀ (k n : Nat), s.within d n u = some x → ∃ y, s.within d (n + k) u = some y ∧ y ≤ x
  | 0, n, h => ⟨x, h, Nat.le_refl _⟩
  | k + 1, n, h => by
    obtain ⟨y, h1, h2⟩ := within_le s d u x k n h
    obtain ⟨z, h3, h4⟩ := within_mono s d (n + k) u y h1
    exact ⟨z, h3, by omega⟩
theorem within_complete {s : St} {d u y m : Nat} (w : Walk s d u y m) : ∀ n, m ≤ n → ∃ x, s.within d n u = some x ∧ x ≤ y := by
  induction w with
  | here =>
    intro n _
    have h0 : s.within d 0 d = some 0 := by rw [within_zero, if_pos rfl]
    obtain ⟨x, h1, h2⟩ := within_le s d d 0 n 0 h0
    rw [Nat.zero_add] at h1
    exact ⟨x, h1, h2⟩
  | @step u v c y k hv hr w ih =>
    intro n hn
    obtain ⟨n, rfl⟩ : ∃ n', n = n' + 1 := ⟨n - 1, by omega⟩
    obtain ⟨x, h1, h2⟩ := ih n (by omega)
    rw [within_succ]
    have hm : c + x ∈ (List.range ROUTERS).filterMap fun (v : Nat) => (s.road u v).bind fun (c : Nat) => (s.within d n v).map fun (y : Nat) => c + y := by
      rw [List.mem_filterMap]
      exact ⟨v, List.mem_range.mpr hv, by rw [hr, Option.bind_some, h1]; rfl⟩
    obtain ⟨z, h3, h4⟩ := least_le (List.mem_append_right (s.within d n u).toList hm)
    exact ⟨z, h3, by omega⟩

/-! ### no more than 63 roads are needed -/
/-- a way among the routers of L -/
inductive WalkIn (s : St) (L : List Nat) (d : Nat) : Nat → Nat → Prop where
  | here : d ∈ L → WalkIn s L d d 0
  | step {u v c y : Nat} : u ∈ L → s.road u v = some c → WalkIn s L d v y → WalkIn s L d u (c + y)
theorem WalkIn.mem {s : St} {L : List Nat} {d u y : Nat} (w : WalkIn s L d u y) : u ∈ L := by
  cases w with
  | here h => exact h
  | step h _ _ => exact h
/-- it leaves z for the last time, or never comes there -/
theorem last_at {s : St} {L : List Nat} {d u y : Nat} (z : Nat) (w : WalkIn s L d u y) :
    WalkIn s (L.filter fun x => decide (x ≠ z)) d u y ∨ d = z ∨ ∃ v c y', s.road z v = some c ∧ WalkIn s (L.filter fun x => decide (x ≠ z)) d v y' ∧ c + y' ≤ y := by
  induction w with
  | here h =>
    by_cases e : d = z
    · exact .inr (.inl e)
    · exact .inl (.here (List.mem_filter.mpr ⟨h, by simp [e]⟩))
  | @step u v c y hu hr w ih =>
    rcases ih with ih | ih | ⟨v', c', y', h1, h2, h3⟩
    · by_cases e : u = z
      · subst e
        exact .inr (.inr ⟨v, c, y, hr, ih, Nat.le_refl _⟩)
      · exact .inl (.step (List.mem_filter.mpr ⟨hu, by simp [e]⟩) hr ih)
    · exact .inr (.inl ih)
    · exact .inr (.inr ⟨v', c', y', h1, h2, by omega⟩)
theorem filter_shorter {L : List Nat} {z : Nat} (h : z ∈ L) : (L.filter fun x => decide (x ≠ z)).length < L.length := by
  induction L with
  | nil => cases h
  | cons a r ih =>
    by_cases e : a = z
    · subst e
      rw [List.filter_cons_of_neg (by simp)]
      exact Nat.lt_succ_of_le (List.length_filter_le _ _)
    · rw [List.filter_cons_of_pos (by simp [e])]
      have : z ∈ r := by
        rcases List.mem_cons.mp h with h | h
        · exact absurd h.symm e
        · exact h
      have := ih this
      simp only [List.length_cons]
      omega
theorem short_walk {s : St} {d : Nat} : ∀ (k : Nat) (L : List Nat) (u y : Nat), L.length = k → (∀ x ∈ L, x < 64) → WalkIn s L d u y → ∃ y' m, y' ≤ y ∧ m + 1 ≤ k ∧ Walk s d u y' m := by
  intro k
  induction k using Nat.strongRecOn with
  | ind k ih =>
    intro L u y hk hL w
    have hu := w.mem
    have key : d = u ∨ ∃ v c y', s.road u v = some c ∧ WalkIn s (L.filter fun x => decide (x ≠ u)) d v y' ∧ c + y' ≤ y := by
      rcases last_at u w with h | h | h
      · have := h.mem
        rw [List.mem_filter] at this
        exact absurd rfl (of_decide_eq_true this.2)
      · exact .inl h
      · exact .inr h
    rcases key with e | ⟨v, c, y', h1, h2, h3⟩
    · subst e
      have : 0 < L.length := List.length_pos_of_mem hu
      exact ⟨0, 0, Nat.zero_le _, by omega, .here⟩
    · have hlt := filter_shorter hu
      obtain ⟨y2, m, g1, g2, g3⟩ := ih _ (by omega) (L.filter fun x => decide (x ≠ u)) v y' rfl (fun x hx => hL x (List.mem_filter.mp hx).1) h2
      have hv : v < 64 := hL v (List.mem_filter.mp h2.mem).1
      exact ⟨c + y2, m + 1, by omega, by omega, .step hv h1 g3⟩
theorem walk_in {s : St} {d u y m : Nat} (w : Walk s d u y m) (hd : d < 64) (hu : u < 64) : WalkIn s (List.range 64) d u y := by
  induction w with
  | here => exact .here (List.mem_range.mpr hd)
  | step hv hr _ ih => exact .step (List.mem_range.mpr hu) hr (ih hv)

/-- the least cost is that of the cheapest way, however many roads it has -/
theorem far_some {s : St} {d u x : Nat} (h : s.far u d = some x) : ∃ m, Walk s d u x m := by
  obtain ⟨m, _, h2⟩ := within_sound s d _ u x h
  exact ⟨m, h2⟩
theorem far_least {s : St} {d u y m : Nat} (hd : d < 64) (hu : u < 64) (w : Walk s d u y m) : ∃ x, s.far u d = some x ∧ x ≤ y := by
  obtain ⟨y', m', h1, h2, h3⟩ := short_walk 64 (List.range 64) u y (by simp) (fun x hx => List.mem_range.mp hx) (walk_in w hd hu)
  obtain ⟨x, h4, h5⟩ := within_complete h3 63 (by omega)
  exact ⟨x, h4, by omega⟩
theorem far_iff {s : St} {d u x : Nat} (hd : d < 64) (hu : u < 64) : s.far u d = some x ↔ (∃ m, Walk s d u x m) ∧ ∀ y m, Walk s d u y m → x ≤ y := by
  constructor
  · intro h
    refine ⟨far_some h, fun y m w => ?_⟩
    obtain ⟨x', h1, h2⟩ := far_least hd hu w
    rw [h] at h1
    cases h1
    exact h2
  · rintro ⟨⟨m, w⟩, h⟩
    obtain ⟨x', h1, h2⟩ := far_least hd hu w
    obtain ⟨m', w'⟩ := far_some h1
    have := h x' m' w'
    rw [h1, Nat.le_antisymm h2 this]
/-- one road more at the end -/
theorem Walk.snoc {s : St} {a b u y m : Nat} (w : Walk s a u y m) {c : Nat} (hb : b < 64) (hr : s.road a b = some c) : Walk s b u (y + c) (m + 1) := by
  induction w with
  | here =>
    have := Walk.step hb hr (Walk.here (s := s) (d := b))
    rw [Nat.add_zero] at this
    rw [Nat.zero_add]
    exact this
  | step hv h _ ih =>
    rw [Nat.add_assoc]
    exact .step hv h ih
/-- costs to d, from everywhere: sound and closed -/
theorem far_to {s : St} {d : Nat} {D : Nat → Option Nat} (hd : d < 64) (sound : ∀ u x, u < 64 → D u = some x → ∃ m, Walk s d u x m) (h0 : D d = some 0)
    (closed : ∀ u v c y, u < 64 → v < 64 → s.road u v = some c → D v = some y → ∃ x, D u = some x ∧ x ≤ c + y) : ∀ u, u < 64 → s.far u d = D u := by
  have le : ∀ {u y m}, Walk s d u y m → u < 64 → ∃ x, D u = some x ∧ x ≤ y := by
    intro u y m w
    induction w with
    | here => exact fun _ => ⟨0, h0, Nat.le_refl _⟩
    | step hv hr _ ih =>
      intro hu
      obtain ⟨x, h1, h2⟩ := ih hv
      obtain ⟨z, h3, h4⟩ := closed _ _ _ _ hu hv hr h1
      exact ⟨z, h3, by omega⟩
  intro u hu
  cases e : D u with
  | none =>
    cases q : s.far u d with
    | none => rfl
    | some x =>
      obtain ⟨m, w⟩ := far_some q
      obtain ⟨z, h1, _⟩ := le w hu
      rw [e] at h1; cases h1
  | some x =>
    refine (far_iff hd hu).mpr ⟨sound u x hu e, fun y m w => ?_⟩
    obtain ⟨z, h1, h2⟩ := le w hu
    rw [e] at h1
    cases h1
    exact h2
/-- costs from a, to everywhere: sound and closed -/
theorem far_from {s : St} {a : Nat} {D : Nat → Option Nat} (ha : a < 64) (sound : ∀ v x, v < 64 → D v = some x → ∃ m, Walk s v a x m) (h0 : D a = some 0)
    (closed : ∀ u v c x, u < 64 → v < 64 → s.road u v = some c → D u = some x → ∃ z, D v = some z ∧ z ≤ x + c) : ∀ d, d < 64 → s.far a d = D d := by
  have gen : ∀ {d u y m}, Walk s d u y m → u < 64 → ∀ x, D u = some x → ∃ z, D d = some z ∧ z ≤ x + y := by
    intro d u y m w
    induction w with
    | here => exact fun _ x h => ⟨x, h, Nat.le_refl _⟩
    | step hv hr _ ih =>
      intro hu x hx
      obtain ⟨z, h1, h2⟩ := closed _ _ _ _ hu hv hr hx
      obtain ⟨z', h3, h4⟩ := ih hv z h1
      exact ⟨z', h3, by omega⟩
  intro d hd
  cases e : D d with
  | none =>
    cases q : s.far a d with
    | none => rfl
    | some x =>
      obtain ⟨m, w⟩ := far_some q
      obtain ⟨z, h1, _⟩ := gen w ha 0 h0
      rw [e] at h1; cases h1
  | some x =>
    refine (far_iff hd ha).mpr ⟨sound d x hd e, fun y m w => ?_⟩
    obtain ⟨z, h1, h2⟩ := gen w ha 0 h0
    rw [e] at h1
    cases h1
    omega

/-! ### the table of the specification is the same -/
open Ql82Neutral
theorem row_get (s : St) (d n x : Nat) (h : x < 64) : (row s d n).getD x none = s.within d n x := by
  unfold row
  rw [List.getD_eq_getElem?_getD, List.getElem?_map, List.getElem?_range (show x < ROUTERS from h)]
  rfl
theorem nextRow_row (s : St) (d n : Nat) : nextRow s (row s d n) = row s d (n + 1) := by
  unfold nextRow
  show _ = (List.range ROUTERS).map (s.within d (n + 1))
  refine List.map_congr_left fun x hx => ?_
  have hx' : x < 64 := List.mem_range.mp hx
  rw [within_succ, row_get s d n x hx']
  congr 2
theorem row_stays {s : St} {d n : Nat} (h : row s d (n + 1) = row s d n) : ∀ k, row s d (n + k) = row s d n
  | 0 => rfl
  | k + 1 => by
    rw [← Nat.add_assoc, ← nextRow_row, row_stays h k, nextRow_row, h]
theorem rounds_row (s : St) (d : Nat) : ∀ (k n : Nat), rounds s k (row s d n) = row s d (n + k)
  | 0, n => rfl
  | k + 1, n => by
    show (if nextRow s (row s d n) = row s d n then row s d n else rounds s k (nextRow s (row s d n))) = _
    rw [nextRow_row]
    by_cases e : row s d (n + 1) = row s d n
    · rw [if_pos e, row_stays e]
    · rw [if_neg e, rounds_row s d k (n + 1)]
      congr 1
      omega
theorem farBy_is (s : St) (d u : Nat) : farBy s d (table s d) u = s.far u d := by
  unfold farBy table
  rw [rounds_row]
  by_cases h : u < ROUTERS
  · rw [if_pos h, row_get s d _ u h, Nat.zero_add, St.far]
  · rw [if_neg h]
theorem waysBy_is (s : St) (d : Nat) : waysBy s d (table s d) = s.ways d := by
  unfold waysBy St.ways
  by_cases e : d = s.me
  · rw [if_pos e, if_pos e]
  · rw [if_neg e, if_neg e]
    refine List.filter_congr fun p _ => ?_
    cases s.lines p with
    | none => rfl
    | some x =>
      simp only [farBy_is]
      generalize s.far x.1 d = o1
      generalize s.far s.me d = o2
      cases o1 <;> cases o2 <;> rfl
/-- what a call does, without the table -/
theorem does_is (a : Abs) (c : Ql82.Call) : does a c = spec a c := by
  unfold does
  split
  · rename_i d s
    rw [farBy_is]
    simp only [spec]
    generalize s.far s.me d.toNat = o
    cases o <;> rfl
  · rename_i d s
    rw [waysBy_is]
    simp only [spec]
  · rfl
end KR

/-! A list of calls, call by call. Core Lean alone. -/
namespace KR
open Ql82

/-- a call as it stands in the list: its numbers, what it is, the rest -/
inductive Reads : List Int → List (List Int) → List Int → Prop where
  | begin_ (m : Int) (t : List Int) : Reads (0 :: m :: t) [[0, m]] t
  | line (p nb c : Int) (t : List Int) : Reads (1 :: p :: nb :: c :: t) [[1, p, nb, c]] t
  | hear (p : Int) (b t : List Int) : Reads (2 :: p :: (b.length : Int) :: (b ++ t)) [[2, p], b] t
  | next (p m : Int) (t : List Int) : Reads (3 :: p :: m :: t) [[3, p, m]] t
  | look (x m : Int) (t : List Int) : Reads (4 :: x :: m :: t) [[4, x, m]] t
  | far (d : Int) (t : List Int) : Reads (5 :: d :: t) [[5, d]] t
  | ways (d : Int) (t : List Int) : Reads (6 :: d :: t) [[6, d]] t
theorem reads_of {p : Int} {r : List Int} {c : List (List Int)} {t : List Int} (h : PyFlat.call PyQl82.shape (p :: r) = some (c, t)) : Reads (p :: r) c t := by
  unfold PyFlat.call PyQl82.shape at h
  by_cases h0 : p = 0
  · subst h0
    simp only [↓reduceIte] at h
    match r, h with
    | m :: r, h => simp [PyFlat.rows] at h; obtain ⟨rfl, rfl⟩ := h; exact .begin_ m r
    | [], h => simp at h
  by_cases h1 : p = 1
  · subst h1
    simp only [↓reduceIte, h0] at h
    match r, h with
    | a :: b :: c' :: r, h => simp [PyFlat.rows] at h; obtain ⟨rfl, rfl⟩ := h; exact .line a b c' r
    | [], h => simp at h
    | [_], h => simp at h
    | [_, _], h => simp at h
  by_cases h2 : p = 2
  · subst h2
    simp only [↓reduceIte, h0, h1] at h
    match r, h with
    | [], h => simp at h
    | [a], h => simp [PyFlat.rows, PyFlat.row] at h
    | a :: n :: r, h =>
      simp only [PyFlat.rows, PyFlat.row, List.length_cons, List.drop_succ_cons, List.drop_zero, List.take_succ_cons, List.take_zero] at h
      by_cases hn : 0 ≤ n ∧ n.toNat ≤ r.length
      · simp [hn] at h
        obtain ⟨rfl, rfl⟩ := h
        have e : n = ((r.take n.toNat).length : Int) := by rw [List.length_take]; omega
        have := Reads.hear a (r.take n.toNat) (r.drop n.toNat)
        rw [← e, List.take_append_drop] at this
        exact this
      · have hn' : ¬ (0 ≤ n ∧ n ≤ (r.length : Int)) := fun z => hn ⟨z.1, by omega⟩
        simp [hn'] at h
  by_cases h3 : p = 3
  · subst h3
    simp only [↓reduceIte, h0, h1, h2] at h
    match r, h with
    | a :: b :: r, h => simp [PyFlat.rows] at h; obtain ⟨rfl, rfl⟩ := h; exact .next a b r
    | [], h => simp at h
    | [_], h => simp at h
  by_cases h4 : p = 4
  · subst h4
    simp only [↓reduceIte, h0, h1, h2, h3] at h
    match r, h with
    | a :: b :: r, h => simp [PyFlat.rows] at h; obtain ⟨rfl, rfl⟩ := h; exact .look a b r
    | [], h => simp at h
    | [_], h => simp at h
  by_cases h5 : p = 5
  · subst h5
    simp only [↓reduceIte, h0, h1, h2, h3, h4] at h
    match r, h with
    | a :: r, h => simp [PyFlat.rows] at h; obtain ⟨rfl, rfl⟩ := h; exact .far a r
    | [], h => simp at h
  by_cases h6 : p = 6
  · subst h6
    simp only [↓reduceIte, h0, h1, h2, h3, h4, h5] at h
    match r, h with
    | a :: r, h => simp [PyFlat.rows] at h; obtain ⟨rfl, rfl⟩ := h; exact .ways a r
    | [], h => simp at h
  simp [h0, h1, h2, h3, h4, h5, h6] at h
/-- the calls of a list -/
inductive Calls : List Int → List (List (List Int)) → Prop where
  | nil : Calls [] []
  | cons {l t : List Int} {c : List (List Int)} {cs : List (List (List Int))} : Reads l c t → Calls t cs → Calls l (c :: cs)
theorem calls_of : ∀ {f : Nat} {l : List Int} {cs : List (List (List Int))}, PyFlat.calls PyQl82.shape f l = some cs → Calls l cs
  | 0, [], cs, h => by simp [PyFlat.calls] at h; subst h; exact .nil
  | _ + 1, [], cs, h => by simp [PyFlat.calls] at h; subst h; exact .nil
  | 0, _ :: _, cs, h => by simp [PyFlat.calls] at h
  | f + 1, p :: r, cs, h => by
    rw [PyFlat.calls] at h
    cases e : PyFlat.call PyQl82.shape (p :: r) with
    | none => rw [e] at h; cases h
    | some x =>
      obtain ⟨c, t⟩ := x
      rw [e] at h
      have h' : (match PyFlat.calls PyQl82.shape f t with
        | none => none
        | some cs => some (c :: cs)) = some cs := h
      cases e2 : PyFlat.calls PyQl82.shape f t with
      | none => rw [e2] at h'; cases h'
      | some cs' =>
        rw [e2] at h'
        cases h'
        exact .cons (reads_of e) (calls_of e2)
/-- a call of the list as a call of the specification; whether its bytes and numbers are such as may be asked -/
def callIs (c : List (List Int)) : Option Ql82.Call := Ql82Neutral.callOf (PyQl82.whole c)
def askedIs (c : List (List Int)) : Bool := Ql82Neutral.asked1 (PyQl82.whole c)
/-- what the specification gives from a state on -/
def run (a : Abs) (cs : List (List (List Int))) : List Int := PyFlat.told (PyFlat.played Ql82Neutral.step a (cs.map PyQl82.whole))
def outI (x : Ans) : List Int := x.v :: x.out.map fun (n : Nat) => (n : Int)
theorem run_nil (a : Abs) : run a [] = [] := rfl
theorem run_cons {a : Abs} {c : List (List Int)} {cs : List (List (List Int))} {q : Ql82.Call} (h : callIs c = some q) : run a (c :: cs) = ((outI (spec a q).2).length : Int) :: (outI (spec a q).2 ++ run (spec a q).1 cs) := by
  have e : Ql82Neutral.step a (PyQl82.whole c) = ((spec a q).1, outI (spec a q).2) := by
    unfold Ql82Neutral.step
    have h' : Ql82Neutral.callOf (PyQl82.whole c) = some q := h
    rw [h']
    show ((Ql82Neutral.does a q).1, (Ql82Neutral.does a q).2.v :: Ql82Neutral.ints (Ql82Neutral.does a q).2.out) = _
    rw [does_is]
    rfl
  unfold run
  rw [List.map_cons, PyFlat.played, e]
  rfl
theorem spec_goes (s : St) (q : Ql82.Call) : ∃ t, (spec (some s) q).1 = some t := by
  cases q with
  | begin_ m =>
    simp only [spec]
    split
    · exact ⟨_, rfl⟩
    · exact ⟨_, rfl⟩
  | line p nb c =>
    simp only [spec]
    split
    · exact ⟨_, rfl⟩
    · split <;> exact ⟨_, rfl⟩
  | hear p b n =>
    simp only [spec]
    split
    · exact ⟨_, rfl⟩
    · split
      · exact ⟨_, rfl⟩
      · split
        · exact ⟨_, rfl⟩
        · split <;> exact ⟨_, rfl⟩
  | next p m =>
    simp only [spec]
    split
    · exact ⟨_, rfl⟩
    · split
      · exact ⟨_, rfl⟩
      · split <;> exact ⟨_, rfl⟩
  | look x m => exact ⟨_, rfl⟩
  | far d => exact ⟨_, rfl⟩
  | ways d => exact ⟨_, rfl⟩
/-- a list that may be asked: its calls, each such as may be asked; the first one begins -/
theorem asked_is {l : List Int} (h : PyQl82.answers_asked l = true) : ∃ (cs : List (List (List Int))) (m : Int), Calls l ([[0, m]] :: cs) ∧ (0 ≤ m ∧ m ≤ 63) ∧ (∀ c ∈ cs, askedIs c = true) ∧ (PyQl82.answers l).length ≤ 10000000 ∧ PyQl82.answers l = run none ([[0, m]] :: cs) := by
  unfold PyQl82.answers_asked at h
  cases e : PyFlat.calls PyQl82.shape l.length l with
  | none => rw [e] at h; cases h
  | some raw =>
    rw [e] at h
    have h' : (!raw.isEmpty && PyFlat.atMost 400 raw && PyInside.calls PyQl82.bound raw && Ql82Neutral.asked (raw.map PyQl82.whole) && PyFlat.short 10000000 (PyQl82.answers l)) = true := h
    simp only [Bool.and_eq_true] at h'
    obtain ⟨⟨⟨⟨h1, h2⟩, _⟩, h3⟩, h6⟩ := h'
    unfold Ql82Neutral.asked at h3
    simp only [Bool.and_eq_true] at h3
    obtain ⟨h4, h5, _⟩ := h3
    have hc := calls_of e
    have hans : PyQl82.answers l = run none raw := by
      unfold PyQl82.answers PyQl82.calls
      rw [e]
      rfl
    cases raw with
    | nil => cases h1
    | cons c cs =>
      have hb : Ql82Neutral.begins (PyQl82.whole c) = true := h5
      have hall : ∀ x ∈ cs, askedIs x = true := fun x hx => by
        rw [List.all_eq_true] at h4
        exact h4 _ (List.mem_map.mpr ⟨x, List.mem_cons_of_mem _ hx, rfl⟩)
      have hlen : (PyQl82.answers l).length ≤ 10000000 := of_decide_eq_true h6
      have hcases : ∃ m, c = [[0, m]] ∧ 0 ≤ m ∧ m ≤ 63 := by
        cases hc with
        | cons hr _ =>
          cases hr with
          | begin_ m t =>
            have hb' : NeutralIO.within m 0 63 = true := hb
            unfold NeutralIO.within at hb'
            rw [Bool.and_eq_true, decide_eq_true_iff, decide_eq_true_iff] at hb'
            exact ⟨m, rfl, hb'⟩
          | line p nb c t => cases hb
          | hear p b t => cases hb
          | next p m t => cases hb
          | look p m t => cases hb
          | far p t => cases hb
          | ways p t => cases hb
      obtain ⟨m, rfl, hm⟩ := hcases
      exact ⟨cs, m, hc, hm, hall, hlen, hans⟩
/-- the first call may as well be one on a router that has begun -/
theorem run_begun {m : Int} (h : 0 ≤ m ∧ m ≤ 63) (s : St) (cs : List (List (List Int))) : run none ([[0, m]] :: cs) = run (some s) ([[0, m]] :: cs) := by
  have hq : callIs [[0, m]] = some (.begin_ m) := rfl
  have hb : between m 0 63 = true := by
    unfold between
    rw [Bool.and_eq_true, decide_eq_true_iff, decide_eq_true_iff]
    exact h
  have e1 : spec none (.begin_ m) = (some (begun m.toNat), only 0) := by
    show (if between m 0 63 = false then _ else _) = _
    rw [if_neg (by rw [hb]; decide)]
  have e2 : spec (some s) (.begin_ m) = (some (begun m.toNat), only 0) := by
    show (if between m 0 63 = false then _ else _) = _
    rw [if_neg (by rw [hb]; decide)]
  rw [run_cons hq, run_cons hq, e1, e2]
/-- a call's own numbers, ahead of the rest -/
theorem Reads.split {l t : List Int} {c : List (List Int)} (h : Reads l c t) : ∃ fl, l = fl ++ t ∧ Reads fl c [] ∧ 0 < fl.length := by
  cases h with
  | begin_ m t => exact ⟨[0, m], rfl, .begin_ m [], by simp⟩
  | line p nb c t => exact ⟨[1, p, nb, c], rfl, .line p nb c [], by simp⟩
  | hear p b t =>
    refine ⟨2 :: p :: (b.length : Int) :: b, rfl, ?_, by simp⟩
    have := Reads.hear p b []
    rw [List.append_nil] at this
    exact this
  | next p m t => exact ⟨[3, p, m], rfl, .next p m [], by simp⟩
  | look x m t => exact ⟨[4, x, m], rfl, .look x m [], by simp⟩
  | far d t => exact ⟨[5, d], rfl, .far d [], by simp⟩
  | ways d t => exact ⟨[6, d], rfl, .ways d [], by simp⟩
theorem Calls.inv {l : List Int} {cs : List (List (List Int))} (h : Calls l cs) : (l = [] ∧ cs = []) ∨ ∃ t c cs', cs = c :: cs' ∧ Reads l c t ∧ Calls t cs' := by
  cases h with
  | nil => exact .inl ⟨rfl, rfl⟩
  | cons hr ht => exact .inr ⟨_, _, _, rfl, hr, ht⟩
theorem callIs_some {l t : List Int} {c : List (List Int)} (h : Reads l c t) : ∃ q, callIs c = some q := by
  cases h <;> exact ⟨_, rfl⟩
end KR

/-! The least costs to d, as they are found: whom it reaches, whom it has. Core Lean alone. -/
namespace KR
open Ql82

abbrev Costs := Nat → Option Nat
def setC (D : Costs) (v x : Nat) : Costs := fun w => if w = v then some x else D w
def dropC (D : Costs) (v : Nat) : Costs := fun w => if w = v then none else D w
theorem setC_self (D : Costs) (v x : Nat) : setC D v x v = some x := if_pos rfl
theorem setC_ne {D : Costs} {v x w : Nat} (h : ¬ w = v) : setC D v x w = D w := if_neg h
theorem dropC_self (D : Costs) (v : Nat) : dropC D v v = none := if_pos rfl
theorem dropC_ne {D : Costs} {v w : Nat} (h : ¬ w = v) : dropC D v w = D w := if_neg h
theorem setC_some {D : Costs} {v x w y : Nat} (h : setC D v x w = some y) : (w = v ∧ y = x) ∨ (¬ w = v ∧ D w = some y) := by
  by_cases e : w = v
  · subst e; rw [setC_self] at h; cases h; exact .inl ⟨rfl, rfl⟩
  · rw [setC_ne e] at h; exact .inr ⟨e, h⟩
theorem dropC_some {D : Costs} {v w y : Nat} (h : dropC D v w = some y) : ¬ w = v ∧ D w = some y := by
  by_cases e : w = v
  · subst e; rw [dropC_self] at h; cases h
  · rw [dropC_ne e] at h; exact ⟨e, h⟩

/-! ### roads -/
theorem lookup_mem {l : List (Nat × Nat)} {k c : Nat} (h : l.lookup k = some c) : (k, c) ∈ l := by
  induction l with
  | nil => cases h
  | cons a r ih =>
    obtain ⟨x, y⟩ := a
    by_cases e : k = x
    · subst e
      rw [List.lookup, beq_self_eq_true] at h
      cases h
      exact List.mem_cons_self ..
    · rw [List.lookup, beq_false_of_ne e] at h
      exact List.mem_cons_of_mem _ (ih h)
theorem road_some {s : St} {u v c : Nat} (h : s.road u v = some c) : ∃ a b x, s.ads u = some a ∧ s.ads v = some b ∧ a.roads.lookup v = some c ∧ b.roads.lookup u = some x := by
  unfold St.road at h
  cases e1 : s.ads u with
  | none => rw [e1] at h; cases h
  | some a =>
    rw [e1, Option.bind_some] at h
    cases e2 : a.roads.lookup v with
    | none => rw [e2] at h; cases h
    | some c' =>
      rw [e2, Option.bind_some] at h
      cases e3 : s.ads v with
      | none => rw [e3] at h; cases h
      | some b =>
        rw [e3, Option.bind_some] at h
        cases e4 : b.roads.lookup u with
        | none => rw [e4] at h; cases h
        | some x =>
          rw [e4] at h
          cases h
          exact ⟨a, b, x, rfl, rfl, e2, e4⟩
theorem road_is {s : St} {u v : Nat} {a b : Ad} (h1 : s.ads u = some a) (h2 : s.ads v = some b) : s.road u v = (a.roads.lookup v).bind fun c => (b.roads.lookup u).map fun _ => c := by
  unfold St.road
  rw [h1, Option.bind_some, h2]
  cases a.roads.lookup v <;> rfl
theorem road_off {s : St} {u v : Nat} (h : s.ads u = none ∨ s.ads v = none) : s.road u v = none := by
  cases e : s.road u v with
  | none => rfl
  | some c =>
    obtain ⟨a, b, x, h1, h2, _, _⟩ := road_some e
    rcases h with h | h
    · rw [h] at h1; cases h1
    · rw [h] at h2; cases h2
theorem road_pos {s : St} (g : Good s) {u v c : Nat} (h : s.road u v = some c) : 0 < c ∧ u < 64 ∧ v < 64 := by
  obtain ⟨a, b, x, h1, h2, h3, _⟩ := road_some h
  obtain ⟨hu, ha⟩ := g.ad u a h1
  exact ⟨(ha.ok.2 _ (lookup_mem h3)).2.2, hu, (g.ad v b h2).1⟩
/-- the roads into v, by those that v tells of -/
def into (s : St) (v : Nat) : List (Nat × Nat) := match s.ads v with
  | none => []
  | some b => b.roads.filterMap fun r => (s.road r.1 v).map fun c => (r.1, c)
theorem into_none {s : St} {v : Nat} (h : s.ads v = none) : into s v = [] := by
  unfold into; rw [h]
theorem into_some {s : St} {v : Nat} {b : Ad} (h : s.ads v = some b) : into s v = b.roads.filterMap fun r => (s.road r.1 v).map fun c => (r.1, c) := by
  unfold into; rw [h]
theorem into_iff {s : St} {u v c : Nat} : (u, c) ∈ into s v ↔ s.road u v = some c := by
  constructor
  · intro h
    cases e : s.ads v with
    | none => rw [into_none e] at h; cases h
    | some b =>
      rw [into_some e, List.mem_filterMap] at h
      obtain ⟨r, _, hr⟩ := h
      cases q : s.road r.1 v with
      | none => rw [q] at hr; cases hr
      | some c' => rw [q] at hr; cases hr; exact q
  · intro h
    obtain ⟨a, b, x, h1, h2, h3, h4⟩ := road_some h
    rw [into_some h2, List.mem_filterMap]
    exact ⟨(u, x), lookup_mem h4, by show (s.road u v).map _ = _; rw [h]; rfl⟩

/-! ### the turns -/
structure Dij (s : St) (d : Nat) (L R : Costs) : Prop where
  sl : ∀ u x, L u = some x → ∃ m, Walk s d u x m
  sr : ∀ u x, R u = some x → ∃ m, Walk s d u x m
  dis : ∀ u x, R u = some x → L u = none
  ord : ∀ u x v y, L u = some x → R v = some y → x ≤ y
  cls : ∀ u v c y, L v = some y → s.road u v = some c → ∃ x, (L u = some x ∨ R u = some x) ∧ x ≤ c + y
  at0 : L d = some 0 ∨ R d = some 0
theorem Dij.start (s : St) (d : Nat) : Dij s d (fun _ => none) (setC (fun _ => none) d 0) := by
  refine ⟨fun u x h => (by cases h), fun u x h => ?_, fun u x h => rfl, fun u x v y h => (by cases h), fun u v c y h => (by cases h), .inr (setC_self _ _ _)⟩
  rcases setC_some h with ⟨rfl, rfl⟩ | ⟨_, h⟩
  · exact ⟨0, .here⟩
  · cases h
structure Inn (s : St) (v x : Nat) (L R0 R : Costs) (i : Nat) : Prop where
  mono : ∀ w z, R0 w = some z → ∃ z', R w = some z' ∧ z' ≤ z
  met : ∀ j, j < i → ∀ u c, (into s v)[j]? = some (u, c) → L u = none → ∃ z, R u = some z ∧ z ≤ x + c
  fr : ∀ w z, R w = some z → R0 w = some z ∨ ∃ c, (w, c) ∈ into s v ∧ z = x + c ∧ L w = none
theorem Inn.start {s : St} {v x : Nat} {L R0 : Costs} : Inn s v x L R0 R0 0 :=
  ⟨fun _ z h => ⟨z, h, Nat.le_refl _⟩, fun j hj => absurd hj (Nat.not_lt_zero _), fun _ _ h => .inl h⟩
theorem Inn.skip {s : St} {v x : Nat} {L R0 R : Costs} {i u c : Nat} (h : Inn s v x L R0 R i) (hi : (into s v)[i]? = some (u, c)) (hL : (L u).isSome = true) : Inn s v x L R0 R (i + 1) := by
  refine ⟨h.mono, fun j hj u' c' e hn => ?_, h.fr⟩
  by_cases q : j = i
  · subst q
    rw [hi] at e
    cases e
    rw [hn] at hL; cases hL
  · exact h.met j (by omega) u' c' e hn
theorem Inn.put {s : St} {v x : Nat} {L R0 R : Costs} {i u c z : Nat} (h : Inn s v x L R0 R i) (hi : (into s v)[i]? = some (u, c)) (hL : L u = none) (hz : z = min (x + c) ((R u).getD (x + c))) : Inn s v x L R0 (setC R u z) (i + 1) := by
  have zle : z ≤ x + c := by rw [hz]; exact Nat.min_le_left _ _
  have zr : ∀ y, R u = some y → z ≤ y := fun y e => by
    rw [hz, e]; exact Nat.min_le_right _ _
  have lower : ∀ w y, R w = some y → ∃ y', setC R u z w = some y' ∧ y' ≤ y := fun w y e => by
    by_cases q : w = u
    · subst q; exact ⟨z, setC_self _ _ _, zr y e⟩
    · exact ⟨y, (setC_ne q).trans e, Nat.le_refl _⟩
  refine ⟨fun w y e => ?_, fun j hj u' c' e hn => ?_, fun w y e => ?_⟩
  · obtain ⟨y', h1, h2⟩ := h.mono w y e
    obtain ⟨y2, h3, h4⟩ := lower w y' h1
    exact ⟨y2, h3, by omega⟩
  · by_cases q : j = i
    · subst q
      rw [hi] at e
      cases e
      exact ⟨z, setC_self _ _ _, zle⟩
    · obtain ⟨y', h1, h2⟩ := h.met j (by omega) u' c' e hn
      obtain ⟨y2, h3, h4⟩ := lower _ y' h1
      exact ⟨y2, h3, by omega⟩
  · rcases setC_some e with ⟨rfl, rfl⟩ | ⟨_, e⟩
    · cases q : R w with
      | none =>
        rw [q] at hz
        have : y = x + c := by rw [hz]; exact Nat.min_self _
        exact .inr ⟨c, List.mem_of_getElem? hi, this, hL⟩
      | some y0 =>
        rw [q] at hz
        have hz' : y = min (x + c) y0 := hz
        rcases Nat.le_total (x + c) y0 with q2 | q2
        · rw [Nat.min_eq_left q2] at hz'
          exact .inr ⟨c, List.mem_of_getElem? hi, hz', hL⟩
        · rw [Nat.min_eq_right q2] at hz'
          rw [hz']
          exact h.fr w y0 q
    · exact h.fr w y e
theorem Dij.step {s : St} {d v x : Nat} {L R R1 : Costs} (h : Dij s d L R) (hv : v < 64) (hx : R v = some x) (hm : ∀ w y, R w = some y → x ≤ y)
    (h1 : Inn s v x (setC L v x) (dropC R v) R1 (into s v).length) : Dij s d (setC L v x) R1 := by
  have nv : ∀ u c, (u, c) ∈ into s v → setC L v x u = none → ∃ z, R1 u = some z ∧ z ≤ x + c := fun u c m n => by
    obtain ⟨j, hj, e⟩ := List.getElem_of_mem m
    exact h1.met j hj u c (by rw [List.getElem?_eq_getElem hj, e]) n
  have r1 : ∀ w z, R1 w = some z → (¬ w = v ∧ R w = some z) ∨ ∃ c, s.road w v = some c ∧ z = x + c ∧ setC L v x w = none := fun w z e => by
    rcases h1.fr w z e with e | ⟨c, m, ez, el⟩
    · exact .inl (dropC_some e)
    · exact .inr ⟨c, into_iff.mp m, ez, el⟩
  obtain ⟨mv, wv⟩ := h.sr v x hx
  refine ⟨fun u y e => ?_, fun u y e => ?_, fun u y e => ?_, fun u y w z e1 e2 => ?_, fun u w c y e hr => ?_, ?_⟩
  · rcases setC_some e with ⟨rfl, rfl⟩ | ⟨_, e⟩
    · exact ⟨mv, wv⟩
    · exact h.sl u y e
  · rcases r1 u y e with ⟨_, e⟩ | ⟨c, hr, rfl, _⟩
    · exact h.sr u y e
    · rw [Nat.add_comm]
      exact ⟨mv + 1, .step hv hr wv⟩
  · rcases r1 u y e with ⟨n, e⟩ | ⟨c, hr, _, el⟩
    · rw [setC_ne n]; exact h.dis u y e
    · exact el
  · have yx : y ≤ x := by
      rcases setC_some e1 with ⟨_, rfl⟩ | ⟨_, e1⟩
      · exact Nat.le_refl _
      · exact h.ord u y v x e1 hx
    rcases r1 w z e2 with ⟨_, e⟩ | ⟨c, hr, rfl, _⟩
    · exact Nat.le_trans yx (hm w z e)
    · omega
  · have fin : ∀ y0, (L u = some y0 ∨ R u = some y0) → y0 ≤ c + y → ∃ x2, (setC L v x u = some x2 ∨ R1 u = some x2) ∧ x2 ≤ c + y := fun y0 q le => by
      by_cases eu : u = v
      · subst eu
        refine ⟨x, .inl (setC_self _ _ _), ?_⟩
        rcases q with q | q
        · have := h.dis u x hx
          rw [q] at this; cases this
        · rw [hx] at q; cases q; exact le
      · rcases q with q | q
        · exact ⟨y0, .inl ((setC_ne eu).trans q), le⟩
        · obtain ⟨z', g1, g2⟩ := h1.mono u y0 ((dropC_ne eu).trans q)
          exact ⟨z', .inr g1, by omega⟩
    rcases setC_some e with ⟨rfl, rfl⟩ | ⟨_, e⟩
    · cases q : setC L w y u with
      | none =>
        obtain ⟨z, g1, g2⟩ := nv u c (into_iff.mpr hr) q
        exact ⟨z, .inr g1, by omega⟩
      | some z =>
        refine ⟨z, .inl rfl, ?_⟩
        rcases setC_some q with ⟨_, rfl⟩ | ⟨_, q⟩
        · omega
        · have := h.ord u z w y q hx
          omega
    · obtain ⟨y0, q, le⟩ := h.cls u w c y e hr
      exact fin y0 q le
  · rcases h.at0 with e | e
    · by_cases q : d = v
      · subst q
        have := h.dis d x hx
        rw [e] at this; cases this
      · exact .inl ((setC_ne q).trans e)
    · by_cases q : d = v
      · subst q
        rw [hx] at e
        cases e
        exact .inl (setC_self _ _ _)
      · obtain ⟨z', g1, g2⟩ := h1.mono d 0 ((dropC_ne q).trans e)
        have : z' = 0 := by omega
        subst this
        exact .inr g1
theorem Dij.done {s : St} {d : Nat} {L R : Costs} (h : Dij s d L R) (hd : d < 64) (hR : ∀ u, R u = none) : ∀ u, u < 64 → s.far u d = L u := by
  refine far_to hd (fun u x _ e => h.sl u x e) ?_ fun u v c y _ _ hr e => ?_
  · rcases h.at0 with e | e
    · exact e
    · rw [hR] at e; cases e
  · obtain ⟨x, q, le⟩ := h.cls u v c y e hr
    rcases q with q | q
    · exact ⟨x, q, le⟩
    · rw [hR] at q; cases q

/-! ### the lines that lead on -/
def leads (s : St) (d p : Nat) : Bool := match s.lines p with
  | none => false
  | some x => (s.road s.me x.1).isSome && (match s.far x.1 d, s.far s.me d with
    | some y, some z => decide (x.2 + y = z)
    | _, _ => false)
theorem far_self {s : St} {d : Nat} (hd : d < 64) : s.far d d = some 0 := (far_iff hd hd).mpr ⟨⟨0, .here⟩, fun _ _ _ => Nat.zero_le _⟩
theorem ways_is {s : St} (g : Good s) {d : Nat} (hd : d < 64) : s.ways d = (List.range 8).filter (leads s d) := by
  unfold St.ways
  by_cases e : d = s.me
  · rw [if_pos e]
    symm
    rw [List.filter_eq_nil_iff]
    intro p _
    unfold leads
    cases q : s.lines p with
    | none => simp
    | some x =>
      have := (g.ln p x q).2.2.2.1
      have h0 : s.far s.me d = some 0 := by rw [← e]; exact far_self hd
      dsimp only
      rw [h0]
      cases s.far x.1 d with
      | none => simp
      | some y => simp; omega
  · rw [if_neg e]
    show (List.range LINES).filter _ = (List.range LINES).filter (leads s d)
    refine List.filter_congr fun p _ => ?_
    unfold leads
    cases s.lines p with
    | none => rfl
    | some x =>
      dsimp only
      generalize s.far x.1 d = a
      generalize s.far s.me d = b
      cases a <;> cases b <;> rfl
/-- together, up to the i-th line -/
def upTo (f : Nat → Bool) (i : Nat) : Nat := (((List.range i).filter f).map fun (p : Nat) => 2 ^ p).sum
theorem upTo_zero (f : Nat → Bool) : upTo f 0 = 0 := rfl
theorem upTo_succ (f : Nat → Bool) (i : Nat) : upTo f (i + 1) = upTo f i + if f i = true then 2 ^ i else 0 := by
  unfold upTo
  rw [List.range_succ, List.filter_append, List.map_append, List.sum_append]
  congr 1
  by_cases h : f i = true
  · rw [if_pos h, List.filter_cons_of_pos h]
    simp
  · rw [if_neg h, List.filter_cons_of_neg h]
    simp
/-- as a line is asked -/
theorem leads_by {s : St} (g : Good s) {d p : Nat} (hd : d < 64) {x : Nat × Nat} (hl : s.lines p = some x) :
    (s.far x.1 d = none → leads s d p = false) ∧ (s.road s.me x.1 = none → leads s d p = false) ∧
    (∀ y c, s.far x.1 d = some y → s.road s.me x.1 = some c → ∃ z, s.far s.me d = some z ∧ leads s d p = decide (x.2 + y = z)) := by
  obtain ⟨_, hx, _, _, _⟩ := g.ln p x hl
  unfold leads
  rw [hl]
  dsimp only
  refine ⟨fun e => ?_, fun e => ?_, fun y c e hr => ?_⟩
  · rw [e]; simp
  · rw [e]; simp
  · obtain ⟨m, wy⟩ := far_some e
    obtain ⟨z, hz, _⟩ := far_least hd g.me (.step hx hr wy)
    refine ⟨z, hz, ?_⟩
    rw [e, hz, hr]
    simp
end KR

/-! The program's text by places, the addresses of what its top has written, the facts of these. Printed by a tool of our own from the linked text. -/
namespace KR
open PySem L2
def top (i : Nat) : Stmt := PySem.Challenge.pw_knownroads_s01_answers.main.body.getD i (.Pass ⟨0, 0, 0, 0⟩)
abbrev st_Told_init : Stmt := inClass (top 5) 0
abbrev nm_Told_init : List Str := ["self", "name", "number", "roads"]
abbrev pm_Told_init : List Str := ["self", "name", "number", "roads"]
theorem sc_Told_init : FnScope nm_Told_init pm_Told_init (defScope st_Told_init) := ⟨rfl, rfl, rfl, by decide +kernel, rfl, by decide +kernel, by decide +kernel⟩
abbrev st_Told_cost_to : Stmt := inClass (top 5) 1
abbrev nm_Told_cost_to : List Str := ["self", "name", "to", "cost"]
abbrev pm_Told_cost_to : List Str := ["self", "name"]
theorem sc_Told_cost_to : FnScope nm_Told_cost_to pm_Told_cost_to (defScope st_Told_cost_to) := ⟨rfl, rfl, rfl, by decide +kernel, rfl, by decide +kernel, by decide +kernel⟩
abbrev st_is_router : Stmt := top 6
abbrev nm_is_router : List Str := ["name"]
abbrev pm_is_router : List Str := ["name"]
theorem sc_is_router : FnScope nm_is_router pm_is_router (defScope st_is_router) := ⟨rfl, rfl, rfl, by decide +kernel, rfl, by decide +kernel, by decide +kernel⟩
abbrev st_message_of : Stmt := top 7
abbrev nm_message_of : List Str := ["told", "octets", "name", "cost", "shift"]
abbrev pm_message_of : List Str := ["told"]
theorem sc_message_of : FnScope nm_message_of pm_message_of (defScope st_message_of) := ⟨rfl, rfl, rfl, by decide +kernel, rfl, by decide +kernel, by decide +kernel⟩
abbrev st_read_message : Stmt := top 8
abbrev nm_read_message : List Str := ["octets", "told"]
abbrev pm_read_message : List Str := ["octets"]
theorem sc_read_message : FnScope nm_read_message pm_read_message (defScope st_read_message) := ⟨rfl, rfl, rfl, by decide +kernel, rfl, by decide +kernel, by decide +kernel⟩
abbrev st_has_right_length : Stmt := top 9
abbrev nm_has_right_length : List Str := ["octets"]
abbrev pm_has_right_length : List Str := ["octets"]
theorem sc_has_right_length : FnScope nm_has_right_length pm_has_right_length (defScope st_has_right_length) := ⟨rfl, rfl, rfl, by decide +kernel, rfl, by decide +kernel, by decide +kernel⟩
abbrev st_number_in : Stmt := top 10
abbrev nm_number_in : List Str := ["octets", "number", "octet"]
abbrev pm_number_in : List Str := ["octets"]
theorem sc_number_in : FnScope nm_number_in pm_number_in (defScope st_number_in) := ⟨rfl, rfl, rfl, by decide +kernel, rfl, by decide +kernel, by decide +kernel⟩
abbrev st_roads_in : Stmt := top 11
abbrev nm_roads_in : List Str := ["octets", "roads", "at"]
abbrev pm_roads_in : List Str := ["octets"]
theorem sc_roads_in : FnScope nm_roads_in pm_roads_in (defScope st_roads_in) := ⟨rfl, rfl, rfl, by decide +kernel, rfl, by decide +kernel, by decide +kernel⟩
abbrev st_is_well_formed : Stmt := top 12
abbrev nm_is_well_formed : List Str := ["told", "before", "name", "cost"]
abbrev pm_is_well_formed : List Str := ["told"]
theorem sc_is_well_formed : FnScope nm_is_well_formed pm_is_well_formed (defScope st_is_well_formed) := ⟨rfl, rfl, rfl, by decide +kernel, rfl, by decide +kernel, by decide +kernel⟩
abbrev st_road_cost : Stmt := top 14
abbrev nm_road_cost : List Str := ["known", "u", "v"]
abbrev pm_road_cost : List Str := ["known", "u", "v"]
theorem sc_road_cost : FnScope nm_road_cost pm_road_cost (defScope st_road_cost) := ⟨rfl, rfl, rfl, by decide +kernel, rfl, by decide +kernel, by decide +kernel⟩
abbrev st_roads_into : Stmt := top 15
abbrev nm_roads_into : List Str := ["known", "v", "into", "u", "back", "cost"]
abbrev pm_roads_into : List Str := ["known", "v"]
theorem sc_roads_into : FnScope nm_roads_into pm_roads_into (defScope st_roads_into) := ⟨rfl, rfl, rfl, by decide +kernel, rfl, by decide +kernel, by decide +kernel⟩
abbrev st_least_costs_to : Stmt := top 16
abbrev nm_least_costs_to : List Str := ["known", "d", "least", "reached", "so_far", "v", "u", "cost", "name"]
abbrev pm_least_costs_to : List Str := ["known", "d"]
theorem sc_least_costs_to : FnScope nm_least_costs_to pm_least_costs_to (defScope st_least_costs_to) := ⟨rfl, rfl, rfl, by decide +kernel, rfl, by decide +kernel, by decide +kernel⟩
abbrev st_Router_init : Stmt := inClass (top 22) 0
abbrev nm_Router_init : List Str := ["self"]
abbrev pm_Router_init : List Str := ["self"]
theorem sc_Router_init : FnScope nm_Router_init pm_Router_init (defScope st_Router_init) := ⟨rfl, rfl, rfl, by decide +kernel, rfl, by decide +kernel, by decide +kernel⟩
abbrev st_Router_begin : Stmt := inClass (top 22) 1
abbrev nm_Router_begin : List Str := ["self", "me", "p"]
abbrev pm_Router_begin : List Str := ["self", "me"]
theorem sc_Router_begin : FnScope nm_Router_begin pm_Router_begin (defScope st_Router_begin) := ⟨rfl, rfl, rfl, by decide +kernel, rfl, by decide +kernel, by decide +kernel⟩
abbrev st_Router_set_line : Stmt := inClass (top 22) 2
abbrev nm_Router_set_line : List Str := ["self", "p", "nb", "cost", "lines", "own", "is_other"]
abbrev pm_Router_set_line : List Str := ["self", "p", "nb", "cost"]
theorem sc_Router_set_line : FnScope nm_Router_set_line pm_Router_set_line (defScope st_Router_set_line) := ⟨rfl, rfl, rfl, by decide +kernel, rfl, by decide +kernel, by decide +kernel⟩
abbrev st_Router_hear : Stmt := inClass (top 22) 3
abbrev nm_Router_hear : List Str := ["self", "p", "octets", "told"]
abbrev pm_Router_hear : List Str := ["self", "p", "octets"]
theorem sc_Router_hear : FnScope nm_Router_hear pm_Router_hear (defScope st_Router_hear) := ⟨rfl, rfl, rfl, by decide +kernel, rfl, by decide +kernel, by decide +kernel⟩
abbrev st_Router_tell_next : Stmt := inClass (top 22) 4
abbrev nm_Router_tell_next : List Str := ["self", "p", "most", "name", "answer"]
abbrev pm_Router_tell_next : List Str := ["self", "p", "most"]
theorem sc_Router_tell_next : FnScope nm_Router_tell_next pm_Router_tell_next (defScope st_Router_tell_next) := ⟨rfl, rfl, rfl, by decide +kernel, rfl, by decide +kernel, by decide +kernel⟩
abbrev st_Router_look : Stmt := inClass (top 22) 5
abbrev nm_Router_look : List Str := ["self", "x", "most"]
abbrev pm_Router_look : List Str := ["self", "x", "most"]
theorem sc_Router_look : FnScope nm_Router_look pm_Router_look (defScope st_Router_look) := ⟨rfl, rfl, rfl, by decide +kernel, rfl, by decide +kernel, by decide +kernel⟩
abbrev st_Router_least_cost : Stmt := inClass (top 22) 6
abbrev nm_Router_least_cost : List Str := ["self", "d"]
abbrev pm_Router_least_cost : List Str := ["self", "d"]
theorem sc_Router_least_cost : FnScope nm_Router_least_cost pm_Router_least_cost (defScope st_Router_least_cost) := ⟨rfl, rfl, rfl, by decide +kernel, rfl, by decide +kernel, by decide +kernel⟩
abbrev st_Router_lines_on : Stmt := inClass (top 22) 7
abbrev nm_Router_lines_on : List Str := ["self", "d", "least", "together", "p"]
abbrev pm_Router_lines_on : List Str := ["self", "d"]
theorem sc_Router_lines_on : FnScope nm_Router_lines_on pm_Router_lines_on (defScope st_Router_lines_on) := ⟨rfl, rfl, rfl, by decide +kernel, rfl, by decide +kernel, by decide +kernel⟩
abbrev st_Router_leads_on : Stmt := inClass (top 22) 8
abbrev nm_Router_leads_on : List Str := ["self", "p", "least", "nb", "cost"]
abbrev pm_Router_leads_on : List Str := ["self", "p", "least"]
theorem sc_Router_leads_on : FnScope nm_Router_leads_on pm_Router_leads_on (defScope st_Router_leads_on) := ⟨rfl, rfl, rfl, by decide +kernel, rfl, by decide +kernel, by decide +kernel⟩
abbrev st_Router_hear_of_another : Stmt := inClass (top 22) 9
abbrev nm_Router_hear_of_another : List Str := ["self", "p", "told", "known"]
abbrev pm_Router_hear_of_another : List Str := ["self", "p", "told"]
theorem sc_Router_hear_of_another : FnScope nm_Router_hear_of_another pm_Router_hear_of_another (defScope st_Router_hear_of_another) := ⟨rfl, rfl, rfl, by decide +kernel, rfl, by decide +kernel, by decide +kernel⟩
abbrev st_Router_hear_of_itself : Stmt := inClass (top 22) 10
abbrev nm_Router_hear_of_itself : List Str := ["self", "p", "told", "own"]
abbrev pm_Router_hear_of_itself : List Str := ["self", "p", "told"]
theorem sc_Router_hear_of_itself : FnScope nm_Router_hear_of_itself pm_Router_hear_of_itself (defScope st_Router_hear_of_itself) := ⟨rfl, rfl, rfl, by decide +kernel, rfl, by decide +kernel, by decide +kernel⟩
abbrev st_Router_tell_anew : Stmt := inClass (top 22) 11
abbrev nm_Router_tell_anew : List Str := ["self", "number"]
abbrev pm_Router_tell_anew : List Str := ["self", "number"]
theorem sc_Router_tell_anew : FnScope nm_Router_tell_anew pm_Router_tell_anew (defScope st_Router_tell_anew) := ⟨rfl, rfl, rfl, by decide +kernel, rfl, by decide +kernel, by decide +kernel⟩
abbrev st_Router_is_up : Stmt := inClass (top 22) 12
abbrev nm_Router_is_up : List Str := ["self", "p"]
abbrev pm_Router_is_up : List Str := ["self", "p"]
theorem sc_Router_is_up : FnScope nm_Router_is_up pm_Router_is_up (defScope st_Router_is_up) := ⟨rfl, rfl, rfl, by decide +kernel, rfl, by decide +kernel, by decide +kernel⟩
abbrev st_Router_fill_line : Stmt := inClass (top 22) 13
abbrev nm_Router_fill_line : List Str := ["self", "p", "name"]
abbrev pm_Router_fill_line : List Str := ["self", "p"]
theorem sc_Router_fill_line : FnScope nm_Router_fill_line pm_Router_fill_line (defScope st_Router_fill_line) := ⟨rfl, rfl, rfl, by decide +kernel, rfl, by decide +kernel, by decide +kernel⟩
abbrev st_Router_wait_on_all : Stmt := inClass (top 22) 14
abbrev nm_Router_wait_on_all : List Str := ["self", "name", "p"]
abbrev pm_Router_wait_on_all : List Str := ["self", "name"]
theorem sc_Router_wait_on_all : FnScope nm_Router_wait_on_all pm_Router_wait_on_all (defScope st_Router_wait_on_all) := ⟨rfl, rfl, rfl, by decide +kernel, rfl, by decide +kernel, by decide +kernel⟩
abbrev st_Router_wait_on : Stmt := inClass (top 22) 15
abbrev nm_Router_wait_on : List Str := ["self", "p", "name"]
abbrev pm_Router_wait_on : List Str := ["self", "p", "name"]
theorem sc_Router_wait_on : FnScope nm_Router_wait_on pm_Router_wait_on (defScope st_Router_wait_on) := ⟨rfl, rfl, rfl, by decide +kernel, rfl, by decide +kernel, by decide +kernel⟩
abbrev st_Router_wait_no_more : Stmt := inClass (top 22) 16
abbrev nm_Router_wait_no_more : List Str := ["self", "p", "name"]
abbrev pm_Router_wait_no_more : List Str := ["self", "p", "name"]
theorem sc_Router_wait_no_more : FnScope nm_Router_wait_no_more pm_Router_wait_no_more (defScope st_Router_wait_no_more) := ⟨rfl, rfl, rfl, by decide +kernel, rfl, by decide +kernel, by decide +kernel⟩
abbrev st_is_line : Stmt := top 23
abbrev nm_is_line : List Str := ["p"]
abbrev pm_is_line : List Str := ["p"]
theorem sc_is_line : FnScope nm_is_line pm_is_line (defScope st_is_line) := ⟨rfl, rfl, rfl, by decide +kernel, rfl, by decide +kernel, by decide +kernel⟩
abbrev st_answer_that_tells : Stmt := top 24
abbrev nm_answer_that_tells : List Str := ["told", "most", "octets"]
abbrev pm_answer_that_tells : List Str := ["told", "most"]
theorem sc_answer_that_tells : FnScope nm_answer_that_tells pm_answer_that_tells (defScope st_answer_that_tells) := ⟨rfl, rfl, rfl, by decide +kernel, rfl, by decide +kernel, by decide +kernel⟩
abbrev st_roads_by : Stmt := top 25
abbrev nm_roads_by : List Str := ["lines", "least", "nb", "cost"]
abbrev pm_roads_by : List Str := ["lines"]
theorem sc_roads_by : FnScope nm_roads_by pm_roads_by (defScope st_roads_by) := ⟨rfl, rfl, rfl, by decide +kernel, rfl, by decide +kernel, by decide +kernel⟩
abbrev st_answers : Stmt := top 34
abbrev nm_answers : List Str := ["calls", "router", "answered", "at", "end", "answer"]
abbrev pm_answers : List Str := ["calls"]
theorem sc_answers : FnScope nm_answers pm_answers (defScope st_answers) := ⟨rfl, rfl, rfl, by decide +kernel, rfl, by decide +kernel, by decide +kernel⟩
abbrev st_call_end : Stmt := top 35
abbrev nm_call_end : List Str := ["calls", "at", "end"]
abbrev pm_call_end : List Str := ["calls", "at"]
theorem sc_call_end : FnScope nm_call_end pm_call_end (defScope st_call_end) := ⟨rfl, rfl, rfl, by decide +kernel, rfl, by decide +kernel, by decide +kernel⟩
abbrev st_answer_to : Stmt := top 36
abbrev nm_answer_to : List Str := ["router", "call"]
abbrev pm_answer_to : List Str := ["router", "call"]
theorem sc_answer_to : FnScope nm_answer_to pm_answer_to (defScope st_answer_to) := ⟨rfl, rfl, rfl, by decide +kernel, rfl, by decide +kernel, by decide +kernel⟩
structure Adr where
  a_Told : Addr
  a_Router : Addr
  f_Told_init : Addr
  d_Told_init : FuncData
  f_Told_cost_to : Addr
  d_Told_cost_to : FuncData
  f_is_router : Addr
  d_is_router : FuncData
  f_message_of : Addr
  d_message_of : FuncData
  f_read_message : Addr
  d_read_message : FuncData
  f_has_right_length : Addr
  d_has_right_length : FuncData
  f_number_in : Addr
  d_number_in : FuncData
  f_roads_in : Addr
  d_roads_in : FuncData
  f_is_well_formed : Addr
  d_is_well_formed : FuncData
  f_road_cost : Addr
  d_road_cost : FuncData
  f_roads_into : Addr
  d_roads_into : FuncData
  f_least_costs_to : Addr
  d_least_costs_to : FuncData
  f_Router_init : Addr
  d_Router_init : FuncData
  f_Router_begin : Addr
  d_Router_begin : FuncData
  f_Router_set_line : Addr
  d_Router_set_line : FuncData
  f_Router_hear : Addr
  d_Router_hear : FuncData
  f_Router_tell_next : Addr
  d_Router_tell_next : FuncData
  f_Router_look : Addr
  d_Router_look : FuncData
  f_Router_least_cost : Addr
  d_Router_least_cost : FuncData
  f_Router_lines_on : Addr
  d_Router_lines_on : FuncData
  f_Router_leads_on : Addr
  d_Router_leads_on : FuncData
  f_Router_hear_of_another : Addr
  d_Router_hear_of_another : FuncData
  f_Router_hear_of_itself : Addr
  d_Router_hear_of_itself : FuncData
  f_Router_tell_anew : Addr
  d_Router_tell_anew : FuncData
  f_Router_is_up : Addr
  d_Router_is_up : FuncData
  f_Router_fill_line : Addr
  d_Router_fill_line : FuncData
  f_Router_wait_on_all : Addr
  d_Router_wait_on_all : FuncData
  f_Router_wait_on : Addr
  d_Router_wait_on : FuncData
  f_Router_wait_no_more : Addr
  d_Router_wait_no_more : FuncData
  f_is_line : Addr
  d_is_line : FuncData
  f_answer_that_tells : Addr
  d_answer_that_tells : FuncData
  f_roads_by : Addr
  d_roads_by : FuncData
  f_answers : Addr
  d_answers : FuncData
  f_call_end : Addr
  d_call_end : FuncData
  f_answer_to : Addr
  d_answer_to : FuncData
  t_ROUTERS : Tok
  t_MOST_ROADS : Tok
  t_HEAD_BYTES : Tok
  t_ROAD_BYTES : Tok
  t_LINES : Tok
  t_MOST_COST : Tok
  t_MOST_NUMBER : Tok
  t_MOST_BYTES : Tok
  t_RO_BEGIN : Tok
  t_RO_LINE : Tok
  t_RO_HEAR : Tok
  t_RO_NEXT : Tok
  t_RO_LOOK : Tok
  t_RO_FAR : Tok
  o_CALL_LENGTHS : Addr
structure Txt (K : PySem.W.Frag) (mg : Str → Option Value) (A : Adr) : Prop where
  c_Told : Cls K A.a_Told
  g_Told : mg "Told" = some (.ref A.a_Told)
  M_Told : Mk K A.a_Told A.f_Told_init
  n_Told_name : NoAttr K A.a_Told "name"
  n_Told_number : NoAttr K A.a_Told "number"
  n_Told_roads : NoAttr K A.a_Told "roads"
  c_Router : Cls K A.a_Router
  g_Router : mg "Router" = some (.ref A.a_Router)
  M_Router : Mk K A.a_Router A.f_Router_init
  n_Router_me : NoAttr K A.a_Router "me"
  n_Router_lines : NoAttr K A.a_Router "lines"
  n_Router_known : NoAttr K A.a_Router "known"
  n_Router_waits : NoAttr K A.a_Router "waits"
  F_Told_init : Fun K "__init__" "Told.__init__" st_Told_init A.f_Told_init A.d_Told_init
  b_Told_init : Binds K A.d_Told_init pm_Told_init []
  F_Told_cost_to : Fun K "cost_to" "Told.cost_to" st_Told_cost_to A.f_Told_cost_to A.d_Told_cost_to
  b_Told_cost_to : Binds K A.d_Told_cost_to pm_Told_cost_to []
  m_Told_cost_to : Meth K A.a_Told "cost_to" A.f_Told_cost_to
  F_is_router : Fun K "is_router" "is_router" st_is_router A.f_is_router A.d_is_router
  b_is_router : Binds K A.d_is_router pm_is_router []
  g_is_router : mg "is_router" = some (.ref A.f_is_router)
  k_is_router : PySem.W.keepIn K (.ref A.f_is_router) = true
  F_message_of : Fun K "message_of" "message_of" st_message_of A.f_message_of A.d_message_of
  b_message_of : Binds K A.d_message_of pm_message_of []
  g_message_of : mg "message_of" = some (.ref A.f_message_of)
  k_message_of : PySem.W.keepIn K (.ref A.f_message_of) = true
  F_read_message : Fun K "read_message" "read_message" st_read_message A.f_read_message A.d_read_message
  b_read_message : Binds K A.d_read_message pm_read_message []
  g_read_message : mg "read_message" = some (.ref A.f_read_message)
  k_read_message : PySem.W.keepIn K (.ref A.f_read_message) = true
  F_has_right_length : Fun K "has_right_length" "has_right_length" st_has_right_length A.f_has_right_length A.d_has_right_length
  b_has_right_length : Binds K A.d_has_right_length pm_has_right_length []
  g_has_right_length : mg "has_right_length" = some (.ref A.f_has_right_length)
  k_has_right_length : PySem.W.keepIn K (.ref A.f_has_right_length) = true
  F_number_in : Fun K "number_in" "number_in" st_number_in A.f_number_in A.d_number_in
  b_number_in : Binds K A.d_number_in pm_number_in []
  g_number_in : mg "number_in" = some (.ref A.f_number_in)
  k_number_in : PySem.W.keepIn K (.ref A.f_number_in) = true
  F_roads_in : Fun K "roads_in" "roads_in" st_roads_in A.f_roads_in A.d_roads_in
  b_roads_in : Binds K A.d_roads_in pm_roads_in []
  g_roads_in : mg "roads_in" = some (.ref A.f_roads_in)
  k_roads_in : PySem.W.keepIn K (.ref A.f_roads_in) = true
  F_is_well_formed : Fun K "is_well_formed" "is_well_formed" st_is_well_formed A.f_is_well_formed A.d_is_well_formed
  b_is_well_formed : Binds K A.d_is_well_formed pm_is_well_formed []
  g_is_well_formed : mg "is_well_formed" = some (.ref A.f_is_well_formed)
  k_is_well_formed : PySem.W.keepIn K (.ref A.f_is_well_formed) = true
  F_road_cost : Fun K "road_cost" "road_cost" st_road_cost A.f_road_cost A.d_road_cost
  b_road_cost : Binds K A.d_road_cost pm_road_cost []
  g_road_cost : mg "road_cost" = some (.ref A.f_road_cost)
  k_road_cost : PySem.W.keepIn K (.ref A.f_road_cost) = true
  F_roads_into : Fun K "roads_into" "roads_into" st_roads_into A.f_roads_into A.d_roads_into
  b_roads_into : Binds K A.d_roads_into pm_roads_into []
  g_roads_into : mg "roads_into" = some (.ref A.f_roads_into)
  k_roads_into : PySem.W.keepIn K (.ref A.f_roads_into) = true
  F_least_costs_to : Fun K "least_costs_to" "least_costs_to" st_least_costs_to A.f_least_costs_to A.d_least_costs_to
  b_least_costs_to : Binds K A.d_least_costs_to pm_least_costs_to []
  g_least_costs_to : mg "least_costs_to" = some (.ref A.f_least_costs_to)
  k_least_costs_to : PySem.W.keepIn K (.ref A.f_least_costs_to) = true
  F_Router_init : Fun K "__init__" "Router.__init__" st_Router_init A.f_Router_init A.d_Router_init
  b_Router_init : Binds K A.d_Router_init pm_Router_init []
  F_Router_begin : Fun K "begin" "Router.begin" st_Router_begin A.f_Router_begin A.d_Router_begin
  b_Router_begin : Binds K A.d_Router_begin pm_Router_begin []
  m_Router_begin : Meth K A.a_Router "begin" A.f_Router_begin
  F_Router_set_line : Fun K "set_line" "Router.set_line" st_Router_set_line A.f_Router_set_line A.d_Router_set_line
  b_Router_set_line : Binds K A.d_Router_set_line pm_Router_set_line []
  m_Router_set_line : Meth K A.a_Router "set_line" A.f_Router_set_line
  F_Router_hear : Fun K "hear" "Router.hear" st_Router_hear A.f_Router_hear A.d_Router_hear
  b_Router_hear : Binds K A.d_Router_hear pm_Router_hear []
  m_Router_hear : Meth K A.a_Router "hear" A.f_Router_hear
  F_Router_tell_next : Fun K "tell_next" "Router.tell_next" st_Router_tell_next A.f_Router_tell_next A.d_Router_tell_next
  b_Router_tell_next : Binds K A.d_Router_tell_next pm_Router_tell_next []
  m_Router_tell_next : Meth K A.a_Router "tell_next" A.f_Router_tell_next
  F_Router_look : Fun K "look" "Router.look" st_Router_look A.f_Router_look A.d_Router_look
  b_Router_look : Binds K A.d_Router_look pm_Router_look []
  m_Router_look : Meth K A.a_Router "look" A.f_Router_look
  F_Router_least_cost : Fun K "least_cost" "Router.least_cost" st_Router_least_cost A.f_Router_least_cost A.d_Router_least_cost
  b_Router_least_cost : Binds K A.d_Router_least_cost pm_Router_least_cost []
  m_Router_least_cost : Meth K A.a_Router "least_cost" A.f_Router_least_cost
  F_Router_lines_on : Fun K "lines_on" "Router.lines_on" st_Router_lines_on A.f_Router_lines_on A.d_Router_lines_on
  b_Router_lines_on : Binds K A.d_Router_lines_on pm_Router_lines_on []
  m_Router_lines_on : Meth K A.a_Router "lines_on" A.f_Router_lines_on
  F_Router_leads_on : Fun K "leads_on" "Router.leads_on" st_Router_leads_on A.f_Router_leads_on A.d_Router_leads_on
  b_Router_leads_on : Binds K A.d_Router_leads_on pm_Router_leads_on []
  m_Router_leads_on : Meth K A.a_Router "leads_on" A.f_Router_leads_on
  F_Router_hear_of_another : Fun K "hear_of_another" "Router.hear_of_another" st_Router_hear_of_another A.f_Router_hear_of_another A.d_Router_hear_of_another
  b_Router_hear_of_another : Binds K A.d_Router_hear_of_another pm_Router_hear_of_another []
  m_Router_hear_of_another : Meth K A.a_Router "hear_of_another" A.f_Router_hear_of_another
  F_Router_hear_of_itself : Fun K "hear_of_itself" "Router.hear_of_itself" st_Router_hear_of_itself A.f_Router_hear_of_itself A.d_Router_hear_of_itself
  b_Router_hear_of_itself : Binds K A.d_Router_hear_of_itself pm_Router_hear_of_itself []
  m_Router_hear_of_itself : Meth K A.a_Router "hear_of_itself" A.f_Router_hear_of_itself
  F_Router_tell_anew : Fun K "tell_anew" "Router.tell_anew" st_Router_tell_anew A.f_Router_tell_anew A.d_Router_tell_anew
  b_Router_tell_anew : Binds K A.d_Router_tell_anew pm_Router_tell_anew []
  m_Router_tell_anew : Meth K A.a_Router "tell_anew" A.f_Router_tell_anew
  F_Router_is_up : Fun K "is_up" "Router.is_up" st_Router_is_up A.f_Router_is_up A.d_Router_is_up
  b_Router_is_up : Binds K A.d_Router_is_up pm_Router_is_up []
  m_Router_is_up : Meth K A.a_Router "is_up" A.f_Router_is_up
  F_Router_fill_line : Fun K "fill_line" "Router.fill_line" st_Router_fill_line A.f_Router_fill_line A.d_Router_fill_line
  b_Router_fill_line : Binds K A.d_Router_fill_line pm_Router_fill_line []
  m_Router_fill_line : Meth K A.a_Router "fill_line" A.f_Router_fill_line
  F_Router_wait_on_all : Fun K "wait_on_all" "Router.wait_on_all" st_Router_wait_on_all A.f_Router_wait_on_all A.d_Router_wait_on_all
  b_Router_wait_on_all : Binds K A.d_Router_wait_on_all pm_Router_wait_on_all []
  m_Router_wait_on_all : Meth K A.a_Router "wait_on_all" A.f_Router_wait_on_all
  F_Router_wait_on : Fun K "wait_on" "Router.wait_on" st_Router_wait_on A.f_Router_wait_on A.d_Router_wait_on
  b_Router_wait_on : Binds K A.d_Router_wait_on pm_Router_wait_on []
  m_Router_wait_on : Meth K A.a_Router "wait_on" A.f_Router_wait_on
  F_Router_wait_no_more : Fun K "wait_no_more" "Router.wait_no_more" st_Router_wait_no_more A.f_Router_wait_no_more A.d_Router_wait_no_more
  b_Router_wait_no_more : Binds K A.d_Router_wait_no_more pm_Router_wait_no_more []
  m_Router_wait_no_more : Meth K A.a_Router "wait_no_more" A.f_Router_wait_no_more
  F_is_line : Fun K "is_line" "is_line" st_is_line A.f_is_line A.d_is_line
  b_is_line : Binds K A.d_is_line pm_is_line []
  g_is_line : mg "is_line" = some (.ref A.f_is_line)
  k_is_line : PySem.W.keepIn K (.ref A.f_is_line) = true
  F_answer_that_tells : Fun K "answer_that_tells" "answer_that_tells" st_answer_that_tells A.f_answer_that_tells A.d_answer_that_tells
  b_answer_that_tells : Binds K A.d_answer_that_tells pm_answer_that_tells []
  g_answer_that_tells : mg "answer_that_tells" = some (.ref A.f_answer_that_tells)
  k_answer_that_tells : PySem.W.keepIn K (.ref A.f_answer_that_tells) = true
  F_roads_by : Fun K "roads_by" "roads_by" st_roads_by A.f_roads_by A.d_roads_by
  b_roads_by : Binds K A.d_roads_by pm_roads_by []
  g_roads_by : mg "roads_by" = some (.ref A.f_roads_by)
  k_roads_by : PySem.W.keepIn K (.ref A.f_roads_by) = true
  F_answers : Fun K "answers" "answers" st_answers A.f_answers A.d_answers
  b_answers : Binds K A.d_answers pm_answers []
  g_answers : mg "answers" = some (.ref A.f_answers)
  k_answers : PySem.W.keepIn K (.ref A.f_answers) = true
  F_call_end : Fun K "call_end" "call_end" st_call_end A.f_call_end A.d_call_end
  b_call_end : Binds K A.d_call_end pm_call_end []
  g_call_end : mg "call_end" = some (.ref A.f_call_end)
  k_call_end : PySem.W.keepIn K (.ref A.f_call_end) = true
  F_answer_to : Fun K "answer_to" "answer_to" st_answer_to A.f_answer_to A.d_answer_to
  b_answer_to : Binds K A.d_answer_to pm_answer_to []
  g_answer_to : mg "answer_to" = some (.ref A.f_answer_to)
  k_answer_to : PySem.W.keepIn K (.ref A.f_answer_to) = true
  g_ROUTERS : mg "ROUTERS" = some (.int 64 A.t_ROUTERS)
  g_MOST_ROADS : mg "MOST_ROADS" = some (.int 8 A.t_MOST_ROADS)
  g_HEAD_BYTES : mg "HEAD_BYTES" = some (.int 6 A.t_HEAD_BYTES)
  g_ROAD_BYTES : mg "ROAD_BYTES" = some (.int 3 A.t_ROAD_BYTES)
  g_LINES : mg "LINES" = some (.int 8 A.t_LINES)
  g_MOST_COST : mg "MOST_COST" = some (.int 65535 A.t_MOST_COST)
  g_MOST_NUMBER : mg "MOST_NUMBER" = some (.int 4294967295 A.t_MOST_NUMBER)
  g_MOST_BYTES : mg "MOST_BYTES" = some (.int 65536 A.t_MOST_BYTES)
  g_RO_BEGIN : mg "RO_BEGIN" = some (.int 0 A.t_RO_BEGIN)
  g_RO_LINE : mg "RO_LINE" = some (.int 1 A.t_RO_LINE)
  g_RO_HEAR : mg "RO_HEAR" = some (.int 2 A.t_RO_HEAR)
  g_RO_NEXT : mg "RO_NEXT" = some (.int 3 A.t_RO_NEXT)
  g_RO_LOOK : mg "RO_LOOK" = some (.int 4 A.t_RO_LOOK)
  g_RO_FAR : mg "RO_FAR" = some (.int 5 A.t_RO_FAR)
  g_CALL_LENGTHS : mg "CALL_LENGTHS" = some (.ref A.o_CALL_LENGTHS)
  s_CALL_LENGTHS : ∀ H : Hp, SqT K H A.o_CALL_LENGTHS [.int 2, .int 4, .int 3, .int 3, .int 3, .int 2, .int 2]
  z_len : mg "len" = none
  z_list : mg "list" = none
  z_min : mg "min" = none
  z_range : mg "range" = none
  z_sorted : mg "sorted" = none
end KR

/-! How the data lie in the heap. -/
namespace KR
open PySem PySem.Spec PyProof.Rows L2

/-! ### fields by name -/
theorem lk_here {k : Str} {v : V} {r : List (Str × V)} : List.lookup k ((k, v) :: r) = some v := by
  have e : (k == k) = true := beq_self_eq_true k
  simp only [List.lookup, e]
theorem lk_past {k g : Str} {v : V} {r : List (Str × V)} (h : (k == g) = false) : List.lookup k ((g, v) :: r) = List.lookup k r := by
  simp only [List.lookup, h]
theorem put_here {f : Str} {v x : V} {r : List (Str × V)} : putF f v ((f, x) :: r) = (f, v) :: r := if_pos rfl
theorem put_past {f g : Str} {v x : V} {r : List (Str × V)} (h : ¬ g = f) : putF f v ((g, x) :: r) = (g, x) :: putF f v r := if_neg h

def TF (x n : Nat) (r : Addr) : List (Str × V) := [("name", .int x), ("number", .int n), ("roads", .ref r)]
theorem TF_name (x n : Nat) (r : Addr) : (TF x n r).lookup ("name" : Str) = some (.int x) := lk_here
theorem TF_number (x n : Nat) (r : Addr) : (TF x n r).lookup ("number" : Str) = some (.int n) := (lk_past (by decide +kernel)).trans lk_here
theorem TF_roads (x n : Nat) (r : Addr) : (TF x n r).lookup ("roads" : Str) = some (.ref r) := (lk_past (by decide +kernel)).trans ((lk_past (by decide +kernel)).trans lk_here)
theorem TF_new (x n : Nat) (r : Addr) : putF "roads" (.ref r) (putF "number" (.int n) (putF "name" (.int x) [])) = TF x n r := by
  show putF "roads" (.ref r) (putF "number" (.int n) [("name", .int x)]) = TF x n r
  rw [put_past (by decide +kernel)]
  show putF "roads" (.ref r) [("name", .int x), ("number", .int n)] = TF x n r
  rw [put_past (by decide +kernel), put_past (by decide +kernel)]
  rfl
def RF (me : Nat) (l k w : Addr) : List (Str × V) := [("me", .int me), ("lines", .ref l), ("known", .ref k), ("waits", .ref w)]
section
variable (me : Nat) (l k w : Addr)
theorem RF_me : (RF me l k w).lookup ("me" : Str) = some (.int me) := lk_here
theorem RF_lines : (RF me l k w).lookup ("lines" : Str) = some (.ref l) := (lk_past (by decide +kernel)).trans lk_here
theorem RF_known : (RF me l k w).lookup ("known" : Str) = some (.ref k) := (lk_past (by decide +kernel)).trans ((lk_past (by decide +kernel)).trans lk_here)
theorem RF_waits : (RF me l k w).lookup ("waits" : Str) = some (.ref w) := (lk_past (by decide +kernel)).trans ((lk_past (by decide +kernel)).trans ((lk_past (by decide +kernel)).trans lk_here))
/-- none of the attributes -/
theorem RF_no {m : Str} (h1 : (m == ("me" : Str)) = false) (h2 : (m == ("lines" : Str)) = false) (h3 : (m == ("known" : Str)) = false) (h4 : (m == ("waits" : Str)) = false) : (RF me l k w).lookup m = none :=
  (lk_past h1).trans ((lk_past h2).trans ((lk_past h3).trans ((lk_past h4).trans rfl)))
theorem RF_put_lines (l' : Addr) : putF "lines" (.ref l') (RF me l k w) = RF me l' k w := (put_past (by decide +kernel)).trans (congrArg _ put_here)
end
theorem RF_len (me : Nat) (l k w : Addr) : (RF me l k w).length < 1000 := by show 4 < 1000; decide
/-- what begin stores, from an empty instance or from one that has begun -/
theorem RF_new (me : Nat) (l k w : Addr) (fs : List (Str × V)) (h : fs = [] ∨ ∃ m' l' k' w', fs = RF m' l' k' w') : putF "waits" (.ref w) (putF "known" (.ref k) (putF "lines" (.ref l) (putF "me" (.int me) fs))) = RF me l k w := by
  rcases h with rfl | ⟨m', l', k', w', rfl⟩
  · show putF "waits" (.ref w) (putF "known" (.ref k) (putF "lines" (.ref l) [("me", .int me)])) = _
    rw [put_past (by decide +kernel)]
    show putF "waits" (.ref w) (putF "known" (.ref k) [("me", .int me), ("lines", .ref l)]) = _
    rw [put_past (by decide +kernel), put_past (by decide +kernel)]
    show putF "waits" (.ref w) [("me", .int me), ("lines", .ref l), ("known", .ref k)] = _
    rw [put_past (by decide +kernel), put_past (by decide +kernel), put_past (by decide +kernel)]
    rfl
  · unfold RF
    have a1 : ¬ (("me" : Str) = "lines") := by decide +kernel
    have a2 : ¬ (("me" : Str) = "known") := by decide +kernel
    have a3 : ¬ (("me" : Str) = "waits") := by decide +kernel
    have a4 : ¬ (("lines" : Str) = "known") := by decide +kernel
    have a5 : ¬ (("lines" : Str) = "waits") := by decide +kernel
    have a6 : ¬ (("known" : Str) = "waits") := by decide +kernel
    rw [put_here, put_past a1, put_here, put_past a2, put_past a4, put_here, put_past a3, put_past a5, put_past a6, put_here]

/-! ### lists of whole numbers, pairs -/
def vI (ns : List Nat) : List V := ns.map fun (n : Nat) => V.int (n : Int)
theorem vI_get {ns : List Nat} {i : Nat} {y : V} (h : (vI ns)[i]? = some y) : ∃ n, ns[i]? = some n ∧ y = V.int (n : Int) := by
  unfold vI at h
  rw [List.getElem?_map] at h
  cases e : ns[i]? with
  | none => rw [e] at h; cases h
  | some n => rw [e] at h; exact ⟨n, rfl, (Option.some.inj h).symm⟩
theorem vI_at {ns : List Nat} {i n : Nat} (h : ns[i]? = some n) : (vI ns)[i]? = some (V.int (n : Int)) := by
  unfold vI
  rw [List.getElem?_map, h]
  rfl
theorem vI_len (ns : List Nat) : (vI ns).length = ns.length := List.length_map ..
theorem vI_append (a b : List Nat) : vI (a ++ b) = vI a ++ vI b := List.map_append ..
theorem take_more {α : Type} : ∀ {l : List α} {i : Nat} {x : α}, l[i]? = some x → l.take (i + 1) = l.take i ++ [x]
  | [], i, x, h => by simp at h
  | a :: l, 0, x, h => by
    have e : a = x := Option.some.inj h
    subst e
    rfl
  | a :: l, i + 1, x, h => by
    have ih := take_more (l := l) (i := i) (x := x) h
    show a :: l.take (i + 1) = a :: l.take i ++ [x]
    rw [ih]
    rfl
/-- an index of the program, a place of a list -/
theorem at_of {xs : List V} {i : Int} {j : Nat} {v : V} (e : i = (j : Int)) (h : xs[j]? = some v) : atI xs i = some v := by
  subst e
  have hj : j < xs.length := (List.getElem?_eq_some_iff.mp h).1
  unfold atI ixN
  rw [if_pos (Int.natCast_nonneg j), if_pos (by omega), Option.bind_some]
  exact h
theorem ixN_of {n : Nat} {i : Int} {j : Nat} (e : i = (j : Int)) (h : j < n) : ixN n i = some j := by
  subst e
  unfold ixN
  rw [if_pos (Int.natCast_nonneg j), if_pos (by omega)]
  rfl

def PairAt (H : Hp) (t : Addr) (x : Nat × Nat) : Prop := H t = some (.tup [.int (x.1 : Int), .int (x.2 : Int)])
def RowAt (H : Hp) (l : Addr) (xs : List (Nat × Nat)) : Prop := ∃ ts : List Addr, H l = some (.lst (ts.map V.ref)) ∧ Paired (PairAt H) ts xs
theorem paired_at {α β : Type} {G : α → β → Prop} : ∀ {l : List α} {r : List β}, Paired G l r → ∀ {i : Nat} {a : α}, l[i]? = some a → ∃ b, r[i]? = some b ∧ G a b
  | _, _, .nil, i, a, e => by simp at e
  | _, _, .cons g t, 0, a, e => by
    simp at e; subst e; exact ⟨_, rfl, g⟩
  | _, _, .cons g t, i + 1, a, e => by
    obtain ⟨b, h1, h2⟩ := paired_at t (i := i) (a := a) (by simpa using e)
    exact ⟨b, by simpa using h1, h2⟩
theorem paired_at' {α β : Type} {G : α → β → Prop} : ∀ {l : List α} {r : List β}, Paired G l r → ∀ {i : Nat} {b : β}, r[i]? = some b → ∃ a, l[i]? = some a ∧ G a b
  | _, _, .nil, i, a, e => by simp at e
  | _, _, .cons g t, 0, a, e => by
    simp at e; subst e; exact ⟨_, rfl, g⟩
  | _, _, .cons g t, i + 1, a, e => by
    obtain ⟨b, h1, h2⟩ := paired_at' t (i := i) (b := a) (by simpa using e)
    exact ⟨b, by simpa using h1, h2⟩
theorem paired_set {α β : Type} {G : α → β → Prop} : ∀ {l : List α} {r : List β}, Paired G l r → ∀ (i : Nat) {a : α} {b : β}, G a b → Paired G (l.set i a) (r.set i b)
  | _, _, .nil, i, a, b, g => .nil
  | _, _, .cons h t, 0, a, b, g => .cons g t
  | _, _, .cons h t, i + 1, a, b, g => .cons h (paired_set t i g)
theorem refs_at {ts : List Addr} {i : Nat} {y : V} (h : (ts.map V.ref)[i]? = some y) : ∃ t, ts[i]? = some t ∧ y = .ref t := by
  rw [List.getElem?_map] at h
  cases e : ts[i]? with
  | none => rw [e] at h; cases h
  | some n => rw [e] at h; exact ⟨n, rfl, (Option.some.inj h).symm⟩
theorem refs_get {ts : List Addr} {i : Nat} {t : Addr} (h : ts[i]? = some t) : (ts.map V.ref)[i]? = some (.ref t) := by
  rw [List.getElem?_map, h]; rfl

/-- of H, all but what is told by φ stands in H' -/
def Keep (H H' : Hp) (φ : Addr → Prop) : Prop := ∀ b o, H b = some o → ¬ φ b → H' b = some o
theorem Same.keep {H H' : Hp} (s : Same H H') {φ : Addr → Prop} : Keep H H' φ := fun b o e _ => s b o e
theorem RowAt.keep {H H' : Hp} {l : Addr} {xs : List (Nat × Nat)} {φ : Addr → Prop} (h : RowAt H l xs) (k : Keep H H' φ) (n : ¬ φ l) (nt : ∀ t ys, H t = some (.tup ys) → ¬ φ t) : RowAt H' l xs := by
  obtain ⟨ts, h1, h2⟩ := h
  exact ⟨ts, k _ _ h1 n, Paired.mapP h2 fun t x p => k _ _ p (nt t _ p)⟩
theorem RowAt.same {H H' : Hp} {l : Addr} {xs : List (Nat × Nat)} (h : RowAt H l xs) (s : Same H H') : RowAt H' l xs := by
  obtain ⟨ts, h1, h2⟩ := h
  exact ⟨ts, s _ _ h1, Paired.mapP h2 fun t x p => s _ _ p⟩
theorem RowAt.len {H : Hp} {l : Addr} {xs : List (Nat × Nat)} {vs : List V} (h : RowAt H l xs) (e : H l = some (.lst vs)) : vs.length = xs.length := by
  obtain ⟨ts, h1, h2⟩ := h
  rw [h1] at e
  have e' : ts.map V.ref = vs := by
    have := Option.some.inj e
    injection this
  rw [← e', List.length_map]
  exact Paired.length h2

/-- what is known of a router, as the object at t -/
def ToldAt (A : Adr) (H : Hp) (t : Addr) (x : Nat) (a : Ql82.Ad) : Prop := ∃ dx r, H t = some (.ins A.a_Told dx (TF x a.seq r)) ∧ RowAt H r a.roads
theorem ToldAt.same {A : Adr} {H H' : Hp} {t : Addr} {x : Nat} {a : Ql82.Ad} (h : ToldAt A H t x a) (s : Same H H') : ToldAt A H' t x a := by
  obtain ⟨dx, r, h1, h2⟩ := h
  exact ⟨dx, r, s _ _ h1, h2.same s⟩

/-! ### dicts whose keys are routers -/
/-- the keys are names 0 to 63, none twice -/
structure Keys (kvs : List (Key × V)) : Prop where
  nd : (kvs.map (·.1)).Nodup
  rt : ∀ p ∈ kvs, ∃ x : Nat, x < 64 ∧ p.1 = Sum.inl (x : Int)
theorem Keys.len {kvs : List (Key × V)} (h : Keys kvs) : kvs.length ≤ 64 := by
  let g : Key → Nat := fun k => match k with
    | .inl i => i.toNat
    | .inr _ => 0
  have e : (kvs.map fun p => g p.1).length = kvs.length := List.length_map ..
  rw [← e]
  refine pigeon 64 _ ?_ ?_
  · have h1 := h.nd
    have rt := h.rt
    clear e h
    induction kvs with
    | nil => simp
    | cons p r ih =>
      rw [List.map_cons, List.nodup_cons] at h1 ⊢
      refine ⟨fun q => ?_, ih h1.2 fun q hq => rt q (List.mem_cons_of_mem _ hq)⟩
      rw [List.mem_map] at q
      obtain ⟨y, hy, e⟩ := q
      obtain ⟨a, _, ea⟩ := rt p (List.mem_cons_self ..)
      obtain ⟨b, _, eb⟩ := rt y (List.mem_cons_of_mem _ hy)
      rw [ea, eb] at e
      have e' : b = a := e
      refine h1.1 ?_
      rw [ea, ← e', ← eb]
      exact List.mem_map.mpr ⟨y, hy, rfl⟩
  · intro x hx
    rw [List.mem_map] at hx
    obtain ⟨p, hp, rfl⟩ := hx
    obtain ⟨a, ha, ea⟩ := h.rt p hp
    rw [ea]
    exact ha
theorem Keys.line {kvs : List (Key × V)} (h : Keys kvs) : kvs.length < sizeLine := Nat.lt_of_le_of_lt h.len (by decide)
theorem Keys.nil : Keys [] := ⟨by simp, by simp⟩
theorem putK_mem {kvs : List (Key × V)} {k : Key} {v : V} {p : Key × V} (h : p ∈ putK kvs k v) : p.1 = k ∨ p ∈ kvs := by
  unfold putK at h
  split at h
  · rw [List.mem_map] at h
    obtain ⟨q, hq, e⟩ := h
    split at e
    · rename_i c
      left; rw [← e]; exact c
    · right; rw [← e]; exact hq
  · rw [List.mem_append] at h
    rcases h with h | h
    · exact .inr h
    · left; rw [List.mem_singleton.mp h]
theorem putK_keys_old {kvs : List (Key × V)} {k : Key} (v : V) (h : (valV kvs k).isSome = true) : (putK kvs k v).map (·.1) = kvs.map (·.1) := by
  unfold putK
  rw [if_pos (by rw [valV_any]; exact h), List.map_map]
  refine List.map_congr_left fun p _ => ?_
  show (if p.1 = k then (p.1, v) else p).1 = p.1
  split <;> rfl
theorem Keys.put {kvs : List (Key × V)} (h : Keys kvs) {x : Nat} (hx : x < 64) (v : V) : Keys (putK kvs (Sum.inl (x : Int)) v) := by
  refine ⟨?_, fun p hp => ?_⟩
  · cases e : valV kvs (Sum.inl (x : Int) : Key) with
    | none => exact nd_putK v h.nd e
    | some u =>
      rw [putK_keys_old v (by rw [e]; rfl)]
      exact h.nd
  · rcases putK_mem hp with e | e
    · exact ⟨x, hx, e⟩
    · exact h.rt p e
theorem Keys.drop {kvs : List (Key × V)} (h : Keys kvs) (k : Key) : Keys (dropK kvs k) := ⟨nd_dropK h.nd, fun p hp => h.rt p (dropK_mem hp)⟩
theorem valV_drop (kvs : List (Key × V)) (k j : Key) : valV (dropK kvs k) j = if j = k then none else valV kvs j := by
  induction kvs with
  | nil => split <;> rfl
  | cons p r ih =>
    by_cases e : p.1 = k
    · rw [dropK_pos e, ih]
      by_cases q : j = k
      · rw [if_pos q, if_pos q]
      · rw [if_neg q, if_neg q, valV_neg (fun z => q (z.symm.trans e))]
    · rw [dropK_neg e]
      by_cases q : p.1 = j
      · rw [valV_pos q, valV_pos q, if_neg (fun z => e (q.trans z))]
      · rw [valV_neg q, valV_neg q, ih]
theorem inl_ne {x y : Nat} (h : x ≠ y) : ¬ ((Sum.inl (x : Int) : Key) = Sum.inl (y : Int)) := by
  intro e
  injection e with e
  exact h (by omega)
/-- who waits: the dict's keys -/
def WK (kvs : List (Key × V)) (g : Nat → Bool) : Prop := Keys kvs ∧ ∀ x : Nat, (valV kvs (Sum.inl (x : Int) : Key)).isSome = g x
theorem WK.nil : WK [] fun _ => false := ⟨Keys.nil, fun _ => rfl⟩
theorem WK.put {kvs : List (Key × V)} {g : Nat → Bool} (h : WK kvs g) {x : Nat} (hx : x < 64) (v : V) : WK (putK kvs (Sum.inl (x : Int)) v) fun y => if y = x then true else g y := by
  refine ⟨h.1.put hx v, fun y => ?_⟩
  rw [valV_put]
  by_cases e : y = x
  · subst e; simp
  · rw [if_neg (inl_ne e)]; simpa [e] using h.2 y
theorem WK.drop {kvs : List (Key × V)} {g : Nat → Bool} (h : WK kvs g) (x : Nat) : WK (dropK kvs (Sum.inl (x : Int))) fun y => if y = x then false else g y := by
  refine ⟨h.1.drop _, fun y => ?_⟩
  rw [valV_drop]
  by_cases e : y = x
  · subst e; simp
  · rw [if_neg (inl_ne e)]; simpa [e] using h.2 y
theorem WK.congr {kvs : List (Key × V)} {g g' : Nat → Bool} (h : WK kvs g) (e : ∀ x, g x = g' x) : WK kvs g' := ⟨h.1, fun x => (h.2 x).trans (e x)⟩
theorem upd_id {H : Hp} {d : Addr} {o : HO} (h : H d = some o) : upd H d o = H := by
  funext b
  by_cases e : b = d
  · subst e; rw [upd_same, h]
  · rw [upd_ne e]
/-- the lists of those who wait: one dict a line -/
structure WAt (H : Hp) (w : Addr) (ds : List Addr) (f : Nat → Nat → Bool) : Prop where
  ls : H w = some (.lst (ds.map V.ref))
  l8 : ds.length = 8
  inj : ∀ (p q : Nat) (d : Addr), ds[p]? = some d → ds[q]? = some d → p = q
  at_ : ∀ (p : Nat) (d : Addr), ds[p]? = some d → ∃ kvs, H d = some (.dK kvs) ∧ WK kvs (f p)
theorem WAt.get {H : Hp} {w : Addr} {ds : List Addr} {f : Nat → Nat → Bool} (h : WAt H w ds f) {p : Nat} (hp : p < 8) : ∃ d kvs, ds[p]? = some d ∧ H d = some (.dK kvs) ∧ WK kvs (f p) := by
  have hl : p < ds.length := by rw [h.l8]; exact hp
  have e : ds[p]? = some ds[p] := List.getElem?_eq_getElem hl
  obtain ⟨kvs, h1, h2⟩ := h.at_ p _ e
  exact ⟨_, kvs, e, h1, h2⟩
theorem nd_at {α : Type} {l : List α} (hN : l.Nodup) {i j : Nat} {x : α} (a : l[i]? = some x) (b : l[j]? = some x) : i = j := by
  obtain ⟨h1, e1⟩ := List.getElem?_eq_some_iff.mp a
  obtain ⟨h2, e2⟩ := List.getElem?_eq_some_iff.mp b
  exact (List.getElem_inj hN).mp (e1.trans e2.symm)
theorem WAt.upd {H : Hp} {w : Addr} {ds : List Addr} {f : Nat → Nat → Bool} (h : WAt H w ds f) {p : Nat} {d : Addr} {kvs' : List (Key × V)} {g : Nat → Bool} (hd : ds[p]? = some d) (hg : WK kvs' g) :
    WAt (L2.upd H d (.dK kvs')) w ds fun q => if q = p then g else f q := by
  obtain ⟨kvs, h1, h2⟩ := h.at_ p d hd
  have nw : w ≠ d := ne_of h.ls h1 (by intro z; cases z)
  refine ⟨by rw [upd_ne nw]; exact h.ls, h.l8, h.inj, fun q c hc => ?_⟩
  by_cases e : q = p
  · subst e
    rw [hd] at hc
    cases hc
    exact ⟨kvs', upd_same, by simpa using hg⟩
  · have ne : c ≠ d := by
      intro z
      subst z
      exact e (h.inj _ _ _ hc hd)
    obtain ⟨kv2, g1, g2⟩ := h.at_ q c hc
    exact ⟨kv2, by rw [upd_ne ne]; exact g1, by simpa [e] using g2⟩
theorem WAt.congr {H : Hp} {w : Addr} {ds : List Addr} {f f' : Nat → Nat → Bool} (h : WAt H w ds f) (e : ∀ p x, p < 8 → f p x = f' p x) : WAt H w ds f' := by
  refine ⟨h.ls, h.l8, h.inj, fun p d hd => ?_⟩
  obtain ⟨kvs, h1, h2⟩ := h.at_ p d hd
  have hp : p < 8 := by
    have := (List.getElem?_eq_some_iff.mp hd).1
    rw [h.l8] at this; exact this
  exact ⟨kvs, h1, h2.congr fun x => e p x hp⟩
theorem WAt.same {H H' : Hp} {w : Addr} {ds : List Addr} {f : Nat → Nat → Bool} (h : WAt H w ds f) (s : Same H H') : WAt H' w ds f := by
  refine ⟨s _ _ h.ls, h.l8, h.inj, fun p d hd => ?_⟩
  obtain ⟨kvs, h1, h2⟩ := h.at_ p d hd
  exact ⟨kvs, s _ _ h1, h2⟩
theorem WAt.dict {H : Hp} {w : Addr} {ds : List Addr} {f : Nat → Nat → Bool} (h : WAt H w ds f) {d : Addr} (hd : d ∈ ds) : ∃ kvs, H d = some (.dK kvs) := by
  obtain ⟨i, hi, e⟩ := List.getElem_of_mem hd
  obtain ⟨kvs, h1, _⟩ := h.at_ i d (by rw [List.getElem?_eq_getElem hi, e])
  exact ⟨kvs, h1⟩
/-- a list of pairs is not the list of those who wait -/
theorem WAt.ne_row {H : Hp} {w : Addr} {ds : List Addr} {f : Nat → Nat → Bool} (h : WAt H w ds f) {l : Addr} {xs : List (Nat × Nat)} (r : RowAt H l xs) : l ≠ w := by
  intro e
  subst e
  obtain ⟨ts, h1, h2⟩ := r
  rw [h.ls] at h1
  have e1 : ds.map V.ref = ts.map V.ref := by
    have := Option.some.inj h1
    injection this
  obtain ⟨d, kvs, g1, g2, _⟩ := h.get (p := 0) (by decide)
  have e2 : (ts.map V.ref)[0]? = some (.ref d) := by rw [← e1]; exact refs_get g1
  obtain ⟨t, ht, et⟩ := refs_at e2
  cases et
  obtain ⟨x, _, hx⟩ := paired_at h2 ht
  have hx' : H d = some (.tup [.int (x.1 : Int), .int (x.2 : Int)]) := hx
  rw [g2] at hx'
  cases hx'
/-- all but dicts stands as it was -/
def NoDict (H H' : Hp) : Prop := ∀ b o, H b = some o → (∀ kvs, o ≠ .dK kvs) → H' b = some o
theorem RowAt.nodict {H H' : Hp} {l : Addr} {xs : List (Nat × Nat)} (h : RowAt H l xs) (e : NoDict H H') : RowAt H' l xs := by
  obtain ⟨ts, h1, h2⟩ := h
  exact ⟨ts, e _ _ h1 (fun _ z => by cases z), Paired.mapP h2 fun t x p => e _ _ p (fun _ z => by cases z)⟩
theorem ToldAt.nodict {A : Adr} {H H' : Hp} {t : Addr} {x : Nat} {a : Ql82.Ad} (h : ToldAt A H t x a) (e : NoDict H H') : ToldAt A H' t x a := by
  obtain ⟨dx, r, h1, h2⟩ := h
  exact ⟨dx, r, e _ _ h1 (fun _ z => by cases z), h2.nodict e⟩
theorem WAt.nodict {H H' : Hp} {w : Addr} {ds : List Addr} {f : Nat → Nat → Bool} (h : WAt H w ds f) (e : ∀ b, b ∉ ds → H' b = H b) : NoDict H H' := by
  intro b o hb n
  rw [e b fun z => ?_]
  · exact hb
  · obtain ⟨kvs, hk⟩ := h.dict z
    rw [hb] at hk
    exact n kvs (Option.some.inj hk)
/-- an empty dict put at a line -/
theorem WAt.fresh {H : Hp} {w : Addr} {ds : List Addr} {f : Nat → Nat → Bool} (h : WAt H w ds f) {p : Nat} {d' : Addr} (hp : p < 8) (hd : H d' = none) :
    WAt (L2.upd (L2.upd H d' (.dK [])) w (.lst ((ds.set p d').map V.ref))) w (ds.set p d') fun q => if q = p then fun _ => false else f q := by
  have nin : ∀ q : Nat, ds[q]? ≠ some d' := fun q z => by
    obtain ⟨kvs, h1, _⟩ := h.at_ q d' z
    rw [hd] at h1; cases h1
  have hl : p < ds.length := by rw [h.l8]; exact hp
  have wd : w ≠ d' := ne_of_none h.ls hd
  refine ⟨upd_same, by rw [List.length_set]; exact h.l8, fun q r d h1 h2 => ?_, fun q d hq => ?_⟩
  · by_cases e1 : p = q
    · by_cases e2 : p = r
      · rw [← e1, ← e2]
      · subst e1
        rw [List.getElem?_set_self hl] at h1
        rw [List.getElem?_set_ne e2] at h2
        cases h1
        exact absurd h2 (nin r)
    · rw [List.getElem?_set_ne e1] at h1
      by_cases e2 : p = r
      · subst e2
        rw [List.getElem?_set_self hl] at h2
        cases h2
        exact absurd h1 (nin q)
      · rw [List.getElem?_set_ne e2] at h2
        exact h.inj _ _ _ h1 h2
  · by_cases e : p = q
    · subst e
      rw [List.getElem?_set_self hl] at hq
      cases hq
      exact ⟨[], by rw [upd_ne wd.symm, upd_same], by simpa using WK.nil⟩
    · rw [List.getElem?_set_ne e] at hq
      obtain ⟨kvs, h1, h2⟩ := h.at_ q d hq
      have n1 : d ≠ w := fun z => by rw [z, h.ls] at h1; cases h1
      refine ⟨kvs, by rw [upd_ne n1, upd_ne (ne_of_none h1 hd)]; exact h1, ?_⟩
      have e' : ¬ q = p := fun z => e z.symm
      simpa [e'] using h2
/-- what's known -/
structure KK (A : Adr) (H : Hp) (kvs : List (Key × V)) (ads : Nat → Option Ql82.Ad) : Prop where
  keys : Keys kvs
  some_ : ∀ (x : Nat) a, ads x = some a → ∃ t, valV kvs (Sum.inl (x : Int) : Key) = some (.ref t) ∧ ToldAt A H t x a
  none_ : ∀ x : Nat, ads x = none → valV kvs (Sum.inl (x : Int) : Key) = none
def KAt (A : Adr) (H : Hp) (k : Addr) (ads : Nat → Option Ql82.Ad) : Prop := ∃ kvs, H k = some (.dK kvs) ∧ KK A H kvs ads
theorem KK.nodict {A : Adr} {H H' : Hp} {kvs : List (Key × V)} {ads : Nat → Option Ql82.Ad} (h : KK A H kvs ads) (e : NoDict H H') : KK A H' kvs ads :=
  ⟨h.keys, fun x a q => let ⟨t, h1, h2⟩ := h.some_ x a q; ⟨t, h1, h2.nodict e⟩, h.none_⟩
theorem KK.same {A : Adr} {H H' : Hp} {kvs : List (Key × V)} {ads : Nat → Option Ql82.Ad} (h : KK A H kvs ads) (s : Same H H') : KK A H' kvs ads :=
  ⟨h.keys, fun x a e => let ⟨t, h1, h2⟩ := h.some_ x a e; ⟨t, h1, h2.same s⟩, h.none_⟩
theorem KK.moved {A : Adr} {H H' : Hp} {kvs : List (Key × V)} {ads : Nat → Option Ql82.Ad} (h : KK A H kvs ads) (s : ∀ t x a, ToldAt A H t x a → ToldAt A H' t x a) : KK A H' kvs ads :=
  ⟨h.keys, fun x a e => let ⟨t, h1, h2⟩ := h.some_ x a e; ⟨t, h1, s _ _ _ h2⟩, h.none_⟩
theorem KK.isSome {A : Adr} {H : Hp} {kvs : List (Key × V)} {ads : Nat → Option Ql82.Ad} (h : KK A H kvs ads) (x : Nat) : (valV kvs (Sum.inl (x : Int) : Key)).isSome = (ads x).isSome := by
  cases e : ads x with
  | none => rw [h.none_ x e]; rfl
  | some a =>
    obtain ⟨t, h1, _⟩ := h.some_ x a e
    rw [h1]; rfl
theorem KK.put {A : Adr} {H : Hp} {kvs : List (Key × V)} {ads : Nat → Option Ql82.Ad} (h : KK A H kvs ads) {x : Nat} (hx : x < 64) {t : Addr} {a : Ql82.Ad} (ht : ToldAt A H t x a) :
    KK A H (putK kvs (Sum.inl (x : Int)) (.ref t)) fun y => if y = x then some a else ads y := by
  refine ⟨h.keys.put hx _, fun y b e => ?_, fun y e => ?_⟩
  · rw [valV_put]
    by_cases c : y = x
    · subst c
      rw [if_pos rfl] at e
      cases e
      exact ⟨t, if_pos rfl, ht⟩
    · rw [if_neg c] at e
      obtain ⟨t', h1, h2⟩ := h.some_ y b e
      exact ⟨t', by rw [if_neg (inl_ne c)]; exact h1, h2⟩
  · rw [valV_put]
    by_cases c : y = x
    · subst c
      rw [if_pos rfl] at e
      cases e
    · rw [if_neg c] at e
      rw [if_neg (inl_ne c)]
      exact h.none_ y e
theorem KAt.same {A : Adr} {H H' : Hp} {k : Addr} {ads : Nat → Option Ql82.Ad} (h : KAt A H k ads) (s : Same H H') : KAt A H' k ads := by
  obtain ⟨kvs, h1, h2⟩ := h
  exact ⟨kvs, s _ _ h1, h2.same s⟩
/-- what a router tells stands where dicts, an instance of another class and one list, none of pairs, have changed -/
theorem ToldAt.moved {A : Adr} {H H' : Hp} {φ : Addr → Prop} (k : Keep H H' φ) (n1 : ∀ b ys, H b = some (.tup ys) → ¬ φ b) (n2 : ∀ b xs, RowAt H b xs → ¬ φ b) (n3 : ∀ b dx x n r, H b = some (.ins A.a_Told dx (TF x n r)) → ¬ φ b) :
    ∀ t x a, ToldAt A H t x a → ToldAt A H' t x a := by
  rintro t x a ⟨dx, r, h1, h2⟩
  exact ⟨dx, r, k _ _ h1 (n3 _ _ _ _ _ h1), h2.keep k (n2 _ _ h2) n1⟩
end KR

/-! A rule of our own: min of a list of pairs of whole numbers. -/
namespace KR
open PySem PySem.W PySem.Spec PyProof.Rows L2

def lexP (x y : Nat × Nat) : Bool := decide (x.1 < y.1 ∨ (x.1 = y.1 ∧ x.2 < y.2))
theorem lexLt_pair (x y : Nat × Nat) : HT.lexLt [(x.1 : Int), (x.2 : Int)] [(y.1 : Int), (y.2 : Int)] = lexP x y := by
  unfold lexP
  rw [HT.lexLt_cons, HT.lexLt_cons, HT.lexLt_nil_nil]
  by_cases h : x.1 = y.1
  · have h' : (x.1 : Int) = (y.1 : Int) := by omega
    rw [if_pos h']
    by_cases g : x.2 = y.2
    · have g' : (x.2 : Int) = (y.2 : Int) := by omega
      rw [if_pos g']
      symm; rw [decide_eq_false_iff_not]; omega
    · have g' : ¬ (x.2 : Int) = (y.2 : Int) := by omega
      rw [if_neg g']
      congr 1
      apply propext
      omega
  · have h' : ¬ (x.1 : Int) = (y.1 : Int) := by omega
    rw [if_neg h']
    congr 1
    apply propext
    omega
theorem argBest_lex (f : Nat → Nat × Nat) : ∀ k, argBest (fun i j => lexP (f i) (f j)) k ≤ k ∧ ∀ j, j ≤ k → lexP (f j) (f (argBest (fun i j => lexP (f i) (f j)) k)) = false
  | 0 => ⟨Nat.le_refl _, fun j hj => by
    have : j = 0 := by omega
    subst this
    show lexP (f 0) (f 0) = false
    unfold lexP
    rw [decide_eq_false_iff_not]; omega⟩
  | k + 1 => by
    obtain ⟨h1, h2⟩ := argBest_lex f k
    have e : argBest (fun i j => lexP (f i) (f j)) (k + 1) = if lexP (f (k + 1)) (f (argBest (fun i j => lexP (f i) (f j)) k)) = true then k + 1 else argBest (fun i j => lexP (f i) (f j)) k := rfl
    rw [e]
    clear e
    generalize argBest (fun i j => lexP (f i) (f j)) k = b at h1 h2 ⊢
    by_cases c : lexP (f (k + 1)) (f b) = true
    · rw [if_pos c]
      refine ⟨Nat.le_refl _, fun j hj => ?_⟩
      by_cases e : j = k + 1
      · subst e
        unfold lexP
        rw [decide_eq_false_iff_not]; omega
      · have q := h2 j (by omega)
        unfold lexP at q c ⊢
        rw [decide_eq_false_iff_not] at q ⊢
        rw [decide_eq_true_iff] at c
        omega
    · rw [if_neg c]
      refine ⟨by omega, fun j hj => ?_⟩
      by_cases e : j = k + 1
      · subst e
        exact Bool.eq_false_iff.mpr c
      · exact h2 j (by omega)
section
variable {X : Cx}
def rMinP (K : PySem.W.Frag) : List V → Hp → VK → Prop := fun vs H Q => ∃ (a : Addr) (xs : List (Nat × Nat)), vs = [V.ref a] ∧ RowAt H a xs ∧ 0 < xs.length ∧ xs.length ≤ 64 ∧
  ∀ (t : Addr) (x : Nat × Nat), x ∈ xs → H t = some (.tup [.int (x.1 : Int), .int (x.2 : Int)]) → (∀ y ∈ xs, x.1 ≤ y.1) → Q (.ref t) H
theorem cr_minP (hc : X.calm = true) (hu : X.A.units + 64 < cLine) : CallR X (.builtin "min") (rMinP X.K) := by
  intro pins s σ H vs us Q I r h
  obtain ⟨a, xs, rfl, ⟨ts, ha, hp⟩, h0, h64, q⟩ := h
  have hts : ts.length = xs.length := Paired.length hp
  obtain ⟨its, rv, hl, _⟩ := I.list (SqL.of ha)
  rw [Vals.ref1 r]
  have hlen : its.length = xs.length := by rw [← rv.length, List.length_map, hts]
  have hat : ∀ (i : Nat) (v : Value), its.toArray[i]? = some v → ∃ (t : Addr) (x : Nat × Nat), v = .ref t ∧ xs[i]? = some x ∧ H t = some (.tup [.int (x.1 : Int), .int (x.2 : Int)]) := fun i v hv => by
    have hv' : its[i]? = some v := by simpa using hv
    obtain ⟨y, hy, ry⟩ := paired_at' rv hv'
    obtain ⟨t, ht, rfl⟩ := refs_at hy
    obtain ⟨x, hx, px⟩ := paired_at hp ht
    cases ry
    exact ⟨t, x, rfl, hx, px⟩
  let f : Nat → Nat × Nat := fun i => xs.getD i (0, 0)
  refine call_min_walkH (iter_listW (I.ok.hd hc) hl.isList fun s₂ es W st fp no keep => ?_)
  refine ⟨_, _, _, _, _, _, _, s.heap, fun i j => lexP (f i) (f j), rfl, W, st, fp, by simp; omega, no, keep, ?_, fun v s' hv hm => ?_⟩
  · intro i j vi vj s3 Q2 E2 hk hi hj hq
    obtain ⟨t1, x1, rfl, e1, p1⟩ := hat i vi hi
    obtain ⟨t2, x2, rfl, e2, p2⟩ := hat j vj hj
    have g1 : f i = x1 := by show xs.getD i (0, 0) = x1; rw [List.getD_eq_getElem?_getD, e1]; rfl
    have g2 : f j = x2 := by show xs.getD j (0, 0) = x2; rw [List.getD_eq_getElem?_getD, e2]; rfl
    dsimp only at hq
    rw [g1, g2, ← lexLt_pair] at hq
    obtain ⟨i1, r1, q1, _⟩ := I.tuple (SqT.of p1)
    obtain ⟨i2, r2, q2, _⟩ := I.tuple (SqT.of p2)
    have n1 : IntsAre i1.toArray.toList [(x1.1 : Int), (x1.2 : Int)] := intsAre_of r1
    have n2 : IntsAre i2.toArray.toList [(x2.1 : Int), (x2.2 : Int)] := intsAre_of r2
    exact HT.lt_tupInts (q1.keeps hk) (q2.keeps hk) n1 n2 (by show X.A.units + 1 < cLine; omega) hq
  · obtain ⟨t, x, rfl, ex, px⟩ := hat _ v hv
    obtain ⟨h', tk, rfl, hk⟩ := moved_old es rfl hm
    refine ⟨.ref t, H, I.kept hk, rfl, q t x (List.mem_of_getElem? ex) px fun y hy => ?_⟩
    obtain ⟨j, hj, rfl⟩ := List.getElem_of_mem hy
    have g := (argBest_lex f (its.toArray.size - 1)).2 j (by simp; omega)
    have gb : f (argBest (fun i j => lexP (f i) (f j)) (its.toArray.size - 1)) = x := by show xs.getD _ (0, 0) = x; rw [List.getD_eq_getElem?_getD, ex]; rfl
    have gj : f j = xs[j] := by show xs.getD j (0, 0) = xs[j]; rw [List.getD_eq_getElem?_getD, List.getElem?_eq_getElem hj]; rfl
    rw [gb, gj] at g
    unfold lexP at g
    rw [decide_eq_false_iff_not] at g
    omega
end
end KR

/-! The defs that change nothing, and those that make a message of what is told. -/
namespace KR
open PySem PySem.Spec PyProof.Rows L2
section
variable {P : Program} {w : World} {K : PySem.W.Frag} {mg : Str → Option Value} {base : Heap} {A : Adr}

def sp_is_router : Sp := fun vs H Q _ => ∃ i : Int, vs = [.int i] ∧ Q (.bl (decide (0 ≤ i ∧ i < 64))) H
theorem ok_is_router (T : Txt K mg A) : FnOk P w K mg base CX0 1 A.f_is_router A.d_is_router pm_is_router (sp_is_router) := by
  refine T.F_is_router.ok sc_is_router (fun vs H Q E h => ?_) (fun cdv Ar outer s H vs Q E hr h => ?_)
  · obtain ⟨i, rfl, _⟩ := h
    rfl
  · obtain ⟨i, rfl, k⟩ := h
    refine ⟨_, (pss_one (ps_ret (pe_chain op_le op_lt pe_int (pv 0) (pe_glob (v := V.int 64) rfl T.g_ROUTERS ⟨_, rfl⟩)))), ?_⟩
    refine ⟨_, rfl, _, _, rfl, rfl, _, rfl, ?_⟩
    by_cases c : (0 : Int) ≤ i
    · rw [decide_eq_true c]
      refine iteT ?_
      refine ⟨_, _, rfl, rfl, ?_⟩
      have e : decide (0 ≤ i ∧ i < 64) = decide (i < 64) := by simp [c]
      rw [e] at k
      exact k
    · rw [decide_eq_false c]
      refine iteF ?_
      have e : decide (0 ≤ i ∧ i < 64) = false := by simp [c]
      rw [e] at k
      exact k

def sp_is_line : Sp := fun vs H Q _ => ∃ i : Int, vs = [.int i] ∧ Q (.bl (decide (0 ≤ i ∧ i < 8))) H
theorem ok_is_line (T : Txt K mg A) : FnOk P w K mg base CX0 1 A.f_is_line A.d_is_line pm_is_line (sp_is_line) := by
  refine T.F_is_line.ok sc_is_line (fun vs H Q E h => ?_) (fun cdv Ar outer s H vs Q E hr h => ?_)
  · obtain ⟨i, rfl, _⟩ := h
    rfl
  · obtain ⟨i, rfl, k⟩ := h
    refine ⟨_, (pss_one (ps_ret (pe_chain op_le op_lt pe_int (pv 0) (pe_glob (v := V.int 8) rfl T.g_LINES ⟨_, rfl⟩)))), ?_⟩
    refine ⟨_, rfl, _, _, rfl, rfl, _, rfl, ?_⟩
    by_cases c : (0 : Int) ≤ i
    · rw [decide_eq_true c]
      refine iteT ?_
      refine ⟨_, _, rfl, rfl, ?_⟩
      have e : decide (0 ≤ i ∧ i < 8) = decide (i < 8) := by simp [c]
      rw [e] at k
      exact k
    · rw [decide_eq_false c]
      refine iteF ?_
      have e : decide (0 ≤ i ∧ i < 8) = false := by simp [c]
      rw [e] at k
      exact k

/-- bytes as one number -/
def numIn (ns : List Nat) : Nat := ns.foldl (fun n o => n * 256 + o) 0
def sp_number_in (K : PySem.W.Frag) : Sp := fun vs H Q _ => ∃ (p : Addr) (ns : List Nat), vs = [.ref p] ∧ SqL K H p (vI ns) ∧ Q (.int (numIn ns : Nat)) H
theorem ok_number_in (T : Txt K mg A) : FnOk P w K mg base CX0 1 A.f_number_in A.d_number_in pm_number_in (sp_number_in K) := by
  refine T.F_number_in.ok sc_number_in (fun vs H Q E h => ?_) (fun cdv Ar outer s H vs Q E hr h => ?_)
  · obtain ⟨p, ns, rfl, _⟩ := h
    rfl
  · obtain ⟨p, ns, rfl, hS, k⟩ := h
    refine ⟨_, (pss_cons (ps_set (i := 1) sc_number_in.nd rfl (Or.inl rfl) pe_int)
      (pss_cons (ps_for PassesOwn.never rfl (pi_list (pv 0)) (pg_name (i := 2) sc_number_in.nd rfl (Or.inl rfl))
      (pss_one (ps_set (i := 1) sc_number_in.nd rfl (Or.inl rfl) (pe_op op_add (pe_op op_mul (pv 1) pe_int) (pv 2)))))
      (pss_one (ps_ret (pv 1))))), ?_⟩
    refine ⟨_, rfl, p, rfl, ⟨_, hS⟩, for_list (K := K) (a := p) (xs := vI ns) (fun i σ H' => ∃ v : Option V, σ = [some (.ref p), some (.int (numIn (ns.take i) : Nat)), v] ∧ H' = H)
      ⟨none, rfl, rfl⟩ (fun i σ H' _ ⟨_, _, e⟩ => by rw [e]; exact hS) ?_ ?_⟩
    · rintro i y σ H' hi ⟨v, rfl, rfl⟩
      obtain ⟨n, hn, rfl⟩ := vI_get hi
      refine ⟨_, rfl, _, _, rfl, rfl, .inr ⟨by decide, by decide⟩, _, rfl, _, _, rfl, rfl, ?_⟩
      refine ⟨some (.int n), ?_, rfl⟩
      have e : numIn (ns.take (i + 1)) = numIn (ns.take i) * 256 + n := by
        unfold numIn
        rw [take_more hn, List.foldl_append]
        rfl
      rw [e]
      show [_, some (V.int (((numIn (ns.take i) : Nat) : Int) * 256 + (n : Int))), _] = _
      rw [Int.natCast_add, Int.natCast_mul]
      rfl
    · rintro σ H' ⟨v, rfl, rfl⟩
      rw [vI_len, List.take_length]
      exact ⟨_, rfl, k⟩
end
end KR

namespace KR
open PySem PySem.Spec PyProof.Rows L2
section
variable {P : Program} {w : World} {K : PySem.W.Frag} {mg : Str → Option Value} {base : Heap} {A : Adr}

theorem at_vI {ns : List Nat} {i : Int} {j : Nat} (e : i = (j : Int)) (h : j < ns.length) : atI (vI ns) i = some (.int ((ns.getD j 0 : Nat) : Int)) := by
  refine at_of e (vI_at ?_)
  rw [List.getD_eq_getElem?_getD, List.getElem?_eq_getElem h]
  rfl
def sp_has_right_length (K : PySem.W.Frag) : Sp := fun vs H Q _ => ∃ (p : Addr) (ns : List Nat), vs = [.ref p] ∧ SqL K H p (vI ns) ∧ (hasLen ns → Q (.bl true) H) ∧ (¬ hasLen ns → Q (.bl false) H)
theorem ok_has_right_length (T : Txt K mg A) : FnOk P w K mg base CX0 1 A.f_has_right_length A.d_has_right_length pm_has_right_length (sp_has_right_length K) := by
  refine T.F_has_right_length.ok sc_has_right_length (fun vs H Q E h => ?_) (fun cdv Ar outer s H vs Q E hr h => ?_)
  · obtain ⟨p, ns, rfl, _⟩ := h
    rfl
  · obtain ⟨p, ns, rfl, hS, kT, kF⟩ := h
    refine ⟨_, (pss_cons (ps_if (PW.pt (pw_or (pt_cmpR op_lt (pe_callB call_len_seq (by rfl) T.z_len PySem.boot_len (pa_cons (pv 0) pa_nil)) (pe_glob (v := V.int 6) rfl T.g_HEAD_BYTES ⟨_, rfl⟩) (nomark _)) (pw_or1 (pt_cmpR op_gt (pe_ix ix_list (pv 0) pe_int (fun _ _ => rfl)) (pe_glob (v := V.int 8) rfl T.g_MOST_ROADS ⟨_, rfl⟩) (nomark _)))))
      (pss_one (ps_ret pe_bl))
      pss_nil)
      (pss_one (ps_ret (pe_cmpR op_eq (pe_callB call_len_seq (by rfl) T.z_len PySem.boot_len (pa_cons (pv 0) pa_nil)) (pe_op op_add (pe_glob (v := V.int 6) rfl T.g_HEAD_BYTES ⟨_, rfl⟩) (pe_op op_mul (pe_glob (v := V.int 3) rfl T.g_ROAD_BYTES ⟨_, rfl⟩) (pe_ix ix_list (pv 0) pe_int (fun _ _ => rfl)))) (nomark _))))), ?_⟩
    refine ⟨_, rfl, p, _, rfl, .inl hS, _, _, rfl, rfl, _, rfl, ?_⟩
    rw [vI_len]
    by_cases c : (ns.length : Int) < 6
    · rw [decide_eq_true c]
      refine iteT (iteT ?_)
      exact kF fun z => by have := z.1; omega
    · rw [decide_eq_false c]
      refine iteF ?_
      have e1 : atI (vI ns) 1 = some (.int ((ns.getD 1 0 : Nat) : Int)) := at_vI (j := 1) rfl (by omega)
      refine ⟨_, rfl, p, _, _, _, rfl, rfl, hS, e1, _, _, rfl, rfl, _, rfl, ?_⟩
      by_cases d : (8 : Int) < ((ns.getD 1 0 : Nat) : Int)
      · rw [decide_eq_true d]
        refine iteT ?_
        exact kF fun z => by have := z.2.1; omega
      · rw [decide_eq_false d]
        refine iteF ?_
        refine ⟨_, rfl, p, _, rfl, .inl hS, _, rfl, p, _, _, _, rfl, rfl, hS, e1, _, _, rfl, rfl, .inl ⟨by decide, by decide⟩, _, _, rfl, rfl, rfl, ?_⟩
        by_cases f : hasLen ns
        · have := f.2.2
          have e : decide (V.int ((vI ns).length : Int) = V.int (6 + 3 * ((ns.getD 1 0 : Nat) : Int))) = true := by
            rw [decide_eq_true_iff, vI_len]
            congr 1
            omega
          rw [e]
          exact kT f
        · have e : decide (V.int ((vI ns).length : Int) = V.int (6 + 3 * ((ns.getD 1 0 : Nat) : Int))) = false := by
            rw [decide_eq_false_iff_not, vI_len]
            intro z
            injection z with z
            exact f ⟨by omega, by omega, by omega⟩
          rw [e]
          exact kF f

def sp_Told_init (A : Adr) : Sp := fun vs H Q _ => ∃ (p dx r : Addr) (x n : Nat), vs = [.ref p, .int x, .int n, .ref r] ∧ H p = some (.ins A.a_Told dx []) ∧
  ∀ H' : Hp, H' p = some (.ins A.a_Told dx (TF x n r)) → (∀ b, b ≠ p → H' b = H b) → Q .non H'
theorem ok_Told_init (T : Txt K mg A) : FnOk P w K mg base CX0 1 A.f_Told_init A.d_Told_init pm_Told_init (sp_Told_init A) := by
  refine T.F_Told_init.ok sc_Told_init (fun vs H Q E h => ?_) (fun cdv Ar outer s H vs Q E hr h => ?_)
  · obtain ⟨p, dx, r, x, n, rfl, _⟩ := h
    rfl
  · obtain ⟨p, dx, r, x, n, rfl, hp, k⟩ := h
    refine ⟨_, (pss_cons (ps_fld (pv 0) (pv 1) rfl)
      (pss_cons (ps_fld (pv 0) (pv 2) rfl)
      (pss_one (ps_fld (pv 0) (pv 3) rfl)))), ?_⟩
    refine ⟨_, rfl, _, rfl, p, A.a_Told, dx, [], rfl, hp, T.c_Told, T.n_Told_name, (by show 0 < 1000; decide), ?_⟩
    refine ⟨_, rfl, _, rfl, p, A.a_Told, dx, _, rfl, upd_same, T.c_Told, T.n_Told_number, (by show 1 < 1000; decide), ?_⟩
    refine ⟨_, rfl, _, rfl, p, A.a_Told, dx, _, rfl, upd_same, T.c_Told, T.n_Told_roads, (by rw [show putF ("number" : Str) (V.int (n : Int)) (putF "name" (V.int (x : Int)) []) = ([("name", V.int (x : Int)), ("number", V.int (n : Int))] : List (Str × V)) from put_past (by decide +kernel)]; show 2 < 1000; decide), ?_⟩
    refine k _ (Eq.trans upd_same (congrArg (fun q => some (HO.ins A.a_Told dx q)) (TF_new x n r))) fun b hb => ?_
    rw [upd_ne hb, upd_ne hb, upd_ne hb]

theorem cut_vI (ns : List Nat) (a b : Nat) : cutV (vI ns) (some (a : Int)) (some (b : Int)) = vI ((ns.drop a).take (b - a)) := by
  unfold cutV
  rw [HT.sIx_nat, HT.sIx_nat, vI_len]
  unfold vI
  rw [← List.map_drop, ← List.map_take]
  congr 1
  by_cases h : a ≤ ns.length
  · rw [Nat.min_eq_left h]
    by_cases h2 : b ≤ ns.length
    · rw [Nat.min_eq_left h2]
    · rw [Nat.min_eq_right (by omega), List.take_of_length_le (by rw [List.length_drop]; omega), List.take_of_length_le (by rw [List.length_drop]; omega)]
  · rw [Nat.min_eq_right (by omega : ns.length ≤ a), List.drop_of_length_le (Nat.le_refl _), List.drop_of_length_le (by omega)]
    simp
/-- range from one number by threes -/
theorem rgc3 (k : Nat) (hk : k ≤ 8) : RgC 6 (6 + 3 * (k : Int)) 3 k := by
  refine ⟨by decide, by decide, ?_, ?_⟩
  · unfold Builtin.Range.small
    match k, hk with
    | 0, _ => rfl
    | 1, _ => rfl
    | 2, _ => rfl
    | 3, _ => rfl
    | 4, _ => rfl
    | 5, _ => rfl
    | 6, _ => rfl
    | 7, _ => rfl
    | 8, _ => rfl
    | k + 9, h => omega
  · match k, hk with
    | 0, _ => rfl
    | 1, _ => rfl
    | 2, _ => rfl
    | 3, _ => rfl
    | 4, _ => rfl
    | 5, _ => rfl
    | 6, _ => rfl
    | 7, _ => rfl
    | 8, _ => rfl
    | k + 9, h => omega
theorem tri_drop (ns : List Nat) (i : Nat) : tri (ns.drop 6) i = (ns.getD (6 + 3 * i) 0, 256 * ns.getD (6 + 3 * i + 1) 0 + ns.getD (6 + 3 * i + 2) 0) := by
  unfold tri
  simp only [List.getD_eq_getElem?_getD, List.getElem?_drop]
  rfl
theorem two_at (ns : List Nat) (a : Nat) (h : a + 2 ≤ ns.length) : numIn ((ns.drop a).take 2) = 256 * ns.getD a 0 + ns.getD (a + 1) 0 := by
  have e : (ns.drop a).take 2 = [ns.getD a 0, ns.getD (a + 1) 0] := by
    rw [List.getD_eq_getElem?_getD, List.getD_eq_getElem?_getD, List.getElem?_eq_getElem (by omega), List.getElem?_eq_getElem (by omega)]
    rw [List.drop_eq_getElem_cons (by omega), List.drop_eq_getElem_cons (by omega)]
    rfl
  rw [e]
  show (0 * 256 + ns.getD a 0) * 256 + ns.getD (a + 1) 0 = _
  omega
def sp_roads_in (K : PySem.W.Frag) : Sp := fun vs H Q _ => ∃ (p : Addr) (ns : List Nat), vs = [.ref p] ∧ SqL K H p (vI ns) ∧ hasLen ns ∧
  ∀ (H' : Hp) (r : Addr), Same H H' → H r = none → RowAt H' r (roadsIn ns) → Q (.ref r) H'
theorem ok_roads_in (T : Txt K mg A) : FnOk P w K mg base CX0 2 A.f_roads_in A.d_roads_in pm_roads_in (sp_roads_in K) := by
  refine T.F_roads_in.ok sc_roads_in (fun vs H Q E h => ?_) (fun cdv Ar outer s H vs Q E hr h => ?_)
  · obtain ⟨p, ns, rfl, _⟩ := h
    rfl
  · obtain ⟨p, ns, rfl, hS, hl, k⟩ := h
    obtain ⟨_, h8, h6⟩ := id hl
    refine ⟨_, (pss_cons (ps_set (i := 1) sc_roads_in.nd rfl (Or.inl rfl) (pe_lst pa_nil))
      (pss_cons (ps_for PassesOwn.never rfl (pi_range3 rfl T.z_range (pa_cons (pe_glob (v := V.int 6) rfl T.g_HEAD_BYTES ⟨_, rfl⟩) (pa_cons (pe_callB call_len_seq (by rfl) T.z_len PySem.boot_len (pa_cons (pv 0) pa_nil)) (pa_cons (pe_glob (v := V.int 3) rfl T.g_ROAD_BYTES ⟨_, rfl⟩) pa_nil)))) (pg_name (i := 2) sc_roads_in.nd rfl (Or.inl rfl))
      (pss_one (ps_expr (pe_bm PySem.F.plainAttrs_list PySem.F.slot_list_append PySem.F.type_list_append mt_append (pv 1) (pa_cons (pe_tup (pa_cons (pe_ix ix_list (pv 0) (pv 2) (fun _ _ => rfl)) (pa_cons (pe_call (ok_number_in T) (hr.mono (by decide)) rfl T.g_number_in T.k_number_in T.b_number_in .nil pass0 (pa_cons (pe_slice sl_list (pv 0) (po_some (pe_op op_add (pv 2) pe_int)) (po_some (pe_op op_add (pv 2) (pe_glob (v := V.int 3) rfl T.g_ROAD_BYTES ⟨_, rfl⟩)))) pa_nil)) pa_nil))) pa_nil)))))
      (pss_one (ps_ret (pv 1))))), ?_⟩
    refine ⟨Nat.zero_le _, fun r hr0 => ?_⟩
    have s0 : Same H (upd H r (.lst [])) := fun b o e => by rw [upd_ne (ne_of_none e hr0)]; exact e
    have e6 : ((vI ns).length : Int) = 6 + 3 * ((ns.getD 1 0 : Nat) : Int) := by rw [vI_len]; omega
    refine ⟨_, rfl, p, _, rfl, .inl (s0.seq hS), 6, _, 3, ns.getD 1 0, rfl, by rw [e6]; exact rgc3 _ h8, for_rangeC (lo := 6) (c := 3) (n := ns.getD 1 0)
      (fun i σ H' => ∃ v : Option V, σ = [some (.ref p), some (.ref r), v] ∧ Same H H' ∧ RowAt H' r ((roadsIn ns).take i))
      ⟨none, rfl, s0, [], by rw [upd_same]; rfl, .nil⟩ ?_ ?_⟩
    · rintro i σ H' hi ⟨v, rfl, s, ts, h1, h2⟩
      have hj : 6 + 3 * i + 2 < ns.length := by omega
      have ei : (6 : Int) + (i : Nat) * 3 = ((6 + 3 * i : Nat) : Int) := by omega
      rw [ei]
      have hi2 : (roadsIn ns)[i]? = some (tri (ns.drop 6) i) := by
        unfold roadsIn
        rw [List.getElem?_map, List.getElem?_range hi]
        rfl
      have htl : ts.length = i := by
        rw [Paired.length h2, List.length_take]
        have : (roadsIn ns).length = ns.getD 1 0 := by unfold roadsIn; rw [List.length_map, List.length_range]
        omega
      refine ⟨_, rfl, .inl ⟨rfl, _, SqL.of h1⟩, _, rfl, _, rfl, p, _, _, _, rfl, rfl, s.seq hS, at_vI rfl (by omega), ?_⟩
      refine ⟨_, rfl, _, rfl, _, _, rfl, rfl, _, rfl, _, rfl, _, _, rfl, rfl, _, rfl, p, _, rfl, s.seq hS, fun q hq => ?_⟩
      have ec : cutV (vI ns) (some (((6 + 3 * i : Nat) : Int) + 1)) (some (((6 + 3 * i : Nat) : Int) + 3)) = vI ((ns.drop (6 + 3 * i + 1)).take 2) := by
        have := cut_vI ns (6 + 3 * i + 1) (6 + 3 * i + 3)
        rw [show (((6 + 3 * i : Nat) : Int) + 1) = ((6 + 3 * i + 1 : Nat) : Int) by omega, show (((6 + 3 * i : Nat) : Int) + 3) = ((6 + 3 * i + 3 : Nat) : Int) by omega, this]
        congr 3
        omega
      refine ⟨q, (ns.drop (6 + 3 * i + 1)).take 2, rfl, SqL.of (by rw [upd_same, ec]), (by show 2 ≤ sizeLine; decide), fun t ht => ?_⟩
      have s1 : Same H' (upd H' q (HO.lst (cutV (vI ns) (some (((6 + 3 * i : Nat) : Int) + 1)) (some (((6 + 3 * i : Nat) : Int) + 3))))) := fun b o e => by rw [upd_ne (ne_of_none e hq)]; exact e
      have nt : H' t = none := s1.free ht
      have rq : r ≠ q := ne_of_none h1 hq
      have rt : r ≠ t := ne_of_none h1 nt
      refine ⟨r, _, _, rfl, rfl, by rw [upd_ne rt, upd_ne rq]; exact h1, by rw [List.length_map, htl]; exact Nat.lt_of_lt_of_le (by omega : i < 8) (by decide), ?_⟩
      have s2 : ∀ b o, H' b = some o → b ≠ r → upd (upd (upd H' q (HO.lst (cutV (vI ns) (some (((6 + 3 * i : Nat) : Int) + 1)) (some (((6 + 3 * i : Nat) : Int) + 3))))) t (HO.tup [V.int ((ns.getD (6 + 3 * i) 0 : Nat) : Int), V.int ((numIn ((ns.drop (6 + 3 * i + 1)).take 2) : Nat) : Int)])) r (HO.lst (ts.map V.ref ++ [V.ref t])) b = some o := fun b o e hb => by
        rw [upd_ne hb, upd_ne (ne_of_none e nt), upd_ne (ne_of_none e hq)]
        exact e
      refine ⟨some (.int ((6 + 3 * i : Nat) : Int)), rfl, fun b o e => s2 b o (s b o e) (ne_of_none e hr0), ts ++ [t], ?_, ?_⟩
      · rw [upd_same, List.map_append]
        rfl
      · rw [take_more hi2]
        refine Paired.snoc (Paired.mapP h2 fun c x hc => s2 c _ hc fun z => ?_) ?_
        · rw [z] at hc
          have hc' : H' r = some (.tup [.int (x.1 : Int), .int (x.2 : Int)]) := hc
          rw [h1] at hc'
          cases hc'
        · show upd _ r _ t = _
          rw [upd_ne rt.symm, upd_same, tri_drop, two_at ns _ (by omega)]
    · rintro σ H' ⟨v, rfl, s, h1⟩
      refine ⟨_, rfl, k _ _ s hr0 ?_⟩
      have : (roadsIn ns).length = ns.getD 1 0 := by unfold roadsIn; rw [List.length_map, List.length_range]
      rw [List.take_of_length_le (by omega)] at h1
      exact h1
end
end KR

namespace KR
open PySem PySem.Spec PyProof.Rows L2
section
variable {P : Program} {w : World} {K : PySem.W.Frag} {mg : Str → Option Value} {base : Heap} {A : Adr}

theorem roadsOk_take {x : Nat} {rs : List (Nat × Nat)} (h : RoadsOk x rs) (i : Nat) : RoadsOk x (rs.take i) :=
  ⟨h.1.sublist (List.take_sublist _ _), fun r hr => h.2 r (List.mem_of_mem_take hr)⟩
theorem roadsOk_snoc {x : Nat} {rs : List (Nat × Nat)} {r : Nat × Nat} (h : RoadsOk x rs) (h1 : ∀ q ∈ rs, q.1 < r.1) (h2 : r.1 < 64 ∧ r.1 ≠ x ∧ 0 < r.2) : RoadsOk x (rs ++ [r]) := by
  refine ⟨List.pairwise_append.mpr ⟨h.1, List.pairwise_singleton _ _, fun a ha b hb => ?_⟩, fun q hq => ?_⟩
  · rw [List.mem_singleton.mp hb]; exact h1 a ha
  · rcases List.mem_append.mp hq with hq | hq
    · exact h.2 q hq
    · rw [List.mem_singleton.mp hq]; exact h2
theorem roadsOk_last {x : Nat} {rs : List (Nat × Nat)} {r : Nat × Nat} (h : RoadsOk x (rs ++ [r])) : (∀ q ∈ rs, q.1 < r.1) ∧ r.1 < 64 ∧ r.1 ≠ x ∧ 0 < r.2 :=
  ⟨fun q hq => (List.pairwise_append.mp h.1).2.2 q hq r (List.mem_singleton.mpr rfl), h.2 r (List.mem_append_right _ (List.mem_singleton.mpr rfl))⟩
def sp_is_well_formed (A : Adr) : Sp := fun vs H Q _ => ∃ (t : Addr) (x : Nat) (a : Ql82.Ad), vs = [.ref t] ∧ ToldAt A H t x a ∧ (Wf x a.seq a.roads → Q (.bl true) H) ∧ (¬ Wf x a.seq a.roads → Q (.bl false) H)
theorem ok_is_well_formed (T : Txt K mg A) : FnOk P w K mg base CX0 2 A.f_is_well_formed A.d_is_well_formed pm_is_well_formed (sp_is_well_formed A) := by
  refine T.F_is_well_formed.ok sc_is_well_formed (fun vs H Q E h => ?_) (fun cdv Ar outer s H vs Q E hr h => ?_)
  · obtain ⟨t, x, a, rfl, _⟩ := h
    rfl
  · obtain ⟨t, x, a, rfl, ⟨dx, r, h1, ts, h2, h3⟩, kT, kF⟩ := h
    have hts : ts.length = a.roads.length := Paired.length h3
    refine ⟨_, (pss_cons (ps_if (PW.pt (pw_or (pt_not (pt_val (pe_call (ok_is_router T) (hr.mono (by decide)) rfl T.g_is_router T.k_is_router T.b_is_router .nil pass0 (pa_cons (pe_fld (pv 0) rfl) pa_nil)))) (pw_or1 (pt_cmpR op_eq (pe_fld (pv 0) rfl) pe_int (nomark _)))))
      (pss_one (ps_ret pe_bl))
      pss_nil)
      (pss_cons (ps_set (i := 1) sc_is_well_formed.nd rfl (Or.inl rfl) (pe_un un_neg pe_int))
      (pss_cons (ps_for PassesOwn.never rfl (pi_list (pe_fld (pv 0) rfl)) (pg_tup rfl (pgs_cons (pg_name (i := 2) sc_is_well_formed.nd rfl (Or.inl rfl)) (pgs_cons (pg_name (i := 3) sc_is_well_formed.nd rfl (Or.inl rfl)) pgs_nil)))
      (pss_cons (ps_if (PW.pt (pw_or (pt_not (pt_val (pe_call (ok_is_router T) (hr.mono (by decide)) rfl T.g_is_router T.k_is_router T.b_is_router .nil pass0 (pa_cons (pv 2) pa_nil)))) (pw_or (pt_cmpR op_le (pv 2) (pv 1) (nomark _)) (pw_or (pt_cmpR op_eq (pv 2) (pe_fld (pv 0) rfl) (nomark _)) (pw_or1 (pt_cmpR op_eq (pv 3) pe_int (nomark _)))))))
      (pss_one (ps_ret pe_bl))
      pss_nil)
      (pss_one (ps_set (i := 1) sc_is_well_formed.nd rfl (Or.inl rfl) (pv 2)))))
      (pss_one (ps_ret pe_bl))))), ?_⟩
    refine ⟨_, rfl, t, _, dx, _, _, rfl, h1, T.c_Told, T.n_Told_name, TF_name .., _, rfl, _, rfl, ?_⟩
    by_cases c : (0 : Int) ≤ (x : Int) ∧ (x : Int) < 64
    · rw [decide_eq_true c]
      refine iteF ?_
      refine ⟨_, rfl, t, _, dx, _, _, rfl, h1, T.c_Told, T.n_Told_number, TF_number .., rfl, _, rfl, ?_⟩
      by_cases d : a.seq = 0
      · have e : decide (V.int (a.seq : Int) = V.int 0) = true := decide_eq_true (by rw [d]; rfl)
        rw [e]
        refine iteT ?_
        exact kF fun z => z.2.1 d
      · have e : decide (V.int (a.seq : Int) = V.int 0) = false := decide_eq_false (by intro z; injection z with z; omega)
        rw [e]
        refine iteF ?_
        refine ⟨_, rfl, ?_⟩
        refine ⟨_, rfl, t, _, dx, _, _, rfl, h1, T.c_Told, T.n_Told_roads, TF_roads .., r, rfl, ⟨_, SqL.of h2⟩, for_list (K := K) (a := r) (xs := ts.map V.ref)
          (fun i σ H' => ∃ (b : Int) (v2 v3 : Option V), σ = [some (.ref t), some (.int b), v2, v3] ∧ H' = H ∧ RoadsOk x (a.roads.take i) ∧ (∀ q ∈ a.roads.take i, (q.1 : Int) ≤ b) ∧ (b = -1 ∨ ∃ q ∈ a.roads.take i, b = (q.1 : Int)))
          ⟨-1, none, none, rfl, rfl, ⟨List.Pairwise.nil, by simp⟩, by simp, .inl rfl⟩ (fun i σ H' _ ⟨_, _, _, _, e, _⟩ => by rw [e]; exact SqL.of h2) ?_ ?_⟩
        · rintro i y σ H' hi ⟨b, v2, v3, rfl, rfl, ok, le, la⟩
          obtain ⟨tt, htt, rfl⟩ := refs_at hi
          obtain ⟨q, hq, pq⟩ := paired_at h3 htt
          have tk := take_more hq
          have bad : ¬ ((q.1 : Int) < 64 ∧ ¬ (q.1 : Int) ≤ b ∧ ¬ q.1 = x ∧ ¬ q.2 = 0) → ¬ Wf x a.seq a.roads := fun nz wf => by
            have w1 := roadsOk_take wf.2.2 (i + 1)
            rw [tk] at w1
            obtain ⟨l1, l2, l3, l4⟩ := roadsOk_last w1
            refine nz ⟨by omega, fun z => ?_, l3, by omega⟩
            rcases la with e | ⟨p, hp, e⟩
            · omega
            · have := l1 p hp
              omega
          refine ⟨tt, _, rfl, SqT.of pq, rfl, _, _, rfl, _, _, rfl, rfl, ?_⟩
          refine ⟨_, rfl, _, rfl, _, rfl, ?_⟩
          by_cases c1 : (0 : Int) ≤ (q.1 : Int) ∧ (q.1 : Int) < 64
          · rw [decide_eq_true c1]
            refine iteF ?_
            refine ⟨_, rfl, _, rfl, _, _, rfl, rfl, _, rfl, ?_⟩
            by_cases c2 : (q.1 : Int) ≤ b
            · rw [decide_eq_true c2]
              refine iteT (iteT ?_)
              exact kF (bad fun z => z.2.1 c2)
            · rw [decide_eq_false c2]
              refine iteF ?_
              refine ⟨_, rfl, _, rfl, t, _, dx, _, _, rfl, h1, T.c_Told, T.n_Told_name, TF_name .., rfl, _, rfl, ?_⟩
              by_cases c3 : q.1 = x
              · have e3 : decide (V.int (q.1 : Int) = V.int (x : Int)) = true := decide_eq_true (by rw [c3])
                rw [e3]
                refine iteT (iteT ?_)
                exact kF (bad fun z => z.2.2.1 c3)
              · have e3 : decide (V.int (q.1 : Int) = V.int (x : Int)) = false := decide_eq_false (by intro z; injection z with z; omega)
                rw [e3]
                refine iteF ?_
                refine ⟨_, rfl, rfl, _, rfl, ?_⟩
                by_cases c4 : q.2 = 0
                · have e4 : decide (V.int (q.2 : Int) = V.int 0) = true := decide_eq_true (by rw [c4]; rfl)
                  rw [e4]
                  refine iteT ?_
                  exact kF (bad fun z => z.2.2.2 c4)
                · have e4 : decide (V.int (q.2 : Int) = V.int 0) = false := decide_eq_false (by intro z; injection z with z; omega)
                  rw [e4]
                  refine iteF ?_
                  refine ⟨_, rfl, ?_⟩
                  refine ⟨(q.1 : Int), some (.int q.1), some (.int q.2), rfl, rfl, ?_, ?_, ?_⟩
                  · rw [tk]
                    refine roadsOk_snoc ok (fun p hp => ?_) ⟨by omega, c3, by omega⟩
                    have := le p hp
                    omega
                  · rw [tk]
                    intro p hp
                    rcases List.mem_append.mp hp with hp | hp
                    · have := le p hp
                      omega
                    · rw [List.mem_singleton.mp hp]
                      exact Int.le_refl _
                  · rw [tk]
                    exact .inr ⟨q, List.mem_append_right _ (List.mem_singleton.mpr rfl), rfl⟩
          · rw [decide_eq_false c1]
            refine iteT (iteT ?_)
            exact kF (bad fun z => by have := z.1; omega)
        · rintro σ H' ⟨b, v2, v3, rfl, rfl, ok, _, _⟩
          rw [List.length_map, hts, List.take_length] at ok
          exact kT ⟨by omega, d, ok⟩
    · rw [decide_eq_false c]
      refine iteT (iteT ?_)
      exact kF fun z => c ⟨by omega, by have := z.1; omega⟩

theorem four_at (ns : List Nat) (h : 6 ≤ ns.length) : numIn ((ns.drop 2).take 4) = numOf ns := by
  have e : (ns.drop 2).take 4 = [ns.getD 2 0, ns.getD 3 0, ns.getD 4 0, ns.getD 5 0] := by
    simp only [List.getD_eq_getElem?_getD]
    rw [List.getElem?_eq_getElem (by omega), List.getElem?_eq_getElem (by omega), List.getElem?_eq_getElem (by omega), List.getElem?_eq_getElem (by omega)]
    rw [List.drop_eq_getElem_cons (by omega), List.drop_eq_getElem_cons (by omega), List.drop_eq_getElem_cons (by omega), List.drop_eq_getElem_cons (by omega)]
    rfl
  rw [e]
  unfold numOf
  show (((0 * 256 + ns.getD 2 0) * 256 + ns.getD 3 0) * 256 + ns.getD 4 0) * 256 + ns.getD 5 0 = _
  omega
def sp_read_message (K : PySem.W.Frag) (A : Adr) : Sp := fun vs H Q _ => ∃ (p : Addr) (ns : List Nat), vs = [.ref p] ∧ SqL K H p (vI ns) ∧
  (Ql82.heard ns = none → ∀ H', Same H H' → Q .non H') ∧ (∀ x a, Ql82.heard ns = some (x, a) → ∀ (H' : Hp) (t : Addr), Same H H' → H t = none → ToldAt A H' t x a → Q (.ref t) H')
theorem ok_read_message (T : Txt K mg A) : FnOk P w K mg base CX0 3 A.f_read_message A.d_read_message pm_read_message (sp_read_message K A) := by
  refine T.F_read_message.ok sc_read_message (fun vs H Q E h => ?_) (fun cdv Ar outer s H vs Q E hr h => ?_)
  · obtain ⟨p, ns, rfl, _⟩ := h
    rfl
  · obtain ⟨p, ns, rfl, hS, kN, kS⟩ := h
    refine ⟨_, (pss_cons (ps_if (pt_not (pt_val (pe_call (ok_has_right_length T) (hr.mono (by decide)) rfl T.g_has_right_length T.k_has_right_length T.b_has_right_length .nil pass0 (pa_cons (pv 0) pa_nil))))
      (pss_one (ps_ret pe_non))
      pss_nil)
      (pss_cons (ps_set (i := 1) sc_read_message.nd rfl (Or.inl rfl) (pe_make T.M_Told (ok_Told_init T) (hr.mono (by decide)) rfl T.g_Told T.b_Told_init .nil pass0 (pa_cons (pe_ix ix_list (pv 0) pe_int (fun _ _ => rfl)) (pa_cons (pe_call (ok_number_in T) (hr.mono (by decide)) rfl T.g_number_in T.k_number_in T.b_number_in .nil pass0 (pa_cons (pe_slice sl_list (pv 0) (po_some pe_int) (po_some (pe_glob (v := V.int 6) rfl T.g_HEAD_BYTES ⟨_, rfl⟩))) pa_nil)) (pa_cons (pe_call (ok_roads_in T) (hr.mono (by decide)) rfl T.g_roads_in T.k_roads_in T.b_roads_in .nil pass0 (pa_cons (pv 0) pa_nil)) pa_nil)))))
      (pss_cons (ps_if (pt_val (pe_call (ok_is_well_formed T) (hr.mono (by decide)) rfl T.g_is_well_formed T.k_is_well_formed T.b_is_well_formed .nil pass0 (pa_cons (pv 1) pa_nil)))
      (pss_one (ps_ret (pv 1)))
      pss_nil)
      (pss_one (ps_ret pe_non))))), ?_⟩
    refine ⟨_, rfl, p, ns, rfl, hS, fun hl => ?_, fun hl => ?_⟩
    · refine ⟨_, rfl, iteF ?_⟩
      obtain ⟨h6, h8, hz⟩ := id hl
      have ec : cutV (vI ns) (some 2) (some 6) = vI ((ns.drop 2).take 4) := cut_vI ns 2 6
      refine ⟨_, rfl, p, _, _, _, rfl, rfl, hS, at_vI (j := 0) rfl (by omega), _, rfl, _, rfl, _, rfl, p, _, rfl, hS, fun q hq => ?_⟩
      rw [ec]
      have s1 : Same H (upd H q (.lst (vI ((ns.drop 2).take 4)))) := fun b o e => by rw [upd_ne (ne_of_none e hq)]; exact e
      refine ⟨q, (ns.drop 2).take 4, rfl, SqL.of upd_same, ?_⟩
      rw [four_at ns h6]
      refine ⟨_, rfl, p, ns, rfl, s1.seq hS, hl, fun H2 r s2 hr2 R2 => ?_⟩
      intro x dx nx ndx nex
      refine ⟨x, dx, r, ns.getD 0 0, numOf ns, rfl, upd_same, fun H3 h3 hk => ⟨rfl, ?_⟩⟩
      have s12 : Same H H2 := s1.trans s2
      have s23 : Same H2 H3 := fun b o e => by
        rw [hk b (ne_of_none e nx), upd_ne (ne_of_none e nx), upd_ne (ne_of_none e ndx)]
        exact e
      have s13 : Same H H3 := s12.trans s23
      have T3 : ToldAt A H3 x (ns.getD 0 0) ⟨numOf ns, roadsIn ns⟩ := ⟨dx, r, h3, R2.same s23⟩
      have hw := heard_has hl
      refine ⟨_, rfl, x, _, _, rfl, T3, fun wf => ?_, fun wf => ?_⟩
      · refine ⟨_, rfl, iteT ?_⟩
        exact ⟨_, rfl, kS _ _ (hw.1 wf) H3 x s13 (s12.free nx) T3⟩
      · refine ⟨_, rfl, iteF ?_⟩
        exact kN (hw.2 wf) H3 s13
    · refine ⟨_, rfl, iteT ?_⟩
      exact kN (heard_not hl) H (Same.refl H)
end
end KR

namespace KR
open PySem PySem.Spec PyProof.Rows L2
section
variable {P : Program} {w : World} {K : PySem.W.Frag} {mg : Str → Option Value} {base : Heap} {A : Adr}

theorem and255 (n : Nat) (k : Nat) : Builtin.bitAnd ((n : Int) / 2 ^ k) 255 = ((n / 2 ^ k % 256 : Nat) : Int) := by
  have h := Bits.bitAnd_mask (x := ((n : Int) / 2 ^ k)) 8 (by
    have : ((n : Int) / 2 ^ k) = ((n / 2 ^ k : Nat) : Int) := by rw [Int.natCast_ediv]; norm_cast
    rw [this]; exact Int.natCast_nonneg _)
  rw [show ((2 : Int) ^ 8 - 1) = 255 by decide] at h
  rw [h, show ((2 : Int) ^ 8) = 256 by decide]
  have : ((n : Int) / 2 ^ k) = ((n / 2 ^ k : Nat) : Int) := by rw [Int.natCast_ediv]; norm_cast
  rw [this]
  norm_cast
theorem and255' (n : Nat) : Builtin.bitAnd (n : Int) 255 = ((n % 256 : Nat) : Int) := by
  have h := Bits.bitAnd_mask (x := (n : Int)) 8 (Int.natCast_nonneg _)
  rw [show ((2 : Int) ^ 8 - 1) = 255 by decide] at h
  rw [h, show ((2 : Int) ^ 8) = 256 by decide]
  norm_cast
/-- the bytes of what is told, road by road -/
def toldTo (x : Nat) (a : Ql82.Ad) (rs : List (Nat × Nat)) : List Nat := [x, a.roads.length, a.seq / 16777216 % 256, a.seq / 65536 % 256, a.seq / 256 % 256, a.seq % 256] ++ rs.flatMap fun (r : Nat × Nat) => [r.1, r.2 / 256 % 256, r.2 % 256]
theorem toldTo_all (x : Nat) (a : Ql82.Ad) : toldTo x a a.roads = Ql82.told x a := rfl
theorem toldTo_snoc (x : Nat) (a : Ql82.Ad) (rs : List (Nat × Nat)) (r : Nat × Nat) : toldTo x a (rs ++ [r]) = toldTo x a rs ++ [r.1, r.2 / 256 % 256, r.2 % 256] := by
  unfold toldTo
  rw [List.flatMap_append, List.append_assoc]
  rfl
theorem toldTo_len (x : Nat) (a : Ql82.Ad) (rs : List (Nat × Nat)) : (toldTo x a rs).length = 6 + 3 * rs.length := by
  unfold toldTo
  rw [List.length_append]
  have : ∀ l : List (Nat × Nat), (l.flatMap fun (r : Nat × Nat) => [r.1, r.2 / 256 % 256, r.2 % 256]).length = 3 * l.length := by
    intro l
    induction l with
    | nil => rfl
    | cons r l ih => rw [List.flatMap_cons, List.length_append, ih, List.length_cons]; simp; omega
  rw [this]; rfl
def sp_message_of (A : Adr) : Sp := fun vs H Q _ => ∃ (t : Addr) (x : Nat) (a : Ql82.Ad), vs = [.ref t] ∧ ToldAt A H t x a ∧ AdOk x a ∧
  ∀ (H' : Hp) (p : Addr), Same H H' → H p = none → H' p = some (.lst (vI (Ql82.told x a))) → Q (.ref p) H'
/-- the four bytes of the number -/
def shf (n : Nat) : List V := ([24, 16, 8, 0] : List Nat).map fun s => V.int (Builtin.bitAnd ((n : Int) / 2 ^ s) 255)
theorem shf_is (n : Nat) : shf n = vI [n / 16777216 % 256, n / 65536 % 256, n / 256 % 256, n % 256] := by
  show [V.int (Builtin.bitAnd ((n : Int) / 2 ^ 24) 255), V.int (Builtin.bitAnd ((n : Int) / 2 ^ 16) 255), V.int (Builtin.bitAnd ((n : Int) / 2 ^ 8) 255), V.int (Builtin.bitAnd ((n : Int) / 2 ^ 0) 255)] = _
  rw [and255, and255, and255, and255]
  rw [show (2 : Nat) ^ 24 = 16777216 by decide, show (2 : Nat) ^ 16 = 65536 by decide, show (2 : Nat) ^ 8 = 256 by decide, show (2 : Nat) ^ 0 = 1 by decide, Nat.div_one]
  rfl
theorem ok_message_of (T : Txt K mg A) : FnOk P w K mg base CX0 1 A.f_message_of A.d_message_of pm_message_of (sp_message_of A) := by
  refine T.F_message_of.ok sc_message_of (fun vs H Q E h => ?_) (fun cdv Ar outer s H vs Q E hr h => ?_)
  · obtain ⟨t, x, a, rfl, _⟩ := h
    rfl
  · obtain ⟨t, x, a, rfl, ⟨dx, r, h1, ts, h2, h3⟩, ok, k⟩ := h
    have hts : ts.length = a.roads.length := Paired.length h3
    have hfew := ok.few
    refine ⟨_, (pss_cons (ps_set (i := 1) sc_message_of.nd rfl (Or.inl rfl) (pe_lst (pa_cons (pe_fld (pv 0) rfl) (pa_cons (pe_callB call_len_seq (by rfl) T.z_len PySem.boot_len (pa_cons (pe_fld (pv 0) rfl) pa_nil)) pa_nil))))
      (pss_cons (ps_expr (pe_bm PySem.F.plainAttrs_list PySem.F.slot_list_extend PySem.F.type_list_extend mt_extend (pv 1) (pa_cons (pe_lc (own := [("shift", 4)]) (te := (tOp (rI0 fun i j => .int (Builtin.bitAnd i j)) (tOp (rI (fun _ j => 0 ≤ j) fun i j => .int (i / 2 ^ j.toNat)) (tFld K (tVar 0) "number") (tVar 4)) (tC (.int 255)))) (g := gName 4) rfl sc_message_of.nd (pi_tup (pe_tup (pa_cons pe_int (pa_cons pe_int (pa_cons pe_int (pa_cons pe_int pa_nil)))))) (blkOk_by (own := [("shift", 4)]) (N := nm_message_of) (sc := defScope st_message_of) (by decide +kernel)) (fun _ _ _ _ _ => (pg_name (i := 4) sc_message_of.nd rfl (Or.inl rfl))) (fun _ _ _ _ _ => pts_nil) (fun _ _ _ _ _ => (pe_op op_and (pe_op op_shr (pe_fld (pv 0) rfl) (pv 4)) pe_int))) pa_nil)))
      (pss_cons (ps_for PassesOwn.never rfl (pi_list (pe_fld (pv 0) rfl)) (pg_tup rfl (pgs_cons (pg_name (i := 2) sc_message_of.nd rfl (Or.inl rfl)) (pgs_cons (pg_name (i := 3) sc_message_of.nd rfl (Or.inl rfl)) pgs_nil)))
      (pss_one (ps_expr (pe_bm PySem.F.plainAttrs_list PySem.F.slot_list_extend PySem.F.type_list_extend mt_extend (pv 1) (pa_cons (pe_lst (pa_cons (pv 2) (pa_cons (pe_op op_shr (pv 3) pe_int) (pa_cons (pe_op op_and (pv 3) pe_int) pa_nil)))) pa_nil)))))
      (pss_one (ps_ret (pv 1)))))), ?_⟩
    -- octets = [told.name, len(told.roads)]
    refine ⟨_, rfl, t, _, dx, _, _, rfl, h1, T.c_Told, T.n_Told_name, TF_name .., _, rfl, t, _, dx, _, _, rfl, h1, T.c_Told, T.n_Told_roads, TF_roads .., r, _, rfl, .inl (SqL.of h2), (by show 2 ≤ sizeLine; decide), fun l hl => ?_⟩
    rw [List.length_map, hts]
    have s1 : Same H (upd H l (.lst [.int (x : Int), .int (a.roads.length : Int)])) := fun b o e => by rw [upd_ne (ne_of_none e hl)]; exact e
    -- octets.extend([told.number >> shift & 255 for shift in (24, 16, 8, 0)])
    refine ⟨_, rfl, .inl ⟨rfl, _, SqL.of upd_same⟩, (by show 4 ≤ sizeLine; decide), fun tp htp => ?_⟩
    have ntp : H tp = none := s1.free htp
    have ltp : l ≠ tp := by
      intro z
      subst z
      rw [upd_same] at htp
      cases htp
    refine ⟨tp, rfl, ⟨_, SqT.of upd_same⟩, fun D hD => ?_⟩
    have nD : H D = none := by
      have : upd (upd H l (.lst [.int (x : Int), .int (a.roads.length : Int)])) tp (.tup [.int 24, .int 16, .int 8, .int 0]) D = none := hD
      by_cases z : D = tp
      · subst z; rw [upd_same] at this; cases this
      · rw [upd_ne z] at this; exact s1.free this
    have lD : l ≠ D := by
      intro z
      subst z
      have : upd (upd H l (.lst [.int (x : Int), .int (a.roads.length : Int)])) tp (.tup [.int 24, .int 16, .int 8, .int 0]) l = none := hD
      rw [upd_ne ltp, upd_same] at this
      cases this
    have tpD : tp ≠ D := by
      intro z
      subst z
      have : upd (upd H l (.lst [.int (x : Int), .int (a.roads.length : Int)])) tp (.tup [.int 24, .int 16, .int 8, .int 0]) tp = none := hD
      rw [upd_same] at this
      cases this
    refine lc_tup (K := K) (a := tp) (xs := [.int 24, .int 16, .int 8, .int 0]) (fun i H' => Same H H' ∧ H' l = some (.lst [.int (x : Int), .int (a.roads.length : Int)]) ∧ H' tp = some (.tup [.int 24, .int 16, .int 8, .int 0]) ∧ H' D = some (.lst ((shf a.seq).take i)))
      ⟨fun b o e => ?_, ?_, ?_, upd_same⟩ (fun i H' _ ⟨_, _, e, _⟩ => SqT.of e) ?_ ?_
    · rw [upd_ne (ne_of_none e nD), upd_ne (ne_of_none e ntp), upd_ne (ne_of_none e hl)]; exact e
    · rw [upd_ne lD, upd_ne ltp, upd_same]
    · rw [upd_ne tpD, upd_same]
    · rintro i y H' hi ⟨s, e1, e2, e3⟩
      obtain ⟨sh, hy, hs⟩ : ∃ sh : Nat, y = .int (sh : Int) ∧ (shf a.seq).take (i + 1) = (shf a.seq).take i ++ [V.int (Builtin.bitAnd ((a.seq : Int) / 2 ^ sh) 255)] := by
        match i, hi with
        | 0, hi => cases hi; exact ⟨24, rfl, rfl⟩
        | 1, hi => cases hi; exact ⟨16, rfl, rfl⟩
        | 2, hi => cases hi; exact ⟨8, rfl, rfl⟩
        | 3, hi => cases hi; exact ⟨0, rfl, rfl⟩
        | i + 4, hi => simp at hi
      subst hy
      refine ⟨rfl, ?_⟩
      dsimp only [tYes]
      refine iteT ?_
      refine ⟨_, rfl, t, _, dx, _, _, rfl, s _ _ h1, T.c_Told, T.n_Told_number, TF_number .., _, rfl, _, _, rfl, rfl, Int.natCast_nonneg _, _, _, rfl, rfl, ?_⟩
      refine ⟨_, e3, ?_, fun b o e => ?_, ?_, ?_, ?_⟩
      · rw [List.length_take]
        exact Nat.lt_of_le_of_lt (Nat.min_le_right _ _) (by show 4 < sizeLine; decide)
      · rw [upd_ne (ne_of_none e nD)]; exact s b o e
      · rw [upd_ne lD]; exact e1
      · rw [upd_ne tpD]; exact e2
      · rw [upd_same, hs]
        rfl
    · rintro H2 ⟨s, e1, e2, e3⟩
      have e3' : H2 D = some (.lst (shf a.seq)) := e3
      refine ⟨l, D, _, _, rfl, rfl, e1, e3', (by show 6 ≤ sizeLine; decide), ?_⟩
      have s2 : Same H (upd H2 l (.lst ([V.int (x : Int), V.int (a.roads.length : Int)] ++ shf a.seq))) := fun b o e => by rw [upd_ne (ne_of_none e hl)]; exact s b o e
      have e4 : (([V.int (x : Int), V.int (a.roads.length : Int)] : List V) ++ shf a.seq) = vI (toldTo x a []) := by
        rw [shf_is]
        rfl
      rw [e4] at s2 ⊢
      -- for name, cost in told.roads
      refine ⟨_, rfl, t, _, dx, _, _, rfl, s2 _ _ h1, T.c_Told, T.n_Told_roads, TF_roads .., r, rfl, ⟨_, SqL.of (s2 _ _ h2)⟩, for_list (K := K) (a := r) (xs := ts.map V.ref)
        (fun i σ H' => ∃ (v2 v3 : Option V), σ = [some (.ref t), some (.ref l), v2, v3, none] ∧ Same H H' ∧ H' l = some (.lst (vI (toldTo x a (a.roads.take i)))))
        ⟨none, none, rfl, s2, upd_same⟩ (fun i σ H' _ ⟨_, _, _, s, _⟩ => SqL.of (s _ _ h2)) ?_ ?_⟩
      · rintro i y σ H' hi ⟨v2, v3, rfl, s, e⟩
        obtain ⟨tt, htt, rfl⟩ := refs_at hi
        obtain ⟨q, hq, pq⟩ := paired_at h3 htt
        have tk := take_more hq
        have hw := ok.wide q (List.mem_of_getElem? hq)
        refine ⟨tt, _, rfl, SqT.of (s _ _ pq), rfl, _, _, rfl, _, _, rfl, rfl, ?_⟩
        refine ⟨_, rfl, .inl ⟨rfl, _, SqL.of e⟩, _, rfl, _, rfl, _, _, rfl, rfl, (by show (0 : Int) ≤ 8; decide), _, rfl, _, _, rfl, rfl, (by show 3 ≤ sizeLine; decide), fun p hp => ?_⟩
        have lp : l ≠ p := ne_of_none e hp
        refine ⟨l, p, _, _, rfl, rfl, (by rw [upd_ne lp]; exact e), upd_same, ?_, ?_⟩
        · rw [vI_len, toldTo_len, List.length_take]
          exact Nat.le_trans (by show 6 + 3 * min i a.roads.length + 3 ≤ 6 + 3 * 64 + 3; omega) (by decide : 6 + 3 * 64 + 3 ≤ sizeLine)
        · refine ⟨some (.int q.1), some (.int q.2), rfl, fun b o f => ?_, ?_⟩
          · rw [upd_ne (ne_of_none f hl), upd_ne (ne_of_none (s _ _ f) hp)]
            exact s b o f
          · rw [upd_same, tk, toldTo_snoc, vI_append]
            have f1 : ((q.2 : Int) / 2 ^ (8 : Int).toNat) = ((q.2 / 256 % 256 : Nat) : Int) := by
              show ((q.2 : Int) / 256) = _
              omega
            show some (HO.lst (vI (toldTo x a (a.roads.take i)) ++ [V.int (q.1 : Int), V.int ((q.2 : Int) / 2 ^ (8 : Int).toNat), V.int (Builtin.bitAnd (q.2 : Int) 255)])) = _
            rw [f1, and255']
            rfl
      · rintro σ H' ⟨v2, v3, rfl, s, e⟩
        rw [List.length_map, hts, List.take_length, toldTo_all] at e
        exact ⟨_, rfl, k _ _ s hl e⟩
end
end KR

namespace KR
open PySem PySem.Spec PyProof.Rows L2
section
variable {P : Program} {w : World} {K : PySem.W.Frag} {mg : Str → Option Value} {base : Heap} {A : Adr}

/-- the keys as whole numbers -/
theorem Keys.ns {kvs : List (Key × V)} (h : Keys kvs) : ∃ ns : List Nat, kvs.map (·.1) = (ns.map fun (n : Nat) => (n : Int)).map Sum.inl ∧ ns.Nodup ∧ (∀ x ∈ ns, x < 64) ∧ ns.length = kvs.length ∧ ∀ x : Nat, x ∈ ns ↔ (valV kvs (Sum.inl (x : Int) : Key)).isSome = true := by
  obtain ⟨nd, rt⟩ := h
  suffices q : ∃ ns : List Nat, kvs.map (·.1) = (ns.map fun (n : Nat) => (n : Int)).map (Sum.inl : Int → Key) ∧ ∀ x ∈ ns, x < 64 by
    obtain ⟨ns, e, l⟩ := q
    have nd' : ns.Nodup := by
      rw [e, List.map_map] at nd
      exact (List.pairwise_map (f := (Sum.inl : Int → Key) ∘ fun (n : Nat) => (n : Int)).mp nd).imp fun h z => h (congrArg _ z)
    refine ⟨ns, e, nd', l, by rw [← List.length_map (f := (·.1)) (as := kvs), e, List.length_map, List.length_map], fun x => ?_⟩
    constructor
    · intro hx
      cases c : valV kvs (Sum.inl (x : Int) : Key) with
      | some v => rfl
      | none =>
        refine absurd ?_ (valV_not c)
        rw [e, List.map_map]
        exact List.mem_map.mpr ⟨x, hx, rfl⟩
    · intro hx
      obtain ⟨v, hv⟩ := Option.isSome_iff_exists.mp hx
      have := valV_in hv
      rw [e, List.map_map, List.mem_map] at this
      obtain ⟨y, hy, ey⟩ := this
      have ey' : (Sum.inl (y : Int) : Key) = Sum.inl (x : Int) := ey
      injection ey' with ey'
      have : y = x := by omega
      rw [← this]; exact hy
  clear nd
  induction kvs with
  | nil => exact ⟨[], rfl, by simp⟩
  | cons p r ih =>
    obtain ⟨ns, e, l⟩ := ih fun q hq => rt q (List.mem_cons_of_mem _ hq)
    obtain ⟨x, hx, ex⟩ := rt p (List.mem_cons_self ..)
    refine ⟨x :: ns, ?_, fun y hy => ?_⟩
    · rw [List.map_cons, e, ex]
      rfl
    · rcases List.mem_cons.mp hy with rfl | hy
      · exact hx
      · exact l y hy
/-- what sorted gives of them -/
theorem sorted_ns {ns : List Nat} (nd : ns.Nodup) {ys : List Int} (p : ys.Perm (ns.map fun (n : Nat) => (n : Int))) (s : ys.Pairwise (· ≤ ·)) : ∃ ms : List Nat, ys = (ms.map fun (n : Nat) => (n : Int)) ∧ ms.Pairwise (· < ·) ∧ (∀ x, x ∈ ms ↔ x ∈ ns) ∧ ms.length = ns.length := by
  have e : ys = (ys.map Int.toNat).map fun (n : Nat) => (n : Int) := by
    rw [List.map_map]
    refine (List.map_id ys).symm.trans (List.map_congr_left fun y hy => ?_)
    have := p.mem_iff.mp hy
    rw [List.mem_map] at this
    obtain ⟨n, _, rfl⟩ := this
    rfl
  have pm : (ys.map Int.toNat).Perm ns := by
    have q := p.map Int.toNat
    rw [List.map_map] at q
    have i : (Int.toNat ∘ fun (n : Nat) => (n : Int)) = id := by funext n; rfl
    rw [i, List.map_id] at q
    exact q
  refine ⟨ys.map Int.toNat, e, ?_, fun x => pm.mem_iff, pm.length_eq⟩
  have nd' := pm.nodup_iff.mpr nd
  rw [e, List.pairwise_map] at s
  exact (List.pairwise_and_iff.mpr ⟨s, nd'⟩).imp fun {a b} h => by
    have h1 : (a : Int) ≤ (b : Int) := h.1
    have h2 : a ≠ b := h.2
    omega
def sp_roads_by : Sp := fun vs H Q _ => ∃ (l : Addr) (ls : List (Nat × Nat)), vs = [.ref l] ∧ RowAt H l ls ∧ ls.length ≤ 8 ∧ (∀ x ∈ ls, x.1 < 64) ∧
  ∀ (H' : Hp) (r : Addr), Same H H' → H r = none → RowAt H' r (roadsBy ls) → Q (.ref r) H'
theorem ok_roads_by (T : Txt K mg A) : FnOk P w K mg base CX0 1 A.f_roads_by A.d_roads_by pm_roads_by (sp_roads_by) := by
  refine T.F_roads_by.ok sc_roads_by (fun vs H Q E h => ?_) (fun cdv Ar outer s H vs Q E hr h => ?_)
  · obtain ⟨l, ls, rfl, _⟩ := h
    rfl
  · obtain ⟨l, ls, rfl, ⟨ts, h1, h2⟩, hl, hb, k⟩ := h
    have hts : ts.length = ls.length := Paired.length h2
    have hu := hu_of hr
    refine ⟨_, (pss_cons (ps_set (i := 1) sc_roads_by.nd rfl (Or.inr rfl) pe_dnewK)
      (pss_cons (ps_for PassesOwn.never rfl (pi_list (pv 0)) (pg_tup rfl (pgs_cons (pg_name (i := 2) sc_roads_by.nd rfl (Or.inl rfl)) (pgs_cons (pg_name (i := 3) sc_roads_by.nd rfl (Or.inl rfl)) pgs_nil)))
      (pss_one (ps_if (pt_cmpR op_gt (pv 3) pe_int (nomark _))
      (pss_one (ps_dput hu (pv 1) (pv 2) (pe_callB (call_min2 rfl) (by rfl) T.z_min (by decide +kernel) (pa_cons (pv 3) (pa_cons (pe_dget2 hu (pv 1) (pv 2) (pv 3) ⟨rfl, rfl, rfl, rfl⟩) pa_nil))) rfl))
      pss_nil)))
      (pss_one (ps_ret (pe_lc (own := [("nb", 2)]) (te := (tTup (tCons (tVar 2) (tCons (tDGet (tVar 1) (tVar 2)) tNil)))) (g := gName 2) rfl sc_roads_by.nd (pi_list (pe_callB (call_sortedDI rfl) (by rfl) T.z_sorted (by decide +kernel) (pa_cons (pv 1) pa_nil))) (blkOk_by (own := [("nb", 2)]) (N := nm_roads_by) (sc := defScope st_roads_by) (by decide +kernel)) (fun _ _ _ _ _ => (pg_name (i := 2) sc_roads_by.nd rfl (Or.inl rfl))) (fun _ _ _ _ _ => pts_nil) (fun _ _ _ _ _ => (pe_tup (pa_cons (pv 2) (pa_cons (pe_dget hu (pv 1) (pv 2) (fun _ _ => rfl)) pa_nil))))))))), ?_⟩
    intro d hd
    have s1 : Same H (upd H d (.dK [])) := fun b o e => by rw [upd_ne (ne_of_none e hd)]; exact e
    refine ⟨_, rfl, l, rfl, ⟨_, SqL.of (s1 _ _ h1)⟩, for_list (K := K) (a := l) (xs := ts.map V.ref)
      (fun i σ H' => ∃ (v2 v3 : Option V) (kvs : List (Key × V)), σ = [some (.ref l), some (.ref d), v2, v3] ∧ Same H H' ∧ H' d = some (.dK kvs) ∧ Keys kvs ∧ kvs.length ≤ i ∧ ∀ v : Nat, valV kvs (Sum.inl (v : Int) : Key) = (Ql82.least (costs (ls.take i) v)).map fun (c : Nat) => V.int (c : Int))
      ⟨none, none, [], rfl, s1, upd_same, Keys.nil, Nat.le_refl _, fun v => rfl⟩ (fun i σ H' _ ⟨_, _, _, _, s, _⟩ => SqL.of (s _ _ h1)) ?_ ?_⟩
    · rintro i y σ H' hi ⟨v2, v3, kvs, rfl, s, hd', kk, kl, kv⟩
      obtain ⟨tt, htt, rfl⟩ := refs_at hi
      obtain ⟨q, hq, pq⟩ := paired_at h2 htt
      have tk := take_more hq
      have hq64 := hb q (List.mem_of_getElem? hq)
      have hi8 : i < 8 := by
        have := (List.getElem?_eq_some_iff.mp hq).1
        omega
      have lk : kvs.length < sizeLine := kk.line
      refine ⟨tt, _, rfl, SqT.of (s _ _ pq), rfl, _, _, rfl, _, _, rfl, rfl, ?_⟩
      refine ⟨_, rfl, _, _, rfl, rfl, _, rfl, ?_⟩
      by_cases c : (0 : Int) < (q.2 : Int)
      · rw [decide_eq_true c]
        refine iteT ?_
        refine ⟨_, rfl, _, rfl, d, rfl, .inl ⟨_, .inl hd'⟩, _, rfl, _, rfl, _, DGet.k (k := Sum.inl (q.1 : Int)) hd', ?_⟩
        have ev : (valV kvs (Sum.inl (q.1 : Int) : Key)).getD (.int (q.2 : Int)) = .int ((Ql82.least (costs (ls.take i) q.1)).getD q.2 : Nat) := by
          rw [kv]
          cases Ql82.least (costs (ls.take i) q.1) <;> rfl
        rw [ev]
        refine ⟨_, _, rfl, _, rfl, _, rfl, d, _, rfl, DPut.k (k := Sum.inl (q.1 : Int)) hd' lk, ?_⟩
        refine ⟨some (.int q.1), some (.int q.2), _, rfl, fun b o e => ?_, upd_same, kk.put hq64 _, ?_, fun v => ?_⟩
        · rw [upd_ne (ne_of_none e hd)]; exact s b o e
        · have := length_putK kvs (Sum.inl (q.1 : Int) : Key) (if ((Ql82.least (costs (ls.take i) q.1)).getD q.2 : Int) < (q.2 : Int) then V.int ((Ql82.least (costs (ls.take i) q.1)).getD q.2 : Nat) else V.int (q.2 : Int))
          exact Nat.le_trans (length_putK _ _ _) (by omega)
        · rw [valV_put, tk, costs_snoc]
          by_cases e : v = q.1
          · subst e
            have e0 : q.2 ≠ 0 ∧ q.1 = q.1 := ⟨by omega, rfl⟩
            rw [if_pos (rfl : (Sum.inl (q.1 : Int) : Key) = Sum.inl (q.1 : Int)), if_pos e0, least_snoc, Option.map_some]
            congr 1
            cases z : Ql82.least (costs (ls.take i) q.1) with
            | none =>
              show V.int (if (q.2 : Int) < (q.2 : Int) then (q.2 : Int) else (q.2 : Int)) = V.int (q.2 : Int)
              rw [if_neg (Int.lt_irrefl _)]
            | some b =>
              show V.int (if (b : Int) < (q.2 : Int) then (b : Int) else (q.2 : Int)) = V.int ((min q.2 b : Nat) : Int)
              congr 1
              by_cases z : (b : Int) < (q.2 : Int)
              · rw [if_pos z]; omega
              · rw [if_neg z]; omega
          · have e0 : ¬ (q.2 ≠ 0 ∧ q.1 = v) := fun z => e z.2.symm
            rw [if_neg (inl_ne e), if_neg e0, List.append_nil]
            exact kv v
      · rw [decide_eq_false c]
        refine iteF ?_
        refine ⟨some (.int q.1), some (.int q.2), kvs, rfl, s, hd', kk, by omega, fun v => ?_⟩
        have e0 : ¬ (q.2 ≠ 0 ∧ q.1 = v) := fun z => by have := z.1; omega
        rw [tk, costs_snoc, if_neg e0, List.append_nil]
        exact kv v
    · rintro σ H' ⟨v2, v3, kvs, rfl, s, hd', kk, kl, kv⟩
      rw [List.length_map, hts] at kl kv
      rw [List.take_length] at kv
      obtain ⟨ns, ek, nd, n64, nl, nm⟩ := kk.ns
      refine ⟨_, rfl, d, kvs, _, rfl, .inl hd', ek, by rw [List.length_map, nl]; omega, fun ys p perm srt hp => ?_⟩
      obtain ⟨ms, rfl, mr, mm, ml⟩ := sorted_ns nd perm srt
      have dp : d ≠ p := ne_of_none hd' hp
      have np : H p = none := s.free hp
      have em : (ms.map fun (n : Nat) => (n : Int)).map V.int = vI ms := by rw [List.map_map]; rfl
      rw [em]
      have s2 : Same H' (upd H' p (.lst (vI ms))) := fun b o e => by rw [upd_ne (ne_of_none e hp)]; exact e
      have er : roadsBy ls = ms.map fun v => (v, (Ql82.least (costs ls v)).getD 0) := by
        refine roadsBy_by mr (fun v => ?_) (fun v hv => ?_)
        · rw [mm, nm, kv]
          constructor
          · intro z
            have hv : v ∈ ns := (nm v).mpr (by rw [kv]; exact z)
            refine ⟨n64 v hv, fun y => ?_⟩
            rw [y] at z
            exact absurd z (by decide)
          · rintro ⟨_, z⟩
            cases y : Ql82.least (costs ls v) with
            | none => exact absurd (least_none.mp y) z
            | some c => rfl
        · rw [mm, nm, kv] at hv
          cases y : Ql82.least (costs ls v) with
          | none => rw [y] at hv; exact absurd hv (by decide)
          | some c => rfl
      refine ⟨p, rfl, ⟨_, SqL.of upd_same⟩, fun D hD => ?_⟩
      have nD' : H' D = none := s2.free hD
      have nD : H D = none := s.free nD'
      have pD : p ≠ D := by
        intro z
        subst z
        rw [upd_same] at hD
        cases hD
      have dD : d ≠ D := ne_of_none hd' nD'
      refine lc_list (K := K) (a := p) (xs := vI ms) (fun i H2 => Same H H2 ∧ H2 d = some (.dK kvs) ∧ H2 p = some (.lst (vI ms)) ∧ ∃ us : List Addr, H2 D = some (.lst (us.map V.ref)) ∧ Paired (PairAt H2) us ((roadsBy ls).take i))
        ⟨fun b o e => ?_, ?_, ?_, [], upd_same, .nil⟩ (fun i H2 _ ⟨_, _, e, _⟩ => SqL.of e) ?_ ?_
      · rw [upd_ne (ne_of_none e nD), upd_ne (ne_of_none e np)]; exact s b o e
      · rw [upd_ne dD, upd_ne dp]; exact hd'
      · rw [upd_ne pD, upd_same]
      · rintro i y H2 hi ⟨s3, e1, e2, us, e3, e4⟩
        obtain ⟨m, hm, rfl⟩ := vI_get hi
        have hmem : m ∈ ms := List.mem_of_getElem? hm
        have hsome : (Ql82.least (costs ls m)).isSome = true := by
          have := (nm m).mp ((mm m).mp hmem)
          rw [kv] at this
          cases y : Ql82.least (costs ls m) with
          | none => rw [y] at this; exact absurd this (by decide)
          | some c => rfl
        obtain ⟨c, hc⟩ := Option.isSome_iff_exists.mp hsome
        have hv : valV kvs (Sum.inl (m : Int) : Key) = some (.int (c : Int)) := by rw [kv, hc]; rfl
        have hrow : (roadsBy ls)[i]? = some (m, c) := by
          rw [er, List.getElem?_map, hm]
          show some (m, (Ql82.least (costs ls m)).getD 0) = _
          rw [hc]; rfl
        have hul : us.length = i := by
          rw [Paired.length e4, List.length_take]
          have := (List.getElem?_eq_some_iff.mp hrow).1
          omega
        refine ⟨rfl, ?_⟩
        dsimp only [tYes]
        refine iteT ?_
        have hg := DGet.k (k := (Sum.inl (m : Int) : Key)) e1
        rw [hv] at hg
        refine ⟨_, rfl, _, rfl, _, rfl, d, _, rfl, hg, (by show 2 ≤ sizeLine; decide), fun t ht => ?_⟩
        have Dt : D ≠ t := ne_of_none e3 ht
        have nt : H t = none := s3.free ht
        have keep : ∀ b o, H2 b = some o → b ≠ D → upd (upd H2 t (.tup [.int (m : Int), .int (c : Int)])) D (.lst (us.map V.ref ++ [V.ref t])) b = some o := fun b o e hb => by
          rw [upd_ne hb, upd_ne (ne_of_none e ht)]; exact e
        refine ⟨_, by rw [upd_ne Dt]; exact e3, ?_, fun b o e => keep b o (s3 b o e) (ne_of_none e nD), keep d _ e1 dD, keep p _ e2 pD, us ++ [t], ?_, ?_⟩
        · rw [List.length_map, hul]
          have := (List.getElem?_eq_some_iff.mp hrow).1
          have := roadsBy_len ls
          exact Nat.lt_of_lt_of_le (by omega : i < 64) (by decide)
        · rw [upd_same, List.map_append]; rfl
        · rw [take_more hrow]
          refine Paired.snoc (Paired.mapP e4 fun b x hx => keep b _ hx fun z => ?_) ?_
          · subst z
            have hx' : H2 b = some (.tup [.int (x.1 : Int), .int (x.2 : Int)]) := hx
            rw [e3] at hx'
            cases hx'
          · show upd _ D _ t = _
            rw [upd_ne Dt.symm, upd_same]
      · rintro H2 ⟨s3, e1, e2, us, e3, e4⟩
        have hlen : (vI ms).length = (roadsBy ls).length := by rw [vI_len, er, List.length_map]
        rw [hlen, List.take_length] at e4
        exact k H2 D s3 nD ⟨us, e3, e4⟩
end
end KR

namespace KR
open PySem PySem.Spec PyProof.Rows L2
section
variable {P : Program} {w : World} {K : PySem.W.Frag} {mg : Str → Option Value} {base : Heap} {A : Adr}

/-- the instance of the router -/
def ObAt (A : Adr) (H : Hp) (a : Addr) (me : Nat) (l k w : Addr) : Prop := ∃ dx, H a = some (.ins A.a_Router dx (RF me l k w))
theorem ObAt.nodict {H H' : Hp} {a : Addr} {me : Nat} {l k w : Addr} (h : ObAt A H a me l k w) (e : NoDict H H') : ObAt A H' a me l k w := by
  obtain ⟨dx, h⟩ := h
  exact ⟨dx, e _ _ h fun _ z => by cases z⟩
/-- line p is up -/
def up (ls : List (Nat × Nat)) (p : Nat) : Bool := (linesOf ls p).isSome
theorem up_is {ls : List (Nat × Nat)} {p : Nat} {x : Nat × Nat} (h : ls[p]? = some x) : up ls p = decide ((0 : Int) < (x.2 : Int)) := by
  unfold up linesOf
  rw [h, Option.bind_some]
  unfold lineOf
  by_cases c : x.2 = 0
  · rw [if_pos c, decide_eq_false (by omega)]; rfl
  · rw [if_neg c, decide_eq_true (by omega)]; rfl
def sp_is_up (A : Adr) : Sp := fun vs H Q _ => ∃ (a : Addr) (p me : Nat) (l k w : Addr) (ls : List (Nat × Nat)), vs = [.ref a, .int p] ∧ ObAt A H a me l k w ∧ RowAt H l ls ∧ p < ls.length ∧ Q (.bl (up ls p)) H
theorem ok_Router_is_up (T : Txt K mg A) : FnOk P w K mg base CX0 1 A.f_Router_is_up A.d_Router_is_up pm_Router_is_up (sp_is_up A) := by
  refine T.F_Router_is_up.ok sc_Router_is_up (fun vs H Q E h => ?_) (fun cdv Ar outer s H vs Q E hr h => ?_)
  · obtain ⟨a, p, me, l, k, w', ls, rfl, _⟩ := h
    rfl
  · obtain ⟨a, p, me, l, k, w', ls, rfl, ⟨dx, h1⟩, ⟨ts, h2, h3⟩, hp, q⟩ := h
    refine ⟨_, (pss_one (ps_ret (pe_cmpR op_gt (pe_ix ix_tup (pe_ix ix_list (pe_fld (pv 0) rfl) (pv 1) (fun _ _ => rfl)) pe_int (fun _ _ => rfl)) pe_int (nomark _)))), ?_⟩
    have e : ls[p]? = some ls[p] := List.getElem?_eq_getElem hp
    obtain ⟨t, ht, pt⟩ := paired_at' h3 e
    refine ⟨_, rfl, a, _, dx, _, _, rfl, h1, T.c_Router, T.n_Router_lines, RF_lines .., _, rfl, l, _, _, _, rfl, rfl, SqL.of h2, at_of rfl (refs_get ht), t, _, _, _, rfl, rfl, SqT.of pt, at_of (j := 1) rfl rfl, _, _, rfl, rfl, ?_⟩
    rw [up_is e] at q
    exact q

def sp_wait_on (A : Adr) : Sp := fun vs H Q _ => ∃ (a : Addr) (p x me : Nat) (l k w d : Addr) (ds : List Addr) (kvs : List (Key × V)), vs = [.ref a, .int p, .int x] ∧ ObAt A H a me l k w ∧ H w = some (.lst (ds.map V.ref)) ∧ ds[p]? = some d ∧ H d = some (.dK kvs) ∧ kvs.length < sizeLine ∧
  Q .non (upd H d (.dK (putK kvs (Sum.inl (x : Int)) (.bl true))))
theorem ok_Router_wait_on (T : Txt K mg A) : FnOk P w K mg base CX0 1 A.f_Router_wait_on A.d_Router_wait_on pm_Router_wait_on (sp_wait_on A) := by
  refine T.F_Router_wait_on.ok sc_Router_wait_on (fun vs H Q E h => ?_) (fun cdv Ar outer s H vs Q E hr h => ?_)
  · obtain ⟨a, p, x, me, l, k, w', d, ds, kvs, rfl, _⟩ := h
    rfl
  · obtain ⟨a, p, x, me, l, k, w', d, ds, kvs, rfl, ⟨dx, h1⟩, h2, h3, h4, h5, q⟩ := h
    have hu := hu_of hr
    refine ⟨_, (pss_one (ps_dput hu (pe_ix ix_list (pe_fld (pv 0) rfl) (pv 1) (fun _ _ => rfl)) (pv 2) pe_bl rfl)), ?_⟩
    refine ⟨_, rfl, a, _, dx, _, _, rfl, h1, T.c_Router, T.n_Router_waits, RF_waits .., _, rfl, w', _, _, _, rfl, rfl, SqL.of h2, at_of rfl (refs_get h3), _, rfl, d, _, rfl, DPut.k (k := Sum.inl (x : Int)) h4 h5, q⟩

def sp_wait_no_more (A : Adr) : Sp := fun vs H Q _ => ∃ (a : Addr) (p x me : Nat) (l k w d : Addr) (ds : List Addr) (kvs : List (Key × V)), vs = [.ref a, .int p, .int x] ∧ ObAt A H a me l k w ∧ H w = some (.lst (ds.map V.ref)) ∧ ds[p]? = some d ∧ H d = some (.dK kvs) ∧
  Q .non (upd H d (.dK (dropK kvs (Sum.inl (x : Int)))))
theorem ok_Router_wait_no_more (T : Txt K mg A) : FnOk P w K mg base CX0 1 A.f_Router_wait_no_more A.d_Router_wait_no_more pm_Router_wait_no_more (sp_wait_no_more A) := by
  refine T.F_Router_wait_no_more.ok sc_Router_wait_no_more (fun vs H Q E h => ?_) (fun cdv Ar outer s H vs Q E hr h => ?_)
  · obtain ⟨a, p, x, me, l, k, w', d, ds, kvs, rfl, _⟩ := h
    rfl
  · obtain ⟨a, p, x, me, l, k, w', d, ds, kvs, rfl, ⟨dx, h1⟩, h2, h3, h4, q⟩ := h
    refine ⟨_, (pss_one (ps_expr (pe_dpop2 (pe_ix ix_list (pe_fld (pv 0) rfl) (pv 1) (fun _ _ => rfl)) (pv 2) pe_non ⟨rfl, rfl, rfl, rfl⟩))), ?_⟩
    refine ⟨_, rfl, a, _, dx, _, _, rfl, h1, T.c_Router, T.n_Router_waits, RF_waits .., _, rfl, w', _, _, _, rfl, rfl, SqL.of h2, at_of rfl (refs_get h3), d, rfl, .inl ⟨_, .inl h4⟩, _, rfl, kvs, Sum.inl (x : Int), h4, rfl, fun v _ => q, fun n => ?_⟩
    rw [dropK_no (valV_not n), upd_id h4] at q
    exact q

def sp_wait_on_all (A : Adr) : Sp := fun vs H Q _ => ∃ (a : Addr) (x me : Nat) (l k w : Addr) (ds : List Addr) (ls : List (Nat × Nat)) (f : Nat → Nat → Bool), vs = [.ref a, .int x] ∧ ObAt A H a me l k w ∧ RowAt H l ls ∧ ls.length = 8 ∧ WAt H w ds f ∧ x < 64 ∧
  ∀ H' : Hp, (∀ b, b ∉ ds → H' b = H b) → WAt H' w ds (fun q y => if y = x ∧ up ls q = true then true else f q y) → Q .non H'
theorem ok_Router_wait_on_all (T : Txt K mg A) : FnOk P w K mg base CX0 2 A.f_Router_wait_on_all A.d_Router_wait_on_all pm_Router_wait_on_all (sp_wait_on_all A) := by
  refine T.F_Router_wait_on_all.ok sc_Router_wait_on_all (fun vs H Q E h => ?_) (fun cdv Ar outer s H vs Q E hr h => ?_)
  · obtain ⟨a, x, me, l, k, w', ds, ls, f, rfl, _⟩ := h
    rfl
  · obtain ⟨a, x, me, l, k, w', ds, ls, f, rfl, ob, row, l8, wa, hx, q⟩ := h
    refine ⟨_, (pss_one (ps_for PassesOwn.never rfl (pi_range1 rfl T.z_range (pa_cons (pe_glob (v := V.int 8) rfl T.g_LINES ⟨_, rfl⟩) pa_nil)) (pg_name (i := 2) sc_Router_wait_on_all.nd rfl (Or.inl rfl))
      (pss_one (ps_if (pt_val (pe_meth (pv 0) T.c_Router T.m_Router_is_up (ok_Router_is_up T) (hr.mono (by decide)) T.b_Router_is_up .nil pass0 (pa_cons (pv 2) pa_nil)))
      (pss_one (ps_expr (pe_meth (pv 0) T.c_Router T.m_Router_wait_on (ok_Router_wait_on T) (hr.mono (by decide)) T.b_Router_wait_on .nil pass0 (pa_cons (pv 2) (pa_cons (pv 1) pa_nil)))))
      pss_nil)))), ?_⟩
    refine ⟨8, rfl, by decide, by decide, for_range (lo := 0) (n := 8) (fun i σ H' => ∃ v : Option V, σ = [some (.ref a), some (.int (x : Int)), v] ∧ (∀ b, b ∉ ds → H' b = H b) ∧ WAt H' w' ds (fun p y => if y = x ∧ p < i ∧ up ls p = true then true else f p y))
      ⟨none, rfl, fun _ _ => rfl, wa.congr fun p y _ => by simp⟩ ?_ ?_⟩
    · rintro i σ H' hi ⟨v, rfl, same, wa'⟩
      have nd : NoDict H H' := wa.nodict same
      have ob' := ob.nodict nd
      obtain ⟨dx, h1⟩ := id ob'
      rw [show (0 : Int) + (i : Nat) = ((i : Nat) : Int) by omega]
      refine ⟨_, rfl, a, dx, _, rfl, h1, RF_no _ _ _ _ (by decide +kernel) (by decide +kernel) (by decide +kernel) (by decide +kernel), _, rfl, a, i, me, l, k, w', ls, rfl, ob', row.nodict nd, by omega, _, rfl, ?_⟩
      cases c : up ls i with
      | true =>
        refine iteT ?_
        obtain ⟨d, kvs, e1, e2, e3⟩ := wa'.get hi
        refine ⟨_, rfl, a, dx, _, rfl, h1, RF_no _ _ _ _ (by decide +kernel) (by decide +kernel) (by decide +kernel) (by decide +kernel), _, rfl, _, rfl, a, i, x, me, l, k, w', d, ds, kvs, rfl, ob', wa'.ls, e1, e2, e3.1.line, ?_⟩
        refine ⟨some (.int (i : Int)), rfl, fun b hb => ?_, (wa'.upd e1 (e3.put hx _)).congr fun p y hp => ?_⟩
        · rw [upd_ne fun z => hb (by rw [z]; exact List.mem_of_getElem? e1)]
          exact same b hb
        · by_cases e : p = i
          · subst e
            by_cases ey : y = x
            · simp [ey, c]
            · simp [ey]
          · by_cases ey : y = x
            · by_cases hpi : p < i
              · simp [e, ey, hpi, show p < i + 1 by omega]
              · simp [e, ey, hpi, show ¬ p < i + 1 by omega]
            · simp [e, ey]
      | false =>
        refine iteF ?_
        refine ⟨some (.int (i : Int)), rfl, same, wa'.congr fun p y hp => ?_⟩
        by_cases e : p = i
        · subst e
          simp [c]
        · by_cases hpi : p < i
          · simp [hpi, show p < i + 1 by omega]
          · simp [hpi, show ¬ p < i + 1 by omega]
    · rintro σ H' ⟨v, rfl, same, wa'⟩
      refine q H' same (wa'.congr fun p y hp => ?_)
      simp [hp]

def sp_fill_line (A : Adr) : Sp := fun vs H Q _ => ∃ (a : Addr) (p me : Nat) (l k w : Addr) (ds : List Addr) (ls : List (Nat × Nat)) (f : Nat → Nat → Bool) (ads : Nat → Option Ql82.Ad), vs = [.ref a, .int p] ∧ p < 8 ∧ ObAt A H a me l k w ∧ RowAt H l ls ∧ ls.length = 8 ∧ WAt H w ds f ∧ KAt A H k ads ∧
  ∀ (H' : Hp) (d' : Addr), H d' = none → WAt H' w (ds.set p d') (fun q y => if q = p then up ls p && (ads y).isSome else f q y) → (∀ b, b ≠ w → b ≠ d' → H' b = H b) → Q .non H'
theorem ok_Router_fill_line (T : Txt K mg A) : FnOk P w K mg base CX0 2 A.f_Router_fill_line A.d_Router_fill_line pm_Router_fill_line (sp_fill_line A) := by
  refine T.F_Router_fill_line.ok sc_Router_fill_line (fun vs H Q E h => ?_) (fun cdv Ar outer s H vs Q E hr h => ?_)
  · obtain ⟨a, p, me, l, k, w', ds, ls, f, ads, rfl, _⟩ := h
    rfl
  · obtain ⟨a, p, me, l, k, w', ds, ls, f, ads, rfl, hp, ⟨dx, h1⟩, row, l8, wa, ⟨kvs, hk, kk⟩, q⟩ := h
    refine ⟨_, (pss_cons (ps_asg pe_dnewK (pg_sub (pe_fld (pv 0) rfl) (pv 1) set_list))
      (pss_one (ps_if (pt_val (pe_meth (pv 0) T.c_Router T.m_Router_is_up (ok_Router_is_up T) (hr.mono (by decide)) T.b_Router_is_up .nil pass0 (pa_cons (pv 1) pa_nil)))
      (pss_one (ps_lock (ps_for PassesOwn.never rfl (pi_keys (pe_fld (pv 0) rfl)) (pg_name (i := 2) sc_Router_fill_line.nd rfl (Or.inl rfl))
      (pss_one (ps_expr (pe_meth (pv 0) T.c_Router T.m_Router_wait_on (ok_Router_wait_on T) (hr.mono (by decide)) T.b_Router_wait_on .nil pass0 (pa_cons (pv 1) (pa_cons (pv 2) pa_nil))))))))
      pss_nil))), ?_⟩
    intro d' hd'
    have aw : a ≠ w' := ne_of h1 wa.ls (by intro z; cases z)
    have ad : a ≠ d' := ne_of_none h1 hd'
    have wd : w' ≠ d' := ne_of_none wa.ls hd'
    have kw : k ≠ w' := ne_of hk wa.ls (by intro z; cases z)
    have kd : k ≠ d' := ne_of_none hk hd'
    have hpl : p < (ds.map V.ref).length := by rw [List.length_map, wa.l8]; exact hp
    refine ⟨_, rfl, a, _, dx, _, _, rfl, (by rw [upd_ne ad]; exact h1), T.c_Router, T.n_Router_waits, RF_waits .., _, rfl, w', _, _, p, rfl, rfl, (by rw [upd_ne wd]; exact wa.ls), ixN_of rfl hpl, ?_⟩
    rw [show (ds.map V.ref).set p (.ref d') = (ds.set p d').map V.ref from (List.map_set ..).symm]
    have wf := wa.fresh hp hd'
    generalize hH2 : upd (upd H d' (.dK [])) w' (.lst ((ds.set p d').map V.ref)) = H2 at wf ⊢
    have same2 : ∀ b, b ≠ w' → b ≠ d' → H2 b = H b := fun b n1 n2 => by rw [← hH2, upd_ne n1, upd_ne n2]
    have ob2 : ObAt A H2 a me l k w' := ⟨dx, by rw [same2 a aw ad]; exact h1⟩
    obtain ⟨dx2, g1⟩ := id ob2
    have lw : l ≠ w' := wa.ne_row row
    have row2 : RowAt H2 l ls := by
      refine row.keep (φ := fun b => b = w' ∨ b = d') (fun b o e n => ?_) (fun z => ?_) (fun t ys e z => ?_)
      · rw [same2 b (fun z => n (.inl z)) (fun z => n (.inr z))]; exact e
      · obtain ⟨ts, e, _⟩ := row
        rcases z with z | z
        · exact lw z
        · rw [z, hd'] at e; cases e
      · rcases z with z | z
        · rw [z, wa.ls] at e; cases e
        · rw [z, hd'] at e; cases e
    have hk2 : H2 k = some (.dK kvs) := by rw [same2 k kw kd]; exact hk
    refine ⟨_, rfl, a, dx2, _, rfl, g1, RF_no _ _ _ _ (by decide +kernel) (by decide +kernel) (by decide +kernel) (by decide +kernel), _, rfl, a, p, me, l, k, w', ls, rfl, ob2, row2, by omega, _, rfl, ?_⟩
    cases c : up ls p with
    | false =>
      refine iteF ?_
      refine q H2 d' hd' (wf.congr fun r y _ => ?_) same2
      by_cases e : r = p
      · subst e; simp [c]
      · simp [e]
    | true =>
      refine iteT ?_
      refine ⟨k, _, hk2, trivial, fun od => ?_⟩
      have fz : ∀ b, b ≠ k → upd H2 k (.frz od (.dK kvs)) b = H2 b := fun b n => upd_ne n
      have ak : a ≠ k := ne_of h1 hk (by intro z; cases z)
      have g1' : ∀ kv', upd (upd H2 k (.frz od (.dK kvs))) d' (.dK kv') a = some (.ins A.a_Router dx2 (RF me l k w')) := fun kv' => by rw [upd_ne ad, fz a ak]; exact g1
      obtain ⟨d2, kv2, e1, e2, e3⟩ := wf.get hp
      have ed : d2 = d' := by
        rw [List.getElem?_set_self (by rw [wa.l8]; exact hp)] at e1
        exact (Option.some.inj e1).symm
      subst ed
      have e20 : H2 d2 = some (.dK []) := by rw [← hH2, upd_ne wd.symm, upd_same]
      refine ⟨_, rfl, a, _, dx2, _, _, rfl, (by rw [fz a ak]; exact g1), T.c_Router, T.n_Router_known, RF_known .., k, od, rfl, .inl ⟨kvs, upd_same, for_it walk_keys
        (fun i σ H' => ∃ (v : Option V) (kv' : List (Key × V)), σ = [some (.ref a), some (.int (p : Int)), v] ∧ H' = upd (upd H2 k (.frz od (.dK kvs))) d2 (.dK kv') ∧ WK kv' (fun y => (kvs.take i).any fun e => decide (e.1 = Sum.inl (y : Int))))
        ⟨none, [], rfl, (upd_id (H := upd H2 k (.frz od (.dK kvs))) (by rw [fz d2 kd.symm]; exact e20)).symm, WK.nil.congr fun y => rfl⟩ (fun i σ H' _ ⟨_, _, _, e, _⟩ => by rw [e, upd_ne kd, upd_same]) ?_ ?_⟩⟩
      · rintro i y σ H' H3 hi ⟨v, kv', rfl, rfl, wk⟩ ⟨rfl, ky, vv, hi2, rfl⟩
        obtain ⟨x, hx, ex⟩ := kk.keys.rt _ (List.mem_of_getElem? hi2)
        have ex' : ky = Sum.inl (x : Int) := ex
        subst ex'
        refine ⟨_, rfl, a, dx2, _, rfl, g1' _, RF_no _ _ _ _ (by decide +kernel) (by decide +kernel) (by decide +kernel) (by decide +kernel), _, rfl, _, rfl, a, p, x, me, l, k, w', d2, ds.set p d2, kv', rfl, ⟨dx2, g1' _⟩, (by rw [upd_ne wd, fz w' kw.symm]; exact wf.ls), e1, upd_same, wk.1.line, ?_⟩
        refine ⟨some (.int (x : Int)), putK kv' (Sum.inl (x : Int)) (.bl true), rfl, upd_upd, (wk.put hx _).congr fun y => ?_⟩
        rw [take_more hi2, List.any_append]
        by_cases ey : y = x
        · subst ey; simp
        · have : ¬ x = y := fun z => ey z.symm
          simp [ey, inl_ne this]
      · rintro σ H' ⟨v, kv', rfl, rfl, wk⟩
        refine ⟨by rw [upd_ne kd, upd_same], ?_⟩
        have ef : upd (upd (upd H2 k (.frz od (.dK kvs))) d2 (.dK kv')) k (.dK kvs) = upd H2 d2 (.dK kv') := by
          funext b
          by_cases e1 : b = k
          · subst e1; rw [upd_same, upd_ne kd]; exact hk2.symm
          · rw [upd_ne e1]
            by_cases e2 : b = d2
            · subst e2; rw [upd_same, upd_same]
            · rw [upd_ne e2, upd_ne e2, upd_ne e1]
        rw [ef]
        refine q _ d2 hd' ((wf.upd e1 wk).congr fun r y _ => ?_) fun b n1 n2 => ?_
        · by_cases e : r = p
          · subst e
            have e1 : (kvs.any fun e => decide (e.1 = Sum.inl (y : Int))) = (ads y).isSome := by rw [valV_any, kk.isSome]
            simp only [List.take_length, ↓reduceIte, e1, c, Bool.true_and]
          · simp [e]
        · rw [upd_ne n2]; exact same2 b n1 n2
end
end KR

namespace KR
open PySem PySem.Spec PyProof.Rows L2
theorem NoDict.upd {H : Hp} {d : Addr} {kvs : List (Key × V)} {o : HO} (h : H d = some (.dK kvs)) : NoDict H (L2.upd H d o) := fun b u e n => by
  rw [upd_ne (ne_of e h fun z => n kvs z)]; exact e
theorem NoDict.trans {H H1 H2 : Hp} (a : NoDict H H1) (b : NoDict H1 H2) : NoDict H H2 := fun c o e n => b c o (a c o e n) n
theorem _root_.L2.Same.nodict {H H' : Hp} (s : Same H H') : NoDict H H' := fun b o e _ => s b o e
theorem ObAt.same {A : Adr} {H H' : Hp} {a : Addr} {me : Nat} {l k w : Addr} (h : ObAt A H a me l k w) (e : Same H H') : ObAt A H' a me l k w := h.nodict e.nodict
theorem same_made {H H' : Hp} {x dx : Addr} {o u : HO} (nx : H x = none) (nd : H dx = none) (kp : ∀ b, b ≠ x → H' b = L2.upd (L2.upd H dx u) x o b) : Same H H' := fun b p e => by
  rw [kp b (ne_of_none e nx), upd_ne (ne_of_none e nx), upd_ne (ne_of_none e nd)]; exact e
/-- a new object -/
theorem same_new {H : Hp} {p : Addr} {o : HO} (h : H p = none) : Same H (upd H p o) := fun b u e => by
  rw [upd_ne (ne_of_none e h)]; exact e
section
variable {P : Program} {w : World} {K : PySem.W.Frag} {mg : Str → Option Value} {base : Heap} {A : Adr}

def sp_tell_anew (A : Adr) : Sp := fun vs H Q _ => ∃ (a : Addr) (n me : Nat) (l k w : Addr) (ds : List Addr) (ls : List (Nat × Nat)) (f : Nat → Nat → Bool) (ads : Nat → Option Ql82.Ad), vs = [.ref a, .int n] ∧
  ObAt A H a me l k w ∧ RowAt H l ls ∧ ls.length = 8 ∧ (∀ x ∈ ls, x.1 < 64) ∧ WAt H w ds f ∧ KAt A H k ads ∧ k ∉ ds ∧ me < 64 ∧
  ∀ H' : Hp, KAt A H' k (fun y => if y = me then some ⟨n, roadsBy ls⟩ else ads y) → WAt H' w ds (fun q y => if y = me ∧ up ls q = true then true else f q y) → (∀ b o, H b = some o → b ≠ k → b ∉ ds → H' b = some o) → Q .non H'
theorem ok_Router_tell_anew (T : Txt K mg A) : FnOk P w K mg base CX0 3 A.f_Router_tell_anew A.d_Router_tell_anew pm_Router_tell_anew (sp_tell_anew A) := by
  refine T.F_Router_tell_anew.ok sc_Router_tell_anew (fun vs H Q E h => ?_) (fun cdv Ar outer s H vs Q E hr h => ?_)
  · obtain ⟨a, n, me, l, k, w', ds, ls, f, ads, rfl, _⟩ := h
    rfl
  · obtain ⟨a, n, me, l, k, w', ds, ls, f, ads, rfl, ob, row, l8, l64, wa, ⟨kvs, hk, kk⟩, kd, hm, q⟩ := h
    have hu := hu_of hr
    obtain ⟨dx, h1⟩ := id ob
    refine ⟨_, (pss_cons (ps_dput hu (pe_fld (pv 0) rfl) (pe_fld (pv 0) rfl) (pe_make T.M_Told (ok_Told_init T) (hr.mono (by decide)) rfl T.g_Told T.b_Told_init .nil pass0 (pa_cons (pe_fld (pv 0) rfl) (pa_cons (pv 1) (pa_cons (pe_call (ok_roads_by T) (hr.mono (by decide)) rfl T.g_roads_by T.k_roads_by T.b_roads_by .nil pass0 (pa_cons (pe_fld (pv 0) rfl) pa_nil)) pa_nil)))) rfl)
      (pss_one (ps_expr (pe_meth (pv 0) T.c_Router T.m_Router_wait_on_all (ok_Router_wait_on_all T) (hr.mono (by decide)) T.b_Router_wait_on_all .nil pass0 (pa_cons (pe_fld (pv 0) rfl) pa_nil))))), ?_⟩
    refine ⟨_, rfl, a, _, dx, _, _, rfl, h1, T.c_Router, T.n_Router_me, RF_me .., _, rfl, _, rfl, a, _, dx, _, _, rfl, h1, T.c_Router, T.n_Router_lines, RF_lines .., l, ls, rfl, row, by omega, l64, fun H2 r s2 hr2 R2 => ?_⟩
    intro x dx' nx ndx nex
    refine ⟨x, dx', r, me, n, rfl, upd_same, fun H3 h3 hk3 => ⟨rfl, ?_⟩⟩
    have s23 : Same H2 H3 := same_made nx ndx hk3
    have s3 : Same H H3 := s2.trans s23
    have t3 : ToldAt A H3 x me ⟨n, roadsBy ls⟩ := ⟨dx', r, h3, R2.same s23⟩
    have hk' : H3 k = some (.dK kvs) := s3 _ _ hk
    refine ⟨_, rfl, a, _, dx, _, _, rfl, s3 _ _ h1, T.c_Router, T.n_Router_known, RF_known .., _, rfl, a, _, dx, _, _, rfl, s3 _ _ h1, T.c_Router, T.n_Router_me, RF_me .., k, _, rfl, DPut.k (k := Sum.inl (me : Int)) hk' kk.keys.line, ?_⟩
    have nd4 : NoDict H3 (upd H3 k (.dK (putK kvs (Sum.inl (me : Int)) (.ref x)))) := NoDict.upd hk'
    have ob4 := (ob.same s3).nodict nd4
    obtain ⟨dx4, h4⟩ := id ob4
    have wa4 : WAt (upd H3 k (.dK (putK kvs (Sum.inl (me : Int)) (.ref x)))) w' ds f := by
      refine ⟨nd4 _ _ (s3 _ _ wa.ls) (fun _ z => by cases z), wa.l8, wa.inj, fun p d hd => ?_⟩
      obtain ⟨kv, e1, e2⟩ := wa.at_ p d hd
      refine ⟨kv, ?_, e2⟩
      rw [upd_ne fun z => kd (by rw [← z]; exact List.mem_of_getElem? hd)]
      exact s3 _ _ e1
    refine ⟨_, rfl, a, dx4, _, rfl, h4, RF_no _ _ _ _ (by decide +kernel) (by decide +kernel) (by decide +kernel) (by decide +kernel), _, rfl, a, _, dx4, _, _, rfl, h4, T.c_Router, T.n_Router_me, RF_me .., a, me, me, l, k, w', ds, ls, f, rfl, ob4, (row.same s3).nodict nd4, l8, wa4, hm, fun H5 same5 wa5 => ?_⟩
    have nd5 : NoDict (upd H3 k (.dK (putK kvs (Sum.inl (me : Int)) (.ref x)))) H5 := wa4.nodict same5
    refine q H5 ⟨_, by rw [same5 k kd, upd_same], (((kk.same s3).put hm t3).nodict nd4).nodict nd5⟩ wa5 fun b o e n1 n2 => ?_
    rw [same5 b n2, upd_ne n1]
    exact s3 _ _ e

/-- the router that stands at a: what the specification's state says -/
structure RAt (A : Adr) (H : Hp) (a l k w : Addr) (ds : List Addr) (ls : List (Nat × Nat)) (s : Ql82.St) : Prop where
  ob : ObAt A H a s.me l k w
  row : RowAt H l ls
  l8 : ls.length = 8
  ln : s.lines = linesOf ls
  l64 : ∀ x ∈ ls, x.1 < 64
  kn : KAt A H k s.ads
  wa : WAt H w ds s.waits
  kd : k ∉ ds
  good : Good s
theorem RAt.up {H : Hp} {a l k w : Addr} {ds : List Addr} {ls : List (Nat × Nat)} {s : Ql82.St} (r : RAt A H a l k w ds ls s) (p : Nat) : KR.up ls p = s.isUp p := by
  unfold KR.up Ql82.St.isUp
  rw [r.ln]
theorem RAt.same {H H' : Hp} {a l k w : Addr} {ds : List Addr} {ls : List (Nat × Nat)} {s : Ql82.St} (r : RAt A H a l k w ds ls s) (e : Same H H') : RAt A H' a l k w ds ls s :=
  ⟨r.ob.same e, r.row.same e, r.l8, r.ln, r.l64, r.kn.same e, r.wa.same e, r.kd, r.good⟩
/-- what the callers hold stands: lists of whole numbers, what is locked -/
def Calm (H H' : Hp) : Prop := (∀ b (ns : List Int), H b = some (.lst (ns.map V.int)) → H' b = some (.lst (ns.map V.int))) ∧ ∀ b o u, H b = some (.frz o u) → H' b = some (.frz o u)
theorem _root_.L2.Same.calm {H H' : Hp} (s : Same H H') : Calm H H' := ⟨fun b ns e => s _ _ e, fun b o u e => s _ _ e⟩
theorem Calm.trans {H H1 H2 : Hp} (a : Calm H H1) (b : Calm H1 H2) : Calm H H2 := ⟨fun c ns e => b.1 c ns (a.1 c ns e), fun c o u e => b.2 c o u (a.2 c o u e)⟩
/-- of what changed: the router's dicts, the list of those who wait, the instance -/
theorem RAt.calm {H H' : Hp} {a l k w : Addr} {ds : List Addr} {ls : List (Nat × Nat)} {s : Ql82.St} (r : RAt A H a l k w ds ls s) (e : ∀ b o, H b = some o → b ≠ a → b ≠ k → b ≠ w → b ∉ ds → H' b = some o) : Calm H H' := by
  obtain ⟨dx, h1⟩ := r.ob
  obtain ⟨kvs, h2, _⟩ := r.kn
  have dd : ∀ {b o}, H b = some o → (∀ kv, o ≠ .dK kv) → b ∉ ds := fun {b o} hb n z => by
    obtain ⟨kv, hk⟩ := r.wa.dict z
    rw [hb] at hk
    exact n kv (Option.some.inj hk)
  refine ⟨fun b ns hb => e b _ hb (ne_of hb h1 (by intro z; cases z)) (ne_of hb h2 (by intro z; cases z)) (fun z => ?_) (dd hb (by intro _ z; cases z)), fun b o u hb => e b _ hb (ne_of hb h1 (by intro z; cases z)) (ne_of hb h2 (by intro z; cases z)) (ne_of hb r.wa.ls (by intro z; cases z)) (dd hb (by intro _ z; cases z))⟩
  rw [z, r.wa.ls] at hb
  have e1 : ds.map V.ref = ns.map V.int := by
    have := Option.some.inj hb
    injection this
  obtain ⟨d, kvs, g1, _, _⟩ := r.wa.get (p := 0) (by decide)
  have e2 := refs_get g1
  rw [e1, List.getElem?_map] at e2
  cases z : ns[0]? with
  | none => rw [z] at e2; cases e2
  | some n => rw [z] at e2; cases e2
/-- a call on the router at a ends: these numbers, this state -/
def Ends (A : Adr) (H : Hp) (a : Addr) (Q : VK) (s : Ql82.St) (out : List Int) : Prop :=
  ∀ (H' : Hp) (r l k w : Addr) (ds : List Addr) (ls : List (Nat × Nat)), RAt A H' a l k w ds ls s → H' r = some (.lst (out.map V.int)) → Calm H H' → (∀ ns : List Int, H r ≠ some (.lst (ns.map V.int))) → Q (.ref r) H'
/-- one number in a new list, the state as given -/
theorem Ends.one {H H1 : Hp} {a : Addr} {Q : VK} {s : Ql82.St} {z : Int} {l k w : Addr} {ds : List Addr} {ls : List (Nat × Nat)} (e : Ends A H a Q s [z]) (r : RAt A H1 a l k w ds ls s) (c : Calm H H1) {p : Addr} (hp : H1 p = none) :
    Q (.ref p) (upd H1 p (.lst [.int z])) := e _ p l k w ds ls (r.same (same_new hp)) upd_same (c.trans (same_new hp).calm) fun ns z => by
    have := c.1 _ _ z
    rw [hp] at this
    cases this
/-- the lists of roads that are told of are new -/
def Fresh (A : Adr) (H H' : Hp) (k : Addr) : Prop := ∀ (kvs : List (Key × V)) (key : Key) (t dx r : Addr) (x m : Nat), H' k = some (.dK kvs) → valV kvs key = some (.ref t) → H' t = some (.ins A.a_Told dx (TF x m r)) → H r = none
/-- a list of whole numbers changes, none of the router's -/
theorem RAt.tuned {H H' : Hp} {a l k w o : Addr} {ds : List Addr} {ls : List (Nat × Nat)} {s : Ql82.St} (r : RAt A H a l k w ds ls s) {acc : List Int} (ho : H o = some (.lst (acc.map V.int))) (kp : ∀ c u, H c = some u → c ≠ o → H' c = some u)
    (ne : acc ≠ [] ∨ ∃ H0 : Hp, H0 o ≠ none ∧ Fresh A H0 H k) : RAt A H' a l k w ds ls s := by
  have rowne : ∀ {b : Addr} {xs : List (Nat × Nat)}, RowAt H b xs → (xs ≠ [] ∨ acc ≠ []) → b ≠ o := fun {b xs} hb hx z => by
    subst z
    obtain ⟨ts, e1, e2⟩ := hb
    rw [ho] at e1
    have e3 : acc.map V.int = ts.map V.ref := by
      have := Option.some.inj e1
      injection this
    cases acc with
    | nil =>
      have : ts = [] := by
        cases ts with
        | nil => rfl
        | cons _ _ => cases e3
      subst this
      cases e2
      rcases hx with hx | hx <;> exact hx rfl
    | cons z zs =>
      cases ts with
      | nil => cases e3
      | cons t ts => cases e3
  have nl : ∀ {b : Addr} {u : HO}, H b = some u → (∀ xs, u ≠ .lst xs) → b ≠ o := fun {b u} e n z => by
    subst z
    rw [ho] at e
    exact n _ (Option.some.inj e).symm
  have row' : ∀ {b : Addr} {xs : List (Nat × Nat)}, RowAt H b xs → b ≠ o → RowAt H' b xs := fun {b xs} hb n => by
    obtain ⟨ts, e1, e2⟩ := hb
    exact ⟨ts, kp _ _ e1 n, Paired.mapP e2 fun t x e => kp _ _ e (nl e (by intro _ z; cases z))⟩
  obtain ⟨dx, h1⟩ := r.ob
  obtain ⟨kvs, hk, kk⟩ := r.kn
  refine ⟨⟨dx, kp _ _ h1 (nl h1 (by intro _ z; cases z))⟩, row' r.row (rowne r.row (.inl fun z => by have := r.l8; rw [z] at this; cases this)), r.l8, r.ln, r.l64, ⟨kvs, kp _ _ hk (nl hk (by intro _ z; cases z)), kk.keys, fun x ad e => ?_, kk.none_⟩, ⟨?_, r.wa.l8, r.wa.inj, fun p d hd => ?_⟩, r.kd, r.good⟩
  · obtain ⟨t, hv, dxt, rr, ht, hr⟩ := kk.some_ x ad e
    refine ⟨t, hv, dxt, rr, kp _ _ ht (nl ht (by intro _ z; cases z)), row' hr ?_⟩
    rcases ne with ne | ⟨H0, h0, fr⟩
    · exact rowne hr (.inr ne)
    · intro z
      subst z
      exact h0 (fr kvs _ t dxt rr x ad.seq hk hv ht)
  · refine kp _ _ r.wa.ls fun z => ?_
    have e := r.wa.ls
    rw [z, ho] at e
    have e3 : acc.map V.int = ds.map V.ref := by
      have := Option.some.inj e
      injection this
    obtain ⟨d, kv, g1, _, _⟩ := r.wa.get (p := 0) (by decide)
    have g2 := refs_get g1
    rw [← e3, List.getElem?_map] at g2
    cases y : acc[0]? with
    | none => rw [y] at g2; cases g2
    | some n => rw [y] at g2; cases g2
  · obtain ⟨kv, e1, e2⟩ := r.wa.at_ p d hd
    exact ⟨kv, kp _ _ e1 (nl e1 (by intro _ z; cases z)), e2⟩
def outOf (x : Ql82.Ans) : List Int := x.v :: x.out.map fun (n : Nat) => (n : Int)
/-- a call of the specification on a router that has begun -/
def spM (A : Adr) (n : Nat) (call : List V → Option Ql82.Call) : Sp := fun vs H Q _ => ∃ (a l k w : Addr) (ds : List Addr) (ls : List (Nat × Nat)) (s : Ql82.St) (args : List V) (c : Ql82.Call), vs = .ref a :: args ∧ args.length = n ∧ call args = some c ∧ RAt A H a l k w ds ls s ∧
  ∀ t x, Ql82.spec (some s) c = (some t, x) → Ends A H a Q t (outOf x)
end
end KR

namespace KR
open PySem PySem.Spec PyProof.Rows L2
/-! ### lists of pairs as data -/
def rowData (rs : List (Nat × Nat)) : List PyData := rs.map fun r => .tuple [.int (r.1 : Int), .int (r.2 : Int)]
theorem dp_row {K : PySem.W.Frag} {H : Hp} {l : Addr} {rs : List (Nat × Nat)} (h : RowAt H l rs) : Dp K H (.ref l) (.list (rowData rs)) := by
  obtain ⟨ts, h1, h2⟩ := h
  refine .lst (SqL.of h1) ?_
  clear h1
  induction h2 with
  | nil => exact .nil
  | cons g t ih => exact .cons (.tup (SqT.of g) (.cons (.int _) (.cons (.int _) .nil))) ih
theorem row_lay : ∀ rs : List (Nat × Nat), PyData.canLayAll0 (rowData rs) = true
  | [] => by simp [rowData, PyData.canLayAll0]
  | r :: rs => by
    have ih := row_lay rs
    simp only [rowData, List.map_cons] at ih ⊢
    simp [PyData.canLayAll0, PyData.canLay0, ih]
theorem row_depth : ∀ rs : List (Nat × Nat), PyData.depthAll (rowData rs) ≤ 10
  | [] => by simp [rowData, PyData.depthAll]
  | r :: rs => by
    have ih := row_depth rs
    simp only [rowData, List.map_cons] at ih ⊢
    simp [PyData.depthAll, PyData.depth]
    omega
theorem row_eqv : ∀ a b : List (Nat × Nat), PyData.eqvAll (rowData a) (rowData b) = decide (a = b)
  | [], [] => by simp [rowData, PyData.eqvAll]
  | [], b :: bs => by simp [rowData, PyData.eqvAll]
  | a :: as, [] => by simp [rowData, PyData.eqvAll]
  | a :: as, b :: bs => by
    have ih := row_eqv as bs
    simp only [rowData, List.map_cons] at ih ⊢
    simp only [PyData.eqvAll, PyData.eqv, ih]
    have e : ((a.1 : Int) == (b.1 : Int) && ((a.2 : Int) == (b.2 : Int) && true)) = decide (a = b) := by
      by_cases c : a = b
      · subst c; simp
      · have : ¬ (a.1 = b.1 ∧ a.2 = b.2) := fun z => c (Prod.ext z.1 z.2)
        rw [decide_eq_false c]
        by_cases c1 : a.1 = b.1
        · have c2 : ¬ a.2 = b.2 := fun z => this ⟨c1, z⟩
          have : ((a.2 : Int) == (b.2 : Int)) = false := by simp; omega
          rw [this]; simp
        · have : ((a.1 : Int) == (b.1 : Int)) = false := by simp; omega
          rw [this]; simp
    rw [e]
    by_cases c1 : a = b
    · by_cases c2 : as = bs
      · simp [c1, c2]
      · simp [c1, c2]
    · simp [c1]
theorem row_shaped (rs : List (Nat × Nat)) : SeqAt.shaped (.list (rowData rs)) = true := by
  unfold SeqAt.shaped
  rw [Bool.and_eq_true, decide_eq_true_iff]
  have := row_depth rs
  exact ⟨by simp [PyData.canLay0, row_lay], by simp [PyData.depth]; omega⟩
theorem row_eq (a b : List (Nat × Nat)) : PyData.eqv (.list (rowData a)) (.list (rowData b)) = decide (a = b) := by
  rw [PyData.eqv]
  exact row_eqv a b
end KR

namespace KR
open PySem PySem.Spec PyProof.Rows L2
theorem TF_no (x n : Nat) (r : Addr) {m : Str} (h1 : (m == ("name" : Str)) = false) (h2 : (m == ("number" : Str)) = false) (h3 : (m == ("roads" : Str)) = false) : (TF x n r).lookup m = none :=
  (lk_past h1).trans ((lk_past h2).trans ((lk_past h3).trans rfl))
theorem lookup_hit {l : List (Nat × Nat)} {i n : Nat} {q : Nat × Nat} (h : (l.take i).lookup n = none) (e : l[i]? = some q) (c : q.1 = n) : l.lookup n = some q.2 := by
  have tk := take_more e
  have e1 : l = l.take (i + 1) ++ l.drop (i + 1) := (List.take_append_drop _ _).symm
  rw [e1, tk, List.lookup_append, List.lookup_append, h]
  have : List.lookup n [q] = some q.2 := by
    obtain ⟨a, b⟩ := q
    have c' : a = n := c
    subst c'
    simp [List.lookup]
  rw [this]
  rfl
theorem lookup_miss {l : List (Nat × Nat)} {i n : Nat} {q : Nat × Nat} (h : (l.take i).lookup n = none) (e : l[i]? = some q) (c : ¬ q.1 = n) : (l.take (i + 1)).lookup n = none := by
  rw [take_more e, List.lookup_append, h]
  obtain ⟨a, b⟩ := q
  have c' : (n == a) = false := beq_false_of_ne fun z => c z.symm
  simp [List.lookup, c']
section
variable {P : Program} {w : World} {K : PySem.W.Frag} {mg : Str → Option Value} {base : Heap} {A : Adr}

def sp_cost_to (A : Adr) : Sp := fun vs H Q _ => ∃ (t : Addr) (x n : Nat) (a : Ql82.Ad), vs = [.ref t, .int (n : Int)] ∧ ToldAt A H t x a ∧ Q (.int (((a.roads.lookup n).getD 0 : Nat) : Int)) H
theorem ok_Told_cost_to (T : Txt K mg A) : FnOk P w K mg base CX0 1 A.f_Told_cost_to A.d_Told_cost_to pm_Told_cost_to (sp_cost_to A) := by
  refine T.F_Told_cost_to.ok sc_Told_cost_to (fun vs H Q E h => ?_) (fun cdv Ar outer s H vs Q E hr h => ?_)
  · obtain ⟨t, x, n, a, rfl, _⟩ := h
    rfl
  · obtain ⟨t, x, n, a, rfl, ⟨dx, r, h1, ts, h2, h3⟩, k⟩ := h
    have hts : ts.length = a.roads.length := Paired.length h3
    refine ⟨_, (pss_cons (ps_for PassesOwn.never rfl (pi_list (pe_fld (pv 0) rfl)) (pg_tup rfl (pgs_cons (pg_name (i := 2) sc_Told_cost_to.nd rfl (Or.inl rfl)) (pgs_cons (pg_name (i := 3) sc_Told_cost_to.nd rfl (Or.inl rfl)) pgs_nil)))
      (pss_one (ps_if (pt_cmpR op_eq (pv 2) (pv 1) (nomark _))
      (pss_one (ps_ret (pv 3)))
      pss_nil)))
      (pss_one (ps_ret pe_int))), ?_⟩
    refine ⟨_, rfl, t, _, dx, _, _, rfl, h1, T.c_Told, T.n_Told_roads, TF_roads .., r, rfl, ⟨_, SqL.of h2⟩, for_list (K := K) (a := r) (xs := ts.map V.ref)
      (fun i σ H' => ∃ (v2 v3 : Option V), σ = [some (.ref t), some (.int (n : Int)), v2, v3] ∧ H' = H ∧ (a.roads.take i).lookup n = none)
      ⟨none, none, rfl, rfl, rfl⟩ (fun i σ H' _ ⟨_, _, _, e, _⟩ => by rw [e]; exact SqL.of h2) ?_ ?_⟩
    · rintro i y σ H' hi ⟨v2, v3, rfl, rfl, hn⟩
      obtain ⟨tt, htt, rfl⟩ := refs_at hi
      obtain ⟨q, hq, pq⟩ := paired_at h3 htt
      refine ⟨tt, _, rfl, SqT.of pq, rfl, _, _, rfl, _, _, rfl, rfl, ?_⟩
      refine ⟨_, rfl, _, rfl, rfl, _, rfl, ?_⟩
      by_cases c : q.1 = n
      · rw [show decide (V.int (q.1 : Int) = V.int (n : Int)) = true from decide_eq_true (by rw [c])]
        refine iteT ?_
        refine ⟨_, rfl, ?_⟩
        rw [lookup_hit hn hq c] at k
        exact k
      · rw [show decide (V.int (q.1 : Int) = V.int (n : Int)) = false from decide_eq_false (by intro z; injection z with z; omega)]
        refine iteF ?_
        exact ⟨_, _, rfl, rfl, lookup_miss hn hq c⟩
    · rintro σ H' ⟨v2, v3, rfl, rfl, hn⟩
      rw [List.length_map, hts, List.take_length] at hn
      rw [hn] at k
      exact k

def sp_road_cost (A : Adr) : Sp := fun vs H Q _ => ∃ (k : Addr) (u v : Nat) (s : Ql82.St), vs = [.ref k, .int (u : Int), .int (v : Int)] ∧ KAt A H k s.ads ∧ Good s ∧ Q (.int (((s.road u v).getD 0 : Nat) : Int)) H
theorem ok_road_cost (T : Txt K mg A) : FnOk P w K mg base CX0 2 A.f_road_cost A.d_road_cost pm_road_cost (sp_road_cost A) := by
  refine T.F_road_cost.ok sc_road_cost (fun vs H Q E h => ?_) (fun cdv Ar outer s H vs Q E hr h => ?_)
  · obtain ⟨k, u, v, s, rfl, _⟩ := h
    rfl
  · obtain ⟨k, u, v, s, rfl, ⟨kvs, hk, kk⟩, g, q⟩ := h
    have hu := hu_of hr
    refine ⟨_, (pss_cons (ps_if (PW.pt (pw_or (pt_cmp (pc_dnotin hu (pv 1) (pv 0))) (pw_or1 (pt_cmp (pc_dnotin hu (pv 2) (pv 0))))))
      (pss_one (ps_ret pe_int))
      pss_nil)
      (pss_cons (ps_if (pt_cmpR op_eq (pe_meth (pe_dget hu (pv 0) (pv 2) (fun _ _ => rfl)) T.c_Told T.m_Told_cost_to (ok_Told_cost_to T) (hr.mono (by decide)) T.b_Told_cost_to .nil pass0 (pa_cons (pv 1) pa_nil)) pe_int (nomark _))
      (pss_one (ps_ret pe_int))
      pss_nil)
      (pss_one (ps_ret (pe_meth (pe_dget hu (pv 0) (pv 1) (fun _ _ => rfl)) T.c_Told T.m_Told_cost_to (ok_Told_cost_to T) (hr.mono (by decide)) T.b_Told_cost_to .nil pass0 (pa_cons (pv 2) pa_nil)))))), ?_⟩
    have dg : ∀ x : Nat, DGet H k (.int (x : Int)) (valV kvs (Sum.inl (x : Int) : Key)) := fun x => DGet.k (k := (Sum.inl (x : Int) : Key)) hk
    cases eu : s.ads u with
    | none =>
      have d1 := dg u
      rw [kk.none_ u eu] at d1
      refine ⟨_, rfl, _, rfl, k, none, rfl, d1, _, rfl, iteT (iteT ?_)⟩
      rw [road_off (.inl eu)] at q
      exact q
    | some au =>
      obtain ⟨tu, hvu, told_u⟩ := kk.some_ u au eu
      have d1 := dg u
      rw [hvu] at d1
      refine ⟨_, rfl, _, rfl, k, some _, rfl, d1, _, rfl, iteF ?_⟩
      cases ev : s.ads v with
      | none =>
        have d2 := dg v
        rw [kk.none_ v ev] at d2
        refine ⟨_, rfl, _, rfl, k, none, rfl, d2, _, rfl, iteT ?_⟩
        rw [road_off (.inr ev)] at q
        exact q
      | some bv =>
        obtain ⟨tv, hvv, told_v⟩ := kk.some_ v bv ev
        have d2 := dg v
        rw [hvv] at d2
        obtain ⟨dxv, rv, hv1, hv2⟩ := id told_v
        obtain ⟨dxu, ru, hu1, hu2⟩ := id told_u
        have er := road_is eu ev
        refine ⟨_, rfl, _, rfl, k, some _, rfl, d2, _, rfl, iteF ?_⟩
        refine ⟨_, rfl, _, rfl, k, _, rfl, d2, tv, dxv, _, rfl, hv1, TF_no _ _ _ (by decide +kernel) (by decide +kernel) (by decide +kernel), _, rfl, tv, v, u, bv, rfl, told_v, ?_⟩
        cases el : bv.roads.lookup u with
        | none =>
          refine ⟨rfl, _, rfl, iteT ?_⟩
          have : s.road u v = none := by rw [er, el]; cases au.roads.lookup v <;> rfl
          rw [this] at q
          exact q
        | some c =>
          have hc := ((g.ad v bv ev).2.ok.2 _ (lookup_mem el)).2.2
          have hc' : ¬ V.int (((some c).getD 0 : Nat) : Int) = V.int 0 := by intro z; injection z with z; have z' : (c : Int) = 0 := z; omega
          refine ⟨rfl, _, rfl, ?_⟩
          rw [show decide (V.int (((some c).getD 0 : Nat) : Int) = V.int 0) = false from decide_eq_false hc']
          refine iteF ?_
          refine ⟨_, rfl, _, rfl, k, _, rfl, d1, tu, dxu, _, rfl, hu1, TF_no _ _ _ (by decide +kernel) (by decide +kernel) (by decide +kernel), _, rfl, tu, u, v, au, rfl, told_u, ?_⟩
          have : s.road u v = au.roads.lookup v := by rw [er, el]; cases au.roads.lookup v <;> rfl
          rw [this] at q
          exact q
end
end KR

namespace KR
open PySem PySem.Spec PyProof.Rows L2
/-- a pair more in a list of pairs -/
theorem row_more {H : Hp} {D t : Addr} {us : List Addr} {xs : List (Nat × Nat)} (x : Nat × Nat) (e1 : H D = some (.lst (us.map V.ref))) (e2 : Paired (PairAt H) us xs) (ht : H t = none) :
    (∀ b o, H b = some o → b ≠ D → upd (upd H t (.tup [.int (x.1 : Int), .int (x.2 : Int)])) D (.lst (us.map V.ref ++ [V.ref t])) b = some o) ∧
    RowAt (upd (upd H t (.tup [.int (x.1 : Int), .int (x.2 : Int)])) D (.lst (us.map V.ref ++ [V.ref t]))) D (xs ++ [x]) := by
  have Dt : D ≠ t := ne_of_none e1 ht
  have keep : ∀ b o, H b = some o → b ≠ D → upd (upd H t (.tup [.int (x.1 : Int), .int (x.2 : Int)])) D (.lst (us.map V.ref ++ [V.ref t])) b = some o := fun b o e n => by
    rw [upd_ne n, upd_ne (ne_of_none e ht)]; exact e
  refine ⟨keep, us ++ [t], by rw [upd_same, List.map_append]; rfl, Paired.snoc (Paired.mapP e2 fun b y hy => keep b _ hy fun z => ?_) ?_⟩
  · subst z
    have hy' : H b = some (.tup [.int (y.1 : Int), .int (y.2 : Int)]) := hy
    rw [e1] at hy'
    cases hy'
  · show upd _ D _ t = _
    rw [upd_ne Dt.symm, upd_same]
theorem row_count {H : Hp} {D : Addr} {us : List Addr} {xs : List (Nat × Nat)} (e2 : Paired (PairAt H) us xs) (h : xs.length < 64) : (us.map V.ref).length < sizeLine := by
  rw [List.length_map, Paired.length e2]
  exact Nat.lt_of_lt_of_le h (by decide)
def allInto (s : Ql82.St) (v : Nat) (rs : List (Nat × Nat)) : List (Nat × Nat) := rs.map fun r => (r.1, (s.road r.1 v).getD 0)
theorem allInto_is {s : Ql82.St} (g : Good s) {v : Nat} {b : Ql82.Ad} (h : s.ads v = some b) : (allInto s v b.roads).filter (fun r => decide (0 < r.2)) = into s v := by
  rw [into_some h]
  unfold allInto
  generalize b.roads = rs
  induction rs with
  | nil => rfl
  | cons r rs ih =>
    rw [List.map_cons, List.filterMap_cons]
    cases e : s.road r.1 v with
    | none =>
      rw [List.filter_cons_of_neg (by simp), ih]
      rfl
    | some c =>
      have hc := (road_pos g e).1
      rw [List.filter_cons_of_pos (by simpa using hc), ih]
      rfl
theorem take_filter {α : Type} {p : α → Bool} {l : List α} {i : Nat} {q : α} (e : l[i]? = some q) : (l.take (i + 1)).filter p = if p q = true then (l.take i).filter p ++ [q] else (l.take i).filter p := by
  rw [take_more e, List.filter_append]
  by_cases c : p q = true
  · rw [if_pos c, List.filter_cons_of_pos c]; rfl
  · rw [if_neg c, List.filter_cons_of_neg c]; simp
section
variable {P : Program} {w : World} {K : PySem.W.Frag} {mg : Str → Option Value} {base : Heap} {A : Adr}

def sp_roads_into (A : Adr) : Sp := fun vs H Q _ => ∃ (k : Addr) (v : Nat) (s : Ql82.St), vs = [.ref k, .int (v : Int)] ∧ KAt A H k s.ads ∧ Good s ∧ ∀ (H' : Hp) (r : Addr), Same H H' → H r = none → RowAt H' r (into s v) → Q (.ref r) H'
theorem ok_roads_into (T : Txt K mg A) : FnOk P w K mg base CX0 3 A.f_roads_into A.d_roads_into pm_roads_into (sp_roads_into A) := by
  refine T.F_roads_into.ok sc_roads_into (fun vs H Q E h => ?_) (fun cdv Ar outer s H vs Q E hr h => ?_)
  · obtain ⟨k, v, s, rfl, _⟩ := h
    rfl
  · obtain ⟨k, v, s, rfl, kat, g, q⟩ := h
    obtain ⟨kvs, hk, kk⟩ := id kat
    have hu := hu_of hr
    refine ⟨_, (pss_cons (ps_if (pt_cmp (pc_dnotin hu (pv 1) (pv 0)))
      (pss_one (ps_ret (pe_lst pa_nil)))
      pss_nil)
      (pss_cons (ps_setLc (i := 2) (own := [("u", 3), ("back", 4)]) (te := (tTup (tCons (tVar 3) (tCons (tCall ((sp_road_cost A)) [] _ (tCons (tVar 0) (tCons (tVar 3) (tCons (tVar 1) tNil)))) tNil)))) (g := gTup K 2 (gCons (gName 3) (gCons (gName 4) gNil))) rfl sc_roads_into.nd rfl rfl (sw_true rfl rfl rfl (by decide +kernel)) (pi_list (pe_fld (pe_dget hu (pv 0) (pv 1) (fun _ _ => rfl)) rfl)) (blkOk_by (own := [("u", 3), ("back", 4)]) (N := nm_roads_into) (sc := defScope st_roads_into) (by decide +kernel)) (fun _ _ _ _ _ => (pg_tup rfl (pgs_cons (pg_name (i := 3) sc_roads_into.nd rfl (Or.inl rfl) (Or.inr rfl)) (pgs_cons (pg_name (i := 4) sc_roads_into.nd rfl (Or.inl rfl) (Or.inr rfl)) pgs_nil)))) (fun _ _ _ _ _ => pts_nil) (fun _ _ _ _ _ => (pe_tup (pa_cons (pv 3) (pa_cons (pe_call (ok_road_cost T) (hr.mono (by decide)) rfl T.g_road_cost T.k_road_cost T.b_road_cost .nil pass0 (pa_cons (pv 0) (pa_cons (pv 3) (pa_cons (pv 1) pa_nil)))) pa_nil)))))
      (pss_one (ps_ret (pe_lc (own := [("u", 3), ("cost", 5)]) (g := gTup K 2 (gCons (gName 3) (gCons (gName 5) gNil))) rfl sc_roads_into.nd (pi_list (pv 2)) (blkOk_by (own := [("u", 3), ("cost", 5)]) (N := nm_roads_into) (sc := defScope st_roads_into) (by decide +kernel)) (fun _ _ _ _ _ => (pg_tup rfl (pgs_cons (pg_name (i := 3) sc_roads_into.nd rfl (Or.inl rfl) (Or.inr rfl)) (pgs_cons (pg_name (i := 5) sc_roads_into.nd rfl (Or.inl rfl) (Or.inr rfl)) pgs_nil)))) (fun _ _ _ _ _ => (pts_one (pt_cmpR op_gt (pv 5) pe_int (nomark _)))) (fun _ _ _ _ _ => (pe_tup (pa_cons (pv 3) (pa_cons (pv 5) pa_nil))))))))), ?_⟩
    have d1 : DGet H k (.int (v : Int)) (valV kvs (Sum.inl (v : Int) : Key)) := DGet.k (k := (Sum.inl (v : Int) : Key)) hk
    cases ev : s.ads v with
    | none =>
      rw [kk.none_ v ev] at d1
      rw [into_none ev] at q
      refine ⟨_, rfl, _, rfl, k, none, rfl, d1, _, rfl, iteT ?_⟩
      exact ⟨Nat.zero_le _, fun p hp => q _ p (same_new hp) hp ⟨[], upd_same, .nil⟩⟩
    | some b =>
      obtain ⟨t, hv, dx, r, h1, ts, h2, h3⟩ := kk.some_ v b ev
      have few := (g.ad v b ev).2.few
      have hts : ts.length = b.roads.length := Paired.length h3
      rw [hv] at d1
      refine ⟨_, rfl, _, rfl, k, some _, rfl, d1, _, rfl, iteF ?_⟩
      refine ⟨_, rfl, _, rfl, k, _, rfl, d1, t, _, dx, _, _, rfl, h1, T.c_Told, T.n_Told_roads, TF_roads .., r, rfl, ⟨_, SqL.of h2⟩, fun D hD => ?_⟩
      refine lc_list (K := K) (a := r) (xs := ts.map V.ref) (fun i H2 => Same H H2 ∧ ∃ us : List Addr, H2 D = some (.lst (us.map V.ref)) ∧ Paired (PairAt H2) us ((allInto s v b.roads).take i))
        ⟨same_new hD, [], upd_same, .nil⟩ (fun i H2 _ ⟨s2, _⟩ => SqL.of (s2 _ _ h2)) ?_ ?_
      · rintro i y H2 hi ⟨s2, us, e1, e2⟩
        obtain ⟨tt, htt, rfl⟩ := refs_at hi
        obtain ⟨x, hx, px⟩ := paired_at h3 htt
        have hx' : (allInto s v b.roads)[i]? = some (x.1, (s.road x.1 v).getD 0) := by
          unfold allInto
          rw [List.getElem?_map, hx]; rfl
        refine ⟨tt, _, rfl, SqT.of (s2 _ _ px), rfl, _, _, rfl, _, _, rfl, rfl, ?_⟩
        refine ⟨rfl, ?_⟩
        dsimp only [tYes]
        refine iteT ?_
        refine ⟨_, rfl, _, rfl, _, rfl, _, rfl, k, x.1, v, s, rfl, kat.same s2, g, (by show 2 ≤ sizeLine; decide), fun t ht => ?_⟩
        obtain ⟨m1, m2⟩ := row_more (x.1, (s.road x.1 v).getD 0) e1 e2 ht
        have Dt : D ≠ t := ne_of_none e1 ht
        have il : i < b.roads.length := (List.getElem?_eq_some_iff.mp hx).1
        refine ⟨_, (by rw [upd_ne Dt]; exact e1), row_count (D := D) e2 (by rw [List.length_take]; omega), fun c o e => m1 c o (s2 c o e) (ne_of_none e hD), ?_⟩
        obtain ⟨us', f1, f2⟩ := m2
        rw [take_more hx']
        exact ⟨us', f1, f2⟩
      · rintro H2 ⟨s2, us, e1, e2⟩
        have hlen : (ts.map V.ref).length = (allInto s v b.roads).length := by unfold allInto; rw [List.length_map, hts, List.length_map]
        rw [hlen, List.take_length] at e2
        have hul : us.length = (allInto s v b.roads).length := Paired.length e2
        have hal : (allInto s v b.roads).length = b.roads.length := List.length_map ..
        refine ⟨_, rfl, D, rfl, ⟨_, SqL.of e1⟩, fun D2 hD2 => ?_⟩
        have nD2 : H D2 = none := s2.free hD2
        refine lc_list (K := K) (a := D) (xs := us.map V.ref) (fun i H3 => Same H2 H3 ∧ ∃ vs : List Addr, H3 D2 = some (.lst (vs.map V.ref)) ∧ Paired (PairAt H3) vs (((allInto s v b.roads).take i).filter fun r => decide (0 < r.2)))
          ⟨same_new hD2, [], upd_same, .nil⟩ (fun i H3 _ ⟨s3, _⟩ => SqL.of (s3 _ _ e1)) ?_ ?_
        · rintro i y H3 hi ⟨s3, vs, f1, f2⟩
          obtain ⟨tt, htt, rfl⟩ := refs_at hi
          obtain ⟨x, hx, px⟩ := paired_at e2 htt
          have tf := take_filter (p := fun r : Nat × Nat => decide (0 < r.2)) hx
          refine ⟨tt, _, rfl, SqT.of (s3 _ _ px), rfl, _, _, rfl, _, _, rfl, rfl, ?_⟩
          refine ⟨rfl, ?_⟩
          refine ⟨_, rfl, _, _, rfl, rfl, _, rfl, ?_⟩
          by_cases c : 0 < x.2
          · rw [decide_eq_true (by omega : (0 : Int) < (x.2 : Int))]
            refine iteT ?_
            rw [if_pos (decide_eq_true c)] at tf
            refine ⟨_, rfl, _, rfl, (by show 2 ≤ sizeLine; decide), fun t ht => ?_⟩
            obtain ⟨m1, m2⟩ := row_more x f1 f2 ht
            have Dt : D2 ≠ t := ne_of_none f1 ht
            have il : i < (allInto s v b.roads).length := (List.getElem?_eq_some_iff.mp hx).1
            refine ⟨_, (by rw [upd_ne Dt]; exact f1), row_count (D := D2) f2 (Nat.lt_of_le_of_lt (List.length_filter_le _ _) (by rw [List.length_take]; omega)), fun c o e => m1 c o (s3 c o e) (ne_of_none e hD2), ?_⟩
            obtain ⟨us', g1, g2⟩ := m2
            rw [tf]
            exact ⟨us', g1, g2⟩
          · rw [decide_eq_false (by omega : ¬ (0 : Int) < (x.2 : Int))]
            refine iteF ?_
            rw [if_neg (fun z => c (of_decide_eq_true z))] at tf
            rw [tf]
            exact ⟨s3, vs, f1, f2⟩
        · rintro H3 ⟨s3, vs, f1, f2⟩
          have hl2 : (us.map V.ref).length = (allInto s v b.roads).length := by rw [List.length_map, hul]
          rw [hl2, List.take_length, allInto_is g ev] at f2
          exact q H3 D2 (s2.trans s3) nD2 ⟨vs, f1, f2⟩
end
end KR

namespace KR
open PySem PySem.Spec PyProof.Rows L2
section
variable {P : Program} {w : World} {K : PySem.W.Frag} {mg : Str → Option Value} {base : Heap} {A : Adr}
theorem Ends.calm {H H1 : Hp} {a : Addr} {Q : VK} {s : Ql82.St} {out : List Int} (e : Ends A H a Q s out) (c : Calm H H1) : Ends A H1 a Q s out :=
  fun H' r l k w ds ls h1 h2 h3 h4 => e H' r l k w ds ls h1 h2 (c.trans h3) fun ns z => h4 ns (c.1 _ _ z)
theorem WAt.notin {H : Hp} {w : Addr} {ds : List Addr} {f : Nat → Nat → Bool} (h : WAt H w ds f) {b : Addr} {o : HO} (e : H b = some o) (n : ∀ kv, o ≠ .dK kv) : b ∉ ds := fun z => by
  obtain ⟨kv, hk⟩ := h.dict z
  rw [e] at hk
  exact n kv (Option.some.inj hk)
/-- a line's dict changed -/
theorem RAt.waits {H : Hp} {a l k w : Addr} {ds : List Addr} {ls : List (Nat × Nat)} {s : Ql82.St} (r : RAt A H a l k w ds ls s) {p : Nat} {d : Addr} {kvs' : List (Key × V)} {g : Nat → Bool} (hd : ds[p]? = some d) (hg : WK kvs' g)
    {s' : Ql82.St} (e : s' = { s with waits := s'.waits }) (ew : ∀ q y, s'.waits q y = if q = p then g y else s.waits q y) (gd : Good s') : RAt A (upd H d (.dK kvs')) a l k w ds ls s' := by
  obtain ⟨kvs, h1, h2⟩ := r.wa.at_ p d hd
  have nd : NoDict H (upd H d (.dK kvs')) := NoDict.upd h1
  obtain ⟨kv, hk, kk⟩ := r.kn
  have e1 : s'.me = s.me := by rw [e]
  have e2 : s'.lines = s.lines := by rw [e]
  have e3 : s'.ads = s.ads := by rw [e]
  refine ⟨e1 ▸ r.ob.nodict nd, r.row.nodict nd, r.l8, e2.trans r.ln, r.l64, ⟨kv, ?_, e3 ▸ kk.nodict nd⟩, (r.wa.upd hd hg).congr fun q y _ => ?_, r.kd, gd⟩
  · rw [upd_ne fun z => r.kd (by rw [z]; exact List.mem_of_getElem? hd)]; exact hk
  · rw [ew]
    by_cases c : q = p
    · simp [c]
    · simp [c]
theorem RAt.calmD {H : Hp} {a l k w : Addr} {ds : List Addr} {ls : List (Nat × Nat)} {s : Ql82.St} (r : RAt A H a l k w ds ls s) {p : Nat} {d : Addr} {kvs' : List (Key × V)} (hd : ds[p]? = some d) : Calm H (upd H d (.dK kvs')) :=
  r.calm fun b o e _ _ _ n => by
    rw [upd_ne fun z => n (by rw [z]; exact List.mem_of_getElem? hd)]; exact e
theorem RAt.wait_on {H : Hp} {a l k w : Addr} {ds : List Addr} {ls : List (Nat × Nat)} {s : Ql82.St} (r : RAt A H a l k w ds ls s) {p x : Nat} (hp : p < 8) (hx : x < 64) (hu : s.isUp p = true) (ha : (s.ads x).isSome = true) :
    ∃ d kvs, ds[p]? = some d ∧ H d = some (.dK kvs) ∧ kvs.length < sizeLine ∧ RAt A (upd H d (.dK (putK kvs (Sum.inl (x : Int)) (.bl true)))) a l k w ds ls (s.wait p x true) ∧ Calm H (upd H d (.dK (putK kvs (Sum.inl (x : Int)) (.bl true)))) := by
  obtain ⟨d, kvs, e1, e2, e3⟩ := r.wa.get hp
  refine ⟨d, kvs, e1, e2, e3.1.line, r.waits e1 (e3.put hx _) rfl (fun q y => ?_) (good_wait r.good fun _ => ⟨hp, hu, ha⟩), r.calmD e1⟩
  show (if q = p ∧ y = x then true else s.waits q y) = _
  by_cases c : q = p
  · subst c
    by_cases d : y = x
    · simp [d]
    · simp [d]
  · simp [c]
theorem RAt.wait_off {H : Hp} {a l k w : Addr} {ds : List Addr} {ls : List (Nat × Nat)} {s : Ql82.St} (r : RAt A H a l k w ds ls s) {p : Nat} (x : Nat) (hp : p < 8) :
    ∃ d kvs, ds[p]? = some d ∧ H d = some (.dK kvs) ∧ RAt A (upd H d (.dK (dropK kvs (Sum.inl (x : Int))))) a l k w ds ls (s.wait p x false) ∧ Calm H (upd H d (.dK (dropK kvs (Sum.inl (x : Int))))) := by
  obtain ⟨d, kvs, e1, e2, e3⟩ := r.wa.get hp
  refine ⟨d, kvs, e1, e2, r.waits e1 (e3.drop x) rfl (fun q y => ?_) (good_wait r.good fun z => by cases z), r.calmD e1⟩
  show (if q = p ∧ y = x then false else s.waits q y) = _
  by_cases c : q = p
  · subst c
    by_cases d : y = x
    · simp [d]
    · simp [d]
  · simp [c]

def sp_hear_of_another (A : Adr) : Sp := fun vs H Q _ => ∃ (a l k w t : Addr) (ds : List Addr) (ls : List (Nat × Nat)) (s : Ql82.St) (p x : Nat) (ad : Ql82.Ad), vs = [.ref a, .int p, .ref t] ∧ RAt A H a l k w ds ls s ∧ p < 8 ∧ s.isUp p = true ∧
  ToldAt A H t x ad ∧ x < 64 ∧ AdOk x ad ∧ x ≠ s.me ∧ ∀ t' b, s.hear p x ad = some (t', b) → Ends A H a Q t' [if b = true then 1 else 0]
theorem ok_Router_hear_of_another (T : Txt K mg A) : FnOk P w K mg base CX0 3 A.f_Router_hear_of_another A.d_Router_hear_of_another pm_Router_hear_of_another (sp_hear_of_another A) := by
  refine T.F_Router_hear_of_another.ok sc_Router_hear_of_another (fun vs H Q E h => ?_) (fun cdv Ar outer s H vs Q E hr h => ?_)
  · obtain ⟨a, l, k, w', t, ds, ls, s, p, x, ad, rfl, _⟩ := h
    rfl
  · obtain ⟨a, l, k, w', t, ds, ls, s, p, x, ad, rfl, r, hp, hup, told, hx, hok, hne, q⟩ := h
    have hu := hu_of hr
    obtain ⟨dx, h1⟩ := id r.ob
    obtain ⟨kvs, hk, kk⟩ := id r.kn
    obtain ⟨dxt, rt, ht, htr⟩ := id told
    refine ⟨_, (pss_cons (ps_set (i := 3) sc_Router_hear_of_another.nd rfl (Or.inl rfl) (pe_dget1 hu (pe_fld (pv 0) rfl) (pe_fld (pv 2) rfl) ⟨rfl, rfl, rfl, rfl⟩))
      (pss_cons (ps_if (PW.pt (pw_or (pt_cmpR op_isN (pv 3) pe_non (nomark _)) (pw_or1 (pt_cmpR op_lt (pe_fld (pv 3) rfl) (pe_fld (pv 2) rfl) (nomark _)))))
      (pss_cons (ps_dput hu (pe_fld (pv 0) rfl) (pe_fld (pv 2) rfl) (pv 2) rfl)
      (pss_cons (ps_expr (pe_meth (pv 0) T.c_Router T.m_Router_wait_on_all (ok_Router_wait_on_all T) (hr.mono (by decide)) T.b_Router_wait_on_all .nil pass0 (pa_cons (pe_fld (pv 2) rfl) pa_nil)))
      (pss_cons (ps_expr (pe_meth (pv 0) T.c_Router T.m_Router_wait_no_more (ok_Router_wait_no_more T) (hr.mono (by decide)) T.b_Router_wait_no_more .nil pass0 (pa_cons (pv 1) (pa_cons (pe_fld (pv 2) rfl) pa_nil))))
      (pss_one (ps_ret (pe_lst (pa_cons pe_int pa_nil)))))))
      pss_nil)
      (pss_cons (ps_if (pt_cmpR op_eq (pe_fld (pv 3) rfl) (pe_fld (pv 2) rfl) (nomark _))
      (pss_one (ps_expr (pe_meth (pv 0) T.c_Router T.m_Router_wait_no_more (ok_Router_wait_no_more T) (hr.mono (by decide)) T.b_Router_wait_no_more .nil pass0 (pa_cons (pv 1) (pa_cons (pe_fld (pv 2) rfl) pa_nil)))))
      (pss_one (ps_expr (pe_meth (pv 0) T.c_Router T.m_Router_wait_on (ok_Router_wait_on T) (hr.mono (by decide)) T.b_Router_wait_on .nil pass0 (pa_cons (pv 1) (pa_cons (pe_fld (pv 2) rfl) pa_nil))))))
      (pss_one (ps_ret (pe_lst (pa_cons pe_int pa_nil))))))), ?_⟩
    refine ⟨_, rfl, a, _, dx, _, _, rfl, h1, T.c_Router, T.n_Router_known, RF_known .., k, rfl, .inl ⟨_, .inl hk⟩, _, rfl, t, _, dxt, _, _, rfl, ht, T.c_Told, T.n_Told_name, TF_name .., _, DGet.k (k := Sum.inl (x : Int)) hk, ?_⟩
    have hear_none : s.ads x = none → s.hear p x ad = some ((s.known x ad).spread x (some p), true) := fun e => by
      unfold Ql82.St.hear; rw [if_neg hne, e]
    have hear_some : ∀ h, s.ads x = some h → s.hear p x ad = if h.seq < ad.seq then some ((s.known x ad).spread x (some p), true) else if ad.seq < h.seq then some (s.wait p x true, false) else some (s.wait p x false, false) := fun h e => by
      unfold Ql82.St.hear; rw [if_neg hne, e]
    rcases e : s.ads x with _ | h
    -- nothing known
    rw [kk.none_ x e]
    refine ⟨_, rfl, rfl, _, rfl, ?_⟩
    rw [show decide ((none : Option V).getD V.non = V.non) = true from rfl]
    refine iteT (iteT ?_)
    have qq := q _ _ (hear_none e)
    clear e
    rotate_left
    -- something known
    obtain ⟨t0, hv, ⟨dx0, r0, ht0, htr0⟩⟩ := kk.some_ x h e
    rw [hv]
    refine ⟨_, rfl, rfl, _, rfl, ?_⟩
    rw [show decide ((some (V.ref t0)).getD V.non = V.non) = false from rfl]
    refine iteF ?_
    refine ⟨_, rfl, t0, _, dx0, _, _, rfl, ht0, T.c_Told, T.n_Told_number, TF_number .., _, rfl, t, _, dxt, _, _, rfl, ht, T.c_Told, T.n_Told_number, TF_number .., _, _, rfl, rfl, _, rfl, ?_⟩
    have hq := hear_some h e
    by_cases c : h.seq < ad.seq
    rw [decide_eq_true (by omega : (h.seq : Int) < (ad.seq : Int))]
    refine iteT ?_
    rw [if_pos c] at hq
    have qq := q _ _ hq
    clear e hq c
    rotate_left
    -- not newer
    · rw [decide_eq_false (by omega : ¬ (h.seq : Int) < (ad.seq : Int))]
      refine iteF ?_
      rw [if_neg c] at hq
      refine ⟨_, rfl, t0, _, dx0, _, _, rfl, ht0, T.c_Told, T.n_Told_number, TF_number .., _, rfl, t, _, dxt, _, _, rfl, ht, T.c_Told, T.n_Told_number, TF_number .., rfl, _, rfl, ?_⟩
      by_cases c2 : ad.seq < h.seq
      · rw [if_pos c2] at hq
        have ev : decide (V.int (h.seq : Int) = V.int (ad.seq : Int)) = false := decide_eq_false (by intro z; injection z with z; omega)
        rw [ev]
        refine iteF ?_
        obtain ⟨d, kv, e1, e2, e3, r2, c2⟩ := r.wait_on hp hx hup (by rw [e]; rfl)
        refine ⟨_, rfl, a, dx, _, rfl, h1, RF_no _ _ _ _ (by decide +kernel) (by decide +kernel) (by decide +kernel) (by decide +kernel), _, rfl, _, rfl, t, _, dxt, _, _, rfl, ht, T.c_Told, T.n_Told_name, TF_name .., a, p, x, s.me, l, k, w', d, ds, kv, rfl, r.ob, r.wa.ls, e1, e2, e3, ?_⟩
        refine ⟨(by show 1 ≤ sizeLine; decide), fun b hb => ?_⟩
        exact (q _ _ hq).one r2 c2 hb
      · rw [if_neg c2] at hq
        have ev : decide (V.int (h.seq : Int) = V.int (ad.seq : Int)) = true := decide_eq_true (by congr 1; omega)
        rw [ev]
        refine iteT ?_
        obtain ⟨d, kv, e1, e2, r2, c2⟩ := r.wait_off x hp
        refine ⟨_, rfl, a, dx, _, rfl, h1, RF_no _ _ _ _ (by decide +kernel) (by decide +kernel) (by decide +kernel) (by decide +kernel), _, rfl, _, rfl, t, _, dxt, _, _, rfl, ht, T.c_Told, T.n_Told_name, TF_name .., a, p, x, s.me, l, k, w', d, ds, kv, rfl, r.ob, r.wa.ls, e1, e2, ?_⟩
        refine ⟨(by show 1 ≤ sizeLine; decide), fun b hb => ?_⟩
        exact (q _ _ hq).one r2 c2 hb
    -- newer: it's known now, and waits on all lines but p
    all_goals
      have nd4 : NoDict H (upd H k (.dK (putK kvs (Sum.inl (x : Int)) (.ref t)))) := NoDict.upd hk
      have ob4 := r.ob.nodict nd4
      obtain ⟨dx4, h4⟩ := id ob4
      have ht4 := nd4 _ _ ht (fun _ z => by cases z)
      have wa4 : WAt (upd H k (.dK (putK kvs (Sum.inl (x : Int)) (.ref t)))) w' ds s.waits := by
        refine ⟨nd4 _ _ r.wa.ls (fun _ z => by cases z), r.wa.l8, r.wa.inj, fun p d hd => ?_⟩
        obtain ⟨kv, e1, e2⟩ := r.wa.at_ p d hd
        refine ⟨kv, ?_, e2⟩
        rw [upd_ne fun z => r.kd (by rw [← z]; exact List.mem_of_getElem? hd)]
        exact e1
      refine ⟨_, rfl, _, rfl, a, _, dx, _, _, rfl, h1, T.c_Router, T.n_Router_known, RF_known .., _, rfl, t, _, dxt, _, _, rfl, ht, T.c_Told, T.n_Told_name, TF_name .., k, _, rfl, DPut.k (k := Sum.inl (x : Int)) hk kk.keys.line, ?_⟩
      refine ⟨_, rfl, a, dx4, _, rfl, h4, RF_no _ _ _ _ (by decide +kernel) (by decide +kernel) (by decide +kernel) (by decide +kernel), _, rfl, t, _, dxt, _, _, rfl, ht4, T.c_Told, T.n_Told_name, TF_name .., a, x, s.me, l, k, w', ds, ls, s.waits, rfl, ob4, r.row.nodict nd4, r.l8, wa4, hx, fun H5 same5 wa5 => ?_⟩
      have nd5 : NoDict (upd H k (.dK (putK kvs (Sum.inl (x : Int)) (.ref t)))) H5 := wa4.nodict same5
      have ob5 := ob4.nodict nd5
      obtain ⟨dx5, h5⟩ := id ob5
      have ht5 := nd5 _ _ ht4 (fun _ z => by cases z)
      obtain ⟨d, kv, e1, e2, e3⟩ := wa5.get hp
      have nd6 : NoDict H5 (upd H5 d (.dK (dropK kv (Sum.inl (x : Int))))) := NoDict.upd e2
      refine ⟨_, rfl, a, dx5, _, rfl, h5, RF_no _ _ _ _ (by decide +kernel) (by decide +kernel) (by decide +kernel) (by decide +kernel), _, rfl, _, rfl, t, _, dxt, _, _, rfl, ht5, T.c_Told, T.n_Told_name, TF_name .., a, p, x, s.me, l, k, w', d, ds, kv, rfl, ob5, wa5.ls, e1, e2, ?_⟩
      refine ⟨(by show 1 ≤ sizeLine; decide), fun b hb => ?_⟩
      have kn : ∀ d', d' ∈ ds → k ≠ d' := fun d' hd z => r.kd (z ▸ hd)
      have r6 : RAt A (upd H5 d (.dK (dropK kv (Sum.inl (x : Int))))) a l k w' ds ls ((s.known x ad).spread x (some p)) := by
        refine ⟨ob5.nodict nd6, ((r.row.nodict nd4).nodict nd5).nodict nd6, r.l8, r.ln, r.l64, ⟨_, ?_, (((kk.put hx told).nodict nd4).nodict nd5).nodict nd6⟩, (wa5.upd e1 (e3.drop x)).congr fun i y hi8 => ?_, r.kd, ?_⟩
        · rw [upd_ne (kn d (List.mem_of_getElem? e1)), same5 k r.kd, upd_same]
        · show _ = (if y = x then decide (some p ≠ some i) && (decide (i < 8) && s.isUp i) else s.waits i y)
          by_cases cy : y = x
          · subst cy
            by_cases cq : i = p
            · subst cq; simp
            · have cq' : ¬ p = i := fun z => cq z.symm
              have hw : s.waits i y = true → s.isUp i = true := fun z => (r.good.wt i y z).2.1
              rw [← r.up] at hw ⊢
              cases cu : KR.up ls i with
              | true => simp [cq, cq', hi8, cu]
              | false =>
                have : s.waits i y = false := by
                  cases cw : s.waits i y with
                  | false => rfl
                  | true => have := hw cw; rw [cu] at this; cases this
                simp [cq, cq', hi8, cu, this]
          · by_cases cq : i = p
            · subst cq; simp [cy]
            · simp [cy, cq]
        · refine good_spread (good_known r.good hx hok) ?_
          show (if x = x then some ad else s.ads x).isSome = true
          rw [if_pos rfl]; rfl
      refine qq.one r6 (r.calm fun b o e n1 n2 n3 n4 => ?_) hb
      rw [upd_ne fun z => n4 (by rw [z]; exact List.mem_of_getElem? e1), same5 b n4, upd_ne n2]
      exact e
end
end KR

namespace KR
open PySem PySem.Spec PyProof.Rows L2
theorem iteP {c A B : Prop} [Decidable c] (hc : ¬ c) (h : A) : if (!decide c) = true then A else B := by
  rw [decide_eq_false hc]
  exact iteT h
section
variable {P : Program} {w : World} {K : PySem.W.Frag} {mg : Str → Option Value} {base : Heap} {A : Adr}
/-- behind tell_anew -/
theorem RAt.anew {H H' : Hp} {a l k w : Addr} {ds : List Addr} {ls : List (Nat × Nat)} {s : Ql82.St} (r : RAt A H a l k w ds ls s) {n : Nat} (h1 : 1 ≤ n) (h2 : n ≤ Ql82.LAST)
    (kn : KAt A H' k (fun y => if y = s.me then some ⟨n, roadsBy ls⟩ else s.ads y)) (wa : WAt H' w ds (fun q y => if y = s.me ∧ KR.up ls q = true then true else s.waits q y)) (kp : ∀ b o, H b = some o → b ≠ k → b ∉ ds → H' b = some o) :
    RAt A H' a l k w ds ls (s.renewed n) ∧ Calm H H' := by
  obtain ⟨dx, ha⟩ := r.ob
  obtain ⟨kvs, hk, _⟩ := r.kn
  obtain ⟨ts, hl, ht⟩ := r.row
  refine ⟨⟨⟨dx, kp _ _ ha (ne_of ha hk (by intro z; cases z)) (r.wa.notin ha (by intro _ z; cases z))⟩, ⟨ts, kp _ _ hl (ne_of hl hk (by intro z; cases z)) (r.wa.notin hl (by intro _ z; cases z)), Paired.mapP ht fun t x p => kp _ _ p (ne_of p hk (by intro z; cases z)) (r.wa.notin p (by intro _ z; cases z))⟩, r.l8, r.ln, r.l64, ?_, wa.congr fun q y hq => ?_, r.kd, good_renewed r.good h1 h2⟩, r.calm fun b o e _ n2 _ n4 => kp b o e n2 n4⟩
  · have e : s.roads = roadsBy ls := roads_is r.ln r.l8
    show KAt A H' k (fun y => if y = s.me then some ⟨n, s.roads⟩ else s.ads y)
    rw [e]
    exact kn
  · show _ = (if y = s.me then decide (none ≠ some q) && (decide (q < 8) && s.isUp q) else s.waits q y)
    have hw : s.waits q y = true → s.isUp q = true := fun z => (r.good.wt q y z).2.1
    rw [← r.up] at hw ⊢
    by_cases cy : y = s.me
    · cases cu : KR.up ls q with
      | true => simp [cy, hq]
      | false =>
        have : s.waits q y = false := by
          cases cw : s.waits q y with
          | false => rfl
          | true => have := hw cw; rw [cu] at this; cases this
        rw [cy] at this
        simp [cy, this]
    · simp [cy]

def sp_hear_of_itself (A : Adr) : Sp := fun vs H Q _ => ∃ (a l k w t : Addr) (ds : List Addr) (ls : List (Nat × Nat)) (s : Ql82.St) (p : Nat) (ad : Ql82.Ad), vs = [.ref a, .int p, .ref t] ∧ RAt A H a l k w ds ls s ∧ p < 8 ∧ s.isUp p = true ∧
  ToldAt A H t s.me ad ∧ AdOk s.me ad ∧ (∀ t' b, s.hear p s.me ad = some (t', b) → Ends A H a Q t' [if b = true then 1 else 0]) ∧ (s.hear p s.me ad = none → Ends A H a Q s [-4])
theorem ok_Router_hear_of_itself (T : Txt K mg A) : FnOk P w K mg base CX0 4 A.f_Router_hear_of_itself A.d_Router_hear_of_itself pm_Router_hear_of_itself (sp_hear_of_itself A) := by
  refine T.F_Router_hear_of_itself.ok sc_Router_hear_of_itself (fun vs H Q E h => ?_) (fun cdv Ar outer s H vs Q E hr h => ?_)
  · obtain ⟨a, l, k, w', t, ds, ls, s, p, ad, rfl, _⟩ := h
    rfl
  · obtain ⟨a, l, k, w', t, ds, ls, s, p, ad, rfl, r, hp, hup, told, hok, q, qn⟩ := h
    have hu := hu_of hr
    obtain ⟨dx, h1⟩ := id r.ob
    obtain ⟨kvs, hk, kk⟩ := id r.kn
    obtain ⟨dxt, rt, ht, htr⟩ := id told
    obtain ⟨t0, hv, ⟨dx0, r0, ht0, htr0⟩⟩ := kk.some_ s.me s.own r.good.own_is
    have hg := DGet.k (k := (Sum.inl (s.me : Int) : Key)) hk
    rw [hv] at hg
    have hh : s.hear p s.me ad = if ad.seq < s.own.seq then some (s.wait p s.me true, false) else if ad = s.own then some (s.wait p s.me false, false) else if ad.seq = Ql82.LAST then none else some (s.renewed (ad.seq + 1), true) := by
      unfold Ql82.St.hear; rw [if_pos rfl]
    have me64 := r.good.me
    refine ⟨_, (pss_cons (ps_set (i := 3) sc_Router_hear_of_itself.nd rfl (Or.inl rfl) (pe_dget hu (pe_fld (pv 0) rfl) (pe_fld (pv 0) rfl) (fun _ _ => rfl)))
      (pss_cons (ps_if (pt_cmpR op_lt (pe_fld (pv 2) rfl) (pe_fld (pv 3) rfl) (nomark _))
      (pss_cons (ps_expr (pe_meth (pv 0) T.c_Router T.m_Router_wait_on (ok_Router_wait_on T) (hr.mono (by decide)) T.b_Router_wait_on .nil pass0 (pa_cons (pv 1) (pa_cons (pe_fld (pv 0) rfl) pa_nil))))
      (pss_one (ps_ret (pe_lst (pa_cons pe_int pa_nil)))))
      pss_nil)
      (pss_cons (ps_if (PW.pt (pw_and (pt_cmpR op_eq (pe_fld (pv 2) rfl) (pe_fld (pv 3) rfl) (nomark _)) (pw_and1 (pt_cmpR (op_eqD hr.units) (pe_fld (pv 2) rfl) (pe_fld (pv 3) rfl) (nomark _)))))
      (pss_cons (ps_expr (pe_meth (pv 0) T.c_Router T.m_Router_wait_no_more (ok_Router_wait_no_more T) (hr.mono (by decide)) T.b_Router_wait_no_more .nil pass0 (pa_cons (pv 1) (pa_cons (pe_fld (pv 0) rfl) pa_nil))))
      (pss_one (ps_ret (pe_lst (pa_cons pe_int pa_nil)))))
      pss_nil)
      (pss_cons (ps_if (pt_cmpR op_eq (pe_fld (pv 2) rfl) (pe_glob (v := V.int 4294967295) rfl T.g_MOST_NUMBER ⟨_, rfl⟩) (nomark _))
      (pss_one (ps_ret (pe_lst (pa_cons (pe_un un_neg pe_int) pa_nil))))
      pss_nil)
      (pss_cons (ps_expr (pe_meth (pv 0) T.c_Router T.m_Router_tell_anew (ok_Router_tell_anew T) (hr.mono (by decide)) T.b_Router_tell_anew .nil pass0 (pa_cons (pe_op op_add (pe_fld (pv 2) rfl) pe_int) pa_nil)))
      (pss_one (ps_ret (pe_lst (pa_cons pe_int pa_nil))))))))), ?_⟩
    refine ⟨_, rfl, a, _, dx, _, _, rfl, h1, T.c_Router, T.n_Router_known, RF_known .., _, rfl, a, _, dx, _, _, rfl, h1, T.c_Router, T.n_Router_me, RF_me .., k, _, rfl, hg, ?_⟩
    refine ⟨_, rfl, t, _, dxt, _, _, rfl, ht, T.c_Told, T.n_Told_number, TF_number .., _, rfl, t0, _, dx0, _, _, rfl, ht0, T.c_Told, T.n_Told_number, TF_number .., _, _, rfl, rfl, _, rfl, ?_⟩
    by_cases c : ad.seq < s.own.seq
    · rw [decide_eq_true (by omega : (ad.seq : Int) < (s.own.seq : Int))]
      refine iteT ?_
      rw [if_pos c] at hh
      obtain ⟨d, kv, e1, e2, e3, r2, c2⟩ := r.wait_on hp me64 hup r.good.own
      refine ⟨_, rfl, a, dx, _, rfl, h1, RF_no _ _ _ _ (by decide +kernel) (by decide +kernel) (by decide +kernel) (by decide +kernel), _, rfl, _, rfl, a, _, dx, _, _, rfl, h1, T.c_Router, T.n_Router_me, RF_me .., a, p, s.me, s.me, l, k, w', d, ds, kv, rfl, r.ob, r.wa.ls, e1, e2, e3, ?_⟩
      refine ⟨(by show 1 ≤ sizeLine; decide), fun b hb => ?_⟩
      exact (q _ _ hh).one r2 c2 hb
    · rw [decide_eq_false (by omega : ¬ (ad.seq : Int) < (s.own.seq : Int))]
      refine iteF ?_
      rw [if_neg c] at hh
      refine ⟨_, rfl, t, _, dxt, _, _, rfl, ht, T.c_Told, T.n_Told_number, TF_number .., _, rfl, t0, _, dx0, _, _, rfl, ht0, T.c_Told, T.n_Told_number, TF_number .., rfl, _, rfl, ?_⟩
      by_cases same : ad = s.own
      · rw [if_pos same] at hh
        have ev : decide (V.int (ad.seq : Int) = V.int (s.own.seq : Int)) = true := decide_eq_true (by rw [same])
        rw [ev]
        refine iteT ?_
        refine ⟨_, rfl, t, _, dxt, _, _, rfl, ht, T.c_Told, T.n_Told_roads, TF_roads .., _, rfl, t0, _, dx0, _, _, rfl, ht0, T.c_Told, T.n_Told_roads, TF_roads .., _, _, dp_row htr, dp_row htr0, row_shaped _, row_shaped _, _, rfl, ?_⟩
        rw [row_eq, decide_eq_true (by rw [same])]
        refine iteT ?_
        obtain ⟨d, kv, e1, e2, r2, c2⟩ := r.wait_off s.me hp
        refine ⟨_, rfl, a, dx, _, rfl, h1, RF_no _ _ _ _ (by decide +kernel) (by decide +kernel) (by decide +kernel) (by decide +kernel), _, rfl, _, rfl, a, _, dx, _, _, rfl, h1, T.c_Router, T.n_Router_me, RF_me .., a, p, s.me, s.me, l, k, w', d, ds, kv, rfl, r.ob, r.wa.ls, e1, e2, ?_⟩
        refine ⟨(by show 1 ≤ sizeLine; decide), fun b hb => ?_⟩
        exact (q _ _ hh).one r2 c2 hb
      · rw [if_neg same] at hh
        -- both ways to the third test
        by_cases cs : ad.seq = s.own.seq
        have ev : decide (V.int (ad.seq : Int) = V.int (s.own.seq : Int)) = true := decide_eq_true (by rw [cs])
        rw [ev]
        refine iteT ?_
        refine ⟨_, rfl, t, _, dxt, _, _, rfl, ht, T.c_Told, T.n_Told_roads, TF_roads .., _, rfl, t0, _, dx0, _, _, rfl, ht0, T.c_Told, T.n_Told_roads, TF_roads .., _, _, dp_row htr, dp_row htr0, row_shaped _, row_shaped _, _, rfl, ?_⟩
        have er : ¬ ad.roads = s.own.roads := fun z => same (by
          cases hx : ad with
          | mk s1 r1 =>
            cases hy : s.own with
            | mk s2 r2 =>
              rw [hx, hy] at cs z
              have cs' : s1 = s2 := cs
              have z' : r1 = r2 := z
              rw [cs', z'])
        rw [row_eq, decide_eq_false er]
        refine iteF ?_
        rotate_left
        have ev : decide (V.int (ad.seq : Int) = V.int (s.own.seq : Int)) = false := decide_eq_false (by intro z; injection z with z; omega)
        rw [ev]
        refine iteF (iteF ?_)
        all_goals
          refine ⟨_, rfl, t, _, dxt, _, _, rfl, ht, T.c_Told, T.n_Told_number, TF_number .., rfl, _, rfl, ?_⟩
          by_cases cl : ad.seq = Ql82.LAST
          · rw [if_pos cl] at hh
            have ev2 : decide (V.int (ad.seq : Int) = V.int 4294967295) = true := decide_eq_true (by rw [cl]; rfl)
            rw [ev2]
            refine iteT ?_
            refine ⟨_, rfl, (by show 1 ≤ sizeLine; decide), fun b hb => ?_⟩
            exact (qn hh).one r (Same.refl H).calm hb
          · rw [if_neg cl] at hh
            have ev2 : decide (V.int (ad.seq : Int) = V.int 4294967295) = false := decide_eq_false (by intro z; injection z with z; exact cl (by unfold Ql82.LAST; omega))
            rw [ev2]
            refine iteF ?_
            have ht1 := hok.top
            refine ⟨_, rfl, a, dx, _, rfl, h1, RF_no _ _ _ _ (by decide +kernel) (by decide +kernel) (by decide +kernel) (by decide +kernel), _, rfl, t, _, dxt, _, _, rfl, ht, T.c_Told, T.n_Told_number, TF_number .., _, _, rfl, rfl, a, ad.seq + 1, s.me, l, k, w', ds, ls, s.waits, s.ads, rfl, r.ob, r.row, r.l8, r.l64, r.wa, r.kn, r.kd, me64, fun H' k' w2 kp => ?_⟩
            obtain ⟨r2, c2⟩ := r.anew (by omega) (by omega) k' w2 kp
            refine ⟨(by show 1 ≤ sizeLine; decide), fun b hb => ?_⟩
            exact (q _ _ hh).one r2 c2 hb
end
end KR

namespace KR
open PySem PySem.Spec PyProof.Rows L2
section
variable {P : Program} {w : World} {K : PySem.W.Frag} {mg : Str → Option Value} {base : Heap} {A : Adr}
theorem between_iff (z : Int) (lo hi : Nat) : Ql82.between z lo hi = true ↔ (lo : Int) ≤ z ∧ z ≤ (hi : Int) := by
  unfold Ql82.between
  rw [Bool.and_eq_true, decide_eq_true_iff, decide_eq_true_iff]
theorem between_no {z : Int} {lo hi : Nat} (h : ¬ ((lo : Int) ≤ z ∧ z ≤ (hi : Int))) : Ql82.between z lo hi = false := by
  cases c : Ql82.between z lo hi with
  | false => rfl
  | true => exact absurd ((between_iff z lo hi).mp c) h
theorem between_yes {z : Int} {lo hi : Nat} (h : (lo : Int) ≤ z ∧ z ≤ (hi : Int)) : Ql82.between z lo hi = true := (between_iff z lo hi).mpr h
theorem spec_line_bad {s : Ql82.St} {p nb c : Int} (h : ¬ ((0 ≤ p ∧ p < 8) ∧ (0 ≤ nb ∧ nb < 64) ∧ nb ≠ (s.me : Int) ∧ (0 ≤ c ∧ c ≤ 65535))) : Ql82.spec (some s) (.line p nb c) = (some s, Ql82.only (-2)) := by
  show (if Ql82.between p 0 7 = false ∨ Ql82.between nb 0 63 = false ∨ nb = (s.me : Int) ∨ Ql82.between c 0 65535 = false then _ else _) = _
  refine if_pos ?_
  by_cases h1 : 0 ≤ p ∧ p < 8
  · by_cases h2 : 0 ≤ nb ∧ nb < 64
    · by_cases h3 : nb = (s.me : Int)
      · exact .inr (.inr (.inl h3))
      · refine .inr (.inr (.inr (between_no fun z => h ⟨h1, h2, h3, ?_⟩)))
        exact ⟨z.1, by have := z.2; omega⟩
    · refine .inr (.inl (between_no fun z => h2 ?_))
      exact ⟨z.1, by have := z.2; omega⟩
  · refine .inl (between_no fun z => h1 ?_)
    exact ⟨z.1, by have := z.2; omega⟩
theorem spec_line_ok {s : Ql82.St} {p nb c : Nat} (h1 : p < 8) (h2 : nb < 64) (h3 : nb ≠ s.me) (h4 : c ≤ 65535) : Ql82.spec (some s) (.line p nb c) = match s.line p nb c with
    | none => (some s, Ql82.only (-4))
    | some t => (some t, Ql82.only 0) := by
  show (if Ql82.between p 0 7 = false ∨ Ql82.between nb 0 63 = false ∨ (nb : Int) = (s.me : Int) ∨ Ql82.between c 0 65535 = false then _ else (match s.line (p : Int).toNat (nb : Int).toNat (c : Int).toNat with
    | none => (some s, Ql82.only (-4))
    | some t => (some t, Ql82.only 0))) = _
  rw [if_neg]
  · rfl
  · rw [between_yes (by constructor <;> omega), between_yes (by constructor <;> omega), between_yes (by constructor <;> omega)]
    rintro (z | z | z | z)
    · cases z
    · cases z
    · exact h3 (by omega)
    · cases z
/-- a whole number that is a name -/
theorem nat_of {z : Int} (h : 0 ≤ z) : ∃ n : Nat, z = (n : Int) := ⟨z.toNat, by omega⟩

def sp_set_line (A : Adr) : Sp := fun vs H Q _ => ∃ (a l k w : Addr) (ds : List Addr) (ls : List (Nat × Nat)) (s : Ql82.St) (p nb c : Int), vs = [.ref a, .int p, .int nb, .int c] ∧ RAt A H a l k w ds ls s ∧
  ∀ t x, Ql82.spec (some s) (.line p nb c) = (some t, x) → Ends A H a Q t (outOf x)
theorem ok_Router_set_line (T : Txt K mg A) : FnOk P w K mg base CX0 4 A.f_Router_set_line A.d_Router_set_line pm_Router_set_line (sp_set_line A) := by
  refine T.F_Router_set_line.ok sc_Router_set_line (fun vs H Q E h => ?_) (fun cdv Ar outer s H vs Q E hr h => ?_)
  · obtain ⟨a, l, k, w', ds, ls, s, p, nb, c, rfl, _⟩ := h
    rfl
  · obtain ⟨a, l, k, w', ds, ls, s, p, nb, c, rfl, r, q⟩ := h
    have hu := hu_of hr
    obtain ⟨dx, h1⟩ := id r.ob
    obtain ⟨kvs, hk, kk⟩ := id r.kn
    refine ⟨_, (pss_cons (ps_if (PW.pt (pw_or (pt_not (pt_val (pe_call (ok_is_line T) (hr.mono (by decide)) rfl T.g_is_line T.k_is_line T.b_is_line .nil pass0 (pa_cons (pv 1) pa_nil)))) (pw_or (pt_not (pt_val (pe_call (ok_is_router T) (hr.mono (by decide)) rfl T.g_is_router T.k_is_router T.b_is_router .nil pass0 (pa_cons (pv 2) pa_nil)))) (pw_or (pt_cmpR op_eq (pv 2) (pe_fld (pv 0) rfl) (nomark _)) (pw_or1 (pt_not (pt_chain op_le op_le pe_int (pv 3) (pe_glob (v := V.int 65535) rfl T.g_MOST_COST ⟨_, rfl⟩))))))))
      (pss_one (ps_ret (pe_lst (pa_cons (pe_un un_neg pe_int) pa_nil))))
      pss_nil)
      (pss_cons (ps_set (i := 4) sc_Router_set_line.nd rfl (Or.inl rfl) (pe_callTy call_list_of (by rfl) T.z_list (by decide +kernel) (pa_cons (pe_fld (pv 0) rfl) pa_nil)))
      (pss_cons (ps_asg (pe_tup (pa_cons (pv 2) (pa_cons (pv 3) pa_nil))) (pg_sub (pv 4) (pv 1) set_list))
      (pss_cons (ps_set (i := 5) sc_Router_set_line.nd rfl (Or.inl rfl) (pe_dget hu (pe_fld (pv 0) rfl) (pe_fld (pv 0) rfl) (fun _ _ => rfl)))
      (pss_cons (ps_set (i := 6) sc_Router_set_line.nd rfl (Or.inl rfl) (pe_cmpR (op_neD hr.units) (pe_call (ok_roads_by T) (hr.mono (by decide)) rfl T.g_roads_by T.k_roads_by T.b_roads_by .nil pass0 (pa_cons (pv 4) pa_nil)) (pe_fld (pv 5) rfl) (nomark _)))
      (pss_cons (ps_if (PW.pt (pw_and (pt_val (pv 6)) (pw_and1 (pt_cmpR op_eq (pe_fld (pv 5) rfl) (pe_glob (v := V.int 4294967295) rfl T.g_MOST_NUMBER ⟨_, rfl⟩) (nomark _)))))
      (pss_one (ps_ret (pe_lst (pa_cons (pe_un un_neg pe_int) pa_nil))))
      pss_nil)
      (pss_cons (ps_fld (pv 0) (pv 4) rfl)
      (pss_cons (ps_expr (pe_meth (pv 0) T.c_Router T.m_Router_fill_line (ok_Router_fill_line T) (hr.mono (by decide)) T.b_Router_fill_line .nil pass0 (pa_cons (pv 1) pa_nil)))
      (pss_cons (ps_if (pt_val (pv 6))
      (pss_one (ps_expr (pe_meth (pv 0) T.c_Router T.m_Router_tell_anew (ok_Router_tell_anew T) (hr.mono (by decide)) T.b_Router_tell_anew .nil pass0 (pa_cons (pe_op op_add (pe_fld (pv 5) rfl) pe_int) pa_nil))))
      pss_nil)
      (pss_one (ps_ret (pe_lst (pa_cons pe_int pa_nil))))))))))))), ?_⟩
    have bad : ¬ ((0 ≤ p ∧ p < 8) ∧ (0 ≤ nb ∧ nb < 64) ∧ nb ≠ (s.me : Int) ∧ (0 ≤ c ∧ c ≤ 65535)) → ∀ b, H b = none → Q (.ref b) (upd H b (.lst [.int (-2)])) := fun h b hb =>
      Ends.one (q _ _ (spec_line_bad h)) r (Same.refl H).calm hb
    refine ⟨_, rfl, p, rfl, _, rfl, ?_⟩
    refine ite2 (fun z => ?_) (fun z => ?_)
    · refine iteT ⟨_, rfl, (by show 1 ≤ sizeLine; decide), fun b hb => ?_⟩
      exact bad (fun y => by simp [y.1] at z) b hb
    have hp8 : 0 ≤ p ∧ p < 8 := by simpa using z
    refine ⟨_, rfl, nb, rfl, _, rfl, ?_⟩
    refine ite2 (fun z => ?_) (fun z => ?_)
    · refine iteT ⟨_, rfl, (by show 1 ≤ sizeLine; decide), fun b hb => ?_⟩
      exact bad (fun y => by simp [y.2.1] at z) b hb
    have hn64 : 0 ≤ nb ∧ nb < 64 := by simpa using z
    refine ⟨_, rfl, _, rfl, a, _, dx, _, _, rfl, h1, T.c_Router, T.n_Router_me, RF_me .., rfl, _, rfl, ?_⟩
    refine ite2 (fun z => ?_) (fun z => ?_)
    · refine iteT ⟨_, rfl, (by show 1 ≤ sizeLine; decide), fun b hb => ?_⟩
      exact bad (fun y => y.2.2.1 (by have := of_decide_eq_true z; injection this)) b hb
    have hnm : nb ≠ (s.me : Int) := fun y => z (decide_eq_true (by rw [y]))
    clear z
    obtain ⟨pn, rfl⟩ := nat_of hp8.1
    obtain ⟨nn, rfl⟩ := nat_of hn64.1
    refine ⟨_, rfl, _, _, rfl, rfl, _, rfl, ?_⟩
    refine ite2 (fun z => ?_) (fun z => ?_)
    rotate_left
    · -- the cost is below 0
      refine ⟨_, rfl, ?_⟩
      refine iteT ?_
      refine ⟨_, rfl, (by show 1 ≤ sizeLine; decide), fun b hb => ?_⟩
      exact bad (fun y => z (decide_eq_true y.2.2.2.1)) b hb
    have hc0 : 0 ≤ c := of_decide_eq_true z
    refine ⟨_, _, rfl, rfl, _, rfl, ?_⟩
    refine ite2 (fun z => ?_) (fun z => ?_)
    · refine ⟨_, rfl, (by show 1 ≤ sizeLine; decide), fun b hb => ?_⟩
      exact bad (fun y => by simp [y.2.2.2.2] at z) b hb
    have hc : c ≤ 65535 := by simpa using z
    obtain ⟨cn, rfl⟩ := nat_of hc0
    clear z bad
    have hp : pn < 8 := by omega
    have hn : nn < 64 := by omega
    have hm : nn ≠ s.me := fun y => hnm (by rw [y])
    have hcn : cn ≤ 65535 := by omega
    have hs := spec_line_ok (s := s) hp hn hm hcn
    rw [line_eq] at hs
    -- lines = list(self.lines); lines[p] = (nb, cost)
    obtain ⟨ts, hl, htl⟩ := id r.row
    have htsl : ts.length = 8 := by rw [Paired.length htl, r.l8]
    refine ⟨_, rfl, a, _, dx, _, _, rfl, h1, T.c_Router, T.n_Router_lines, RF_lines .., l, _, rfl, .inl (SqL.of hl), fun l' hl' => ?_⟩
    refine ⟨_, rfl, _, rfl, (by show 2 ≤ sizeLine; decide), fun t ht => ?_⟩
    have s1 : Same H (upd H l' (.lst (ts.map V.ref))) := same_new hl'
    have nt : H t = none := s1.free ht
    have lt : l' ≠ t := by
      intro z
      subst z
      rw [upd_same] at ht
      cases ht
    refine ⟨_, rfl, _, rfl, l', _, _, pn, rfl, rfl, (by rw [upd_ne lt, upd_same]), ixN_of rfl (by rw [List.length_map, htsl]; exact hp), ?_⟩
    rw [show (ts.map V.ref).set pn (.ref t) = (ts.set pn t).map V.ref from (List.map_set ..).symm]
    generalize hH1 : upd (upd (upd H l' (.lst (ts.map V.ref))) t (.tup [.int (nn : Int), .int (cn : Int)])) l' (.lst ((ts.set pn t).map V.ref)) = H1
    have same1 : Same H H1 := fun b o e => by
      rw [← hH1, upd_ne (ne_of_none e hl'), upd_ne (ne_of_none e nt), upd_ne (ne_of_none e hl')]; exact e
    have row1 : RowAt H1 l' (ls.set pn (nn, cn)) := by
      refine ⟨ts.set pn t, by rw [← hH1, upd_same], paired_set (Paired.mapP htl fun b x e => same1 _ _ e) pn ?_⟩
      show H1 t = _
      rw [← hH1, upd_ne lt.symm, upd_same]
    have l81 : (ls.set pn (nn, cn)).length = 8 := by rw [List.length_set]; exact r.l8
    have l641 : ∀ x ∈ ls.set pn (nn, cn), x.1 < 64 := fun x hx => by
      rcases List.mem_or_eq_of_mem_set hx with hx | rfl
      · exact r.l64 x hx
      · exact hn
    have ln1 : (lined s pn nn cn).lines = linesOf (ls.set pn (nn, cn)) := by
      funext q
      show (if q = pn then (if cn = 0 then none else some (nn, cn)) else s.lines q) = _
      unfold linesOf
      by_cases e : q = pn
      · subst e
        rw [if_pos rfl, List.getElem?_set_self (by rw [r.l8]; exact hp)]
        rfl
      · rw [if_neg e, List.getElem?_set_ne (fun z => e z.symm), r.ln]
        rfl
    have hroads : (lined s pn nn cn).roads = roadsBy (ls.set pn (nn, cn)) := roads_is ln1 l81
    rw [hroads] at hs
    -- own = self.known[self.me]; is_other = roads_by(lines) != own.roads
    obtain ⟨t0, hv, ⟨dx0, r0, ht0, htr0⟩⟩ := kk.some_ s.me s.own r.good.own_is
    have hg := DGet.k (k := (Sum.inl (s.me : Int) : Key)) (same1 _ _ hk)
    rw [hv] at hg
    have h11 := same1 _ _ h1
    refine ⟨_, rfl, a, _, dx, _, _, rfl, h11, T.c_Router, T.n_Router_known, RF_known .., _, rfl, a, _, dx, _, _, rfl, h11, T.c_Router, T.n_Router_me, RF_me .., k, _, rfl, hg, ?_⟩
    refine ⟨_, rfl, l', ls.set pn (nn, cn), rfl, row1, by omega, l641, fun H2 r2 s2 hr2 R2 => ?_⟩
    have same2 : Same H H2 := same1.trans s2
    have ht02 := same2 _ _ ht0
    refine ⟨_, rfl, t0, _, dx0, _, _, rfl, ht02, T.c_Told, T.n_Told_roads, TF_roads .., _, _, dp_row R2, dp_row (htr0.same same2), row_shaped _, row_shaped _, ?_⟩
    rw [row_eq]
    refine ⟨_, rfl, _, rfl, ?_⟩
    by_cases hc1 : roadsBy (ls.set pn (nn, cn)) = s.own.roads
    refine iteNS hc1 (iteF ?_)
    have hn : ¬ roadsBy (ls.set pn (nn, cn)) = s.own.roads → s.own.seq ≠ Ql82.LAST := fun z => absurd hc1 z
    clear hc1
    rotate_left
    refine iteP hc1 ?_
    refine ⟨_, rfl, t0, _, dx0, _, _, rfl, ht02, T.c_Told, T.n_Told_number, TF_number .., rfl, _, rfl, ?_⟩
    by_cases hc2 : s.own.seq = Ql82.LAST
    · have ev2 : decide (V.int (s.own.seq : Int) = V.int 4294967295) = true := decide_eq_true (by rw [hc2]; rfl)
      rw [ev2]
      refine iteT ?_
      refine ⟨_, rfl, (by show 1 ≤ sizeLine; decide), fun b hb => ?_⟩
      rw [if_neg hc1, if_pos hc2] at hs
      exact (q _ _ hs).one (r.same same2) same2.calm hb
    have ev2 : decide (V.int (s.own.seq : Int) = V.int 4294967295) = false := decide_eq_false (by intro z; injection z with z; exact hc2 (by unfold Ql82.LAST; omega))
    rw [ev2]
    refine iteF ?_
    have hn : ¬ roadsBy (ls.set pn (nn, cn)) = s.own.roads → s.own.seq ≠ Ql82.LAST := fun _ => hc2
    clear hc1 hc2 ev2
    all_goals
      -- self.lines = lines
      have hl2 := s2 _ _ (show H1 l' = some (.lst ((ts.set pn t).map V.ref)) by rw [← hH1, upd_same])
      refine ⟨_, rfl, _, rfl, a, _, dx, _, rfl, same2 _ _ h1, T.c_Router, T.n_Router_lines, RF_len .., ?_⟩
      rw [RF_put_lines]
      have nd3 : ∀ b o, H2 b = some o → b ≠ a → upd H2 a (.ins A.a_Router dx (RF s.me l' k w')) b = some o := fun b o e n => by rw [upd_ne n]; exact e
      have ha2 := same2 _ _ h1
      have ob3 : ObAt A (upd H2 a (.ins A.a_Router dx (RF s.me l' k w'))) a s.me l' k w' := ⟨dx, upd_same⟩
      have na : ∀ {b : Addr} {o : HO}, H2 b = some o → (∀ C d f, o ≠ .ins C d f) → b ≠ a := fun {b o} e n z => by
        subst z
        rw [e] at ha2
        exact n _ _ _ (Option.some.inj ha2)
      have row3 : RowAt (upd H2 a (.ins A.a_Router dx (RF s.me l' k w'))) l' (ls.set pn (nn, cn)) := by
        obtain ⟨us, e1, e2⟩ := row1.same s2
        exact ⟨us, nd3 _ _ e1 (na e1 (by intro _ _ _ z; cases z)), Paired.mapP e2 fun b x e => nd3 _ _ e (na e (by intro _ _ _ z; cases z))⟩
      have told3 : ∀ t x ad, ToldAt A H2 t x ad → ToldAt A (upd H2 a (.ins A.a_Router dx (RF s.me l' k w'))) t x ad := by
        rintro t x ad ⟨dxx, rr, e1, us, e2, e3⟩
        refine ⟨dxx, rr, nd3 _ _ e1 fun z => ?_, us, nd3 _ _ e2 (na e2 (by intro _ _ _ z; cases z)), Paired.mapP e3 fun b x e => nd3 _ _ e (na e (by intro _ _ _ z; cases z))⟩
        subst z
        rw [ha2] at e1
        have := Option.some.inj e1
        injection this with _ _ e4
        have e5 : (RF s.me l k w').length = (TF x ad.seq rr).length := by rw [e4]
        exact absurd e5 (by show ¬ (4 : Nat) = 3; decide)
      have kn3 : KAt A (upd H2 a (.ins A.a_Router dx (RF s.me l' k w'))) k s.ads :=
        ⟨kvs, nd3 _ _ (same2 _ _ hk) (na (same2 _ _ hk) (by intro _ _ _ z; cases z)), (kk.same same2).moved told3⟩
      have wa3 : WAt (upd H2 a (.ins A.a_Router dx (RF s.me l' k w'))) w' ds s.waits := by
        have wa2 := r.wa.same same2
        refine ⟨nd3 _ _ wa2.ls (na wa2.ls (by intro _ _ _ z; cases z)), wa2.l8, wa2.inj, fun p d hd => ?_⟩
        obtain ⟨kv, e1, e2⟩ := wa2.at_ p d hd
        exact ⟨kv, nd3 _ _ e1 (na e1 (by intro _ _ _ z; cases z)), e2⟩
      -- self.fill_line(p)
      refine ⟨_, rfl, a, dx, _, rfl, upd_same, RF_no _ _ _ _ (by decide +kernel) (by decide +kernel) (by decide +kernel) (by decide +kernel), _, rfl, a, pn, s.me, l', k, w', ds, ls.set pn (nn, cn), s.waits, s.ads, rfl, hp, ob3, row3, l81, wa3, kn3, fun H4 d' hd' wa4 same4 => ?_⟩
      have keep4 : ∀ b o, upd H2 a (.ins A.a_Router dx (RF s.me l' k w')) b = some o → b ≠ w' → H4 b = some o := fun b o e n => by
        rw [same4 b n (fun z => by rw [z] at e; rw [hd'] at e; cases e)]; exact e
      have nw : ∀ {b : Addr} {o : HO}, upd H2 a (.ins A.a_Router dx (RF s.me l' k w')) b = some o → (∀ xs, o ≠ .lst xs) → b ≠ w' := fun {b o} e n z => by
        subst z
        have := wa3.ls
        rw [e] at this
        exact n _ (Option.some.inj this)
      have row4 : ∀ {b : Addr} {xs : List (Nat × Nat)}, RowAt (upd H2 a (.ins A.a_Router dx (RF s.me l' k w'))) b xs → RowAt H4 b xs := fun {b xs} hb => by
        have n1 := wa3.ne_row hb
        obtain ⟨us, e1, e2⟩ := hb
        exact ⟨us, keep4 _ _ e1 n1, Paired.mapP e2 fun b x e => keep4 _ _ e (nw e (by intro _ z; cases z))⟩
      have told4 : ∀ t x ad, ToldAt A (upd H2 a (.ins A.a_Router dx (RF s.me l' k w'))) t x ad → ToldAt A H4 t x ad := by
        rintro t x ad ⟨dxx, rr, e1, e2⟩
        exact ⟨dxx, rr, keep4 _ _ e1 (nw e1 (by intro _ z; cases z)), row4 e2⟩
      have kd4 : k ∉ ds.set pn d' := fun z => by
        rcases List.mem_or_eq_of_mem_set z with z | z
        · exact r.kd z
        · obtain ⟨kv, e1, _⟩ := kn3
          exact absurd z (ne_of_none e1 hd')
      have r4 : RAt A H4 a l' k w' (ds.set pn d') (ls.set pn (nn, cn)) (lined s pn nn cn) := by
        refine ⟨⟨dx, keep4 _ _ upd_same (nw upd_same (by intro _ z; cases z))⟩, row4 row3, l81, ln1, l641, ?_, wa4.congr fun i y hi => ?_, kd4, good_lined r.good hp (by assumption) hm hcn⟩
        · obtain ⟨kv, e1, e2⟩ := kn3
          exact ⟨kv, keep4 _ _ e1 (nw e1 (by intro _ z; cases z)), e2.moved told4⟩
        · show _ = (if i = pn then decide (cn ≠ 0) && (s.ads y).isSome else s.waits i y)
          by_cases e : i = pn
          · subst e
            have hu : KR.up (ls.set i (nn, cn)) i = decide (cn ≠ 0) := by
              rw [up_is (x := (nn, cn)) (List.getElem?_set_self (by rw [r.l8]; exact hp))]
              by_cases c0 : cn = 0
              · simp [c0]
              · rw [decide_eq_true (by show (0 : Int) < (cn : Int); omega), decide_eq_true c0]
            simp only [↓reduceIte]
            rw [hu]
          · simp [e]
      have calm4 : Calm H H4 := by
        refine r.calm fun b o e n1 n2 n3 n4 => ?_
        rw [same4 b n3 (fun z => by rw [z] at e n1; have := same2 _ _ e; rw [upd_ne n1] at hd'; rw [this] at hd'; cases hd'), upd_ne n1]
        exact same2 _ _ e
      refine ⟨_, rfl, _, rfl, ?_⟩
      by_cases hc1 : roadsBy (ls.set pn (nn, cn)) = s.own.roads
      · refine iteNS hc1 ?_
        rw [if_pos hc1] at hs
        refine ⟨(by show 1 ≤ sizeLine; decide), fun b hb => ?_⟩
        exact (q _ _ hs).one r4 calm4 hb
      · refine iteP hc1 ?_
        have hns := hn hc1
        rw [if_neg hc1, if_neg hns] at hs
        have htop := (r.good.ad _ _ r.good.own_is).2.top
        obtain ⟨dx4, h4⟩ := id r4.ob
        have t4 := told4 _ _ _ (told3 t0 s.me s.own ⟨dx0, r0, ht02, htr0.same same2⟩)
        obtain ⟨dxx, rr, e1, e2⟩ := t4
        refine ⟨_, rfl, a, dx4, _, rfl, h4, RF_no _ _ _ _ (by decide +kernel) (by decide +kernel) (by decide +kernel) (by decide +kernel), _, rfl, t0, _, dxx, _, _, rfl, e1, T.c_Told, T.n_Told_number, TF_number .., _, _, rfl, rfl, a, s.own.seq + 1, s.me, l', k, w', ds.set pn d', ls.set pn (nn, cn), _, s.ads, rfl, r4.ob, r4.row, l81, l641, r4.wa, r4.kn, kd4, r.good.me, fun H5 k5 w5 kp5 => ?_⟩
        have hlt : s.own.seq + 1 ≤ Ql82.LAST := by omega
        obtain ⟨r5, c5⟩ := r4.anew (by omega) hlt k5 w5 kp5
        refine ⟨(by show 1 ≤ sizeLine; decide), fun b hb => ?_⟩
        exact (q _ _ hs).one r5 (calm4.trans c5) hb
end
end KR

namespace KR
open PySem PySem.Spec PyProof.Rows L2
/-- costs by names, in a dict -/
structure CK (kvs : List (Key × V)) (D : Costs) : Prop where
  keys : Keys kvs
  is : ∀ x : Nat, valV kvs (Sum.inl (x : Int) : Key) = (D x).map fun (c : Nat) => V.int (c : Int)
theorem CK.empty : CK [] fun _ => none := ⟨Keys.nil, fun _ => rfl⟩
theorem CK.put {kvs : List (Key × V)} {D : Costs} (h : CK kvs D) {x : Nat} (hx : x < 64) (c : Nat) : CK (putK kvs (Sum.inl (x : Int)) (.int (c : Int))) (setC D x c) := by
  refine ⟨h.keys.put hx _, fun y => ?_⟩
  rw [valV_put]
  by_cases e : y = x
  · subst e; rw [if_pos rfl, setC_self]; rfl
  · rw [if_neg (inl_ne e), setC_ne e]; exact h.is y
theorem CK.drop {kvs : List (Key × V)} {D : Costs} (h : CK kvs D) (x : Nat) : CK (dropK kvs (Sum.inl (x : Int))) (dropC D x) := by
  refine ⟨h.keys.drop _, fun y => ?_⟩
  rw [valV_drop]
  by_cases e : y = x
  · subst e; rw [if_pos rfl, dropC_self]; rfl
  · rw [if_neg (inl_ne e), dropC_ne e]; exact h.is y
theorem CK.none_of_nil {D : Costs} (h : CK [] D) (x : Nat) : D x = none := by
  have := h.is x
  cases e : D x with
  | none => rfl
  | some c => rw [e] at this; cases this
theorem putK_len_new {kvs : List (Key × V)} {k : Key} (v : V) (h : valV kvs k = none) : (putK kvs k v).length = kvs.length + 1 := by
  unfold putK
  rw [if_neg (by rw [valV_any, h]; decide), List.length_append]
  rfl
/-- what least_costs_to gives -/
def FarAt (s : Ql82.St) (d : Nat) (kvs : List (Key × V)) : Prop := ∀ u : Nat, u < 64 → valV kvs (Sum.inl (u : Int) : Key) = (s.far u d).map fun (c : Nat) => V.int (c : Int)
section
variable {P : Program} {w : World} {K : PySem.W.Frag} {mg : Str → Option Value} {base : Heap} {A : Adr}

def sp_least_costs_to (A : Adr) : Sp := fun vs H Q _ => ∃ (k : Addr) (d : Nat) (s : Ql82.St), vs = [.ref k, .int (d : Int)] ∧ d < 64 ∧ KAt A H k s.ads ∧ Good s ∧
  ∀ (H' : Hp) (l : Addr) (kvs : List (Key × V)), Same H H' → H l = none → H' l = some (.dK kvs) → FarAt s d kvs → Q (.ref l) H'
theorem ok_least_costs_to (T : Txt K mg A) : FnOk P w K mg base CX0 4 A.f_least_costs_to A.d_least_costs_to pm_least_costs_to (sp_least_costs_to A) := by
  refine T.F_least_costs_to.ok sc_least_costs_to (fun vs H Q E h => ?_) (fun cdv Ar outer s H vs Q E hr h => ?_)
  · obtain ⟨k, d, s, rfl, _⟩ := h
    rfl
  · obtain ⟨k, d, s, rfl, hd, kat, g, q⟩ := h
    have hu := hu_of hr
    refine ⟨_, (pss_cons (ps_set (i := 2) sc_least_costs_to.nd rfl (Or.inl rfl) pe_dnewK)
      (pss_cons (ps_set (i := 3) sc_least_costs_to.nd rfl (Or.inr rfl) (pe_disp (pps_cons (pv 1) pe_int pps_nil) (by rfl) (by rfl) (fun z => by cases z) (by decide)))
      (pss_cons (ps_while PassesOwn.never (pt_truth (pv 3) (by intro _; rfl))
      (pss_cons (ps_asg (pe_callB (cr_minP rfl hr.units) (by rfl) T.z_min (by decide +kernel) (pa_cons (pe_lock (pe_lc (own := [("name", 8)]) (te := (tTup (tCons (tDGet (tVar 3) (tVar 8)) (tCons (tVar 8) tNil)))) (g := gName 8) rfl sc_least_costs_to.nd (pi_keys (pv 3)) (blkOk_by (own := [("name", 8)]) (N := nm_least_costs_to) (sc := defScope st_least_costs_to) (by decide +kernel)) (fun _ _ _ _ _ => (pg_name (i := 8) sc_least_costs_to.nd rfl (Or.inl rfl))) (fun _ _ _ _ _ => pts_nil) (fun _ _ _ _ _ => (pe_tup (pa_cons (pe_dget hu (pv 3) (pv 8) (fun _ _ => rfl)) (pa_cons (pv 8) pa_nil)))))) pa_nil)) (pg_tup rfl (pgs_cons (pg_name (i := 4) sc_least_costs_to.nd rfl (Or.inl rfl)) (pgs_cons (pg_name (i := 5) sc_least_costs_to.nd rfl (Or.inl rfl)) pgs_nil))))
      (pss_cons (ps_expr (pe_dpop1 (pv 3) (pv 5) ⟨rfl, rfl, rfl, rfl⟩))
      (pss_cons (ps_dput hu (pv 2) (pv 5) (pv 4) rfl)
      (pss_one (ps_for PassesOwn.never rfl (pi_list (pe_call (ok_roads_into T) (hr.mono (by decide)) rfl T.g_roads_into T.k_roads_into T.b_roads_into .nil pass0 (pa_cons (pv 0) (pa_cons (pv 5) pa_nil)))) (pg_tup rfl (pgs_cons (pg_name (i := 6) sc_least_costs_to.nd rfl (Or.inl rfl)) (pgs_cons (pg_name (i := 7) sc_least_costs_to.nd rfl (Or.inl rfl)) pgs_nil)))
      (pss_one (ps_if (pt_cmp (pc_dnotin hu (pv 6) (pv 2)))
      (pss_one (ps_dput hu (pv 3) (pv 6) (pe_callB (call_min2 rfl) (by rfl) T.z_min (by decide +kernel) (pa_cons (pe_op op_add (pv 4) (pv 7)) (pa_cons (pe_dget2 hu (pv 3) (pv 6) (pe_op op_add (pv 4) (pv 7)) ⟨rfl, rfl, rfl, rfl⟩) pa_nil))) rfl))
      pss_nil))))))))
      (pss_one (ps_ret (pv 2)))))), ?_⟩
    intro l hl
    have sl : Same H (upd H l (.dK [])) := same_new hl
    intro r hr0
    have sr : Same (upd H l (.dK [])) (upd (upd H l (.dK [])) r (.dK [])) := same_new hr0
    have nr : H r = none := sl.free hr0
    have lr : l ≠ r := by
      intro z
      subst z
      rw [upd_same] at hr0
      cases hr0
    refine ⟨_, rfl, upd_same, [(Sum.inl (d : Int), .int 0)], rfl, (by show 1 ≤ 15; decide), ?_⟩
    have em : mergeK [] [((Sum.inl (d : Int) : Key), V.int 0)] = [(Sum.inl (d : Int), V.int 0)] := rfl
    rw [em, upd_upd]
    dsimp only [gName, tSeq]
    have ck0 : CK [((Sum.inl (d : Int) : Key), V.int 0)] (setC (fun _ => none) d 0) := CK.empty.put hd 0
    refine while_by (fun σ H' => ∃ (v4 v5 v6 v7 v8 : Option V) (kl kr : List (Key × V)) (L R : Costs), σ = [some (.ref k), some (.int (d : Int)), some (.ref l), some (.ref r), v4, v5, v6, v7, v8] ∧
        Same H H' ∧ H' l = some (.dK kl) ∧ H' r = some (.dK kr) ∧ CK kl L ∧ CK kr R ∧ Dij s d L R)
      (fun _ H' => match H' l with
        | some (.dK kl) => 64 - kl.length
        | _ => 0)
      ⟨none, none, none, none, none, [], _, _, _, rfl, fun b o e => ?_, ?_, upd_same, CK.empty, ck0, Dij.start s d⟩ ?_ ?_
    · rw [upd_ne (ne_of_none e nr)]; exact sl b o e
    · rw [upd_ne lr, upd_same]
    · rintro σ H1 ⟨v4, v5, v6, v7, v8, kl, kr, L, R, rfl, s1, hl1, hr1, cl, cr, dj⟩
      refine ⟨_, rfl, _, .inr (.inr ⟨kr, hr1, rfl⟩), ?_⟩
      cases kr with
      | nil =>
        refine iteF ?_
        have hR : ∀ u, R u = none := fun u => cr.none_of_nil u
        exact ⟨_, rfl, q H1 l kl s1 hl hl1 fun u hu' => by rw [cl.is, dj.done hd hR u hu']⟩
      | cons kr0 krr =>
        refine iteT ?_
        generalize hkr : kr0 :: krr = kr at hr1 cr
        have kpos : 0 < kr.length := by rw [← hkr]; exact Nat.succ_pos _
        clear hkr kr0 krr
        obtain ⟨ns, ek, nd, n64, nl, nm⟩ := cr.keys.ns
        have rsome : ∀ n ∈ ns, ∃ c, R n = some c := fun n hn => by
          have := (nm n).mp hn
          rw [cr.is] at this
          cases e : R n with
          | none => rw [e] at this; cases this
          | some c => exact ⟨c, rfl⟩
        let rows : List (Nat × Nat) := ns.map fun n => ((R n).getD 0, n)
        have rlen : rows.length = kr.length := by show (ns.map _).length = _; rw [List.length_map, nl]
        have k64 := cr.keys.len
        -- the list of pairs
        refine ⟨r, _, hr1, trivial, fun od => ?_⟩
        have fz : ∀ b, b ≠ r → upd H1 r (.frz od (.dK kr)) b = H1 b := fun b n => upd_ne n
        refine ⟨_, rfl, r, od, rfl, .inl ⟨kr, upd_same, fun D hD => ?_⟩⟩
        have Dr : D ≠ r := by
          intro z
          subst z
          rw [upd_same] at hD
          cases hD
        have nD1 : H1 D = none := by rw [← fz D Dr]; exact hD
        refine lc_it walk_keys (fun i H2 => (∀ b o, H1 b = some o → b ≠ r → H2 b = some o) ∧ H2 r = some (.frz od (.dK kr)) ∧ ∃ us : List Addr, H2 D = some (.lst (us.map V.ref)) ∧ Paired (PairAt H2) us (rows.take i))
          ⟨fun b o e n => ?_, ?_, [], upd_same, .nil⟩ (fun i H2 _ ⟨_, e, _⟩ => e) ?_ ?_
        · rw [upd_ne (ne_of_none e nD1), fz b n]; exact e
        · rw [upd_ne Dr.symm, upd_same]
        · rintro i y H2 H3 hi ⟨s2, hr2, us, e1, e2⟩ ⟨rfl, ky, vv, hi2, rfl⟩
          have hky : (kr.map (·.1))[i]? = some ky := by rw [List.getElem?_map, hi2]; rfl
          rw [ek, List.getElem?_map, List.getElem?_map] at hky
          obtain ⟨n, hn, en⟩ : ∃ n, ns[i]? = some n ∧ ky = Sum.inl (n : Int) := by
            cases z : ns[i]? with
            | none => rw [z] at hky; cases hky
            | some n => rw [z] at hky; cases hky; exact ⟨n, rfl, rfl⟩
          subst en
          obtain ⟨c, hc⟩ := rsome n (List.mem_of_getElem? hn)
          have hrow : rows[i]? = some (c, n) := by
            show (ns.map _)[i]? = _
            rw [List.getElem?_map, hn]
            show some ((R n).getD 0, n) = _
            rw [hc]; rfl
          have hg : DGet H3 r (.int (n : Int)) (some (.int (c : Int))) := by
            refine .inl ⟨kr, Sum.inl (n : Int), .inr ⟨od, hr2⟩, rfl, ?_⟩
            rw [cr.is, hc]; rfl
          refine ⟨rfl, ?_⟩
          dsimp only [tYes]
          refine iteT ?_
          refine ⟨_, rfl, _, rfl, r, _, rfl, hg, _, rfl, (by show 2 ≤ sizeLine; decide), fun t ht => ?_⟩
          obtain ⟨m1, us', f1, f2⟩ := row_more (c, n) e1 e2 ht
          have Dt : D ≠ t := ne_of_none e1 ht
          have il : i < rows.length := (List.getElem?_eq_some_iff.mp hrow).1
          refine ⟨_, (by rw [upd_ne Dt]; exact e1), row_count (D := D) e2 (by rw [List.length_take]; omega), fun b o e n => m1 b o (s2 b o e n) (ne_of_none e nD1), m1 r _ hr2 Dr.symm, ?_⟩
          rw [take_more hrow]
          exact ⟨us', f1, f2⟩
        rintro H2 ⟨s2, hr2, us, e1, e2⟩
        rw [← rlen, List.take_length] at e2
        refine ⟨hr2, ?_⟩
        have s3 : Same H1 (upd H2 r (.dK kr)) := fun b o e => by
          by_cases z : b = r
          · subst z; rw [upd_same, ← e, hr1]
          · rw [upd_ne z]; exact s2 b o e z
        have row3 : RowAt (upd H2 r (.dK kr)) D rows := by
          refine ⟨us, by rw [upd_ne Dr]; exact e1, Paired.mapP e2 fun b x hx => ?_⟩
          have hx' : H2 b = some (.tup [.int (x.1 : Int), .int (x.2 : Int)]) := hx
          show upd H2 r _ b = _
          rw [upd_ne (ne_of hx' hr2 (by intro z; cases z))]
          exact hx'
        generalize upd H2 r (.dK kr) = H3 at s3 row3 ⊢
        clear hD fz s2 hr2 e1 e2 H2
        refine ⟨D, rows, rfl, row3, by omega, by omega, fun t x hx ht hmin => ?_⟩
        obtain ⟨n, hn, rfl⟩ := List.mem_map.mp hx
        obtain ⟨c, hc⟩ := rsome n hn
        have hn64 := n64 n hn
        rw [hc] at ht hmin
        have ht' : H3 t = some (.tup [.int (c : Int), .int (n : Int)]) := ht
        have hmin' : ∀ w y, R w = some y → c ≤ y := fun w y e => by
          have hw : w ∈ ns := (nm w).mpr (by rw [cr.is, e]; rfl)
          have := hmin _ (List.mem_map.mpr ⟨w, hw, rfl⟩)
          rw [e] at this
          exact this
        clear hmin ht hx
        have hl3 := s3 _ _ hl1
        have hr3 := s3 _ _ hr1
        have hval : valV kr (Sum.inl (n : Int) : Key) = some (.int (c : Int)) := by rw [cr.is, hc]; rfl
        have hL : L n = none := dj.dis n c hc
        have hvl : valV kl (Sum.inl (n : Int) : Key) = none := by rw [cl.is, hL]; rfl
        refine ⟨t, _, rfl, SqT.of ht', rfl, _, _, rfl, _, _, rfl, rfl, ?_⟩
        -- pop, put
        refine ⟨_, rfl, r, rfl, .inl ⟨_, .inl hr3⟩, _, rfl, kr, Sum.inl (n : Int), _, hr3, rfl, hval, ?_⟩
        refine ⟨_, rfl, _, rfl, _, rfl, l, _, rfl, DPut.k (k := Sum.inl (n : Int)) (by rw [upd_ne lr]; exact hl3) cl.keys.line, ?_⟩
        have s5 : Same H (upd (upd H3 r (.dK (dropK kr (Sum.inl (n : Int))))) l (.dK (putK kl (Sum.inl (n : Int)) (.int (c : Int))))) := fun b o e => by
          rw [upd_ne (ne_of_none e hl), upd_ne (ne_of_none e nr)]; exact s3 _ _ (s1 _ _ e)
        have hl5 : upd (upd H3 r (.dK (dropK kr (Sum.inl (n : Int))))) l (.dK (putK kl (Sum.inl (n : Int)) (.int (c : Int)))) l = some (.dK (putK kl (Sum.inl (n : Int)) (.int (c : Int)))) := upd_same
        have hr5 : upd (upd H3 r (.dK (dropK kr (Sum.inl (n : Int))))) l (.dK (putK kl (Sum.inl (n : Int)) (.int (c : Int)))) r = some (.dK (dropK kr (Sum.inl (n : Int)))) := by rw [upd_ne lr.symm, upd_same]
        generalize upd (upd H3 r (.dK (dropK kr (Sum.inl (n : Int))))) l (.dK (putK kl (Sum.inl (n : Int)) (.int (c : Int)))) = H5 at s5 hl5 hr5 ⊢
        have cl5 := cl.put hn64 c
        have cr5 := cr.drop n
        have ln5 := putK_len_new (V.int (c : Int)) hvl
        generalize putK kl (Sum.inl (n : Int)) (.int (c : Int)) = kl5 at hl5 cl5 ln5
        generalize dropK kr (Sum.inl (n : Int)) = kr5 at hr5 cr5
        -- the roads into n
        refine ⟨_, rfl, _, rfl, k, n, s, rfl, kat.same s5, g, fun H6 rr s6 nrr row6 => ?_⟩
        obtain ⟨ts, g1, g2⟩ := row6
        have hts : ts.length = (into s n).length := Paired.length g2
        refine ⟨rr, rfl, ⟨_, SqL.of g1⟩, for_list (K := K) (a := rr) (xs := ts.map V.ref)
          (fun i σ H' => ∃ (v6 v7 : Option V) (kr' : List (Key × V)) (R' : Costs), σ = [some (.ref k), some (.int (d : Int)), some (.ref l), some (.ref r), some (.int (c : Int)), some (.int (n : Int)), v6, v7, v8] ∧
            (∀ b o, H6 b = some o → b ≠ r → H' b = some o) ∧ H' r = some (.dK kr') ∧ CK kr' R' ∧ Inn s n c (setC L n c) (dropC R n) R' i)
          ⟨_, _, kr5, _, rfl, fun b o e _ => e, s6 _ _ hr5, cr5, Inn.start⟩ (fun i σ H' _ ⟨_, _, _, _, _, s7, _⟩ => SqL.of (s7 _ _ g1 (ne_of g1 (s6 _ _ hr5) (by intro z; cases z)))) ?_ ?_⟩
        · rintro i y σ H7 hi ⟨v6', v7', kr', R', rfl, s7, hr7, cr7, inn⟩
          obtain ⟨tt, htt, rfl⟩ := refs_at hi
          obtain ⟨x, hx, px⟩ := paired_at g2 htt
          obtain ⟨u, cu⟩ := x
          have px6 : H6 tt = some (.tup [.int (u : Int), .int (cu : Int)]) := px
          have px7 := s7 _ _ px6 (ne_of px6 (s6 _ _ hr5) (by intro z; cases z))
          have hl7 := s7 _ _ (s6 _ _ hl5) lr
          have hu64 := (road_pos g (into_iff.mp (List.mem_of_getElem? hx))).2.1
          refine ⟨tt, _, rfl, SqT.of px7, rfl, _, _, rfl, _, _, rfl, rfl, ?_⟩
          have dl : DGet H7 l (.int (u : Int)) (valV kl5 (Sum.inl (u : Int) : Key)) := DGet.k (k := (Sum.inl (u : Int) : Key)) hl7
          rw [cl5.is] at dl
          cases hLu : setC L n c u with
          | some z =>
            rw [hLu] at dl
            refine ⟨_, rfl, _, rfl, l, _, rfl, dl, _, rfl, iteF ?_⟩
            exact ⟨_, _, kr', R', rfl, s7, hr7, cr7, inn.skip hx (by rw [hLu]; rfl)⟩
          | none =>
            rw [hLu] at dl
            refine ⟨_, rfl, _, rfl, l, _, rfl, dl, _, rfl, iteT ?_⟩
            have dr : DGet H7 r (.int (u : Int)) (valV kr' (Sum.inl (u : Int) : Key)) := DGet.k (k := (Sum.inl (u : Int) : Key)) hr7
            rw [cr7.is] at dr
            refine ⟨_, rfl, _, rfl, _, _, rfl, rfl, _, rfl, r, rfl, .inl ⟨_, .inl hr7⟩, _, rfl, _, rfl, _, rfl, _, _, rfl, rfl, _, dr, ?_⟩
            have ev : ((R' u).map fun (c : Nat) => V.int (c : Int)).getD (.int ((c : Int) + (cu : Int))) = .int (((R' u).getD (c + cu) : Nat) : Int) := by
              cases R' u <;> rfl
            rw [ev]
            refine ⟨_, _, rfl, ?_⟩
            have em : (if (((R' u).getD (c + cu) : Nat) : Int) < (c : Int) + (cu : Int) then (((R' u).getD (c + cu) : Nat) : Int) else (c : Int) + (cu : Int)) = ((min (c + cu) ((R' u).getD (c + cu)) : Nat) : Int) := by
              by_cases z : (((R' u).getD (c + cu) : Nat) : Int) < (c : Int) + (cu : Int)
              · rw [if_pos z]; omega
              · rw [if_neg z]; omega
            rw [em]
            refine ⟨_, rfl, _, rfl, r, _, rfl, DPut.k (k := Sum.inl (u : Int)) hr7 cr7.keys.line, ?_⟩
            exact ⟨_, _, _, _, rfl, fun b o e nb => by rw [upd_ne nb]; exact s7 b o e nb, upd_same, cr7.put hu64 _, inn.put hx hLu rfl⟩
        · rintro σ H7 ⟨v6', v7', kr', R', rfl, s7, hr7, cr7, inn⟩
          rw [List.length_map, hts] at inn
          have hl7 := s7 _ _ (s6 _ _ hl5) lr
          refine ⟨⟨_, _, _, _, v8, kl5, kr', _, R', rfl, fun b o e => s7 _ _ (s6 _ _ (s5 _ _ e)) (ne_of_none e nr), hl7, hr7, cl5, cr7, dj.step hn64 hc hmin' inn⟩, ?_⟩
          have := cl5.keys.len
          show (match H7 l with | some (.dK kl) => 64 - kl.length | _ => 0) < (match H1 l with | some (.dK kl) => 64 - kl.length | _ => 0)
          rw [hl7, hl1]
          show 64 - kl5.length < 64 - kl.length
          omega
    · rintro σ H' Q1 Q2 hQ ⟨v, e1, b, e2, q'⟩
      exact ⟨v, e1, b, e2, hQ _ _ q'⟩
end
end KR

namespace KR
open PySem PySem.Spec PyProof.Rows L2
section
variable {P : Program} {w : World} {K : PySem.W.Frag} {mg : Str → Option Value} {base : Heap} {A : Adr}

def sp_leads_on (A : Adr) : Sp := fun vs H Q _ => ∃ (a l k w c : Addr) (ds : List Addr) (ls : List (Nat × Nat)) (s : Ql82.St) (p d : Nat) (kvs : List (Key × V)), vs = [.ref a, .int (p : Int), .ref c] ∧ RAt A H a l k w ds ls s ∧ p < 8 ∧ d < 64 ∧
  H c = some (.dK kvs) ∧ FarAt s d kvs ∧ Q (.bl (leads s d p)) H
theorem ok_Router_leads_on (T : Txt K mg A) : FnOk P w K mg base CX0 3 A.f_Router_leads_on A.d_Router_leads_on pm_Router_leads_on (sp_leads_on A) := by
  refine T.F_Router_leads_on.ok sc_Router_leads_on (fun vs H Q E h => ?_) (fun cdv Ar outer s H vs Q E hr h => ?_)
  · obtain ⟨a, l, k, w', c, ds, ls, s, p, d, kvs, rfl, _⟩ := h
    rfl
  · obtain ⟨a, l, k, w', c, ds, ls, s, p, d, kvs, rfl, r, hp, hd, hc, far, q⟩ := h
    have hu := hu_of hr
    obtain ⟨dx, h1⟩ := id r.ob
    obtain ⟨ts, h2, h3⟩ := id r.row
    have hpl : p < ls.length := by rw [r.l8]; exact hp
    have e : ls[p]? = some ls[p] := List.getElem?_eq_getElem hpl
    obtain ⟨t, ht, pt⟩ := paired_at' h3 e
    generalize ls[p] = x at e pt
    have hx64 : x.1 < 64 := r.l64 x (List.mem_of_getElem? e)
    refine ⟨_, (pss_cons (ps_asg (pe_ix ix_list (pe_fld (pv 0) rfl) (pv 1) (fun _ _ => rfl)) (pg_tup rfl (pgs_cons (pg_name (i := 3) sc_Router_leads_on.nd rfl (Or.inl rfl)) (pgs_cons (pg_name (i := 4) sc_Router_leads_on.nd rfl (Or.inl rfl)) pgs_nil))))
      (pss_cons (ps_if (PW.pt (pw_or (pt_not (pt_val (pe_meth (pv 0) T.c_Router T.m_Router_is_up (ok_Router_is_up T) (hr.mono (by decide)) T.b_Router_is_up .nil pass0 (pa_cons (pv 1) pa_nil)))) (pw_or (pt_cmp (pc_dnotin hu (pv 3) (pv 2))) (pw_or1 (pt_cmpR op_eq (pe_call (ok_road_cost T) (hr.mono (by decide)) rfl T.g_road_cost T.k_road_cost T.b_road_cost .nil pass0 (pa_cons (pe_fld (pv 0) rfl) (pa_cons (pe_fld (pv 0) rfl) (pa_cons (pv 3) pa_nil)))) pe_int (nomark _))))))
      (pss_one (ps_ret pe_bl))
      pss_nil)
      (pss_one (ps_ret (pe_cmpR op_eq (pe_op op_add (pv 4) (pe_dget hu (pv 2) (pv 3) (fun _ _ => rfl))) (pe_dget hu (pv 2) (pe_fld (pv 0) rfl) (fun _ _ => rfl)) (nomark _)))))), ?_⟩
    refine ⟨_, rfl, a, _, dx, _, _, rfl, h1, T.c_Router, T.n_Router_lines, RF_lines .., _, rfl, l, _, _, _, rfl, rfl, SqL.of h2, at_of rfl (refs_get ht), t, _, rfl, SqT.of pt, rfl, _, _, rfl, _, _, rfl, rfl, ?_⟩
    refine ⟨_, rfl, a, dx, _, rfl, h1, RF_no _ _ _ _ (by decide +kernel) (by decide +kernel) (by decide +kernel) (by decide +kernel), _, rfl, a, p, s.me, l, k, w', ls, rfl, r.ob, r.row, hpl, _, rfl, ?_⟩
    cases hup : up ls p with
    | false =>
      refine iteT (iteT ?_)
      have hl : s.lines p = none := by
        have := hup
        rw [r.up] at this
        unfold Ql82.St.isUp at this
        cases z : s.lines p with
        | none => rfl
        | some y => rw [z] at this; cases this
      have : leads s d p = false := by unfold leads; rw [hl]
      rw [this] at q
      exact q
    | true =>
      refine iteF ?_
      have hl : s.lines p = some x := by
        have h0 := hup
        rw [up_is e] at h0
        have h0' := of_decide_eq_true h0
        rw [r.ln]
        unfold linesOf
        rw [e]
        show lineOf x = some x
        unfold lineOf
        rw [if_neg (by omega)]
      obtain ⟨L1, L2, L3⟩ := leads_by r.good hd hl
      have dc : DGet H c (.int (x.1 : Int)) (valV kvs (Sum.inl (x.1 : Int) : Key)) := DGet.k (k := (Sum.inl (x.1 : Int) : Key)) hc
      rw [far x.1 hx64] at dc
      cases ef : s.far x.1 d with
      | none =>
        rw [ef] at dc
        rw [L1 ef] at q
        refine ⟨_, rfl, _, rfl, c, none, rfl, dc, _, rfl, iteT (iteT ?_)⟩
        exact q
      | some y =>
        rw [ef] at dc
        refine ⟨_, rfl, _, rfl, c, some _, rfl, dc, _, rfl, iteF ?_⟩
        refine ⟨_, rfl, a, _, dx, _, _, rfl, h1, T.c_Router, T.n_Router_known, RF_known .., _, rfl, a, _, dx, _, _, rfl, h1, T.c_Router, T.n_Router_me, RF_me .., _, rfl, k, s.me, x.1, s, rfl, r.kn, r.good, rfl, _, rfl, ?_⟩
        cases er : s.road s.me x.1 with
        | none =>
          rw [L2 er] at q
          refine iteT ?_
          exact q
        | some cc =>
          have hpos := (road_pos r.good er).1
          rw [show decide (V.int (((some cc).getD 0 : Nat) : Int) = V.int 0) = false from decide_eq_false (by intro z; injection z with z; have z' : (cc : Int) = 0 := z; omega)]
          refine iteF ?_
          obtain ⟨z, hz, hlead⟩ := L3 y cc ef er
          rw [hlead] at q
          have dm : DGet H c (.int (s.me : Int)) (valV kvs (Sum.inl (s.me : Int) : Key)) := DGet.k (k := (Sum.inl (s.me : Int) : Key)) hc
          rw [far s.me r.good.me, hz] at dm
          refine ⟨_, rfl, _, rfl, _, rfl, c, _, rfl, dc, _, _, rfl, rfl, _, rfl, _, rfl, a, _, dx, _, _, rfl, h1, T.c_Router, T.n_Router_me, RF_me .., c, _, rfl, dm, rfl, ?_⟩
          have ee : decide (V.int ((x.2 : Int) + (y : Int)) = V.int (z : Int)) = decide (x.2 + y = z) := by
            by_cases c : x.2 + y = z
            · rw [decide_eq_true c]; exact decide_eq_true (by rw [← c]; rfl)
            · rw [decide_eq_false c]; exact decide_eq_false (by intro z; injection z with z; omega)
          rw [ee]
          exact q
theorem spec_far_bad {s : Ql82.St} {d : Int} (h : ¬ (0 ≤ d ∧ d < 64)) : Ql82.spec (some s) (.far d) = (some s, Ql82.only (-2)) := by
  simp only [Ql82.spec]
  rw [if_pos (between_no fun z => h ⟨z.1, by have := z.2; omega⟩)]
theorem spec_far_none {s : Ql82.St} {d : Nat} (h : d < 64) (e : s.far s.me d = none) : Ql82.spec (some s) (.far (d : Int)) = (some s, Ql82.only (-1)) := by
  have hb : ¬ Ql82.between (d : Int) 0 63 = false := by rw [between_yes (by constructor <;> omega)]; decide
  simp only [Ql82.spec]
  rw [if_neg hb]
  rw [Int.toNat_natCast]
  generalize s.far s.me d = o at e ⊢
  subst e
  rfl
theorem spec_far_some {s : Ql82.St} {d y : Nat} (h : d < 64) (e : s.far s.me d = some y) : Ql82.spec (some s) (.far (d : Int)) = (some s, Ql82.only (y : Int)) := by
  have hb : ¬ Ql82.between (d : Int) 0 63 = false := by rw [between_yes (by constructor <;> omega)]; decide
  simp only [Ql82.spec]
  rw [if_neg hb]
  rw [Int.toNat_natCast]
  generalize s.far s.me d = o at e ⊢
  subst e
  rfl
theorem spec_ways_bad {s : Ql82.St} {d : Int} (h : ¬ (0 ≤ d ∧ d < 64)) : Ql82.spec (some s) (.ways d) = (some s, Ql82.only (-2)) := by
  simp only [Ql82.spec]
  rw [if_pos (between_no fun z => h ⟨z.1, by have := z.2; omega⟩)]
theorem spec_ways_ok {s : Ql82.St} (g : Good s) {d : Nat} (h : d < 64) : Ql82.spec (some s) (.ways d) = (some s, Ql82.only (upTo (leads s d) 8 : Nat)) := by
  simp only [Ql82.spec]
  have hb : ¬ Ql82.between (d : Int) 0 63 = false := by rw [between_yes (by constructor <;> omega)]; decide
  simp only [hb, ↓reduceIte, Int.toNat_natCast, ways_is g h]
  rfl
def sp_least_cost (A : Adr) : Sp := fun vs H Q _ => ∃ (a l k w : Addr) (ds : List Addr) (ls : List (Nat × Nat)) (s : Ql82.St) (d : Int), vs = [.ref a, .int d] ∧ RAt A H a l k w ds ls s ∧
  ∀ t x, Ql82.spec (some s) (.far d) = (some t, x) → Ends A H a Q t (outOf x)
theorem ok_Router_least_cost (T : Txt K mg A) : FnOk P w K mg base CX0 5 A.f_Router_least_cost A.d_Router_least_cost pm_Router_least_cost (sp_least_cost A) := by
  refine T.F_Router_least_cost.ok sc_Router_least_cost (fun vs H Q E h => ?_) (fun cdv Ar outer s H vs Q E hr h => ?_)
  · obtain ⟨a, l, k, w', ds, ls, s, d, rfl, _⟩ := h
    rfl
  · obtain ⟨a, l, k, w', ds, ls, s, d, rfl, r, q⟩ := h
    have hu := hu_of hr
    obtain ⟨dx, h1⟩ := id r.ob
    refine ⟨_, (pss_cons (ps_if (pt_not (pt_val (pe_call (ok_is_router T) (hr.mono (by decide)) rfl T.g_is_router T.k_is_router T.b_is_router .nil pass0 (pa_cons (pv 1) pa_nil))))
      (pss_one (ps_ret (pe_lst (pa_cons (pe_un un_neg pe_int) pa_nil))))
      pss_nil)
      (pss_one (ps_ret (pe_lst (pa_cons (pe_dget2 hu (pe_call (ok_least_costs_to T) (hr.mono (by decide)) rfl T.g_least_costs_to T.k_least_costs_to T.b_least_costs_to .nil pass0 (pa_cons (pe_fld (pv 0) rfl) (pa_cons (pv 1) pa_nil))) (pe_fld (pv 0) rfl) (pe_un un_neg pe_int) ⟨rfl, rfl, rfl, rfl⟩) pa_nil))))), ?_⟩
    refine ⟨_, rfl, d, rfl, _, rfl, ?_⟩
    refine ite2 (fun z => ?_) (fun z => ?_)
    · refine ⟨_, rfl, (by show 1 ≤ sizeLine; decide), fun b hb => ?_⟩
      exact (q _ _ (spec_far_bad fun y => by simp [y] at z)).one r (Same.refl H).calm hb
    have hd : 0 ≤ d ∧ d < 64 := by simpa using z
    clear z
    obtain ⟨dn, rfl⟩ := nat_of hd.1
    have hd64 : dn < 64 := by omega
    refine ⟨_, rfl, a, _, dx, _, _, rfl, h1, T.c_Router, T.n_Router_known, RF_known .., _, rfl, k, dn, s, rfl, hd64, r.kn, r.good, fun H1 c kvs s1 nc hc far => ?_⟩
    have r1 := r.same s1
    have dm : DGet H1 c (.int (s.me : Int)) (valV kvs (Sum.inl (s.me : Int) : Key)) := DGet.k (k := (Sum.inl (s.me : Int) : Key)) hc
    rw [far s.me r.good.me] at dm
    clear far
    cases ef : s.far s.me dn with
    | none =>
      have hs := spec_far_none (s := s) hd64 ef
      rw [ef] at dm
      refine ⟨c, rfl, .inl ⟨_, .inl hc⟩, _, rfl, a, _, dx, _, _, rfl, s1 _ _ h1, T.c_Router, T.n_Router_me, RF_me .., _, rfl, _, dm, ?_⟩
      refine ⟨(by show 1 ≤ sizeLine; decide), fun b hb => ?_⟩
      exact (q _ _ hs).one r1 s1.calm hb
    | some y =>
      have hs := spec_far_some (s := s) hd64 ef
      rw [ef] at dm
      refine ⟨c, rfl, .inl ⟨_, .inl hc⟩, _, rfl, a, _, dx, _, _, rfl, s1 _ _ h1, T.c_Router, T.n_Router_me, RF_me .., _, rfl, _, dm, ?_⟩
      refine ⟨(by show 1 ≤ sizeLine; decide), fun b hb => ?_⟩
      exact (q _ _ hs).one r1 s1.calm hb
def sp_lines_on (A : Adr) : Sp := fun vs H Q _ => ∃ (a l k w : Addr) (ds : List Addr) (ls : List (Nat × Nat)) (s : Ql82.St) (d : Int), vs = [.ref a, .int d] ∧ RAt A H a l k w ds ls s ∧
  ∀ t x, Ql82.spec (some s) (.ways d) = (some t, x) → Ends A H a Q t (outOf x)
theorem ok_Router_lines_on (T : Txt K mg A) : FnOk P w K mg base CX0 5 A.f_Router_lines_on A.d_Router_lines_on pm_Router_lines_on (sp_lines_on A) := by
  refine T.F_Router_lines_on.ok sc_Router_lines_on (fun vs H Q E h => ?_) (fun cdv Ar outer s H vs Q E hr h => ?_)
  · obtain ⟨a, l, k, w', ds, ls, s, d, rfl, _⟩ := h
    rfl
  · obtain ⟨a, l, k, w', ds, ls, s, d, rfl, r, q⟩ := h
    obtain ⟨dx, h1⟩ := id r.ob
    refine ⟨_, (pss_cons (ps_if (pt_not (pt_val (pe_call (ok_is_router T) (hr.mono (by decide)) rfl T.g_is_router T.k_is_router T.b_is_router .nil pass0 (pa_cons (pv 1) pa_nil))))
      (pss_one (ps_ret (pe_lst (pa_cons (pe_un un_neg pe_int) pa_nil))))
      pss_nil)
      (pss_cons (ps_set (i := 2) sc_Router_lines_on.nd rfl (Or.inl rfl) (pe_call (ok_least_costs_to T) (hr.mono (by decide)) rfl T.g_least_costs_to T.k_least_costs_to T.b_least_costs_to .nil pass0 (pa_cons (pe_fld (pv 0) rfl) (pa_cons (pv 1) pa_nil))))
      (pss_cons (ps_set (i := 3) sc_Router_lines_on.nd rfl (Or.inl rfl) pe_int)
      (pss_cons (ps_for PassesOwn.never rfl (pi_range1 rfl T.z_range (pa_cons (pe_glob (v := V.int 8) rfl T.g_LINES ⟨_, rfl⟩) pa_nil)) (pg_name (i := 4) sc_Router_lines_on.nd rfl (Or.inl rfl))
      (pss_one (ps_if (pt_val (pe_meth (pv 0) T.c_Router T.m_Router_leads_on (ok_Router_leads_on T) (hr.mono (by decide)) T.b_Router_leads_on .nil pass0 (pa_cons (pv 4) (pa_cons (pv 2) pa_nil))))
      (pss_one (ps_aug (i := 3) sc_Router_lines_on.nd rfl (Or.inl rfl) (pe_op op_shl pe_int (pv 4)) ip_add))
      pss_nil)))
      (pss_one (ps_ret (pe_lst (pa_cons (pv 3) pa_nil)))))))), ?_⟩
    refine ⟨_, rfl, d, rfl, _, rfl, ?_⟩
    refine ite2 (fun z => ?_) (fun z => ?_)
    · refine ⟨_, rfl, (by show 1 ≤ sizeLine; decide), fun b hb => ?_⟩
      exact (q _ _ (spec_ways_bad fun y => by simp [y] at z)).one r (Same.refl H).calm hb
    have hd : 0 ≤ d ∧ d < 64 := by simpa using z
    clear z
    obtain ⟨dn, rfl⟩ := nat_of hd.1
    have hd64 : dn < 64 := by omega
    have hs := spec_ways_ok r.good hd64
    refine ⟨_, rfl, a, _, dx, _, _, rfl, h1, T.c_Router, T.n_Router_known, RF_known .., _, rfl, k, dn, s, rfl, hd64, r.kn, r.good, fun H1 c kvs s1 nc hc far => ?_⟩
    have r1 := r.same s1
    refine ⟨8, rfl, by decide, by decide, for_range (lo := 0) (n := 8) (fun i σ H' => ∃ v : Option V, σ = [some (.ref a), some (.int (dn : Int)), some (.ref c), some (.int (upTo (leads s dn) i : Nat)), v] ∧ H' = H1)
      ⟨none, rfl, rfl⟩ ?_ ?_⟩
    · rintro i σ H' hi ⟨v, rfl, rfl⟩
      rw [show (0 : Int) + (i : Nat) = ((i : Nat) : Int) by omega]
      have hi8 : i < 8 := hi
      refine ⟨_, rfl, a, dx, _, rfl, s1 _ _ h1, RF_no _ _ _ _ (by decide +kernel) (by decide +kernel) (by decide +kernel) (by decide +kernel), _, rfl, _, rfl, a, l, k, w', c, ds, ls, s, i, dn, kvs, rfl, r1, hi8, hd64, hc, far, _, rfl, ?_⟩
      have es := upTo_succ (leads s dn) i
      cases hl : leads s dn i with
      | true =>
        refine iteT ?_
        rw [if_pos hl] at es
        refine ⟨_, rfl, _, rfl, _, _, rfl, rfl, ⟨by omega, by omega, by decide⟩, _, _, rfl, rfl, ?_⟩
        have ev : ((upTo (leads s dn) i : Nat) : Int) + 1 * 2 ^ ((i : Int)).toNat = ((upTo (leads s dn) (i + 1) : Nat) : Int) := by
          rw [es, Int.natCast_add, Int.natCast_pow, Int.one_mul]
          rfl
        refine ⟨some (.int (i : Int)), ?_, rfl⟩
        rw [← ev]
        rfl
      | false =>
        refine iteF ?_
        rw [if_neg (by rw [hl]; decide), Nat.add_zero] at es
        refine ⟨some (.int (i : Int)), ?_, rfl⟩
        rw [es]
        rfl
    · rintro σ H' ⟨v, rfl, rfl⟩
      refine ⟨_, rfl, (by show 1 ≤ sizeLine; decide), fun b hb => ?_⟩
      exact (q _ _ hs).one r1 s1.calm hb
end
end KR

namespace KR
open PySem PySem.Spec PyProof.Rows L2
theorem vI_ints (b : List Nat) : vI b = (b.map fun (n : Nat) => (n : Int)).map V.int := by
  unfold vI
  rw [List.map_map]
  rfl
theorem given_no {b : List Nat} {m : Nat} (h : m < b.length) : Ql82.given b m = Ql82.only (-5) := by
  unfold Ql82.given
  rw [if_pos h]
theorem given_yes {b : List Nat} {m : Nat} (h : ¬ m < b.length) : Ql82.given b m = ⟨(b.length : Int), b⟩ := by
  unfold Ql82.given
  rw [if_neg h]
section
variable {P : Program} {w : World} {K : PySem.W.Frag} {mg : Str → Option Value} {base : Heap} {A : Adr}
def sp_answer_that_tells (A : Adr) : Sp := fun vs H Q _ => ∃ (t : Addr) (x m : Nat) (ad : Ql82.Ad), vs = [.ref t, .int (m : Int)] ∧ ToldAt A H t x ad ∧ AdOk x ad ∧
  ∀ (H' : Hp) (o : Addr), Same H H' → H o = none → H' o = some (.lst ((outOf (Ql82.given (Ql82.told x ad) m)).map V.int)) → Q (.ref o) H'
theorem ok_answer_that_tells (T : Txt K mg A) : FnOk P w K mg base CX0 2 A.f_answer_that_tells A.d_answer_that_tells pm_answer_that_tells (sp_answer_that_tells A) := by
  refine T.F_answer_that_tells.ok sc_answer_that_tells (fun vs H Q E h => ?_) (fun cdv Ar outer s H vs Q E hr h => ?_)
  · obtain ⟨t, x, m, ad, rfl, _⟩ := h
    rfl
  · obtain ⟨t, x, m, ad, rfl, told, hok, q⟩ := h
    refine ⟨_, (pss_cons (ps_set (i := 2) sc_answer_that_tells.nd rfl (Or.inl rfl) (pe_call (ok_message_of T) (hr.mono (by decide)) rfl T.g_message_of T.k_message_of T.b_message_of .nil pass0 (pa_cons (pv 0) pa_nil)))
      (pss_cons (ps_if (pt_cmpR op_gt (pe_callB call_len_seq (by rfl) T.z_len PySem.boot_len (pa_cons (pv 2) pa_nil)) (pv 1) (nomark _))
      (pss_one (ps_ret (pe_lst (pa_cons (pe_un un_neg pe_int) pa_nil))))
      pss_nil)
      (pss_one (ps_ret (pe_op op_cat (pe_lst (pa_cons (pe_callB call_len_seq (by rfl) T.z_len PySem.boot_len (pa_cons (pv 2) pa_nil)) pa_nil)) (pv 2)))))), ?_⟩
    refine ⟨_, rfl, t, x, ad, rfl, told, hok, fun H1 o s1 no ho => ?_⟩
    refine ⟨_, rfl, o, _, rfl, .inl (SqL.of ho), _, rfl, _, _, rfl, rfl, _, rfl, ?_⟩
    rw [vI_len]
    by_cases hlen : m < (Ql82.told x ad).length
    · rw [decide_eq_true (by omega : (m : Int) < ((Ql82.told x ad).length : Int))]
      refine iteT ?_
      rw [given_no hlen] at q
      refine ⟨_, rfl, (by show 1 ≤ sizeLine; decide), fun b hb => ?_⟩
      exact q _ b (s1.trans (same_new hb)) (s1.free hb) upd_same
    · rw [decide_eq_false (by omega : ¬ (m : Int) < ((Ql82.told x ad).length : Int))]
      refine iteF ?_
      rw [given_yes hlen] at q
      refine ⟨_, rfl, o, _, rfl, .inl (SqL.of ho), (by show 1 ≤ sizeLine; decide), fun g hg2 => ?_⟩
      have go : o ≠ g := ne_of_none ho hg2
      have hfew := hok.few
      refine ⟨_, rfl, g, o, _, _, rfl, rfl, upd_same, (by rw [upd_ne go]; exact ho), ?_, fun u hu2 => ?_⟩
      · rw [vI_len, told_len]
        exact Nat.le_trans (by show 1 + (6 + 3 * ad.roads.length) ≤ 300; omega) (by decide)
      · have sg : Same H1 (upd H1 g (.lst [V.int ((vI (Ql82.told x ad)).length : Int)])) := same_new hg2
        refine q _ u ((s1.trans sg).trans (same_new hu2)) ((s1.trans sg).free hu2) ?_
        rw [upd_same, vI_len, vI_ints]
        rfl
theorem spec_look_bad {s : Ql82.St} {x : Int} {m : Nat} (h : ¬ ((0 ≤ x ∧ x < 64) ∧ m ≤ 65536)) : Ql82.spec (some s) (.look x m) = (some s, Ql82.only (-2)) := by
  simp only [Ql82.spec]
  rw [if_pos]
  by_cases h1 : 0 ≤ x ∧ x < 64
  · exact .inr (by show 65536 < m; have : ¬ m ≤ 65536 := fun z => h ⟨h1, z⟩; omega)
  · exact .inl (between_no fun z => h1 ⟨z.1, by have := z.2; omega⟩)
theorem look_fine {x : Nat} {m : Nat} (h : x < 64) (h1 : m ≤ 65536) : ¬ (Ql82.between (x : Int) 0 63 = false ∨ Ql82.ROOM < m) := by
  rw [between_yes (by constructor <;> omega)]
  rintro (z | z)
  · cases z
  · have : (65536 : Nat) < m := z
    omega
theorem spec_look_none {s : Ql82.St} {x : Nat} {m : Nat} (h : x < 64) (h1 : m ≤ 65536) (e : s.ads x = none) : Ql82.spec (some s) (.look (x : Int) m) = (some s, Ql82.only (-1)) := by
  simp only [Ql82.spec]
  rw [if_neg (look_fine h h1), Int.toNat_natCast, e]
theorem spec_look_some {s : Ql82.St} {x : Nat} {m : Nat} {ad : Ql82.Ad} (h : x < 64) (h1 : m ≤ 65536) (e : s.ads x = some ad) : Ql82.spec (some s) (.look (x : Int) m) = (some s, Ql82.given (Ql82.told x ad) m) := by
  simp only [Ql82.spec]
  rw [if_neg (look_fine h h1), Int.toNat_natCast, e]
def sp_look (A : Adr) : Sp := fun vs H Q _ => ∃ (a l k w : Addr) (ds : List Addr) (ls : List (Nat × Nat)) (s : Ql82.St) (x : Int) (m : Nat), vs = [.ref a, .int x, .int (m : Int)] ∧ RAt A H a l k w ds ls s ∧
  ∀ t y, Ql82.spec (some s) (.look x m) = (some t, y) → Ends A H a Q t (outOf y)
theorem ok_Router_look (T : Txt K mg A) : FnOk P w K mg base CX0 3 A.f_Router_look A.d_Router_look pm_Router_look (sp_look A) := by
  refine T.F_Router_look.ok sc_Router_look (fun vs H Q E h => ?_) (fun cdv Ar outer s H vs Q E hr h => ?_)
  · obtain ⟨a, l, k, w', ds, ls, s, x, m, rfl, _⟩ := h
    rfl
  · obtain ⟨a, l, k, w', ds, ls, s, x, m, rfl, r, q⟩ := h
    have hu := hu_of hr
    obtain ⟨dx, h1⟩ := id r.ob
    obtain ⟨kvs, hk, kk⟩ := id r.kn
    refine ⟨_, (pss_cons (ps_if (PW.pt (pw_or (pt_not (pt_val (pe_call (ok_is_router T) (hr.mono (by decide)) rfl T.g_is_router T.k_is_router T.b_is_router .nil pass0 (pa_cons (pv 1) pa_nil)))) (pw_or1 (pt_cmpR op_gt (pv 2) (pe_glob (v := V.int 65536) rfl T.g_MOST_BYTES ⟨_, rfl⟩) (nomark _)))))
      (pss_one (ps_ret (pe_lst (pa_cons (pe_un un_neg pe_int) pa_nil))))
      pss_nil)
      (pss_cons (ps_if (pt_cmp (pc_dnotin hu (pv 1) (pe_fld (pv 0) rfl)))
      (pss_one (ps_ret (pe_lst (pa_cons (pe_un un_neg pe_int) pa_nil))))
      pss_nil)
      (pss_one (ps_ret (pe_call (ok_answer_that_tells T) (hr.mono (by decide)) rfl T.g_answer_that_tells T.k_answer_that_tells T.b_answer_that_tells .nil pass0 (pa_cons (pe_dget hu (pe_fld (pv 0) rfl) (pv 1) (fun _ _ => rfl)) (pa_cons (pv 2) pa_nil))))))), ?_⟩
    have bad : ¬ ((0 ≤ x ∧ x < 64) ∧ m ≤ 65536) → ∀ b, H b = none → Q (.ref b) (upd H b (.lst [.int (-2)])) := fun h b hb =>
      Ends.one (q _ _ (spec_look_bad h)) r (Same.refl H).calm hb
    refine ⟨_, rfl, x, rfl, _, rfl, ?_⟩
    refine ite2 (fun z => ?_) (fun z => ?_)
    · refine iteT ⟨_, rfl, (by show 1 ≤ sizeLine; decide), fun b hb => ?_⟩
      exact bad (fun y => by simp [y.1] at z) b hb
    have hx : 0 ≤ x ∧ x < 64 := by simpa using z
    clear z
    refine ⟨_, rfl, _, _, rfl, rfl, _, rfl, ?_⟩
    refine ite2 (fun z => ?_) (fun z => ?_)
    · refine ⟨_, rfl, (by show 1 ≤ sizeLine; decide), fun b hb => ?_⟩
      exact bad (fun y => by have := of_decide_eq_true z; omega) b hb
    have hm : m ≤ 65536 := by
      have : ¬ (65536 : Int) < (m : Int) := fun y => z (decide_eq_true y)
      omega
    clear z bad
    obtain ⟨xn, rfl⟩ := nat_of hx.1
    have hx64 : xn < 64 := by omega
    have dg : DGet H k (.int (xn : Int)) (valV kvs (Sum.inl (xn : Int) : Key)) := DGet.k (k := (Sum.inl (xn : Int) : Key)) hk
    cases ea : s.ads xn with
    | none =>
      have hs := spec_look_none (s := s) hx64 hm ea
      rw [kk.none_ xn ea] at dg
      refine ⟨_, rfl, _, rfl, a, _, dx, _, _, rfl, h1, T.c_Router, T.n_Router_known, RF_known .., k, none, rfl, dg, _, rfl, iteT ?_⟩
      refine ⟨_, rfl, (by show 1 ≤ sizeLine; decide), fun b hb => ?_⟩
      exact (q _ _ hs).one r (Same.refl H).calm hb
    | some ad =>
      have hs := spec_look_some (s := s) hx64 hm ea
      obtain ⟨t, hv, told⟩ := kk.some_ xn ad ea
      rw [hv] at dg
      refine ⟨_, rfl, _, rfl, a, _, dx, _, _, rfl, h1, T.c_Router, T.n_Router_known, RF_known .., k, some _, rfl, dg, _, rfl, iteF ?_⟩
      refine ⟨_, rfl, a, _, dx, _, _, rfl, h1, T.c_Router, T.n_Router_known, RF_known .., _, rfl, k, _, rfl, dg, _, rfl, t, xn, m, ad, rfl, told, (r.good.ad xn ad ea).2, fun H1 o s1 no ho => ?_⟩
      refine q _ _ hs H1 o l k w' ds ls (r.same s1) ho s1.calm fun ns z => ?_
      rw [no] at z
      cases z
end
end KR

namespace KR
open PySem PySem.Spec PyProof.Rows L2
section
variable {P : Program} {w : World} {K : PySem.W.Frag} {mg : Str → Option Value} {base : Heap} {A : Adr}
theorem spec_hear_bad {s : Ql82.St} {p : Int} {b : List Nat} {n : Nat} (h : ¬ (0 ≤ p ∧ p < 8)) : Ql82.spec (some s) (.hear p b n) = (some s, Ql82.only (-2)) := by
  show (if Ql82.between p 0 7 = false ∨ n < 1 ∨ Ql82.LONG < n then _ else _) = _
  refine if_pos (.inl (between_no fun z => h ⟨z.1, by have := z.2; omega⟩))
theorem spec_hear_ok {s : Ql82.St} {p : Nat} {b : List Nat} {n : Nat} (h : p < 8) (h1 : 1 ≤ n) (h2 : n ≤ 64) : Ql82.spec (some s) (.hear p b n) = if s.isUp p = false then (some s, Ql82.only (-1)) else (match Ql82.heard b with
    | none => (some s, Ql82.only (-3))
    | some x => (match s.hear p x.1 x.2 with
      | none => (some s, Ql82.only (-4))
      | some t => (some t.1, Ql82.only (if t.2 = true then 1 else 0)))) := by
  show (if Ql82.between p 0 7 = false ∨ n < 1 ∨ Ql82.LONG < n then _ else (if s.isUp (p : Int).toNat = false then (some s, Ql82.only (-1)) else (match Ql82.heard b with
    | none => (some s, Ql82.only (-3))
    | some x => (match s.hear (p : Int).toNat x.1 x.2 with
      | none => (some s, Ql82.only (-4))
      | some t => (some t.1, Ql82.only (if t.2 = true then 1 else 0)))))) = _
  rw [if_neg]
  · rfl
  · rw [between_yes (by constructor <;> omega)]
    rintro (z | z | z)
    · cases z
    · omega
    · have : (64 : Nat) < n := z
      omega
def sp_hear (K : PySem.W.Frag) (A : Adr) : Sp := fun vs H Q _ => ∃ (a l k w b : Addr) (ds : List Addr) (ls : List (Nat × Nat)) (s : Ql82.St) (p : Int) (ns : List Nat), vs = [.ref a, .int p, .ref b] ∧ RAt A H a l k w ds ls s ∧ SqL K H b (vI ns) ∧ (∀ x ∈ ns, x < 256) ∧ 1 ≤ ns.length ∧ ns.length ≤ 64 ∧
  ∀ t x, Ql82.spec (some s) (.hear p ns ns.length) = (some t, x) → Ends A H a Q t (outOf x)
theorem adOk_of {b : List Nat} (h : ∀ x ∈ b, x < 256) {x : Nat} {ad : Ql82.Ad} (e : Ql82.heard b = some (x, ad)) : x < 64 ∧ AdOk x ad := by
  by_cases hl : hasLen b
  · by_cases hw : Wf (b.getD 0 0) (numOf b) (roadsIn b)
    · rw [(heard_has hl).1 hw] at e
      cases e
      exact ⟨hw.1, adOk_heard h hl hw⟩
    · rw [(heard_has hl).2 hw] at e; cases e
  · rw [heard_not hl] at e; cases e
theorem ok_Router_hear (T : Txt K mg A) : FnOk P w K mg base CX0 5 A.f_Router_hear A.d_Router_hear pm_Router_hear (sp_hear K A) := by
  refine T.F_Router_hear.ok sc_Router_hear (fun vs H Q E h => ?_) (fun cdv Ar outer s H vs Q E hr h => ?_)
  · obtain ⟨a, l, k, w', b, ds, ls, s, p, ns, rfl, _⟩ := h
    rfl
  · obtain ⟨a, l, k, w', b, ds, ls, s, p, ns, rfl, r, hS, hB, hn1, hn2, q⟩ := h
    obtain ⟨dx, h1⟩ := id r.ob
    refine ⟨_, (pss_cons (ps_if (pt_not (pt_val (pe_call (ok_is_line T) (hr.mono (by decide)) rfl T.g_is_line T.k_is_line T.b_is_line .nil pass0 (pa_cons (pv 1) pa_nil))))
      (pss_one (ps_ret (pe_lst (pa_cons (pe_un un_neg pe_int) pa_nil))))
      pss_nil)
      (pss_cons (ps_if (pt_not (pt_val (pe_meth (pv 0) T.c_Router T.m_Router_is_up (ok_Router_is_up T) (hr.mono (by decide)) T.b_Router_is_up .nil pass0 (pa_cons (pv 1) pa_nil))))
      (pss_one (ps_ret (pe_lst (pa_cons (pe_un un_neg pe_int) pa_nil))))
      pss_nil)
      (pss_cons (ps_set (i := 3) sc_Router_hear.nd rfl (Or.inl rfl) (pe_call (ok_read_message T) (hr.mono (by decide)) rfl T.g_read_message T.k_read_message T.b_read_message .nil pass0 (pa_cons (pv 2) pa_nil)))
      (pss_cons (ps_if (pt_cmpR op_isN (pv 3) pe_non (nomark _))
      (pss_one (ps_ret (pe_lst (pa_cons (pe_un un_neg pe_int) pa_nil))))
      pss_nil)
      (pss_cons (ps_if (pt_cmpR op_eq (pe_fld (pv 3) rfl) (pe_fld (pv 0) rfl) (nomark _))
      (pss_one (ps_ret (pe_meth (pv 0) T.c_Router T.m_Router_hear_of_itself (ok_Router_hear_of_itself T) (hr.mono (by decide)) T.b_Router_hear_of_itself .nil pass0 (pa_cons (pv 1) (pa_cons (pv 3) pa_nil)))))
      pss_nil)
      (pss_one (ps_ret (pe_meth (pv 0) T.c_Router T.m_Router_hear_of_another (ok_Router_hear_of_another T) (hr.mono (by decide)) T.b_Router_hear_of_another .nil pass0 (pa_cons (pv 1) (pa_cons (pv 3) pa_nil)))))))))), ?_⟩
    refine ⟨_, rfl, p, rfl, _, rfl, ?_⟩
    refine ite2 (fun z => ?_) (fun z => ?_)
    · refine ⟨_, rfl, (by show 1 ≤ sizeLine; decide), fun c hc => ?_⟩
      exact (q _ _ (spec_hear_bad fun y => by simp [y] at z)).one r (Same.refl H).calm hc
    have hp8 : 0 ≤ p ∧ p < 8 := by simpa using z
    clear z
    obtain ⟨pn, rfl⟩ := nat_of hp8.1
    have hp : pn < 8 := by omega
    have hs := spec_hear_ok (s := s) (p := pn) (b := ns) hp hn1 hn2
    refine ⟨_, rfl, a, dx, _, rfl, h1, RF_no _ _ _ _ (by decide +kernel) (by decide +kernel) (by decide +kernel) (by decide +kernel), _, rfl, a, pn, s.me, l, k, w', ls, rfl, r.ob, r.row, by rw [r.l8]; exact hp, _, rfl, ?_⟩
    rw [r.up]
    cases hup : s.isUp pn with
    | false =>
      refine iteT ?_
      rw [if_pos hup] at hs
      refine ⟨_, rfl, (by show 1 ≤ sizeLine; decide), fun c hc => ?_⟩
      exact (q _ _ hs).one r (Same.refl H).calm hc
    | true =>
      refine iteF ?_
      rw [if_neg (by rw [hup]; decide)] at hs
      refine ⟨_, rfl, b, ns, rfl, hS, fun hd H1 s1 => ?_, fun x ad hd H1 t s1 nt told => ?_⟩
      · rw [hd] at hs
        refine ⟨_, rfl, rfl, _, rfl, ?_⟩
        refine iteT ?_
        refine ⟨_, rfl, (by show 1 ≤ sizeLine; decide), fun c hc => ?_⟩
        exact (q _ _ hs).one (r.same s1) s1.calm hc
      · rw [hd] at hs
        have hs' : Ql82.spec (some s) (.hear pn ns ns.length) = (match s.hear pn x ad with
          | none => (some s, Ql82.only (-4))
          | some t => (some t.1, Ql82.only (if t.2 = true then 1 else 0))) := hs
        clear hs
        obtain ⟨hx, hok⟩ := adOk_of hB hd
        have r1 := r.same s1
        obtain ⟨dx1, h11⟩ := id r1.ob
        obtain ⟨dxt, rt, ht, htr⟩ := id told
        refine ⟨_, rfl, rfl, _, rfl, ?_⟩
        rw [show decide (V.ref t = V.non) = false from rfl]
        refine iteF ?_
        refine ⟨_, rfl, t, _, dxt, _, _, rfl, ht, T.c_Told, T.n_Told_name, TF_name .., _, rfl, a, _, dx1, _, _, rfl, h11, T.c_Router, T.n_Router_me, RF_me .., rfl, _, rfl, ?_⟩
        by_cases hm : x = s.me
        · have ev : decide (V.int (x : Int) = V.int (s.me : Int)) = true := decide_eq_true (by rw [hm])
          rw [ev]
          refine iteT ?_
          subst hm
          refine ⟨_, rfl, a, dx1, _, rfl, h11, RF_no _ _ _ _ (by decide +kernel) (by decide +kernel) (by decide +kernel) (by decide +kernel), _, rfl, _, rfl, a, l, k, w', t, ds, ls, s, pn, ad, rfl, r1, hp, hup, told, hok, fun t' b hb => ?_, fun hb => ?_⟩
          · rw [hb] at hs'
            have qq := (q _ _ hs').calm s1.calm
            cases b <;> exact qq
          · rw [hb] at hs'
            exact (q _ _ hs').calm s1.calm
        · have ev : decide (V.int (x : Int) = V.int (s.me : Int)) = false := decide_eq_false (by intro z; injection z with z; exact hm (by omega))
          rw [ev]
          refine iteF ?_
          refine ⟨_, rfl, a, dx1, _, rfl, h11, RF_no _ _ _ _ (by decide +kernel) (by decide +kernel) (by decide +kernel) (by decide +kernel), _, rfl, _, rfl, a, l, k, w', t, ds, ls, s, pn, x, ad, rfl, r1, hp, hup, told, hx, hok, hm, fun t' b hb => ?_⟩
          rw [hb] at hs'
          have qq := (q _ _ hs').calm s1.calm
          cases b <;> exact qq

theorem spec_next_bad {s : Ql82.St} {p : Int} {m : Nat} (h : ¬ ((0 ≤ p ∧ p < 8) ∧ m ≤ 65536)) : Ql82.spec (some s) (.next p m) = (some s, Ql82.only (-2)) := by
  show (if Ql82.between p 0 7 = false ∨ Ql82.ROOM < m then _ else _) = _
  refine if_pos ?_
  by_cases h1 : 0 ≤ p ∧ p < 8
  · exact .inr (by show 65536 < m; have : ¬ m ≤ 65536 := fun z => h ⟨h1, z⟩; omega)
  · exact .inl (between_no fun z => h1 ⟨z.1, by have := z.2; omega⟩)
theorem spec_next_ok {s : Ql82.St} {p : Nat} {m : Nat} (h : p < 8) (h1 : m ≤ 65536) : Ql82.spec (some s) (.next p m) = (match s.next p with
    | none => (some s, Ql82.only (-1))
    | some x => if m < (Ql82.told x.1 x.2.1).length then (some s, Ql82.only (-5)) else (some x.2.2, Ql82.given (Ql82.told x.1 x.2.1) m)) := by
  show (if Ql82.between p 0 7 = false ∨ Ql82.ROOM < m then _ else (match s.next (p : Int).toNat with
    | none => (some s, Ql82.only (-1))
    | some x => if m < (Ql82.told x.1 x.2.1).length then (some s, Ql82.only (-5)) else (some x.2.2, Ql82.given (Ql82.told x.1 x.2.1) m))) = _
  rw [if_neg]
  · rfl
  · rw [between_yes (by constructor <;> omega)]
    rintro (z | z)
    · cases z
    · have : (65536 : Nat) < m := z
      omega
theorem ints_eqv : ∀ a b : List Int, PyData.eqvAll (a.map PyData.int) (b.map PyData.int) = decide (a = b)
  | [], [] => by simp [PyData.eqvAll]
  | [], b :: bs => by simp [PyData.eqvAll]
  | a :: as, [] => by simp [PyData.eqvAll]
  | a :: as, b :: bs => by
    have ih := ints_eqv as bs
    simp only [List.map_cons, PyData.eqvAll, PyData.eqv, ih]
    by_cases c : a = b
    · by_cases c2 : as = bs
      · simp [c, c2]
      · simp [c, c2]
    · simp [c]
theorem ints_lay : ∀ a : List Int, PyData.canLayAll0 (a.map PyData.int) = true
  | [] => by simp [PyData.canLayAll0]
  | a :: as => by
    have ih := ints_lay as
    simp [PyData.canLayAll0, PyData.canLay0, ih]
theorem ints_depth : ∀ a : List Int, PyData.depthAll (a.map PyData.int) ≤ 10
  | [] => by simp [PyData.depthAll]
  | a :: as => by
    have ih := ints_depth as
    simp [PyData.depthAll, PyData.depth]
    omega
theorem ints_shaped (a : List Int) : SeqAt.shaped (.list (a.map PyData.int)) = true := by
  unfold SeqAt.shaped
  rw [Bool.and_eq_true, decide_eq_true_iff]
  have := ints_depth a
  exact ⟨by simp [PyData.canLay0, ints_lay], by simp [PyData.depth]; omega⟩
theorem ints_same (a b : List Int) : PyData.eqv (.list (a.map PyData.int)) (.list (b.map PyData.int)) = decide (a = b) := by
  rw [PyData.eqv]
  exact ints_eqv a b
theorem dp_ints {K : PySem.W.Frag} {H : Hp} {l : Addr} {a : List Int} (h : H l = some (.lst (a.map V.int))) : Dp K H (.ref l) (.list (a.map PyData.int)) := by
  refine .lst (SqL.of h) ?_
  clear h
  induction a with
  | nil => exact .nil
  | cons x r ih => exact .cons (.int x) ih
def sp_tell_next (A : Adr) : Sp := fun vs H Q _ => ∃ (a l k w : Addr) (ds : List Addr) (ls : List (Nat × Nat)) (s : Ql82.St) (p : Int) (m : Nat), vs = [.ref a, .int p, .int m] ∧ RAt A H a l k w ds ls s ∧
  ∀ t x, Ql82.spec (some s) (.next p m) = (some t, x) → Ends A H a Q t (outOf x)
theorem ok_Router_tell_next (T : Txt K mg A) : FnOk P w K mg base CX0 3 A.f_Router_tell_next A.d_Router_tell_next pm_Router_tell_next (sp_tell_next A) := by
  refine T.F_Router_tell_next.ok sc_Router_tell_next (fun vs H Q E h => ?_) (fun cdv Ar outer s H vs Q E hr h => ?_)
  · obtain ⟨a, l, k, w', ds, ls, s, p, m, rfl, _⟩ := h
    rfl
  · obtain ⟨a, l, k, w', ds, ls, s, p, m, rfl, r, q⟩ := h
    have hu := hu_of hr
    obtain ⟨dx, h1⟩ := id r.ob
    obtain ⟨kvs, hk, kk⟩ := id r.kn
    refine ⟨_, (pss_cons (ps_if (PW.pt (pw_or (pt_not (pt_val (pe_call (ok_is_line T) (hr.mono (by decide)) rfl T.g_is_line T.k_is_line T.b_is_line .nil pass0 (pa_cons (pv 1) pa_nil)))) (pw_or1 (pt_cmpR op_gt (pv 2) (pe_glob (v := V.int 65536) rfl T.g_MOST_BYTES ⟨_, rfl⟩) (nomark _)))))
      (pss_one (ps_ret (pe_lst (pa_cons (pe_un un_neg pe_int) pa_nil))))
      pss_nil)
      (pss_cons (ps_if (pt_not (pt_truth (pe_ix ix_list (pe_fld (pv 0) rfl) (pv 1) (fun _ _ => rfl)) (by intro _; rfl)))
      (pss_one (ps_ret (pe_lst (pa_cons (pe_un un_neg pe_int) pa_nil))))
      pss_nil)
      (pss_cons (ps_set (i := 3) sc_Router_tell_next.nd rfl (Or.inl rfl) (pe_callB (cr_minK rfl) (by rfl) T.z_min (by decide +kernel) (pa_cons (pe_ix ix_list (pe_fld (pv 0) rfl) (pv 1) (fun _ _ => rfl)) pa_nil)))
      (pss_cons (ps_set (i := 4) sc_Router_tell_next.nd rfl (Or.inl rfl) (pe_call (ok_answer_that_tells T) (hr.mono (by decide)) rfl T.g_answer_that_tells T.k_answer_that_tells T.b_answer_that_tells .nil pass0 (pa_cons (pe_dget hu (pe_fld (pv 0) rfl) (pv 3) (fun _ _ => rfl)) (pa_cons (pv 2) pa_nil))))
      (pss_cons (ps_if (pt_cmpR (op_neD hr.units) (pv 4) (pe_lst (pa_cons (pe_un un_neg pe_int) pa_nil)) (nomark _))
      (pss_one (ps_expr (pe_meth (pv 0) T.c_Router T.m_Router_wait_no_more (ok_Router_wait_no_more T) (hr.mono (by decide)) T.b_Router_wait_no_more .nil pass0 (pa_cons (pv 1) (pa_cons (pv 3) pa_nil)))))
      pss_nil)
      (pss_one (ps_ret (pv 4)))))))), ?_⟩
    have bad : ¬ ((0 ≤ p ∧ p < 8) ∧ m ≤ 65536) → ∀ b, H b = none → Q (.ref b) (upd H b (.lst [.int (-2)])) := fun h b hb =>
      Ends.one (q _ _ (spec_next_bad h)) r (Same.refl H).calm hb
    refine ⟨_, rfl, p, rfl, _, rfl, ?_⟩
    refine ite2 (fun z => ?_) (fun z => ?_)
    · refine iteT ⟨_, rfl, (by show 1 ≤ sizeLine; decide), fun b hb => ?_⟩
      exact bad (fun y => by simp [y.1] at z) b hb
    have hp8 : 0 ≤ p ∧ p < 8 := by simpa using z
    clear z
    refine ⟨_, rfl, _, _, rfl, rfl, _, rfl, ?_⟩
    refine ite2 (fun z => ?_) (fun z => ?_)
    · refine ⟨_, rfl, (by show 1 ≤ sizeLine; decide), fun b hb => ?_⟩
      exact bad (fun y => by have := of_decide_eq_true z; omega) b hb
    have hm : m ≤ 65536 := by
      have : ¬ (65536 : Int) < (m : Int) := fun y => z (decide_eq_true y)
      omega
    clear z bad
    obtain ⟨pn, rfl⟩ := nat_of hp8.1
    have hp : pn < 8 := by omega
    have hs := spec_next_ok (s := s) hp hm
    obtain ⟨d, kv, e1, e2, e3⟩ := r.wa.get hp
    obtain ⟨ns, ek, nd, n64, nl, nm⟩ := e3.1.ns
    have nw : ∀ x, x ∈ ns ↔ s.waits pn x = true := fun x => by rw [nm, e3.2]
    refine ⟨_, rfl, a, _, dx, _, _, rfl, h1, T.c_Router, T.n_Router_waits, RF_waits .., _, rfl, w', _, _, _, rfl, rfl, SqL.of r.wa.ls, at_of rfl (refs_get e1), _, .inr (.inr ⟨kv, e2, rfl⟩), ?_⟩
    cases kv with
    | nil =>
      refine iteT ?_
      have hnone : s.next pn = none := next_none fun y => by
        have : ns = [] := List.length_eq_zero_iff.mp (by rw [nl]; rfl)
        cases c : s.waits pn y with
        | false => rfl
        | true => have := (nw y).mpr c; rw [‹ns = []›] at this; cases this
      rw [hnone] at hs
      refine ⟨_, rfl, (by show 1 ≤ sizeLine; decide), fun b hb => ?_⟩
      exact (q _ _ hs).one r (Same.refl H).calm hb
    | cons kv0 kvr =>
      refine iteF ?_
      have nne : (ns.map fun (n : Nat) => (n : Int)) ≠ [] := fun z => by
        have : ns.length = 0 := by rw [← List.length_map (f := fun (n : Nat) => (n : Int)), z]; rfl
        rw [nl] at this
        cases this
      refine ⟨_, rfl, a, _, dx, _, _, rfl, h1, T.c_Router, T.n_Router_waits, RF_waits .., _, rfl, w', _, _, _, rfl, rfl, SqL.of r.wa.ls, at_of rfl (refs_get e1), d, _, _, rfl, e2, ek, nne, fun mz hmz hle => ?_⟩
      obtain ⟨x, hxn, rfl⟩ := List.mem_map.mp hmz
      have hwx := (nw x).mp hxn
      obtain ⟨ad, had, hnext⟩ := next_is r.good hwx fun y hy => by
        have := hle (y : Int) (List.mem_map.mpr ⟨y, (nw y).mpr hy, rfl⟩)
        omega
      rw [hnext] at hs
      have hs' : Ql82.spec (some s) (.next pn m) = if m < (Ql82.told x ad).length then (some s, Ql82.only (-5)) else (some (s.wait pn x false), Ql82.given (Ql82.told x ad) m) := hs
      clear hs
      obtain ⟨t0, hv, told⟩ := kk.some_ x ad had
      have hg := DGet.k (k := (Sum.inl (x : Int) : Key)) hk
      rw [hv] at hg
      obtain ⟨hx64, hok⟩ := r.good.ad x ad had
      refine ⟨_, rfl, a, _, dx, _, _, rfl, h1, T.c_Router, T.n_Router_known, RF_known .., _, rfl, k, _, rfl, hg, _, rfl, t0, x, m, ad, rfl, told, hok, fun H1 o s1 no ho => ?_⟩
      refine ⟨_, rfl, _, rfl, (by show 1 ≤ sizeLine; decide), fun b hb => ?_⟩
      have s2 : Same H (upd H1 b (.lst [V.int (-5)])) := s1.trans (same_new hb)
      have ho2 : upd H1 b (.lst [V.int (-5)]) o = some (.lst ((outOf (Ql82.given (Ql82.told x ad) m)).map V.int)) := same_new hb _ _ ho
      have hb2 : upd H1 b (.lst [V.int (-5)]) b = some (.lst (([-5] : List Int).map V.int)) := upd_same
      generalize upd H1 b (.lst [V.int (-5)]) = H2 at s2 ho2 hb2 ⊢
      have r2 := r.same s2
      obtain ⟨dx2, h12⟩ := id r2.ob
      refine ⟨_, _, dp_ints ho2, dp_ints hb2, ints_shaped _, ints_shaped _, _, rfl, ?_⟩
      rw [ints_same]
      by_cases hlen : m < (Ql82.told x ad).length
      · rw [if_pos hlen] at hs'
        rw [given_no hlen] at ho2 ⊢
        rw [show decide (outOf (Ql82.only (-5)) = [-5]) = true from decide_eq_true rfl]
        refine iteF ?_
        refine ⟨_, rfl, ?_⟩
        refine q _ _ hs' H2 o l k w' ds ls r2 ho2 s2.calm fun ns z => ?_
        rw [no] at z
        cases z
      · rw [if_neg hlen] at hs'
        have hne : ¬ outOf (Ql82.given (Ql82.told x ad) m) = [-5] := by
          rw [given_yes hlen]
          intro z
          have z0 : ((Ql82.told x ad).length : Int) = -5 := (List.cons.inj z).1
          omega
        rw [decide_eq_false hne]
        refine iteT ?_
        obtain ⟨d2, kv2, f1, f2, r3, c3⟩ := r2.wait_off x hp
        refine ⟨_, rfl, a, dx2, _, rfl, h12, RF_no _ _ _ _ (by decide +kernel) (by decide +kernel) (by decide +kernel) (by decide +kernel), _, rfl, _, rfl, a, pn, x, s.me, l, k, w', d2, ds, kv2, rfl, r2.ob, r2.wa.ls, f1, f2, ?_⟩
        have od : o ≠ d2 := ne_of ho2 f2 (by intro z; cases z)
        refine ⟨_, rfl, ?_⟩
        refine q _ _ hs' _ o l k w' ds ls r3 (by rw [upd_ne od]; exact ho2) (s2.calm.trans c3) fun ns z => ?_
        rw [no] at z
        cases z
end
end KR

namespace KR
open PySem PySem.Spec PyProof.Rows L2
section
variable {P : Program} {w : World} {K : PySem.W.Frag} {mg : Str → Option Value} {base : Heap} {A : Adr}
theorem putF_few (f : Str) (v : V) : ∀ fs : List (Str × V), (putF f v fs).length ≤ fs.length + 1
  | [] => Nat.le_refl _
  | (g, x) :: r => by
    show (if g = f then (g, v) :: r else (g, x) :: putF f v r).length ≤ r.length + 1 + 1
    have := putF_few f v r
    split
    · simp
    · simp; omega
theorem ne_of_none' {H : Hp} {a b : Addr} {o u : HO} (h : H a = some o) (h' : H b = some u) (n : o ≠ u) : a ≠ b := ne_of h h' n
def sp_begin (A : Adr) : Sp := fun vs H Q _ => ∃ (a dx : Addr) (fs : List (Str × V)) (m : Int), vs = [.ref a, .int m] ∧ H a = some (.ins A.a_Router dx fs) ∧ (fs = [] ∨ ∃ me l k w, fs = RF me l k w) ∧
  (∀ n : Nat, m = (n : Int) → n < 64 → ∀ (H' : Hp) (r l k w : Addr) (ds : List Addr) (ls : List (Nat × Nat)), RAt A H' a l k w ds ls (Ql82.begun n) → H' r = some (.lst [.int 0]) → (∀ b o, H b = some o → b ≠ a → H' b = some o) → (∀ ns : List Int, H r ≠ some (.lst (ns.map V.int))) → Fresh A H H' k → Q (.ref r) H') ∧
  (¬ (0 ≤ m ∧ m < 64) → ∀ r, H r = none → Q (.ref r) (upd H r (.lst [.int (-2)])))
theorem ok_Router_begin (T : Txt K mg A) : FnOk P w K mg base CX0 3 A.f_Router_begin A.d_Router_begin pm_Router_begin (sp_begin A) := by
  refine T.F_Router_begin.ok sc_Router_begin (fun vs H Q E h => ?_) (fun cdv Ar outer s H vs Q E hr h => ?_)
  · obtain ⟨a, dx, fs, m, rfl, _⟩ := h
    rfl
  · obtain ⟨a, dx, fs, m, rfl, h1, hfs, q, qb⟩ := h
    refine ⟨_, (pss_cons (ps_if (pt_not (pt_val (pe_call (ok_is_router T) (hr.mono (by decide)) rfl T.g_is_router T.k_is_router T.b_is_router .nil pass0 (pa_cons (pv 1) pa_nil))))
      (pss_one (ps_ret (pe_lst (pa_cons (pe_un un_neg pe_int) pa_nil))))
      pss_nil)
      (pss_cons (ps_fld (pv 0) (pv 1) rfl)
      (pss_cons (ps_fld (pv 0) (pe_lc (own := [("p", 2)]) (g := gName 2) rfl sc_Router_begin.nd (pi_range1 rfl T.z_range (pa_cons (pe_glob (v := V.int 8) rfl T.g_LINES ⟨_, rfl⟩) pa_nil)) (blkOk_by (own := [("p", 2)]) (N := nm_Router_begin) (sc := defScope st_Router_begin) (by decide +kernel)) (fun _ _ _ _ _ => (pg_name (i := 2) sc_Router_begin.nd rfl (Or.inl rfl))) (fun _ _ _ _ _ => pts_nil) (fun _ _ _ _ _ => (pe_tup (pa_cons pe_int (pa_cons pe_int pa_nil))))) rfl)
      (pss_cons (ps_fld (pv 0) (pe_disp (pps_cons (pv 1) (pe_make T.M_Told (ok_Told_init T) (hr.mono (by decide)) rfl T.g_Told T.b_Told_init .nil pass0 (pa_cons (pv 1) (pa_cons pe_int (pa_cons (pe_lst pa_nil) pa_nil)))) pps_nil) (by rfl) (by rfl) (fun z => by cases z) (by decide)) rfl)
      (pss_cons (ps_fld (pv 0) (pe_lc (own := [("p", 2)]) (g := gName 2) rfl sc_Router_begin.nd (pi_range1 rfl T.z_range (pa_cons (pe_glob (v := V.int 8) rfl T.g_LINES ⟨_, rfl⟩) pa_nil)) (blkOk_by (own := [("p", 2)]) (N := nm_Router_begin) (sc := defScope st_Router_begin) (by decide +kernel)) (fun _ _ _ _ _ => (pg_name (i := 2) sc_Router_begin.nd rfl (Or.inl rfl))) (fun _ _ _ _ _ => pts_nil) (fun _ _ _ _ _ => pe_dnewK)) rfl)
      (pss_one (ps_ret (pe_lst (pa_cons pe_int pa_nil))))))))), ?_⟩
    have fl : fs.length ≤ 4 := by
      rcases hfs with rfl | ⟨_, _, _, _, rfl⟩
      · exact Nat.zero_le _
      · exact Nat.le_refl _
    refine ⟨_, rfl, m, rfl, _, rfl, ?_⟩
    refine ite2 (fun z => ?_) (fun z => ?_)
    · refine ⟨_, rfl, (by show 1 ≤ sizeLine; decide), fun c hc => ?_⟩
      exact qb (fun y => by simp [y] at z) c hc
    have hm : 0 ≤ m ∧ m < 64 := by simpa using z
    clear z qb
    obtain ⟨n, rfl⟩ := nat_of hm.1
    have hn : n < 64 := by omega
    have q := q n rfl hn
    -- self.me = me
    have f1 := putF_few "me" (.int (n : Int)) fs
    refine ⟨_, rfl, _, rfl, a, _, dx, fs, rfl, h1, T.c_Router, T.n_Router_me, (by omega), ?_⟩
    have s1 : ∀ b o, H b = some o → b ≠ a → upd H a (.ins A.a_Router dx (putF "me" (.int (n : Int)) fs)) b = some o := fun b o e n => by rw [upd_ne n]; exact e
    have e1 : upd H a (.ins A.a_Router dx (putF "me" (.int (n : Int)) fs)) a = some (.ins A.a_Router dx (putF "me" (.int (n : Int)) fs)) := upd_same
    generalize upd H a (.ins A.a_Router dx (putF "me" (.int (n : Int)) fs)) = H1 at s1 e1 ⊢
    -- self.lines = [(0, 0) for p in range(LINES)]
    refine ⟨8, rfl, by decide, by decide, fun l hl => ?_⟩
    refine lc_range (lo := 0) (n := 8) (fun i H' => Same H1 H' ∧ RowAt H' l (List.replicate i (0, 0))) ⟨same_new hl, [], upd_same, .nil⟩ ?_ ?_
    · rintro i H' hi ⟨s, ts, g1, g2⟩
      refine ⟨rfl, ?_⟩
      dsimp only [tYes]
      refine iteT ?_
      refine ⟨(by show 2 ≤ sizeLine; decide), fun t ht => ?_⟩
      have lt : l ≠ t := ne_of_none g1 ht
      have htl : ts.length = i := by rw [Paired.length g2, List.length_replicate]
      have kp : ∀ b o, H' b = some o → b ≠ l → upd (upd H' t (.tup [.int 0, .int 0])) l (.lst (ts.map V.ref ++ [V.ref t])) b = some o := fun b o e nb => by
        rw [upd_ne nb, upd_ne (ne_of_none e ht)]; exact e
      refine ⟨_, (by rw [upd_ne lt]; exact g1), by rw [List.length_map, htl]; exact Nat.lt_of_lt_of_le hi (by decide), fun b o e => kp b o (s b o e) (ne_of_none e hl), ts ++ [t], ?_, ?_⟩
      · rw [upd_same, List.map_append]; rfl
      · rw [show List.replicate (i + 1) ((0 : Nat), (0 : Nat)) = List.replicate i (0, 0) ++ [(0, 0)] from List.replicate_succ' ..]
        refine Paired.snoc (Paired.mapP g2 fun c x hc => kp c _ hc fun z => ?_) ?_
        · subst z
          have hc' : H' c = some (.tup [.int (x.1 : Int), .int (x.2 : Int)]) := hc
          rw [g1] at hc'; cases hc'
        · show upd _ l _ t = _
          rw [upd_ne lt.symm, upd_same]; rfl
    rintro H2 ⟨s2, row2⟩
    have f2 := putF_few "lines" (.ref l) (putF "me" (.int (n : Int)) fs)
    refine ⟨_, rfl, a, _, dx, _, rfl, s2 _ _ e1, T.c_Router, T.n_Router_lines, (by omega), ?_⟩
    have al : a ≠ l := ne_of_none e1 hl
    have s3 : ∀ b o, H2 b = some o → b ≠ a → upd H2 a (.ins A.a_Router dx (putF "lines" (.ref l) (putF "me" (.int (n : Int)) fs))) b = some o := fun b o e nb => by rw [upd_ne nb]; exact e
    have e3 : upd H2 a (.ins A.a_Router dx (putF "lines" (.ref l) (putF "me" (.int (n : Int)) fs))) a = some (.ins A.a_Router dx (putF "lines" (.ref l) (putF "me" (.int (n : Int)) fs))) := upd_same
    have row3 : RowAt (upd H2 a (.ins A.a_Router dx (putF "lines" (.ref l) (putF "me" (.int (n : Int)) fs)))) l (List.replicate 8 (0, 0)) := by
      have ea := s2 _ _ e1
      obtain ⟨ts, g1, g2⟩ := row2
      exact ⟨ts, s3 _ _ g1 (ne_of g1 ea (by intro z; cases z)), Paired.mapP g2 fun c x hc => s3 _ _ hc (ne_of hc ea (by intro z; cases z))⟩
    generalize upd H2 a (.ins A.a_Router dx (putF "lines" (.ref l) (putF "me" (.int (n : Int)) fs))) = H3 at s3 e3 row3 ⊢
    -- self.known = {me: Told(me, 1, [])}
    intro k hk
    have ek : upd H3 k (.dK []) k = some (.dK []) := upd_same
    have sk : Same H3 (upd H3 k (.dK [])) := same_new hk
    generalize upd H3 k (.dK []) = H4 at ek sk ⊢
    refine ⟨_, rfl, _, rfl, Nat.zero_le _, fun rr hrr => ?_⟩
    have sr : Same H4 (upd H4 rr (.lst [])) := same_new hrr
    have er : upd H4 rr (.lst []) rr = some (.lst []) := upd_same
    generalize upd H4 rr (.lst []) = H5 at sr er ⊢
    intro x dxx nx ndx nex
    refine ⟨x, dxx, rr, n, 1, rfl, upd_same, fun H6 h6 hk6 => ⟨rfl, ?_⟩⟩
    have s56 : Same H5 H6 := same_made nx ndx hk6
    have told6 : ToldAt A H6 x n ⟨1, []⟩ := ⟨dxx, rr, h6, [], s56 _ _ er, .nil⟩
    have s46 : Same H4 H6 := sr.trans s56
    refine ⟨s46 _ _ ek, [(Sum.inl (n : Int), .ref x)], rfl, (by show 1 ≤ 15; decide), ?_⟩
    have em : mergeK [] [((Sum.inl (n : Int) : Key), V.ref x)] = [(Sum.inl (n : Int), V.ref x)] := rfl
    rw [em]
    have s36 : Same H3 H6 := sk.trans s46
    have s7 : Same H3 (upd H6 k (.dK [(Sum.inl (n : Int), .ref x)])) := fun b o e => by
      rw [upd_ne (ne_of_none e hk)]; exact s36 _ _ e
    have h6k : ∀ (kvs : List (Key × V)) (key : Key) (t dt r : Addr) (y m : Nat), upd H6 k (.dK [(Sum.inl (n : Int), .ref x)]) k = some (.dK kvs) → valV kvs key = some (.ref t) → upd H6 k (.dK [(Sum.inl (n : Int), .ref x)]) t = some (.ins A.a_Told dt (TF y m r)) → r = rr := by
      intro kvs key t dt r y m g1 g2 g3
      rw [upd_same] at g1
      cases g1
      have ex : t = x := by
        by_cases c : (Sum.inl (n : Int) : Key) = key
        · rw [valV_pos c] at g2
          cases g2
          rfl
        · rw [valV_neg c] at g2
          cases g2
      subst ex
      rw [upd_ne (ne_of h6 (s46 _ _ ek) (by intro z; cases z)), h6] at g3
      have g4 := Option.some.inj g3
      injection g4 with _ _ g5
      have g6 := congrArg (List.lookup ("roads" : Str)) g5
      rw [TF_roads, TF_roads] at g6
      cases g6
      rfl
    have hrr3 : H3 rr = none := by
      cases c : H3 rr with
      | none => rfl
      | some u =>
        have := sk _ _ c
        rw [hrr] at this
        cases this
    have hx7 : upd H6 k (.dK [(Sum.inl (n : Int), .ref x)]) x = some (.ins A.a_Told dxx (TF n 1 rr)) := by rw [upd_ne (ne_of h6 (s46 _ _ ek) (by intro z; cases z))]; exact h6
    have hk7 : upd H6 k (.dK [(Sum.inl (n : Int), .ref x)]) k = some (.dK [(Sum.inl (n : Int), .ref x)]) := upd_same
    have k7 : KAt A (upd H6 k (.dK [(Sum.inl (n : Int), .ref x)])) k (Ql82.begun n).ads := by
      have nd7 : NoDict H6 (upd H6 k (.dK [(Sum.inl (n : Int), .ref x)])) := NoDict.upd (s46 _ _ ek)
      refine ⟨_, upd_same, ⟨by simp, fun p hp => ?_⟩, fun y ad e => ?_, fun y e => ?_⟩
      · rw [List.mem_singleton.mp hp]; exact ⟨n, hn, rfl⟩
      · have e' : (if y = n then some (⟨1, []⟩ : Ql82.Ad) else none) = some ad := e
        by_cases c : y = n
        · subst c
          rw [if_pos rfl] at e'
          cases e'
          exact ⟨x, by rw [valV_pos rfl], told6.nodict nd7⟩
        · rw [if_neg c] at e'; cases e'
      · have e' : (if y = n then some (⟨1, []⟩ : Ql82.Ad) else none) = none := e
        have c : ¬ y = n := fun z => by rw [if_pos z] at e'; cases e'
        rw [valV_neg (inl_ne fun z => c z.symm)]; rfl
    generalize upd H6 k (.dK [(Sum.inl (n : Int), .ref x)]) = H7 at s7 k7 h6k hx7 hk7 ⊢
    have f3 := putF_few "known" (.ref k) (putF "lines" (.ref l) (putF "me" (.int (n : Int)) fs))
    refine ⟨_, rfl, a, _, dx, _, rfl, s7 _ _ e3, T.c_Router, T.n_Router_known, (by omega), ?_⟩
    have ea7 := s7 _ _ e3
    have s8 : ∀ b o, H7 b = some o → b ≠ a → upd H7 a (.ins A.a_Router dx (putF "known" (.ref k) (putF "lines" (.ref l) (putF "me" (.int (n : Int)) fs)))) b = some o := fun b o e nb => by rw [upd_ne nb]; exact e
    have e8 : upd H7 a (.ins A.a_Router dx (putF "known" (.ref k) (putF "lines" (.ref l) (putF "me" (.int (n : Int)) fs)))) a = some (.ins A.a_Router dx (putF "known" (.ref k) (putF "lines" (.ref l) (putF "me" (.int (n : Int)) fs)))) := upd_same
    have row8 : RowAt (upd H7 a (.ins A.a_Router dx (putF "known" (.ref k) (putF "lines" (.ref l) (putF "me" (.int (n : Int)) fs))))) l (List.replicate 8 (0, 0)) := by
      obtain ⟨ts, g1, g2⟩ := row3.same s7
      exact ⟨ts, s8 _ _ g1 (ne_of g1 ea7 (by intro z; cases z)), Paired.mapP g2 fun c x hc => s8 _ _ hc (ne_of hc ea7 (by intro z; cases z))⟩
    have k8 : KAt A (upd H7 a (.ins A.a_Router dx (putF "known" (.ref k) (putF "lines" (.ref l) (putF "me" (.int (n : Int)) fs))))) k (Ql82.begun n).ads := by
      obtain ⟨kv, g1, g2⟩ := k7
      refine ⟨kv, s8 _ _ g1 (ne_of g1 ea7 (by intro z; cases z)), g2.keys, fun y ad e => ?_, g2.none_⟩
      obtain ⟨t, j1, dxt, r', j2, ts, j3, j4⟩ := g2.some_ y ad e
      have e' : (if y = n then some (⟨1, []⟩ : Ql82.Ad) else none) = some ad := e
      refine ⟨t, j1, dxt, r', s8 _ _ j2 fun z => ?_, ts, s8 _ _ j3 (ne_of j3 ea7 (by intro z; cases z)), Paired.mapP j4 fun c x hc => s8 _ _ hc (ne_of hc ea7 (by intro z; cases z))⟩
      subst z
      rw [ea7] at j2
      have j5 := Option.some.inj j2
      injection j5 with _ _ j6
      have j7 := congrArg (List.lookup ("lines" : Str)) j6
      rw [lookup_putF, if_pos rfl] at j7
      have j8 : (TF y ad.seq r').lookup ("lines" : Str) = none := (lk_past (by decide +kernel)).trans ((lk_past (by decide +kernel)).trans ((lk_past (by decide +kernel)).trans rfl))
      rw [j8] at j7
      cases j7
    generalize upd H7 a (.ins A.a_Router dx (putF "known" (.ref k) (putF "lines" (.ref l) (putF "me" (.int (n : Int)) fs)))) = H8 at s8 e8 row8 k8 ⊢
    -- self.waits = [{} for p in range(LINES)]
    refine ⟨8, rfl, by decide, by decide, fun wl hwl => ?_⟩
    refine lc_range (lo := 0) (n := 8) (fun i H' => Same H8 H' ∧ ∃ ds : List Addr, H' wl = some (.lst (ds.map V.ref)) ∧ ds.length = i ∧ ds.Nodup ∧ ∀ d ∈ ds, H' d = some (.dK []) ∧ H8 d = none) ⟨same_new hwl, [], upd_same, rfl, List.nodup_nil, fun d hd => (by cases hd)⟩ ?_ ?_
    · rintro i H' hi ⟨s, ds, g1, g2, g3, g4⟩
      refine ⟨rfl, ?_⟩
      dsimp only [tYes]
      refine iteT ?_
      intro d hd
      have wd : wl ≠ d := ne_of_none g1 hd
      have kp : ∀ b o, H' b = some o → b ≠ wl → upd (upd H' d (.dK [])) wl (.lst (ds.map V.ref ++ [V.ref d])) b = some o := fun b o e nb => by
        rw [upd_ne nb, upd_ne (ne_of_none e hd)]; exact e
      refine ⟨_, (by rw [upd_ne wd]; exact g1), by rw [List.length_map, g2]; exact Nat.lt_of_lt_of_le hi (by decide), fun b o e => kp b o (s b o e) (ne_of_none e hwl), ds ++ [d], ?_, by rw [List.length_append, g2]; rfl, ?_, fun c hc => ?_⟩
      · rw [upd_same, List.map_append]; rfl
      · exact nd_snoc g3 fun z => by
          have := (g4 d z).1
          rw [hd] at this; cases this
      · rcases List.mem_append.mp hc with hc | hc
        · obtain ⟨j1, j2⟩ := g4 c hc
          exact ⟨kp c _ j1 (ne_of j1 g1 (by intro z; cases z)), j2⟩
        · rw [List.mem_singleton.mp hc]
          exact ⟨by rw [upd_ne wd.symm, upd_same], s.free hd⟩
    rintro H9 ⟨s9, ds, g1, g2, g3, g4⟩
    have f4 := putF_few "waits" (.ref wl) (putF "known" (.ref k) (putF "lines" (.ref l) (putF "me" (.int (n : Int)) fs)))
    refine ⟨_, rfl, a, _, dx, _, rfl, s9 _ _ e8, T.c_Router, T.n_Router_waits, (by omega), ?_⟩
    rw [RF_new n l k wl fs hfs]
    have ea9 := s9 _ _ e8
    have s10 : ∀ b o, H9 b = some o → b ≠ a → upd H9 a (.ins A.a_Router dx (RF n l k wl)) b = some o := fun b o e nb => by rw [upd_ne nb]; exact e
    refine ⟨(by show 1 ≤ sizeLine; decide), fun r hr' => ?_⟩
    have r10 : RAt A (upd H9 a (.ins A.a_Router dx (RF n l k wl))) a l k wl ds (List.replicate 8 (0, 0)) (Ql82.begun n) := by
      refine ⟨⟨dx, upd_same⟩, ?_, List.length_replicate, ?_, fun x hx => ?_, ?_, ⟨s10 _ _ g1 (ne_of g1 ea9 (by intro z; cases z)), g2, fun p p' d h1 h2 => nd_at g3 h1 h2, fun p d hd => ?_⟩, fun z => ?_, good_begun hn⟩
      · obtain ⟨ts, j1, j2⟩ := row8.same s9
        exact ⟨ts, s10 _ _ j1 (ne_of j1 ea9 (by intro z; cases z)), Paired.mapP j2 fun c x hc => s10 _ _ hc (ne_of hc ea9 (by intro z; cases z))⟩
      · funext p
        show none = linesOf (List.replicate 8 (0, 0)) p
        unfold linesOf
        by_cases hp : p < 8
        · rw [List.getElem?_replicate_of_lt hp]; rfl
        · rw [List.getElem?_eq_none (by rw [List.length_replicate]; omega)]; rfl
      · rw [(List.mem_replicate.mp hx).2]; decide
      · obtain ⟨kv, j1, j2⟩ := k8.same s9
        refine ⟨kv, s10 _ _ j1 (ne_of j1 ea9 (by intro z; cases z)), j2.keys, fun y ad e => ?_, j2.none_⟩
        obtain ⟨t, i1, dxt, r', i2, ts, i3, i4⟩ := j2.some_ y ad e
        refine ⟨t, i1, dxt, r', s10 _ _ i2 fun z => ?_, ts, s10 _ _ i3 (ne_of i3 ea9 (by intro z; cases z)), Paired.mapP i4 fun c x hc => s10 _ _ hc (ne_of hc ea9 (by intro z; cases z))⟩
        subst z
        rw [ea9] at i2
        have j5 := Option.some.inj i2
        injection j5 with _ _ j6
        have j7 := congrArg (List.lookup ("known" : Str)) j6
        rw [lookup_putF, if_pos rfl] at j7
        have j8 : (TF y ad.seq r').lookup ("known" : Str) = none := (lk_past (by decide +kernel)).trans ((lk_past (by decide +kernel)).trans ((lk_past (by decide +kernel)).trans rfl))
        rw [j8] at j7
        cases j7
      · have hm := List.mem_of_getElem? hd
        obtain ⟨i1, _⟩ := g4 d hm
        exact ⟨[], s10 _ _ i1 (ne_of i1 ea9 (by intro z; cases z)), WK.nil⟩
      · obtain ⟨kv, j1, _⟩ := k8
        have := (g4 k z).2
        rw [j1] at this; cases this
    have h10 : ∀ b o, H b = some o → b ≠ a → upd H9 a (.ins A.a_Router dx (RF n l k wl)) b = some o := fun b o e nb => s10 b o (s9 _ _ (s8 _ _ (s7 _ _ (s3 _ _ (s2 _ _ (s1 b o e nb)) nb)) nb)) nb
    refine q _ r l k wl ds _ (r10.same (same_new hr')) upd_same (fun b o e nb => (same_new hr') _ _ (h10 b o e nb)) (fun ns z => ?_) ?_
    · have nra : r ≠ a := ne_of z h1 (by intro y; cases y)
      have := h10 r _ z nra
      rw [hr'] at this
      cases this
    · -- what is told of itself has a new list of roads
      intro kvs key t dt ro y m g1 g2 g3
      have xa : x ≠ a := ne_of_none' hx7 ea7 (fun z => by
        injection z with _ _ z3
        have j7 := congrArg (List.lookup ("lines" : Str)) z3
        rw [lookup_putF, if_pos rfl] at j7
        have j8 : (TF n 1 rr).lookup ("lines" : Str) = none := (lk_past (by decide +kernel)).trans ((lk_past (by decide +kernel)).trans ((lk_past (by decide +kernel)).trans rfl))
        rw [j8] at j7
        cases j7)
      have up : ∀ b u, H7 b = some u → b ≠ a → upd (upd H9 a (.ins A.a_Router dx (RF n l k wl))) r (.lst [.int 0]) b = some u := fun b u e nb => (same_new hr') _ _ (s10 _ _ (s9 _ _ (s8 _ _ e nb)) nb)
      have gk := up _ _ hk7 (ne_of hk7 ea7 (by intro z; cases z))
      have gx := up _ _ hx7 xa
      rw [gk] at g1
      cases g1
      have ex : t = x := by
        by_cases c : (Sum.inl (n : Int) : Key) = key
        · rw [valV_pos c] at g2
          cases g2
          rfl
        · rw [valV_neg c] at g2
          cases g2
      subst ex
      rw [gx] at g3
      have g4 := Option.some.inj g3
      injection g4 with _ _ g5
      have g6 := congrArg (List.lookup ("roads" : Str)) g5
      rw [TF_roads, TF_roads] at g6
      cases g6
      cases c : H rr with
      | none => rfl
      | some u =>
        by_cases z : rr = a
        · subst z
          have := s7 _ _ e3
          rw [hrr3] at e3
          cases e3
        · have := s3 _ _ (s2 _ _ (s1 _ _ c z)) z
          rw [hrr3] at this
          cases this

def sp_init (A : Adr) : Sp := fun vs H Q _ => ∃ (a dx : Addr), vs = [.ref a] ∧ H a = some (.ins A.a_Router dx []) ∧
  ∀ (H' : Hp) (l k w : Addr) (ds : List Addr) (ls : List (Nat × Nat)), RAt A H' a l k w ds ls (Ql82.begun 0) → (∀ b o, H b = some o → b ≠ a → H' b = some o) → Q .non H'
theorem ok_Router_init (T : Txt K mg A) : FnOk P w K mg base CX0 4 A.f_Router_init A.d_Router_init pm_Router_init (sp_init A) := by
  refine T.F_Router_init.ok sc_Router_init (fun vs H Q E h => ?_) (fun cdv Ar outer s H vs Q E hr h => ?_)
  · obtain ⟨a, dx, rfl, _⟩ := h
    rfl
  · obtain ⟨a, dx, rfl, h1, q⟩ := h
    refine ⟨_, (pss_one (ps_expr (pe_meth (pv 0) T.c_Router T.m_Router_begin (ok_Router_begin T) (hr.mono (by decide)) T.b_Router_begin .nil pass0 (pa_cons pe_int pa_nil)))), ?_⟩
    refine ⟨_, rfl, a, dx, _, rfl, h1, rfl, a, dx, [], 0, rfl, h1, .inl rfl, fun n hn h64 H' r l k w ds ls hr' _ kp _ _ => ?_, fun z => absurd (by decide) z⟩
    have : n = 0 := by omega
    subst this
    exact q H' l k w ds ls hr' kp
end
end KR

namespace KR
open PySem PySem.Spec PyProof.Rows L2
section
variable {P : Program} {w : World} {K : PySem.W.Frag} {mg : Str → Option Value} {base : Heap} {A : Adr}
def vZ (l : List Int) : List V := l.map V.int
theorem vZ_at {l : List Int} {i : Int} {j : Nat} {z : Int} (e : i = (j : Int)) (h : l[j]? = some z) : atI (vZ l) i = some (.int z) := by
  refine at_of e ?_
  unfold vZ
  rw [List.getElem?_map, h]
  rfl
theorem drop_at {l fl t : List Int} {n : Nat} (h : l.drop n = fl ++ t) (i : Nat) {z : Int} (e : fl[i]? = some z) : l[n + i]? = some z := by
  rw [← List.getElem?_drop, h, List.getElem?_append_left (List.getElem?_eq_some_iff.mp e).1]
  exact e
theorem cut_vZ {l fl t : List Int} {n : Nat} (h : l.drop n = fl ++ t) : cutV (vZ l) (some (n : Int)) (some ((n + fl.length : Nat) : Int)) = vZ fl := by
  unfold cutV
  have hl : (vZ l).length = l.length := List.length_map ..
  rw [HT.sIx_nat, HT.sIx_nat, hl]
  unfold vZ
  have hlen : l.length - n = fl.length + t.length := by rw [← List.length_drop, h, List.length_append]
  rw [← List.map_drop, ← List.map_take]
  congr 1
  by_cases c : n ≤ l.length
  · rw [Nat.min_eq_left c, h, Nat.min_eq_left (by omega), Nat.add_sub_cancel_left, List.take_left]
  · have : fl.length = 0 := by omega
    have hf : fl = [] := List.length_eq_zero_iff.mp this
    rw [Nat.min_eq_right (by omega : l.length ≤ n), Nat.min_eq_right (by omega), Nat.sub_self, hf]
    rfl
theorem sql_calm {H H' : Hp} {p : Addr} {l : List Int} (h : SqL K H p (vZ l)) (c : Calm H H') : SqL K H' p (vZ l) := by
  rcases h with (h | ⟨o, h⟩) | h
  · exact .inl (.inl (c.1 _ _ h))
  · exact .inl (.inr ⟨o, c.2 _ _ _ h⟩)
  · exact .inr h

def sp_call_end (K : PySem.W.Frag) : Sp := fun vs H Q _ => ∃ (p : Addr) (l fl t : List Int) (c : List (List Int)) (n : Nat), vs = [.ref p, .int n] ∧ SqL K H p (vZ l) ∧ l.drop n = fl ++ t ∧ Reads fl c [] ∧ Q (.int ((n + fl.length : Nat) : Int)) H
theorem ok_call_end (T : Txt K mg A) : FnOk P w K mg base CX0 1 A.f_call_end A.d_call_end pm_call_end (sp_call_end K) := by
  refine T.F_call_end.ok sc_call_end (fun vs H Q E h => ?_) (fun cdv Ar outer s H vs Q E hr h => ?_)
  · obtain ⟨p, l, fl, t, c, n, rfl, _⟩ := h
    rfl
  · obtain ⟨p, l, fl, t, c, n, rfl, hS, hd, hrd, k⟩ := h
    refine ⟨_, (pss_cons (ps_set (i := 2) sc_call_end.nd rfl (Or.inl rfl) (pe_op op_add (pv 1) (pe_ix ix_tup (pe_glob (v := V.ref A.o_CALL_LENGTHS) rfl T.g_CALL_LENGTHS rfl) (pe_ix ix_list (pv 0) (pv 1) (fun _ _ => rfl)) (fun _ _ => rfl))))
      (pss_cons (ps_if (pt_cmpR op_eq (pe_ix ix_list (pv 0) (pv 1) (fun _ _ => rfl)) (pe_glob (v := V.int 2) rfl T.g_RO_HEAR ⟨_, rfl⟩) (nomark _))
      (pss_one (ps_aug (i := 2) sc_call_end.nd rfl (Or.inl rfl) (pe_ix ix_list (pv 0) (pe_op op_add (pv 1) pe_int) (fun _ _ => rfl)) ip_add))
      pss_nil)
      (pss_one (ps_ret (pv 2))))), ?_⟩
    have ta : ∀ {i : Nat} {z : Int}, fl[i]? = some z → atI (vZ l) ((n : Int) + (i : Int)) = some (.int z) := fun {i z} e => vZ_at (by omega) (drop_at hd i e)
    cases hrd with
    | begin_ m =>
      have e0 := ta (i := 0) (z := 0) rfl
      rw [Int.natCast_zero, Int.add_zero] at e0
      refine ⟨_, rfl, _, rfl, _, rfl, p, _, _, _, rfl, rfl, hS, e0, _, _, _, _, rfl, rfl, T.s_CALL_LENGTHS _, at_of (j := 0) rfl rfl, _, _, rfl, rfl, ?_⟩
      refine ⟨_, rfl, _, rfl, p, _, _, _, rfl, rfl, hS, e0, rfl, _, rfl, ?_⟩
      refine iteF ⟨_, rfl, ?_⟩
      exact k
    | line a b c =>
      have e0 := ta (i := 0) (z := 1) rfl
      rw [Int.natCast_zero, Int.add_zero] at e0
      refine ⟨_, rfl, _, rfl, _, rfl, p, _, _, _, rfl, rfl, hS, e0, _, _, _, _, rfl, rfl, T.s_CALL_LENGTHS _, at_of (j := 1) rfl rfl, _, _, rfl, rfl, ?_⟩
      refine ⟨_, rfl, _, rfl, p, _, _, _, rfl, rfl, hS, e0, rfl, _, rfl, ?_⟩
      refine iteF ⟨_, rfl, ?_⟩
      exact k
    | hear a b =>
      have e0 := ta (i := 0) (z := 2) rfl
      have e2 := ta (i := 2) (z := (b.length : Int)) rfl
      rw [Int.natCast_zero, Int.add_zero] at e0
      refine ⟨_, rfl, _, rfl, _, rfl, p, _, _, _, rfl, rfl, hS, e0, _, _, _, _, rfl, rfl, T.s_CALL_LENGTHS _, at_of (j := 2) rfl rfl, _, _, rfl, rfl, ?_⟩
      refine ⟨_, rfl, _, rfl, p, _, _, _, rfl, rfl, hS, e0, rfl, _, rfl, ?_⟩
      refine iteT ?_
      refine ⟨_, rfl, _, rfl, _, rfl, _, _, rfl, rfl, p, _, _, _, rfl, rfl, hS, e2, _, _, rfl, rfl, ?_⟩
      refine ⟨_, rfl, ?_⟩
      have e : (n : Int) + 3 + (b.length : Int) = ((n + (2 :: a :: (b.length : Int) :: (b ++ [])).length : Nat) : Int) := by
        simp only [List.length_cons, List.length_append, List.length_nil]
        omega
      show Q (V.int ((n : Int) + 3 + (b.length : Int))) H
      rw [e]
      exact k
    | next a b =>
      have e0 := ta (i := 0) (z := 3) rfl
      rw [Int.natCast_zero, Int.add_zero] at e0
      refine ⟨_, rfl, _, rfl, _, rfl, p, _, _, _, rfl, rfl, hS, e0, _, _, _, _, rfl, rfl, T.s_CALL_LENGTHS _, at_of (j := 3) rfl rfl, _, _, rfl, rfl, ?_⟩
      refine ⟨_, rfl, _, rfl, p, _, _, _, rfl, rfl, hS, e0, rfl, _, rfl, ?_⟩
      refine iteF ⟨_, rfl, ?_⟩
      exact k
    | look a b =>
      have e0 := ta (i := 0) (z := 4) rfl
      rw [Int.natCast_zero, Int.add_zero] at e0
      refine ⟨_, rfl, _, rfl, _, rfl, p, _, _, _, rfl, rfl, hS, e0, _, _, _, _, rfl, rfl, T.s_CALL_LENGTHS _, at_of (j := 4) rfl rfl, _, _, rfl, rfl, ?_⟩
      refine ⟨_, rfl, _, rfl, p, _, _, _, rfl, rfl, hS, e0, rfl, _, rfl, ?_⟩
      refine iteF ⟨_, rfl, ?_⟩
      exact k
    | far a =>
      have e0 := ta (i := 0) (z := 5) rfl
      rw [Int.natCast_zero, Int.add_zero] at e0
      refine ⟨_, rfl, _, rfl, _, rfl, p, _, _, _, rfl, rfl, hS, e0, _, _, _, _, rfl, rfl, T.s_CALL_LENGTHS _, at_of (j := 5) rfl rfl, _, _, rfl, rfl, ?_⟩
      refine ⟨_, rfl, _, rfl, p, _, _, _, rfl, rfl, hS, e0, rfl, _, rfl, ?_⟩
      refine iteF ⟨_, rfl, ?_⟩
      exact k
    | ways a =>
      have e0 := ta (i := 0) (z := 6) rfl
      rw [Int.natCast_zero, Int.add_zero] at e0
      refine ⟨_, rfl, _, rfl, _, rfl, p, _, _, _, rfl, rfl, hS, e0, _, _, _, _, rfl, rfl, T.s_CALL_LENGTHS _, at_of (j := 6) rfl rfl, _, _, rfl, rfl, ?_⟩
      refine ⟨_, rfl, _, rfl, p, _, _, _, rfl, rfl, hS, e0, rfl, _, rfl, ?_⟩
      refine iteF ⟨_, rfl, ?_⟩
      exact k

/-- as Ends; where B, the router's lists of roads are new -/
def EndsB (A : Adr) (H : Hp) (a : Addr) (Q : VK) (s : Ql82.St) (out : List Int) (B : Prop) : Prop :=
  ∀ (H' : Hp) (r l k w : Addr) (ds : List Addr) (ls : List (Nat × Nat)), RAt A H' a l k w ds ls s → H' r = some (.lst (out.map V.int)) → Calm H H' → (∀ ns : List Int, H r ≠ some (.lst (ns.map V.int))) → (B → Fresh A H H' k) → Q (.ref r) H'
theorem EndsB.plain {H : Hp} {a : Addr} {Q : VK} {s : Ql82.St} {out : List Int} {B : Prop} (e : EndsB A H a Q s out B) (n : ¬ B) : Ends A H a Q s out := fun H' r l k w ds ls h1 h2 h3 h4 => e H' r l k w ds ls h1 h2 h3 h4 fun b => absurd b n
/-- a call that begins, and is not refused -/
def isB (q : Ql82.Call) : Prop := ∃ m : Int, q = .begin_ m ∧ 0 ≤ m ∧ m < 64
theorem vZ_ints (l : List Nat) : vZ (l.map fun (n : Nat) => (n : Int)) = vI l := by
  unfold vZ vI
  rw [List.map_map]
  rfl
theorem vZ_nats {b : List Int} (h : ∀ z ∈ b, 0 ≤ z) : vI (Ql82Neutral.nats b) = vZ b := by
  unfold Ql82Neutral.nats
  rw [← vZ_ints, List.map_map]
  congr 1
  refine (List.map_congr_left fun z hz => ?_).trans (List.map_id b)
  have := h z hz
  show ((z.toNat : Nat) : Int) = z
  omega
def sp_answer_to (K : PySem.W.Frag) (A : Adr) : Sp := fun vs H Q _ => ∃ (a p l k w : Addr) (ds : List Addr) (ls : List (Nat × Nat)) (s : Ql82.St) (fl : List Int) (c : List (List Int)) (q : Ql82.Call), vs = [.ref a, .ref p] ∧ RAt A H a l k w ds ls s ∧ SqL K H p (vZ fl) ∧ Reads fl c [] ∧
  askedIs c = true ∧ callIs c = some q ∧ ∀ t x, Ql82.spec (some s) q = (some t, x) → EndsB A H a Q t (outOf x) (isB q)
theorem ok_answer_to (T : Txt K mg A) : FnOk P w K mg base CX0 6 A.f_answer_to A.d_answer_to pm_answer_to (sp_answer_to K A) := by
  refine T.F_answer_to.ok sc_answer_to (fun vs H Q E h => ?_) (fun cdv Ar outer s H vs Q E hr h => ?_)
  · obtain ⟨a, p, l, k, w', ds, ls, s, fl, c, q, rfl, _⟩ := h
    rfl
  · obtain ⟨a, p, l, k, w', ds, ls, s, fl, c, q, rfl, r, hS, hrd, ha, hc, kk⟩ := h
    obtain ⟨dx, h1⟩ := id r.ob
    have no : ∀ {m : Str}, (m == ("me" : Str)) = false → (m == ("lines" : Str)) = false → (m == ("known" : Str)) = false → (m == ("waits" : Str)) = false → (RF s.me l k w').lookup m = none := fun h1 h2 h3 h4 => RF_no _ _ _ _ h1 h2 h3 h4
    refine ⟨_, (pss_cons (ps_if (pt_cmpR op_eq (pe_ix ix_list (pv 1) pe_int (fun _ _ => rfl)) (pe_glob (v := V.int 0) rfl T.g_RO_BEGIN ⟨_, rfl⟩) (nomark _))
      (pss_one (ps_ret (pe_meth (pv 0) T.c_Router T.m_Router_begin (ok_Router_begin T) (hr.mono (by decide)) T.b_Router_begin .nil pass0 (pa_cons (pe_ix ix_list (pv 1) pe_int (fun _ _ => rfl)) pa_nil))))
      pss_nil)
      (pss_cons (ps_if (pt_cmpR op_eq (pe_ix ix_list (pv 1) pe_int (fun _ _ => rfl)) (pe_glob (v := V.int 1) rfl T.g_RO_LINE ⟨_, rfl⟩) (nomark _))
      (pss_one (ps_ret (pe_meth (pv 0) T.c_Router T.m_Router_set_line (ok_Router_set_line T) (hr.mono (by decide)) T.b_Router_set_line .nil pass0 (pa_cons (pe_ix ix_list (pv 1) pe_int (fun _ _ => rfl)) (pa_cons (pe_ix ix_list (pv 1) pe_int (fun _ _ => rfl)) (pa_cons (pe_ix ix_list (pv 1) pe_int (fun _ _ => rfl)) pa_nil))))))
      pss_nil)
      (pss_cons (ps_if (pt_cmpR op_eq (pe_ix ix_list (pv 1) pe_int (fun _ _ => rfl)) (pe_glob (v := V.int 2) rfl T.g_RO_HEAR ⟨_, rfl⟩) (nomark _))
      (pss_one (ps_ret (pe_meth (pv 0) T.c_Router T.m_Router_hear (ok_Router_hear T) (hr.mono (by decide)) T.b_Router_hear .nil pass0 (pa_cons (pe_ix ix_list (pv 1) pe_int (fun _ _ => rfl)) (pa_cons (pe_slice sl_list (pv 1) (po_some pe_int) po_none) pa_nil)))))
      pss_nil)
      (pss_cons (ps_if (pt_cmpR op_eq (pe_ix ix_list (pv 1) pe_int (fun _ _ => rfl)) (pe_glob (v := V.int 3) rfl T.g_RO_NEXT ⟨_, rfl⟩) (nomark _))
      (pss_one (ps_ret (pe_meth (pv 0) T.c_Router T.m_Router_tell_next (ok_Router_tell_next T) (hr.mono (by decide)) T.b_Router_tell_next .nil pass0 (pa_cons (pe_ix ix_list (pv 1) pe_int (fun _ _ => rfl)) (pa_cons (pe_ix ix_list (pv 1) pe_int (fun _ _ => rfl)) pa_nil)))))
      pss_nil)
      (pss_cons (ps_if (pt_cmpR op_eq (pe_ix ix_list (pv 1) pe_int (fun _ _ => rfl)) (pe_glob (v := V.int 4) rfl T.g_RO_LOOK ⟨_, rfl⟩) (nomark _))
      (pss_one (ps_ret (pe_meth (pv 0) T.c_Router T.m_Router_look (ok_Router_look T) (hr.mono (by decide)) T.b_Router_look .nil pass0 (pa_cons (pe_ix ix_list (pv 1) pe_int (fun _ _ => rfl)) (pa_cons (pe_ix ix_list (pv 1) pe_int (fun _ _ => rfl)) pa_nil)))))
      pss_nil)
      (pss_cons (ps_if (pt_cmpR op_eq (pe_ix ix_list (pv 1) pe_int (fun _ _ => rfl)) (pe_glob (v := V.int 5) rfl T.g_RO_FAR ⟨_, rfl⟩) (nomark _))
      (pss_one (ps_ret (pe_meth (pv 0) T.c_Router T.m_Router_least_cost (ok_Router_least_cost T) (hr.mono (by decide)) T.b_Router_least_cost .nil pass0 (pa_cons (pe_ix ix_list (pv 1) pe_int (fun _ _ => rfl)) pa_nil))))
      pss_nil)
      (pss_one (ps_ret (pe_meth (pv 0) T.c_Router T.m_Router_lines_on (ok_Router_lines_on T) (hr.mono (by decide)) T.b_Router_lines_on .nil pass0 (pa_cons (pe_ix ix_list (pv 1) pe_int (fun _ _ => rfl)) pa_nil)))))))))), ?_⟩
    have ta : ∀ {i : Nat} {z : Int}, fl[i]? = some z → atI (vZ fl) (i : Int) = some (.int z) := fun {i z} e => vZ_at rfl e
    cases hrd with
    | begin_ m =>
      cases hc
      refine ⟨_, rfl, p, _, _, _, rfl, rfl, hS, ta (i := 0) rfl, rfl, _, rfl, iteT ?_⟩
      refine ⟨_, rfl, a, dx, _, rfl, h1, no (by decide +kernel) (by decide +kernel) (by decide +kernel) (by decide +kernel), _, rfl, p, _, _, _, rfl, rfl, hS, ta (i := 1) rfl, ?_⟩
      refine ⟨a, dx, _, m, rfl, h1, .inr ⟨_, _, _, _, rfl⟩, fun n hn h64 => ?_, fun hb b hbn => ?_⟩
      · have e : Ql82.spec (some s) (.begin_ m) = (some (Ql82.begun n), Ql82.only 0) := by
          show (if Ql82.between m 0 63 = false then _ else _) = _
          rw [if_neg (by rw [between_yes (by constructor <;> omega)]; decide)]
          have : m.toNat = n := by omega
          rw [this]
        exact fun H' o l' k' w2 ds' ls' h1 h2 h3 h4 h5 => kk _ _ e H' o l' k' w2 ds' ls' h1 h2 (r.calm fun b p hb n1 _ _ _ => h3 b p hb n1) h4 fun _ => h5
      · have e : Ql82.spec (some s) (.begin_ m) = (some s, Ql82.only (-2)) := by
          show (if Ql82.between m 0 63 = false then _ else _) = _
          rw [if_pos (between_no fun z => hb ⟨z.1, by have := z.2; omega⟩)]
        refine ((kk _ _ e).plain ?_).one r (Same.refl H).calm hbn
        rintro ⟨m', em, h0, h64⟩
        cases em
        exact hb ⟨h0, h64⟩
    | line a1 b1 c1 =>
      cases hc
      refine ⟨_, rfl, p, _, _, _, rfl, rfl, hS, ta (i := 0) rfl, rfl, _, rfl, iteF ?_⟩
      refine ⟨_, rfl, p, _, _, _, rfl, rfl, hS, ta (i := 0) rfl, rfl, _, rfl, iteT ?_⟩
      refine ⟨_, rfl, a, dx, _, rfl, h1, no (by decide +kernel) (by decide +kernel) (by decide +kernel) (by decide +kernel), _, rfl, p, _, _, _, rfl, rfl, hS, ta (i := 1) rfl, _, rfl, p, _, _, _, rfl, rfl, hS, ta (i := 2) rfl, _, rfl, p, _, _, _, rfl, rfl, hS, ta (i := 3) rfl, ?_⟩
      exact ⟨a, l, k, w', ds, ls, s, a1, b1, c1, rfl, r, fun t x e => (kk t x e).plain (by rintro ⟨m', em, _⟩; cases em)⟩
    | hear a1 b1 =>
      cases hc
      have hb : (Ql82Neutral.whole32 a1 && (NeutralIO.within (b1.length : Int) 1 64 && (b1.all (fun (z : Int) => Ql82Neutral.natural z 8) && Ql82Neutral.long b1 (b1.length : Int) 1 64))) = true := ha
      simp only [Bool.and_eq_true] at hb
      obtain ⟨_, hb1, hb2, _⟩ := hb
      unfold NeutralIO.within at hb1
      rw [Bool.and_eq_true, decide_eq_true_iff, decide_eq_true_iff] at hb1
      have hbz : ∀ z ∈ b1, 0 ≤ z ∧ z < 256 := fun z hz => by
        have := List.all_eq_true.mp hb2 z hz
        unfold Ql82Neutral.natural at this
        rw [Bool.and_eq_true, decide_eq_true_iff, decide_eq_true_iff] at this
        exact this
      refine ⟨_, rfl, p, _, _, _, rfl, rfl, hS, ta (i := 0) rfl, rfl, _, rfl, iteF ?_⟩
      refine ⟨_, rfl, p, _, _, _, rfl, rfl, hS, ta (i := 0) rfl, rfl, _, rfl, iteF ?_⟩
      refine ⟨_, rfl, p, _, _, _, rfl, rfl, hS, ta (i := 0) rfl, rfl, _, rfl, iteT ?_⟩
      refine ⟨_, rfl, a, dx, _, rfl, h1, no (by decide +kernel) (by decide +kernel) (by decide +kernel) (by decide +kernel), _, rfl, p, _, _, _, rfl, rfl, hS, ta (i := 1) rfl, _, rfl, _, rfl, p, _, rfl, hS, fun b hbn => ?_⟩
      have ec : cutV (vZ (2 :: a1 :: (b1.length : Int) :: (b1 ++ []))) (some 3) none = vI (Ql82Neutral.nats b1) := by
        rw [vZ_nats fun z hz => (hbz z hz).1, List.append_nil]
        unfold cutV
        have e3 : (vZ (2 :: a1 :: (b1.length : Int) :: b1)).length = b1.length + 3 := by simp [vZ]
        rw [e3, HT.sIx_none, show (some (3 : Int)) = some ((3 : Nat) : Int) from rfl, HT.sIx_nat, Nat.min_eq_left (by omega)]
        unfold vZ
        rw [List.map_cons, List.map_cons, List.map_cons, List.drop_succ_cons, List.drop_succ_cons, List.drop_succ_cons, List.drop_zero, List.take_of_length_le (by simp)]
      rw [ec]
      have s1 : Same H (upd H b (.lst (vI (Ql82Neutral.nats b1)))) := same_new hbn
      have hnl : (Ql82Neutral.nats b1).length = b1.length := List.length_map ..
      refine ⟨a, l, k, w', b, ds, ls, s, a1, Ql82Neutral.nats b1, rfl, r.same s1, SqL.of upd_same, fun x hx => ?_, by omega, by omega, fun t x e => ?_⟩
      · obtain ⟨z, hz, rfl⟩ := List.mem_map.mp hx
        have := hbz z hz
        omega
      · rw [hnl] at e
        exact ((kk t x e).plain (by rintro ⟨m', em, _⟩; cases em)).calm s1.calm
    | next a1 b1 =>
      cases hc
      have hb : (Ql82Neutral.whole32 a1 && Ql82Neutral.natural b1 32) = true := ha
      rw [Bool.and_eq_true] at hb
      have hb0 : 0 ≤ b1 := by
        have := hb.2
        unfold Ql82Neutral.natural at this
        rw [Bool.and_eq_true, decide_eq_true_iff] at this
        exact this.1
      obtain ⟨bn, rfl⟩ := nat_of hb0
      refine ⟨_, rfl, p, _, _, _, rfl, rfl, hS, ta (i := 0) rfl, rfl, _, rfl, iteF ?_⟩
      refine ⟨_, rfl, p, _, _, _, rfl, rfl, hS, ta (i := 0) rfl, rfl, _, rfl, iteF ?_⟩
      refine ⟨_, rfl, p, _, _, _, rfl, rfl, hS, ta (i := 0) rfl, rfl, _, rfl, iteF ?_⟩
      refine ⟨_, rfl, p, _, _, _, rfl, rfl, hS, ta (i := 0) rfl, rfl, _, rfl, iteT ?_⟩
      refine ⟨_, rfl, a, dx, _, rfl, h1, no (by decide +kernel) (by decide +kernel) (by decide +kernel) (by decide +kernel), _, rfl, p, _, _, _, rfl, rfl, hS, ta (i := 1) rfl, _, rfl, p, _, _, _, rfl, rfl, hS, ta (i := 2) rfl, ?_⟩
      exact ⟨a, l, k, w', ds, ls, s, a1, bn, rfl, r, fun t x e => (kk t x e).plain (by rintro ⟨m', em, _⟩; cases em)⟩
    | look a1 b1 =>
      cases hc
      have hb : (Ql82Neutral.whole32 a1 && Ql82Neutral.natural b1 32) = true := ha
      rw [Bool.and_eq_true] at hb
      have hb0 : 0 ≤ b1 := by
        have := hb.2
        unfold Ql82Neutral.natural at this
        rw [Bool.and_eq_true, decide_eq_true_iff] at this
        exact this.1
      obtain ⟨bn, rfl⟩ := nat_of hb0
      refine ⟨_, rfl, p, _, _, _, rfl, rfl, hS, ta (i := 0) rfl, rfl, _, rfl, iteF ?_⟩
      refine ⟨_, rfl, p, _, _, _, rfl, rfl, hS, ta (i := 0) rfl, rfl, _, rfl, iteF ?_⟩
      refine ⟨_, rfl, p, _, _, _, rfl, rfl, hS, ta (i := 0) rfl, rfl, _, rfl, iteF ?_⟩
      refine ⟨_, rfl, p, _, _, _, rfl, rfl, hS, ta (i := 0) rfl, rfl, _, rfl, iteF ?_⟩
      refine ⟨_, rfl, p, _, _, _, rfl, rfl, hS, ta (i := 0) rfl, rfl, _, rfl, iteT ?_⟩
      refine ⟨_, rfl, a, dx, _, rfl, h1, no (by decide +kernel) (by decide +kernel) (by decide +kernel) (by decide +kernel), _, rfl, p, _, _, _, rfl, rfl, hS, ta (i := 1) rfl, _, rfl, p, _, _, _, rfl, rfl, hS, ta (i := 2) rfl, ?_⟩
      exact ⟨a, l, k, w', ds, ls, s, a1, bn, rfl, r, fun t x e => (kk t x e).plain (by rintro ⟨m', em, _⟩; cases em)⟩
    | far a1 =>
      cases hc
      refine ⟨_, rfl, p, _, _, _, rfl, rfl, hS, ta (i := 0) rfl, rfl, _, rfl, iteF ?_⟩
      refine ⟨_, rfl, p, _, _, _, rfl, rfl, hS, ta (i := 0) rfl, rfl, _, rfl, iteF ?_⟩
      refine ⟨_, rfl, p, _, _, _, rfl, rfl, hS, ta (i := 0) rfl, rfl, _, rfl, iteF ?_⟩
      refine ⟨_, rfl, p, _, _, _, rfl, rfl, hS, ta (i := 0) rfl, rfl, _, rfl, iteF ?_⟩
      refine ⟨_, rfl, p, _, _, _, rfl, rfl, hS, ta (i := 0) rfl, rfl, _, rfl, iteF ?_⟩
      refine ⟨_, rfl, p, _, _, _, rfl, rfl, hS, ta (i := 0) rfl, rfl, _, rfl, iteT ?_⟩
      refine ⟨_, rfl, a, dx, _, rfl, h1, no (by decide +kernel) (by decide +kernel) (by decide +kernel) (by decide +kernel), _, rfl, p, _, _, _, rfl, rfl, hS, ta (i := 1) rfl, ?_⟩
      exact ⟨a, l, k, w', ds, ls, s, a1, rfl, r, fun t x e => (kk t x e).plain (by rintro ⟨m', em, _⟩; cases em)⟩
    | ways a1 =>
      cases hc
      refine ⟨_, rfl, p, _, _, _, rfl, rfl, hS, ta (i := 0) rfl, rfl, _, rfl, iteF ?_⟩
      refine ⟨_, rfl, p, _, _, _, rfl, rfl, hS, ta (i := 0) rfl, rfl, _, rfl, iteF ?_⟩
      refine ⟨_, rfl, p, _, _, _, rfl, rfl, hS, ta (i := 0) rfl, rfl, _, rfl, iteF ?_⟩
      refine ⟨_, rfl, p, _, _, _, rfl, rfl, hS, ta (i := 0) rfl, rfl, _, rfl, iteF ?_⟩
      refine ⟨_, rfl, p, _, _, _, rfl, rfl, hS, ta (i := 0) rfl, rfl, _, rfl, iteF ?_⟩
      refine ⟨_, rfl, p, _, _, _, rfl, rfl, hS, ta (i := 0) rfl, rfl, _, rfl, iteF ?_⟩
      refine ⟨_, rfl, a, dx, _, rfl, h1, no (by decide +kernel) (by decide +kernel) (by decide +kernel) (by decide +kernel), _, rfl, p, _, _, _, rfl, rfl, hS, ta (i := 1) rfl, ?_⟩
      exact ⟨a, l, k, w', ds, ls, s, a1, rfl, r, fun t x e => (kk t x e).plain (by rintro ⟨m', em, _⟩; cases em)⟩
end
end KR

namespace KR
open PySem PySem.Spec PyProof.Rows L2
section
variable {P : Program} {w : World} {K : PySem.W.Frag} {mg : Str → Option Value} {base : Heap} {A : Adr}
def sp_answers (K : PySem.W.Frag) : Sp := fun vs H Q _ => ∃ (p : Addr) (l : List Int), vs = [.ref p] ∧ SqL K H p (vZ l) ∧ PyQl82.answers_asked l = true ∧
  ∀ (H' : Hp) (o : Addr), H' o = some (.lst (vZ (PyQl82.answers l))) → Q (.ref o) H'
theorem outOf_len (x : Ql82.Ans) : (outOf x).length = (outI x).length := rfl
theorem ok_answers (T : Txt K mg A) : FnOk P w K mg base CX0 7 A.f_answers A.d_answers pm_answers (sp_answers K) := by
  refine T.F_answers.ok sc_answers (fun vs H Q E h => ?_) (fun cdv Ar outer s H vs Q E hr h => ?_)
  · obtain ⟨p, l, rfl, _⟩ := h
    rfl
  · obtain ⟨p, l, rfl, hS, hask, kk⟩ := h
    obtain ⟨cs0, m0, hcalls, hm0, hasked, hshort, hans⟩ := asked_is hask
    have hall : ∀ c ∈ ([[0, m0]] : List (List Int)) :: cs0, askedIs c = true := fun c hc => by
      rcases List.mem_cons.mp hc with rfl | hc
      · show Ql82Neutral.whole32 m0 = true
        unfold Ql82Neutral.whole32
        rw [Bool.and_eq_true, decide_eq_true_iff, decide_eq_true_iff]
        constructor <;> omega
      · exact hasked c hc
    rw [run_begun hm0 (Ql82.begun 0)] at hans
    refine ⟨_, (pss_cons (ps_set (i := 1) sc_answers.nd rfl (Or.inl rfl) (pe_make0 T.M_Router (ok_Router_init T) (hr.mono (by decide)) rfl T.g_Router T.b_Router_init .nil pass0))
      (pss_cons (ps_set (i := 2) sc_answers.nd rfl (Or.inl rfl) (pe_lst pa_nil))
      (pss_cons (ps_set (i := 3) sc_answers.nd rfl (Or.inl rfl) pe_int)
      (pss_cons (ps_while PassesOwn.never (pt_cmpR op_lt (pv 3) (pe_callB call_len_seq (by rfl) T.z_len PySem.boot_len (pa_cons (pv 0) pa_nil)) (nomark _))
      (pss_cons (ps_set (i := 4) sc_answers.nd rfl (Or.inl rfl) (pe_call (ok_call_end T) (hr.mono (by decide)) rfl T.g_call_end T.k_call_end T.b_call_end .nil pass0 (pa_cons (pv 0) (pa_cons (pv 3) pa_nil))))
      (pss_cons (ps_set (i := 5) sc_answers.nd rfl (Or.inl rfl) (pe_call (ok_answer_to T) (hr.mono (by decide)) rfl T.g_answer_to T.k_answer_to T.b_answer_to .nil pass0 (pa_cons (pv 1) (pa_cons (pe_slice sl_list (pv 0) (po_some (pv 3)) (po_some (pv 4))) pa_nil))))
      (pss_cons (ps_expr (pe_bm PySem.F.plainAttrs_list PySem.F.slot_list_append PySem.F.type_list_append mt_append (pv 2) (pa_cons (pe_callB call_len_seq (by rfl) T.z_len PySem.boot_len (pa_cons (pv 5) pa_nil)) pa_nil)))
      (pss_cons (ps_expr (pe_bm PySem.F.plainAttrs_list PySem.F.slot_list_extend PySem.F.type_list_extend mt_extend (pv 2) (pa_cons (pv 5) pa_nil)))
      (pss_one (ps_set (i := 3) sc_answers.nd rfl (Or.inl rfl) (pv 4))))))))
      (pss_one (ps_ret (pv 2))))))), ?_⟩
    intro a dx nx ndx nex
    refine ⟨a, dx, rfl, upd_same, fun H1 l0 k0 w0 ds0 ls0 r0 kp0 => ⟨rfl, ?_⟩⟩
    have s01 : Same H H1 := fun b o e => kp0 b o (by rw [upd_ne (ne_of_none e nx), upd_ne (ne_of_none e ndx)]; exact e) (ne_of_none e nx)
    refine ⟨Nat.zero_le _, fun o ho => ?_⟩
    have s12 : Same H1 (upd H1 o (.lst [])) := same_new ho
    have hpo : p = o → ∃ (u : Obj) (its : Array Value) (n : Nat), K.lookup p = some u ∧ u.cls = .type "list" ∧ u.dict = none ∧ u.data = .seq its n ∧ its.size ≤ sizeLine ∧ Vals (vZ l) its.toList := by
      intro z
      subst z
      rcases hS with (e | ⟨u, e⟩) | e
      · rw [s01 _ _ e] at ho; cases ho
      · rw [s01 _ _ e] at ho; cases ho
      · exact e
    refine while_by (fun σ H' => ∃ (n : Nat) (v4 v5 : Option V) (l1 k1 w1 : Addr) (ds : List Addr) (ls : List (Nat × Nat)) (s : Ql82.St) (acc : List Int) (cs : List (List (List Int))), σ = [some (.ref p), some (.ref a), some (.ref o), some (.int (n : Int)), v4, v5] ∧
        RAt A H' a l1 k1 w1 ds ls s ∧ SqL K H' p (vZ l) ∧ H' o = some (.lst (vZ acc)) ∧ n ≤ l.length ∧ Calls (l.drop n) cs ∧ (∀ c ∈ cs, askedIs c = true) ∧ acc ++ run (some s) cs = PyQl82.answers l ∧ (acc = [] → cs.head? = some [[0, m0]]))
      (fun σ _ => match σ with
        | [_, _, _, some (.int n), _, _] => l.length - n.toNat
        | _ => 0)
      ⟨0, none, none, l0, k0, w0, ds0, ls0, Ql82.begun 0, [], _, rfl, r0.same s12, (s01.trans s12).seq hS, upd_same, Nat.zero_le _, hcalls, hall, hans.symm, fun _ => rfl⟩ ?_ ?_
    · rintro σ H' ⟨n, v4, v5, l1, k1, w1, ds, ls, s, acc, cs, rfl, r, hS', ho', hn, hc, ha, he, hfirst⟩
      have hlen : (vZ l).length = l.length := List.length_map ..
      refine ⟨_, rfl, _, rfl, p, _, rfl, .inl hS', _, _, rfl, rfl, _, rfl, ?_⟩
      rw [hlen]
      by_cases hlt : n < l.length
      · rw [decide_eq_true (by omega : (n : Int) < (l.length : Int))]
        refine iteT ?_
        rcases hc.inv with ⟨e0, _⟩ | ⟨t, c, cs', rfl, hr1, ht⟩
        · have := congrArg List.length e0
          rw [List.length_drop] at this
          exact absurd this (by show ¬ l.length - n = 0; omega)
        · obtain ⟨fl, efl, hfl, hpos⟩ := hr1.split
          obtain ⟨q, hq⟩ := callIs_some hfl
          have hlen2 : l.length - n = fl.length + t.length := by rw [← List.length_drop, efl, List.length_append]
          obtain ⟨st, hst⟩ := spec_goes s q
          have hsp : Ql82.spec (some s) q = (some st, (Ql82.spec (some s) q).2) := by rw [← hst]
          have erun := run_cons (a := some s) (cs := cs') hq
          rw [hst] at erun
          refine ⟨_, rfl, _, rfl, p, l, fl, t, c, n, rfl, hS', efl, hfl, ?_⟩
          refine ⟨_, rfl, _, rfl, _, rfl, _, rfl, _, rfl, _, rfl, p, _, rfl, hS', fun sl hsl => ?_⟩
          have ec := cut_vZ efl
          rw [ec]
          have s3 : Same H' (upd H' sl (.lst (vZ fl))) := same_new hsl
          refine ⟨a, sl, l1, k1, w1, ds, ls, s, fl, c, q, rfl, r.same s3, SqL.of upd_same, hfl, ha c (List.mem_cons_self ..), hq, fun st' x hx => ?_⟩
          rw [hsp] at hx
          cases hx
          intro H4 b l4 k4 w4 ds4 ls4 r4 hb c4 nb hfr
          have c34 := s3.calm.trans c4
          have ho4 : H4 o = some (.lst (vZ acc)) := c34.1 o acc ho'
          have hb' : H4 b = some (.lst (vZ (outOf (Ql82.spec (some s) q).2))) := hb
          have hsz : acc.length + 1 + (outOf (Ql82.spec (some s) q).2).length ≤ 10000000 := by
            have := congrArg List.length he
            rw [erun, List.length_append, List.length_cons, List.length_append] at this
            rw [outOf_len]
            omega
          have sz : (10000000 : Nat) < sizeLine := by decide
          refine ⟨_, rfl, .inl ⟨rfl, _, SqL.of ho4⟩, _, rfl, b, _, rfl, .inl (SqL.of hb'), o, _, _, rfl, rfl, ho4, (by rw [show (vZ acc).length = acc.length from List.length_map ..]; omega), ?_⟩
          have ob : b ≠ o := fun z => nb acc (by subst z; rw [upd_ne (ne_of_none ho' hsl)]; exact ho')
          refine ⟨_, rfl, .inl ⟨rfl, _, SqL.of upd_same⟩, _, rfl, o, b, _, _, rfl, rfl, upd_same, (by rw [upd_ne ob]; exact hb'), (by rw [List.length_append, show (vZ acc).length = acc.length from List.length_map .., show (vZ (outOf (Ql82.spec (some s) q).2)).length = (outOf (Ql82.spec (some s) q).2).length from List.length_map ..]; exact Nat.le_trans hsz (Nat.le_of_lt sz)), ?_⟩
          rw [upd_upd]
          refine ⟨_, rfl, ?_⟩
          have keep5 : ∀ c u, H4 c = some u → c ≠ o → upd H4 o (.lst (vZ acc ++ [V.int ((vZ (outOf (Ql82.spec (some s) q).2)).length : Int)] ++ vZ (outOf (Ql82.spec (some s) q).2))) c = some u := fun c u e n => by rw [upd_ne n]; exact e
          have eacc : vZ acc ++ [V.int ((vZ (outOf (Ql82.spec (some s) q).2)).length : Int)] ++ vZ (outOf (Ql82.spec (some s) q).2) = vZ (acc ++ ((outI (Ql82.spec (some s) q).2).length : Int) :: outI (Ql82.spec (some s) q).2) := by
            unfold vZ
            rw [List.map_append, List.map_cons, List.length_map, List.append_assoc]
            rfl
          rw [eacc] at keep5 ⊢
          refine ⟨⟨n + fl.length, _, _, l4, k4, w4, ds4, ls4, st, _, cs', rfl, r4.tuned ho4 keep5 ?_, ?_, upd_same, by omega, ?_, fun c hc => ha c (List.mem_cons_of_mem _ hc), ?_, fun z => absurd z (by simp)⟩, ?_⟩
          · by_cases ea : acc = []
            · have hB : isB q := by
                have h1 := hfirst ea
                rw [List.head?_cons] at h1
                cases h1
                cases hq
                exact ⟨m0, rfl, hm0.1, by omega⟩
              refine .inr ⟨_, ?_, hfr hB⟩
              rw [s3 _ _ ho']
              exact fun z => by cases z
            · exact .inl ea
          · rcases sql_calm hS' c34 with (e | ⟨u, e⟩) | e
            · by_cases z : p = o
              · exact .inr (hpo z)
              · exact .inl (.inl (keep5 _ _ e z))
            · exact .inl (.inr ⟨u, keep5 _ _ e (ne_of e ho4 (by intro z; cases z))⟩)
            · exact .inr e
          · rw [← List.drop_drop, efl, List.drop_left]
            exact ht
          · rw [List.append_assoc, ← he, erun]
            rfl
          · show l.length - ((n + fl.length : Nat) : Int).toNat < l.length - ((n : Nat) : Int).toNat
            omega
      · rw [decide_eq_false (by omega : ¬ (n : Int) < (l.length : Int))]
        refine iteF ?_
        have en : n = l.length := by omega
        subst en
        rcases hc.inv with ⟨_, rfl⟩ | ⟨t, c, cs', rfl, hr1, ht⟩
        · rw [run_nil, List.append_nil] at he
          subst he
          exact ⟨_, rfl, kk _ _ ho'⟩
        · rw [List.drop_length] at hr1
          cases hr1
    · rintro σ H' Q1 Q2 hQ ⟨v, e1, v2, e2, p', ys, e3, e4, i, j, e5, e6, b, e7, q⟩
      exact ⟨v, e1, v2, e2, p', ys, e3, e4, i, j, e5, e6, b, e7, hQ _ _ q⟩
end
end KR

namespace KR
open PySem PySem.Spec PyProof.Rows L2
theorem all_mk {P : Program} {w : World} {K : PySem.W.Frag} {h : Heap} {mg : Str → Option Value} {fa a_Told a_Router f1 f2 f3 f4 f5 f6 f7 f8 f9 f10 f11 f12 f13 f14 f15 f16 f17 f18 f19 f20 f21 f22 f23 f24 f25 f26 f27 f28 f29 f30 f31 f32 f33 f34 f35 : Addr} (X : K.In h) (G : h.Ns mainGlobals mg) (hfa : mg "answers" = some (.ref fa))
    {od1 an1 od2 an2 od3 an3 od4 an4 od5 an5 od6 an6 od7 an7 od8 an8 od9 an9 od10 an10 od11 an11 od12 an12 od13 an13 od14 an14 od15 an15 od16 an16 od17 an17 od18 an18 od19 an19 od20 an20 od21 an21 od22 an22 od23 an23 od24 an24 od25 an25 od26 an26 od27 an27 od28 an28 od29 an29 od30 an30 od31 an31 od32 an32 od33 an33 od34 an34 od35 an35 : Option Addr} {sl1 sl2 sl3 sl4 sl5 sl6 sl7 sl8 sl9 sl10 sl11 sl12 sl13 sl14 sl15 sl16 sl17 sl18 sl19 sl20 sl21 sl22 sl23 sl24 sl25 sl26 sl27 sl28 sl29 sl30 sl31 sl32 sl33 sl34 sl35 : Array (Option Value)} {oc1 kV1 dc1 pm1 cd1 ct1 oc2 kV2 dc2 pm2 cd2 ct2 oc3 kV3 dc3 pm3 cd3 ct3 oc4 kV4 dc4 pm4 cd4 ct4 oc5 kV5 dc5 pm5 cd5 ct5 oc6 kV6 dc6 pm6 cd6 ct6 oc7 kV7 dc7 pm7 cd7 ct7 oc8 kV8 dc8 pm8 cd8 ct8 oc9 kV9 dc9 pm9 cd9 ct9 oc10 kV10 dc10 pm10 cd10 ct10 oc11 kV11 dc11 pm11 cd11 ct11 oc12 kV12 dc12 pm12 cd12 ct12 oc13 kV13 dc13 pm13 cd13 ct13 oc14 kV14 dc14 pm14 cd14 ct14 oc15 kV15 dc15 pm15 cd15 ct15 oc16 kV16 dc16 pm16 cd16 ct16 oc17 kV17 dc17 pm17 cd17 ct17 oc18 kV18 dc18 pm18 cd18 ct18 oc19 kV19 dc19 pm19 cd19 ct19 oc20 kV20 dc20 pm20 cd20 ct20 oc21 kV21 dc21 pm21 cd21 ct21 oc22 kV22 dc22 pm22 cd22 ct22 oc23 kV23 dc23 pm23 cd23 ct23 oc24 kV24 dc24 pm24 cd24 ct24 oc25 kV25 dc25 pm25 cd25 ct25 oc26 kV26 dc26 pm26 cd26 ct26 oc27 kV27 dc27 pm27 cd27 ct27 oc28 kV28 dc28 pm28 cd28 ct28 oc29 kV29 dc29 pm29 cd29 ct29 oc30 kV30 dc30 pm30 cd30 ct30 oc31 kV31 dc31 pm31 cd31 ct31 oc32 kV32 dc32 pm32 cd32 ct32 oc33 kV33 dc33 pm33 cd33 ct33 oc34 kV34 dc34 pm34 cd34 ct34 oc35 kV35 dc35 pm35 cd35 ct35 : Value}
    {t_ROUTERS t_MOST_ROADS t_HEAD_BYTES t_ROAD_BYTES t_LINES t_MOST_COST t_MOST_NUMBER t_MOST_BYTES t_RO_BEGIN t_RO_LINE t_RO_HEAR t_RO_NEXT t_RO_LOOK t_RO_FAR : Tok}
    {o_CALL_LENGTHS : Addr} {u_CALL_LENGTHS : Option Addr} {n_CALL_LENGTHS : Nat} {l_CALL_LENGTHS : Array (Option Value)} {t_CALL_LENGTHS_0 t_CALL_LENGTHS_1 t_CALL_LENGTHS_2 t_CALL_LENGTHS_3 t_CALL_LENGTHS_4 t_CALL_LENGTHS_5 t_CALL_LENGTHS_6 : Tok}
    (g_Told : PySem.W.nsIn K mainGlobals "Told" = some (some (.ref a_Told)))
    (g_Router : PySem.W.nsIn K mainGlobals "Router" = some (some (.ref a_Router)))
    (a1 : PySem.W.findIn K (.ref a_Told) "__init__" = some (some (.ref f1)))
    (i1 : PySem.W.isFn K (.ref f1) = true)
    (l1 : K.lookup f1 = some ⟨oc1, od1, .func (PySem.W.fnOf "__init__" "Told.__init__" (defArgs st_Told_init) (defBody st_Told_init) (defScope st_Told_init) .none kV1 dc1 pm1 an1 cd1 ct1), sl1⟩)
    (c1 : PySem.W.codeIn K cd1 "Told.__init__" = true)
    (k1 : PySem.W.keepIn K (.ref f1) = true)
    (a2 : PySem.W.findIn K (.ref a_Told) "cost_to" = some (some (.ref f2)))
    (i2 : PySem.W.isFn K (.ref f2) = true)
    (l2 : K.lookup f2 = some ⟨oc2, od2, .func (PySem.W.fnOf "cost_to" "Told.cost_to" (defArgs st_Told_cost_to) (defBody st_Told_cost_to) (defScope st_Told_cost_to) .none kV2 dc2 pm2 an2 cd2 ct2), sl2⟩)
    (c2 : PySem.W.codeIn K cd2 "Told.cost_to" = true)
    (k2 : PySem.W.keepIn K (.ref f2) = true)
    (a3 : PySem.W.nsIn K mainGlobals "is_router" = some (some (.ref f3)))
    (l3 : K.lookup f3 = some ⟨oc3, od3, .func (PySem.W.fnOf "is_router" "is_router" (defArgs st_is_router) (defBody st_is_router) (defScope st_is_router) .none kV3 dc3 pm3 an3 cd3 ct3), sl3⟩)
    (c3 : PySem.W.codeIn K cd3 "is_router" = true)
    (k3 : PySem.W.keepIn K (.ref f3) = true)
    (a4 : PySem.W.nsIn K mainGlobals "message_of" = some (some (.ref f4)))
    (l4 : K.lookup f4 = some ⟨oc4, od4, .func (PySem.W.fnOf "message_of" "message_of" (defArgs st_message_of) (defBody st_message_of) (defScope st_message_of) .none kV4 dc4 pm4 an4 cd4 ct4), sl4⟩)
    (c4 : PySem.W.codeIn K cd4 "message_of" = true)
    (k4 : PySem.W.keepIn K (.ref f4) = true)
    (a5 : PySem.W.nsIn K mainGlobals "read_message" = some (some (.ref f5)))
    (l5 : K.lookup f5 = some ⟨oc5, od5, .func (PySem.W.fnOf "read_message" "read_message" (defArgs st_read_message) (defBody st_read_message) (defScope st_read_message) .none kV5 dc5 pm5 an5 cd5 ct5), sl5⟩)
    (c5 : PySem.W.codeIn K cd5 "read_message" = true)
    (k5 : PySem.W.keepIn K (.ref f5) = true)
    (a6 : PySem.W.nsIn K mainGlobals "has_right_length" = some (some (.ref f6)))
    (l6 : K.lookup f6 = some ⟨oc6, od6, .func (PySem.W.fnOf "has_right_length" "has_right_length" (defArgs st_has_right_length) (defBody st_has_right_length) (defScope st_has_right_length) .none kV6 dc6 pm6 an6 cd6 ct6), sl6⟩)
    (c6 : PySem.W.codeIn K cd6 "has_right_length" = true)
    (k6 : PySem.W.keepIn K (.ref f6) = true)
    (a7 : PySem.W.nsIn K mainGlobals "number_in" = some (some (.ref f7)))
    (l7 : K.lookup f7 = some ⟨oc7, od7, .func (PySem.W.fnOf "number_in" "number_in" (defArgs st_number_in) (defBody st_number_in) (defScope st_number_in) .none kV7 dc7 pm7 an7 cd7 ct7), sl7⟩)
    (c7 : PySem.W.codeIn K cd7 "number_in" = true)
    (k7 : PySem.W.keepIn K (.ref f7) = true)
    (a8 : PySem.W.nsIn K mainGlobals "roads_in" = some (some (.ref f8)))
    (l8 : K.lookup f8 = some ⟨oc8, od8, .func (PySem.W.fnOf "roads_in" "roads_in" (defArgs st_roads_in) (defBody st_roads_in) (defScope st_roads_in) .none kV8 dc8 pm8 an8 cd8 ct8), sl8⟩)
    (c8 : PySem.W.codeIn K cd8 "roads_in" = true)
    (k8 : PySem.W.keepIn K (.ref f8) = true)
    (a9 : PySem.W.nsIn K mainGlobals "is_well_formed" = some (some (.ref f9)))
    (l9 : K.lookup f9 = some ⟨oc9, od9, .func (PySem.W.fnOf "is_well_formed" "is_well_formed" (defArgs st_is_well_formed) (defBody st_is_well_formed) (defScope st_is_well_formed) .none kV9 dc9 pm9 an9 cd9 ct9), sl9⟩)
    (c9 : PySem.W.codeIn K cd9 "is_well_formed" = true)
    (k9 : PySem.W.keepIn K (.ref f9) = true)
    (a10 : PySem.W.nsIn K mainGlobals "road_cost" = some (some (.ref f10)))
    (l10 : K.lookup f10 = some ⟨oc10, od10, .func (PySem.W.fnOf "road_cost" "road_cost" (defArgs st_road_cost) (defBody st_road_cost) (defScope st_road_cost) .none kV10 dc10 pm10 an10 cd10 ct10), sl10⟩)
    (c10 : PySem.W.codeIn K cd10 "road_cost" = true)
    (k10 : PySem.W.keepIn K (.ref f10) = true)
    (a11 : PySem.W.nsIn K mainGlobals "roads_into" = some (some (.ref f11)))
    (l11 : K.lookup f11 = some ⟨oc11, od11, .func (PySem.W.fnOf "roads_into" "roads_into" (defArgs st_roads_into) (defBody st_roads_into) (defScope st_roads_into) .none kV11 dc11 pm11 an11 cd11 ct11), sl11⟩)
    (c11 : PySem.W.codeIn K cd11 "roads_into" = true)
    (k11 : PySem.W.keepIn K (.ref f11) = true)
    (a12 : PySem.W.nsIn K mainGlobals "least_costs_to" = some (some (.ref f12)))
    (l12 : K.lookup f12 = some ⟨oc12, od12, .func (PySem.W.fnOf "least_costs_to" "least_costs_to" (defArgs st_least_costs_to) (defBody st_least_costs_to) (defScope st_least_costs_to) .none kV12 dc12 pm12 an12 cd12 ct12), sl12⟩)
    (c12 : PySem.W.codeIn K cd12 "least_costs_to" = true)
    (k12 : PySem.W.keepIn K (.ref f12) = true)
    (a13 : PySem.W.findIn K (.ref a_Router) "__init__" = some (some (.ref f13)))
    (i13 : PySem.W.isFn K (.ref f13) = true)
    (l13 : K.lookup f13 = some ⟨oc13, od13, .func (PySem.W.fnOf "__init__" "Router.__init__" (defArgs st_Router_init) (defBody st_Router_init) (defScope st_Router_init) .none kV13 dc13 pm13 an13 cd13 ct13), sl13⟩)
    (c13 : PySem.W.codeIn K cd13 "Router.__init__" = true)
    (k13 : PySem.W.keepIn K (.ref f13) = true)
    (a14 : PySem.W.findIn K (.ref a_Router) "begin" = some (some (.ref f14)))
    (i14 : PySem.W.isFn K (.ref f14) = true)
    (l14 : K.lookup f14 = some ⟨oc14, od14, .func (PySem.W.fnOf "begin" "Router.begin" (defArgs st_Router_begin) (defBody st_Router_begin) (defScope st_Router_begin) .none kV14 dc14 pm14 an14 cd14 ct14), sl14⟩)
    (c14 : PySem.W.codeIn K cd14 "Router.begin" = true)
    (k14 : PySem.W.keepIn K (.ref f14) = true)
    (a15 : PySem.W.findIn K (.ref a_Router) "set_line" = some (some (.ref f15)))
    (i15 : PySem.W.isFn K (.ref f15) = true)
    (l15 : K.lookup f15 = some ⟨oc15, od15, .func (PySem.W.fnOf "set_line" "Router.set_line" (defArgs st_Router_set_line) (defBody st_Router_set_line) (defScope st_Router_set_line) .none kV15 dc15 pm15 an15 cd15 ct15), sl15⟩)
    (c15 : PySem.W.codeIn K cd15 "Router.set_line" = true)
    (k15 : PySem.W.keepIn K (.ref f15) = true)
    (a16 : PySem.W.findIn K (.ref a_Router) "hear" = some (some (.ref f16)))
    (i16 : PySem.W.isFn K (.ref f16) = true)
    (l16 : K.lookup f16 = some ⟨oc16, od16, .func (PySem.W.fnOf "hear" "Router.hear" (defArgs st_Router_hear) (defBody st_Router_hear) (defScope st_Router_hear) .none kV16 dc16 pm16 an16 cd16 ct16), sl16⟩)
    (c16 : PySem.W.codeIn K cd16 "Router.hear" = true)
    (k16 : PySem.W.keepIn K (.ref f16) = true)
    (a17 : PySem.W.findIn K (.ref a_Router) "tell_next" = some (some (.ref f17)))
    (i17 : PySem.W.isFn K (.ref f17) = true)
    (l17 : K.lookup f17 = some ⟨oc17, od17, .func (PySem.W.fnOf "tell_next" "Router.tell_next" (defArgs st_Router_tell_next) (defBody st_Router_tell_next) (defScope st_Router_tell_next) .none kV17 dc17 pm17 an17 cd17 ct17), sl17⟩)
    (c17 : PySem.W.codeIn K cd17 "Router.tell_next" = true)
    (k17 : PySem.W.keepIn K (.ref f17) = true)
    (a18 : PySem.W.findIn K (.ref a_Router) "look" = some (some (.ref f18)))
    (i18 : PySem.W.isFn K (.ref f18) = true)
    (l18 : K.lookup f18 = some ⟨oc18, od18, .func (PySem.W.fnOf "look" "Router.look" (defArgs st_Router_look) (defBody st_Router_look) (defScope st_Router_look) .none kV18 dc18 pm18 an18 cd18 ct18), sl18⟩)
    (c18 : PySem.W.codeIn K cd18 "Router.look" = true)
    (k18 : PySem.W.keepIn K (.ref f18) = true)
    (a19 : PySem.W.findIn K (.ref a_Router) "least_cost" = some (some (.ref f19)))
    (i19 : PySem.W.isFn K (.ref f19) = true)
    (l19 : K.lookup f19 = some ⟨oc19, od19, .func (PySem.W.fnOf "least_cost" "Router.least_cost" (defArgs st_Router_least_cost) (defBody st_Router_least_cost) (defScope st_Router_least_cost) .none kV19 dc19 pm19 an19 cd19 ct19), sl19⟩)
    (c19 : PySem.W.codeIn K cd19 "Router.least_cost" = true)
    (k19 : PySem.W.keepIn K (.ref f19) = true)
    (a20 : PySem.W.findIn K (.ref a_Router) "lines_on" = some (some (.ref f20)))
    (i20 : PySem.W.isFn K (.ref f20) = true)
    (l20 : K.lookup f20 = some ⟨oc20, od20, .func (PySem.W.fnOf "lines_on" "Router.lines_on" (defArgs st_Router_lines_on) (defBody st_Router_lines_on) (defScope st_Router_lines_on) .none kV20 dc20 pm20 an20 cd20 ct20), sl20⟩)
    (c20 : PySem.W.codeIn K cd20 "Router.lines_on" = true)
    (k20 : PySem.W.keepIn K (.ref f20) = true)
    (a21 : PySem.W.findIn K (.ref a_Router) "leads_on" = some (some (.ref f21)))
    (i21 : PySem.W.isFn K (.ref f21) = true)
    (l21 : K.lookup f21 = some ⟨oc21, od21, .func (PySem.W.fnOf "leads_on" "Router.leads_on" (defArgs st_Router_leads_on) (defBody st_Router_leads_on) (defScope st_Router_leads_on) .none kV21 dc21 pm21 an21 cd21 ct21), sl21⟩)
    (c21 : PySem.W.codeIn K cd21 "Router.leads_on" = true)
    (k21 : PySem.W.keepIn K (.ref f21) = true)
    (a22 : PySem.W.findIn K (.ref a_Router) "hear_of_another" = some (some (.ref f22)))
    (i22 : PySem.W.isFn K (.ref f22) = true)
    (l22 : K.lookup f22 = some ⟨oc22, od22, .func (PySem.W.fnOf "hear_of_another" "Router.hear_of_another" (defArgs st_Router_hear_of_another) (defBody st_Router_hear_of_another) (defScope st_Router_hear_of_another) .none kV22 dc22 pm22 an22 cd22 ct22), sl22⟩)
    (c22 : PySem.W.codeIn K cd22 "Router.hear_of_another" = true)
    (k22 : PySem.W.keepIn K (.ref f22) = true)
    (a23 : PySem.W.findIn K (.ref a_Router) "hear_of_itself" = some (some (.ref f23)))
    (i23 : PySem.W.isFn K (.ref f23) = true)
    (l23 : K.lookup f23 = some ⟨oc23, od23, .func (PySem.W.fnOf "hear_of_itself" "Router.hear_of_itself" (defArgs st_Router_hear_of_itself) (defBody st_Router_hear_of_itself) (defScope st_Router_hear_of_itself) .none kV23 dc23 pm23 an23 cd23 ct23), sl23⟩)
    (c23 : PySem.W.codeIn K cd23 "Router.hear_of_itself" = true)
    (k23 : PySem.W.keepIn K (.ref f23) = true)
    (a24 : PySem.W.findIn K (.ref a_Router) "tell_anew" = some (some (.ref f24)))
    (i24 : PySem.W.isFn K (.ref f24) = true)
    (l24 : K.lookup f24 = some ⟨oc24, od24, .func (PySem.W.fnOf "tell_anew" "Router.tell_anew" (defArgs st_Router_tell_anew) (defBody st_Router_tell_anew) (defScope st_Router_tell_anew) .none kV24 dc24 pm24 an24 cd24 ct24), sl24⟩)
    (c24 : PySem.W.codeIn K cd24 "Router.tell_anew" = true)
    (k24 : PySem.W.keepIn K (.ref f24) = true)
    (a25 : PySem.W.findIn K (.ref a_Router) "is_up" = some (some (.ref f25)))
    (i25 : PySem.W.isFn K (.ref f25) = true)
    (l25 : K.lookup f25 = some ⟨oc25, od25, .func (PySem.W.fnOf "is_up" "Router.is_up" (defArgs st_Router_is_up) (defBody st_Router_is_up) (defScope st_Router_is_up) .none kV25 dc25 pm25 an25 cd25 ct25), sl25⟩)
    (c25 : PySem.W.codeIn K cd25 "Router.is_up" = true)
    (k25 : PySem.W.keepIn K (.ref f25) = true)
    (a26 : PySem.W.findIn K (.ref a_Router) "fill_line" = some (some (.ref f26)))
    (i26 : PySem.W.isFn K (.ref f26) = true)
    (l26 : K.lookup f26 = some ⟨oc26, od26, .func (PySem.W.fnOf "fill_line" "Router.fill_line" (defArgs st_Router_fill_line) (defBody st_Router_fill_line) (defScope st_Router_fill_line) .none kV26 dc26 pm26 an26 cd26 ct26), sl26⟩)
    (c26 : PySem.W.codeIn K cd26 "Router.fill_line" = true)
    (k26 : PySem.W.keepIn K (.ref f26) = true)
    (a27 : PySem.W.findIn K (.ref a_Router) "wait_on_all" = some (some (.ref f27)))
    (i27 : PySem.W.isFn K (.ref f27) = true)
    (l27 : K.lookup f27 = some ⟨oc27, od27, .func (PySem.W.fnOf "wait_on_all" "Router.wait_on_all" (defArgs st_Router_wait_on_all) (defBody st_Router_wait_on_all) (defScope st_Router_wait_on_all) .none kV27 dc27 pm27 an27 cd27 ct27), sl27⟩)
    (c27 : PySem.W.codeIn K cd27 "Router.wait_on_all" = true)
    (k27 : PySem.W.keepIn K (.ref f27) = true)
    (a28 : PySem.W.findIn K (.ref a_Router) "wait_on" = some (some (.ref f28)))
    (i28 : PySem.W.isFn K (.ref f28) = true)
    (l28 : K.lookup f28 = some ⟨oc28, od28, .func (PySem.W.fnOf "wait_on" "Router.wait_on" (defArgs st_Router_wait_on) (defBody st_Router_wait_on) (defScope st_Router_wait_on) .none kV28 dc28 pm28 an28 cd28 ct28), sl28⟩)
    (c28 : PySem.W.codeIn K cd28 "Router.wait_on" = true)
    (k28 : PySem.W.keepIn K (.ref f28) = true)
    (a29 : PySem.W.findIn K (.ref a_Router) "wait_no_more" = some (some (.ref f29)))
    (i29 : PySem.W.isFn K (.ref f29) = true)
    (l29 : K.lookup f29 = some ⟨oc29, od29, .func (PySem.W.fnOf "wait_no_more" "Router.wait_no_more" (defArgs st_Router_wait_no_more) (defBody st_Router_wait_no_more) (defScope st_Router_wait_no_more) .none kV29 dc29 pm29 an29 cd29 ct29), sl29⟩)
    (c29 : PySem.W.codeIn K cd29 "Router.wait_no_more" = true)
    (k29 : PySem.W.keepIn K (.ref f29) = true)
    (a30 : PySem.W.nsIn K mainGlobals "is_line" = some (some (.ref f30)))
    (l30 : K.lookup f30 = some ⟨oc30, od30, .func (PySem.W.fnOf "is_line" "is_line" (defArgs st_is_line) (defBody st_is_line) (defScope st_is_line) .none kV30 dc30 pm30 an30 cd30 ct30), sl30⟩)
    (c30 : PySem.W.codeIn K cd30 "is_line" = true)
    (k30 : PySem.W.keepIn K (.ref f30) = true)
    (a31 : PySem.W.nsIn K mainGlobals "answer_that_tells" = some (some (.ref f31)))
    (l31 : K.lookup f31 = some ⟨oc31, od31, .func (PySem.W.fnOf "answer_that_tells" "answer_that_tells" (defArgs st_answer_that_tells) (defBody st_answer_that_tells) (defScope st_answer_that_tells) .none kV31 dc31 pm31 an31 cd31 ct31), sl31⟩)
    (c31 : PySem.W.codeIn K cd31 "answer_that_tells" = true)
    (k31 : PySem.W.keepIn K (.ref f31) = true)
    (a32 : PySem.W.nsIn K mainGlobals "roads_by" = some (some (.ref f32)))
    (l32 : K.lookup f32 = some ⟨oc32, od32, .func (PySem.W.fnOf "roads_by" "roads_by" (defArgs st_roads_by) (defBody st_roads_by) (defScope st_roads_by) .none kV32 dc32 pm32 an32 cd32 ct32), sl32⟩)
    (c32 : PySem.W.codeIn K cd32 "roads_by" = true)
    (k32 : PySem.W.keepIn K (.ref f32) = true)
    (a33 : PySem.W.nsIn K mainGlobals "answers" = some (some (.ref f33)))
    (l33 : K.lookup f33 = some ⟨oc33, od33, .func (PySem.W.fnOf "answers" "answers" (defArgs st_answers) (defBody st_answers) (defScope st_answers) .none kV33 dc33 pm33 an33 cd33 ct33), sl33⟩)
    (c33 : PySem.W.codeIn K cd33 "answers" = true)
    (k33 : PySem.W.keepIn K (.ref f33) = true)
    (a34 : PySem.W.nsIn K mainGlobals "call_end" = some (some (.ref f34)))
    (l34 : K.lookup f34 = some ⟨oc34, od34, .func (PySem.W.fnOf "call_end" "call_end" (defArgs st_call_end) (defBody st_call_end) (defScope st_call_end) .none kV34 dc34 pm34 an34 cd34 ct34), sl34⟩)
    (c34 : PySem.W.codeIn K cd34 "call_end" = true)
    (k34 : PySem.W.keepIn K (.ref f34) = true)
    (a35 : PySem.W.nsIn K mainGlobals "answer_to" = some (some (.ref f35)))
    (l35 : K.lookup f35 = some ⟨oc35, od35, .func (PySem.W.fnOf "answer_to" "answer_to" (defArgs st_answer_to) (defBody st_answer_to) (defScope st_answer_to) .none kV35 dc35 pm35 an35 cd35 ct35), sl35⟩)
    (c35 : PySem.W.codeIn K cd35 "answer_to" = true)
    (k35 : PySem.W.keepIn K (.ref f35) = true)
    (pg_Told : PySem.W.plainGet K a_Told Str.empty = true)
    (hd_Told : PySem.W.hasDictIn K a_Told = true)
    (po_Told : PySem.W.plainOver K a_Told = true)
    (sa_Told : PySem.W.findIn K (.ref a_Told) "__setattr__" = some (some (.builtin "object.__setattr__")))
    (mk_Told : PySem.W.makesIn K a_Told = true)
    (kc_Told : PySem.W.keepIn K (.ref a_Told) = true)
    (n_Told_name : PySem.W.findIn K (.ref a_Told) "name" = some none)
    (n_Told_number : PySem.W.findIn K (.ref a_Told) "number" = some none)
    (n_Told_roads : PySem.W.findIn K (.ref a_Told) "roads" = some none)
    (pg_Router : PySem.W.plainGet K a_Router Str.empty = true)
    (hd_Router : PySem.W.hasDictIn K a_Router = true)
    (po_Router : PySem.W.plainOver K a_Router = true)
    (sa_Router : PySem.W.findIn K (.ref a_Router) "__setattr__" = some (some (.builtin "object.__setattr__")))
    (mk_Router : PySem.W.makesIn K a_Router = true)
    (kc_Router : PySem.W.keepIn K (.ref a_Router) = true)
    (n_Router_me : PySem.W.findIn K (.ref a_Router) "me" = some none)
    (n_Router_lines : PySem.W.findIn K (.ref a_Router) "lines" = some none)
    (n_Router_known : PySem.W.findIn K (.ref a_Router) "known" = some none)
    (n_Router_waits : PySem.W.findIn K (.ref a_Router) "waits" = some none)
    (v_ROUTERS : PySem.W.nsIn K mainGlobals "ROUTERS" = some (some (.int 64 t_ROUTERS)))
    (v_MOST_ROADS : PySem.W.nsIn K mainGlobals "MOST_ROADS" = some (some (.int 8 t_MOST_ROADS)))
    (v_HEAD_BYTES : PySem.W.nsIn K mainGlobals "HEAD_BYTES" = some (some (.int 6 t_HEAD_BYTES)))
    (v_ROAD_BYTES : PySem.W.nsIn K mainGlobals "ROAD_BYTES" = some (some (.int 3 t_ROAD_BYTES)))
    (v_LINES : PySem.W.nsIn K mainGlobals "LINES" = some (some (.int 8 t_LINES)))
    (v_MOST_COST : PySem.W.nsIn K mainGlobals "MOST_COST" = some (some (.int 65535 t_MOST_COST)))
    (v_MOST_NUMBER : PySem.W.nsIn K mainGlobals "MOST_NUMBER" = some (some (.int 4294967295 t_MOST_NUMBER)))
    (v_MOST_BYTES : PySem.W.nsIn K mainGlobals "MOST_BYTES" = some (some (.int 65536 t_MOST_BYTES)))
    (v_RO_BEGIN : PySem.W.nsIn K mainGlobals "RO_BEGIN" = some (some (.int 0 t_RO_BEGIN)))
    (v_RO_LINE : PySem.W.nsIn K mainGlobals "RO_LINE" = some (some (.int 1 t_RO_LINE)))
    (v_RO_HEAR : PySem.W.nsIn K mainGlobals "RO_HEAR" = some (some (.int 2 t_RO_HEAR)))
    (v_RO_NEXT : PySem.W.nsIn K mainGlobals "RO_NEXT" = some (some (.int 3 t_RO_NEXT)))
    (v_RO_LOOK : PySem.W.nsIn K mainGlobals "RO_LOOK" = some (some (.int 4 t_RO_LOOK)))
    (v_RO_FAR : PySem.W.nsIn K mainGlobals "RO_FAR" = some (some (.int 5 t_RO_FAR)))
    (v_CALL_LENGTHS : PySem.W.nsIn K mainGlobals "CALL_LENGTHS" = some (some (.ref o_CALL_LENGTHS)))
    (s_CALL_LENGTHS : K.lookup o_CALL_LENGTHS = some ⟨.type "tuple", u_CALL_LENGTHS, .seq #[.int 2 t_CALL_LENGTHS_0, .int 4 t_CALL_LENGTHS_1, .int 3 t_CALL_LENGTHS_2, .int 3 t_CALL_LENGTHS_3, .int 3 t_CALL_LENGTHS_4, .int 2 t_CALL_LENGTHS_5, .int 2 t_CALL_LENGTHS_6] n_CALL_LENGTHS, l_CALL_LENGTHS⟩)
    (z_len : PySem.W.nsIn K mainGlobals "len" = some none)
    (z_list : PySem.W.nsIn K mainGlobals "list" = some none)
    (z_min : PySem.W.nsIn K mainGlobals "min" = some none)
    (z_range : PySem.W.nsIn K mainGlobals "range" = some none)
    (z_sorted : PySem.W.nsIn K mainGlobals "sorted" = some none)
    : ∃ fd : FuncData, (∀ (s : Shared) (us : List Value), us.length = (["calls"] : List Str).length → BindsTo s fd ⟨us, []⟩ ((["calls"] : List Str).zip us)) ∧ ∀ base : Heap, K.In base → base.Ns mainGlobals mg → FnOk P w K mg base CX0 7 fa fd ["calls"] (sp_answers K) := by
  have e := hfa.symm.trans (PySem.W.mg_of X G a33)
  cases e
  have F1 := fun_mk (st := st_Told_init) l1 c1 k1
  have F2 := fun_mk (st := st_Told_cost_to) l2 c2 k2
  have F3 := fun_mk (st := st_is_router) l3 c3 k3
  have F4 := fun_mk (st := st_message_of) l4 c4 k4
  have F5 := fun_mk (st := st_read_message) l5 c5 k5
  have F6 := fun_mk (st := st_has_right_length) l6 c6 k6
  have F7 := fun_mk (st := st_number_in) l7 c7 k7
  have F8 := fun_mk (st := st_roads_in) l8 c8 k8
  have F9 := fun_mk (st := st_is_well_formed) l9 c9 k9
  have F10 := fun_mk (st := st_road_cost) l10 c10 k10
  have F11 := fun_mk (st := st_roads_into) l11 c11 k11
  have F12 := fun_mk (st := st_least_costs_to) l12 c12 k12
  have F13 := fun_mk (st := st_Router_init) l13 c13 k13
  have F14 := fun_mk (st := st_Router_begin) l14 c14 k14
  have F15 := fun_mk (st := st_Router_set_line) l15 c15 k15
  have F16 := fun_mk (st := st_Router_hear) l16 c16 k16
  have F17 := fun_mk (st := st_Router_tell_next) l17 c17 k17
  have F18 := fun_mk (st := st_Router_look) l18 c18 k18
  have F19 := fun_mk (st := st_Router_least_cost) l19 c19 k19
  have F20 := fun_mk (st := st_Router_lines_on) l20 c20 k20
  have F21 := fun_mk (st := st_Router_leads_on) l21 c21 k21
  have F22 := fun_mk (st := st_Router_hear_of_another) l22 c22 k22
  have F23 := fun_mk (st := st_Router_hear_of_itself) l23 c23 k23
  have F24 := fun_mk (st := st_Router_tell_anew) l24 c24 k24
  have F25 := fun_mk (st := st_Router_is_up) l25 c25 k25
  have F26 := fun_mk (st := st_Router_fill_line) l26 c26 k26
  have F27 := fun_mk (st := st_Router_wait_on_all) l27 c27 k27
  have F28 := fun_mk (st := st_Router_wait_on) l28 c28 k28
  have F29 := fun_mk (st := st_Router_wait_no_more) l29 c29 k29
  have F30 := fun_mk (st := st_is_line) l30 c30 k30
  have F31 := fun_mk (st := st_answer_that_tells) l31 c31 k31
  have F32 := fun_mk (st := st_roads_by) l32 c32 k32
  have F33 := fun_mk (st := st_answers) l33 c33 k33
  have F34 := fun_mk (st := st_call_end) l34 c34 k34
  have F35 := fun_mk (st := st_answer_to) l35 c35 k35
  have b1 := F1.binds (ps := pm_Told_init) fun _ _ _ _ _ _ us hl => match us, hl with | [_, _, _, _], _ => rfl
  have b2 := F2.binds (ps := pm_Told_cost_to) fun _ _ _ _ _ _ us hl => match us, hl with | [_, _], _ => rfl
  have b3 := F3.binds (ps := pm_is_router) fun _ _ _ _ _ _ us hl => match us, hl with | [_], _ => rfl
  have b4 := F4.binds (ps := pm_message_of) fun _ _ _ _ _ _ us hl => match us, hl with | [_], _ => rfl
  have b5 := F5.binds (ps := pm_read_message) fun _ _ _ _ _ _ us hl => match us, hl with | [_], _ => rfl
  have b6 := F6.binds (ps := pm_has_right_length) fun _ _ _ _ _ _ us hl => match us, hl with | [_], _ => rfl
  have b7 := F7.binds (ps := pm_number_in) fun _ _ _ _ _ _ us hl => match us, hl with | [_], _ => rfl
  have b8 := F8.binds (ps := pm_roads_in) fun _ _ _ _ _ _ us hl => match us, hl with | [_], _ => rfl
  have b9 := F9.binds (ps := pm_is_well_formed) fun _ _ _ _ _ _ us hl => match us, hl with | [_], _ => rfl
  have b10 := F10.binds (ps := pm_road_cost) fun _ _ _ _ _ _ us hl => match us, hl with | [_, _, _], _ => rfl
  have b11 := F11.binds (ps := pm_roads_into) fun _ _ _ _ _ _ us hl => match us, hl with | [_, _], _ => rfl
  have b12 := F12.binds (ps := pm_least_costs_to) fun _ _ _ _ _ _ us hl => match us, hl with | [_, _], _ => rfl
  have b13 := F13.binds (ps := pm_Router_init) fun _ _ _ _ _ _ us hl => match us, hl with | [_], _ => rfl
  have b14 := F14.binds (ps := pm_Router_begin) fun _ _ _ _ _ _ us hl => match us, hl with | [_, _], _ => rfl
  have b15 := F15.binds (ps := pm_Router_set_line) fun _ _ _ _ _ _ us hl => match us, hl with | [_, _, _, _], _ => rfl
  have b16 := F16.binds (ps := pm_Router_hear) fun _ _ _ _ _ _ us hl => match us, hl with | [_, _, _], _ => rfl
  have b17 := F17.binds (ps := pm_Router_tell_next) fun _ _ _ _ _ _ us hl => match us, hl with | [_, _, _], _ => rfl
  have b18 := F18.binds (ps := pm_Router_look) fun _ _ _ _ _ _ us hl => match us, hl with | [_, _, _], _ => rfl
  have b19 := F19.binds (ps := pm_Router_least_cost) fun _ _ _ _ _ _ us hl => match us, hl with | [_, _], _ => rfl
  have b20 := F20.binds (ps := pm_Router_lines_on) fun _ _ _ _ _ _ us hl => match us, hl with | [_, _], _ => rfl
  have b21 := F21.binds (ps := pm_Router_leads_on) fun _ _ _ _ _ _ us hl => match us, hl with | [_, _, _], _ => rfl
  have b22 := F22.binds (ps := pm_Router_hear_of_another) fun _ _ _ _ _ _ us hl => match us, hl with | [_, _, _], _ => rfl
  have b23 := F23.binds (ps := pm_Router_hear_of_itself) fun _ _ _ _ _ _ us hl => match us, hl with | [_, _, _], _ => rfl
  have b24 := F24.binds (ps := pm_Router_tell_anew) fun _ _ _ _ _ _ us hl => match us, hl with | [_, _], _ => rfl
  have b25 := F25.binds (ps := pm_Router_is_up) fun _ _ _ _ _ _ us hl => match us, hl with | [_, _], _ => rfl
  have b26 := F26.binds (ps := pm_Router_fill_line) fun _ _ _ _ _ _ us hl => match us, hl with | [_, _], _ => rfl
  have b27 := F27.binds (ps := pm_Router_wait_on_all) fun _ _ _ _ _ _ us hl => match us, hl with | [_, _], _ => rfl
  have b28 := F28.binds (ps := pm_Router_wait_on) fun _ _ _ _ _ _ us hl => match us, hl with | [_, _, _], _ => rfl
  have b29 := F29.binds (ps := pm_Router_wait_no_more) fun _ _ _ _ _ _ us hl => match us, hl with | [_, _, _], _ => rfl
  have b30 := F30.binds (ps := pm_is_line) fun _ _ _ _ _ _ us hl => match us, hl with | [_], _ => rfl
  have b31 := F31.binds (ps := pm_answer_that_tells) fun _ _ _ _ _ _ us hl => match us, hl with | [_, _], _ => rfl
  have b32 := F32.binds (ps := pm_roads_by) fun _ _ _ _ _ _ us hl => match us, hl with | [_], _ => rfl
  have b33 := F33.binds (ps := pm_answers) fun _ _ _ _ _ _ us hl => match us, hl with | [_], _ => rfl
  have b34 := F34.binds (ps := pm_call_end) fun _ _ _ _ _ _ us hl => match us, hl with | [_, _], _ => rfl
  have b35 := F35.binds (ps := pm_answer_to) fun _ _ _ _ _ _ us hl => match us, hl with | [_, _], _ => rfl
  have T : Txt K mg ⟨a_Told, a_Router, f1, _, f2, _, f3, _, f4, _, f5, _, f6, _, f7, _, f8, _, f9, _, f10, _, f11, _, f12, _, f13, _, f14, _, f15, _, f16, _, f17, _, f18, _, f19, _, f20, _, f21, _, f22, _, f23, _, f24, _, f25, _, f26, _, f27, _, f28, _, f29, _, f30, _, f31, _, f32, _, fa, _, f34, _, f35, _, t_ROUTERS, t_MOST_ROADS, t_HEAD_BYTES, t_ROAD_BYTES, t_LINES, t_MOST_COST, t_MOST_NUMBER, t_MOST_BYTES, t_RO_BEGIN, t_RO_LINE, t_RO_HEAR, t_RO_NEXT, t_RO_LOOK, t_RO_FAR, o_CALL_LENGTHS⟩ := ⟨⟨pg_Told, hd_Told, po_Told, sa_Told⟩,
    PySem.W.mg_of X G g_Told,
    ⟨mk_Told, a1, i1, kc_Told⟩,
    n_Told_name,
    n_Told_number,
    n_Told_roads,
    ⟨pg_Router, hd_Router, po_Router, sa_Router⟩,
    PySem.W.mg_of X G g_Router,
    ⟨mk_Router, a13, i13, kc_Router⟩,
    n_Router_me,
    n_Router_lines,
    n_Router_known,
    n_Router_waits,
    F1,
    b1,
    F2,
    b2,
    ⟨a2, i2, k2⟩,
    F3,
    b3,
    PySem.W.mg_of X G a3,
    k3,
    F4,
    b4,
    PySem.W.mg_of X G a4,
    k4,
    F5,
    b5,
    PySem.W.mg_of X G a5,
    k5,
    F6,
    b6,
    PySem.W.mg_of X G a6,
    k6,
    F7,
    b7,
    PySem.W.mg_of X G a7,
    k7,
    F8,
    b8,
    PySem.W.mg_of X G a8,
    k8,
    F9,
    b9,
    PySem.W.mg_of X G a9,
    k9,
    F10,
    b10,
    PySem.W.mg_of X G a10,
    k10,
    F11,
    b11,
    PySem.W.mg_of X G a11,
    k11,
    F12,
    b12,
    PySem.W.mg_of X G a12,
    k12,
    F13,
    b13,
    F14,
    b14,
    ⟨a14, i14, k14⟩,
    F15,
    b15,
    ⟨a15, i15, k15⟩,
    F16,
    b16,
    ⟨a16, i16, k16⟩,
    F17,
    b17,
    ⟨a17, i17, k17⟩,
    F18,
    b18,
    ⟨a18, i18, k18⟩,
    F19,
    b19,
    ⟨a19, i19, k19⟩,
    F20,
    b20,
    ⟨a20, i20, k20⟩,
    F21,
    b21,
    ⟨a21, i21, k21⟩,
    F22,
    b22,
    ⟨a22, i22, k22⟩,
    F23,
    b23,
    ⟨a23, i23, k23⟩,
    F24,
    b24,
    ⟨a24, i24, k24⟩,
    F25,
    b25,
    ⟨a25, i25, k25⟩,
    F26,
    b26,
    ⟨a26, i26, k26⟩,
    F27,
    b27,
    ⟨a27, i27, k27⟩,
    F28,
    b28,
    ⟨a28, i28, k28⟩,
    F29,
    b29,
    ⟨a29, i29, k29⟩,
    F30,
    b30,
    PySem.W.mg_of X G a30,
    k30,
    F31,
    b31,
    PySem.W.mg_of X G a31,
    k31,
    F32,
    b32,
    PySem.W.mg_of X G a32,
    k32,
    F33,
    b33,
    PySem.W.mg_of X G a33,
    k33,
    F34,
    b34,
    PySem.W.mg_of X G a34,
    k34,
    F35,
    b35,
    PySem.W.mg_of X G a35,
    k35,
    PySem.W.mg_of X G v_ROUTERS,
    PySem.W.mg_of X G v_MOST_ROADS,
    PySem.W.mg_of X G v_HEAD_BYTES,
    PySem.W.mg_of X G v_ROAD_BYTES,
    PySem.W.mg_of X G v_LINES,
    PySem.W.mg_of X G v_MOST_COST,
    PySem.W.mg_of X G v_MOST_NUMBER,
    PySem.W.mg_of X G v_MOST_BYTES,
    PySem.W.mg_of X G v_RO_BEGIN,
    PySem.W.mg_of X G v_RO_LINE,
    PySem.W.mg_of X G v_RO_HEAR,
    PySem.W.mg_of X G v_RO_NEXT,
    PySem.W.mg_of X G v_RO_LOOK,
    PySem.W.mg_of X G v_RO_FAR,
    PySem.W.mg_of X G v_CALL_LENGTHS,
    fun H => .inr ⟨_, _, _, s_CALL_LENGTHS, rfl, rfl, (by show 7 ≤ sizeLine; decide), .cons ⟨_, rfl⟩ (.cons ⟨_, rfl⟩ (.cons ⟨_, rfl⟩ (.cons ⟨_, rfl⟩ (.cons ⟨_, rfl⟩ (.cons ⟨_, rfl⟩ (.cons ⟨_, rfl⟩ (.nil)))))))⟩,
    PySem.W.mg_none_of X G z_len,
    PySem.W.mg_none_of X G z_list,
    PySem.W.mg_none_of X G z_min,
    PySem.W.mg_none_of X G z_range,
    PySem.W.mg_none_of X G z_sorted⟩
  exact ⟨_, fun s us hu => match us, hu with | [_], _ => .of_eq rfl, fun base _ _ => ok_answers T⟩
end KR
open PySem PySem.W PyProof.Rows
set_option maxRecDepth 100000 in
set_option maxHeartbeats 0 in
theorem PySem.Challenge.cw_knownroads_s01_answers_holds : PySem.Challenge.rw_knownroads_s01_answers.Holds := by
  w_on; k_headS; (case hw => exact ⟨[.list [.int 0, .int 5]], by decide +kernel, by decide +kernel⟩)
  k_fillS
  refine L2.walk_specK (r := PySem.Challenge.rw_knownroads_s01_answers) (k := 7) (CX := L2.CX0) (ps := ["calls"]) (sp := KR.sp_answers) (by decide +kernel) rfl rfl ⟨rfl, by decide, by decide⟩ (fun w h Y => PySem.W.kIn_of Y) ?F ?S (fun _ _ _ _ z => z)
  case F =>
    intro w mg fa h Y KX G hmg
    refine' KR.all_mk KX G hmg ?g_Told ?g_Router ?a1 ?i1 ?l1 ?c1 ?k1 ?a2 ?i2 ?l2 ?c2 ?k2 ?a3 ?l3 ?c3 ?k3 ?a4 ?l4 ?c4 ?k4 ?a5 ?l5 ?c5 ?k5 ?a6 ?l6 ?c6 ?k6 ?a7 ?l7 ?c7 ?k7 ?a8 ?l8 ?c8 ?k8 ?a9 ?l9 ?c9 ?k9 ?a10 ?l10 ?c10 ?k10 ?a11 ?l11 ?c11 ?k11 ?a12 ?l12 ?c12 ?k12 ?a13 ?i13 ?l13 ?c13 ?k13 ?a14 ?i14 ?l14 ?c14 ?k14 ?a15 ?i15 ?l15 ?c15 ?k15 ?a16 ?i16 ?l16 ?c16 ?k16 ?a17 ?i17 ?l17 ?c17 ?k17 ?a18 ?i18 ?l18 ?c18 ?k18 ?a19 ?i19 ?l19 ?c19 ?k19 ?a20 ?i20 ?l20 ?c20 ?k20 ?a21 ?i21 ?l21 ?c21 ?k21 ?a22 ?i22 ?l22 ?c22 ?k22 ?a23 ?i23 ?l23 ?c23 ?k23 ?a24 ?i24 ?l24 ?c24 ?k24 ?a25 ?i25 ?l25 ?c25 ?k25 ?a26 ?i26 ?l26 ?c26 ?k26 ?a27 ?i27 ?l27 ?c27 ?k27 ?a28 ?i28 ?l28 ?c28 ?k28 ?a29 ?i29 ?l29 ?c29 ?k29 ?a30 ?l30 ?c30 ?k30 ?a31 ?l31 ?c31 ?k31 ?a32 ?l32 ?c32 ?k32 ?a33 ?l33 ?c33 ?k33 ?a34 ?l34 ?c34 ?k34 ?a35 ?l35 ?c35 ?k35 ?pg_Told ?hd_Told ?po_Told ?sa_Told ?mk_Told ?kc_Told ?n_Told_name ?n_Told_number ?n_Told_roads ?pg_Router ?hd_Router ?po_Router ?sa_Router ?mk_Router ?kc_Router ?n_Router_me ?n_Router_lines ?n_Router_known ?n_Router_waits ?v_ROUTERS ?v_MOST_ROADS ?v_HEAD_BYTES ?v_ROAD_BYTES ?v_LINES ?v_MOST_COST ?v_MOST_NUMBER ?v_MOST_BYTES ?v_RO_BEGIN ?v_RO_LINE ?v_RO_HEAR ?v_RO_NEXT ?v_RO_LOOK ?v_RO_FAR ?v_CALL_LENGTHS ?s_CALL_LENGTHS ?z_len ?z_list ?z_min ?z_range ?z_sorted
    (case g_Told => k_is)
    (case g_Router => k_is)
    (case a1 => k_is)
    (case i1 => k_is)
    (case l1 => k_is)
    (case c1 => k_is)
    (case k1 => k_is)
    (case a2 => k_is)
    (case i2 => k_is)
    (case l2 => k_is)
    (case c2 => k_is)
    (case k2 => k_is)
    (case a3 => k_is)
    (case l3 => k_is)
    (case c3 => k_is)
    (case k3 => k_is)
    (case a4 => k_is)
    (case l4 => k_is)
    (case c4 => k_is)
    (case k4 => k_is)
    (case a5 => k_is)
    (case l5 => k_is)
    (case c5 => k_is)
    (case k5 => k_is)
    (case a6 => k_is)
    (case l6 => k_is)
    (case c6 => k_is)
    (case k6 => k_is)
    (case a7 => k_is)
    (case l7 => k_is)
    (case c7 => k_is)
    (case k7 => k_is)
    (case a8 => k_is)
    (case l8 => k_is)
    (case c8 => k_is)
    (case k8 => k_is)
    (case a9 => k_is)
    (case l9 => k_is)
    (case c9 => k_is)
    (case k9 => k_is)
    (case a10 => k_is)
    (case l10 => k_is)
    (case c10 => k_is)
    (case k10 => k_is)
    (case a11 => k_is)
    (case l11 => k_is)
    (case c11 => k_is)
    (case k11 => k_is)
    (case a12 => k_is)
    (case l12 => k_is)
    (case c12 => k_is)
    (case k12 => k_is)
    (case a13 => k_is)
    (case i13 => k_is)
    (case l13 => k_is)
    (case c13 => k_is)
    (case k13 => k_is)
    (case a14 => k_is)
    (case i14 => k_is)
    (case l14 => k_is)
    (case c14 => k_is)
    (case k14 => k_is)
    (case a15 => k_is)
    (case i15 => k_is)
    (case l15 => k_is)
    (case c15 => k_is)
    (case k15 => k_is)
    (case a16 => k_is)
    (case i16 => k_is)
    (case l16 => k_is)
    (case c16 => k_is)
    (case k16 => k_is)
    (case a17 => k_is)
    (case i17 => k_is)
    (case l17 => k_is)
    (case c17 => k_is)
    (case k17 => k_is)
    (case a18 => k_is)
    (case i18 => k_is)
    (case l18 => k_is)
    (case c18 => k_is)
    (case k18 => k_is)
    (case a19 => k_is)
    (case i19 => k_is)
    (case l19 => k_is)
    (case c19 => k_is)
    (case k19 => k_is)
    (case a20 => k_is)
    (case i20 => k_is)
    (case l20 => k_is)
    (case c20 => k_is)
    (case k20 => k_is)
    (case a21 => k_is)
    (case i21 => k_is)
    (case l21 => k_is)
    (case c21 => k_is)
    (case k21 => k_is)
    (case a22 => k_is)
    (case i22 => k_is)
    (case l22 => k_is)
    (case c22 => k_is)
    (case k22 => k_is)
    (case a23 => k_is)
    (case i23 => k_is)
    (case l23 => k_is)
    (case c23 => k_is)
    (case k23 => k_is)
    (case a24 => k_is)
    (case i24 => k_is)
    (case l24 => k_is)
    (case c24 => k_is)
    (case k24 => k_is)
    (case a25 => k_is)
    (case i25 => k_is)
    (case l25 => k_is)
    (case c25 => k_is)
    (case k25 => k_is)
    (case a26 => k_is)
    (case i26 => k_is)
    (case l26 => k_is)
    (case c26 => k_is)
    (case k26 => k_is)
    (case a27 => k_is)
    (case i27 => k_is)
    (case l27 => k_is)
    (case c27 => k_is)
    (case k27 => k_is)
    (case a28 => k_is)
    (case i28 => k_is)
    (case l28 => k_is)
    (case c28 => k_is)
    (case k28 => k_is)
    (case a29 => k_is)
    (case i29 => k_is)
    (case l29 => k_is)
    (case c29 => k_is)
    (case k29 => k_is)
    (case a30 => k_is)
    (case l30 => k_is)
    (case c30 => k_is)
    (case k30 => k_is)
    (case a31 => k_is)
    (case l31 => k_is)
    (case c31 => k_is)
    (case k31 => k_is)
    (case a32 => k_is)
    (case l32 => k_is)
    (case c32 => k_is)
    (case k32 => k_is)
    (case a33 => k_is)
    (case l33 => k_is)
    (case c33 => k_is)
    (case k33 => k_is)
    (case a34 => k_is)
    (case l34 => k_is)
    (case c34 => k_is)
    (case k34 => k_is)
    (case a35 => k_is)
    (case l35 => k_is)
    (case c35 => k_is)
    (case k35 => k_is)
    (case pg_Told => k_is)
    (case hd_Told => k_is)
    (case po_Told => k_is)
    (case sa_Told => k_is)
    (case mk_Told => k_is)
    (case kc_Told => k_is)
    (case n_Told_name => k_is)
    (case n_Told_number => k_is)
    (case n_Told_roads => k_is)
    (case pg_Router => k_is)
    (case hd_Router => k_is)
    (case po_Router => k_is)
    (case sa_Router => k_is)
    (case mk_Router => k_is)
    (case kc_Router => k_is)
    (case n_Router_me => k_is)
    (case n_Router_lines => k_is)
    (case n_Router_known => k_is)
    (case n_Router_waits => k_is)
    (case v_ROUTERS => k_is)
    (case v_MOST_ROADS => k_is)
    (case v_HEAD_BYTES => k_is)
    (case v_ROAD_BYTES => k_is)
    (case v_LINES => k_is)
    (case v_MOST_COST => k_is)
    (case v_MOST_NUMBER => k_is)
    (case v_MOST_BYTES => k_is)
    (case v_RO_BEGIN => k_is)
    (case v_RO_LINE => k_is)
    (case v_RO_HEAR => k_is)
    (case v_RO_NEXT => k_is)
    (case v_RO_LOOK => k_is)
    (case v_RO_FAR => k_is)
    (case v_CALL_LENGTHS => k_is)
    (case s_CALL_LENGTHS => k_is)
    (case z_len => k_is)
    (case z_list => k_is)
    (case z_min => k_is)
    (case z_range => k_is)
    (case z_sorted => k_is)
  case S =>
    intro K H xs a hO hwi hask hx
    cases hx with
    | cons h1 h2 =>
      cases h2
      cases h1 with
      | lst hs ha =>
        have e := L2.ints_dw a.1 _ ha
        subst e
        exact ⟨_, a.1, rfl, hs, hask, fun H' p hp => .lst (L2.SqL.of hp) (L2.dw_ints _)⟩
#print axioms PySem.Challenge.cw_knownroads_s01_answers_holds

