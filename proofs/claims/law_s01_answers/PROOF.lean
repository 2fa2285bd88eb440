import PyProof.Rows.All
import Wide.All
import OpenK.AllK
import Wide.FinOn
import Open.SpecLaws
import KE.OsGo
import KE.SortData
import HandS.ForSpec
import HandS.Base
import HandS.Call
import HandS.List
import HandS.Comp
import HandS.Dict
import HandS.Iter
import HandS.Words
import HandS.WordsList
import HandS.TupSets
import HandS.Evl
import HandS.Deep
import HandS.RevRange
import HandS.Walk
import HandS.WideBits
import HandS.Text
import HandS.SetFor
import HandS.Strs
import PySem.Challenge.RW_bassfilled_s01_answers
set_option Elab.async false
set_option linter.all false
set_option maxRecDepth 100000
set_option maxHeartbeats 4000000
namespace Bf
open Cp05
/-! ### notes -/
theorem fdiv7 (d : Int) : Int.fdiv d 7 = d / 7 := Int.fdiv_eq_ediv_of_nonneg d (by decide)
theorem fmod7 (d : Int) : Int.fmod d 7 = d % 7 := Int.fmod_eq_emod_of_nonneg d (by decide)
theorem mod7_lt (d : Int) : 0 ≤ d % 7 ∧ d % 7 < 7 := ⟨Int.emod_nonneg d (by decide), Int.emod_lt_of_pos d (by decide)⟩
/-- the notes of a name, as range(name, 70, 7) walks them -/
def noteN (n : Name) (i : Nat) : Note := ⟨n.1 + (i : Int) * 7, n.2⟩
def okName (n : Name) : Prop := 0 ≤ n.1 ∧ n.1 ≤ 6 ∧ -2 ≤ n.2 ∧ n.2 ≤ 2
def inRange (r : Int × Int) (m : Note) : Bool := decide (r.1 ≤ m.sound) && decide (m.sound ≤ r.2)
def someNotes (r : Int × Int) (n : Name) (i : Nat) : List Note := ((List.range i).map (noteN n)).filter (inRange r)
theorem someNotes_zero (r : Int × Int) (n : Name) : someNotes r n 0 = [] := rfl
theorem someNotes_succ (r : Int × Int) (n : Name) (i : Nat) : someNotes r n (i + 1) = someNotes r n i ++ (if inRange r (noteN n i) = true then [noteN n i] else []) := by
  unfold someNotes
  rw [List.range_succ, List.map_append, List.filter_append]
  congr 1
  simp only [List.map_cons, List.map_nil, List.filter_cons, List.filter_nil]
theorem notesIn_eq {r : Int × Int} {n : Name} (h : okName n) : notesIn r n = someNotes r n 10 := by
  unfold notesIn someNotes
  have e : (List.range 10).map (fun (o : Nat) => (⟨7 * o + n.1, n.2⟩ : Note)) = (List.range 10).map (noteN n) := by
    apply List.map_congr_left
    intro o _
    unfold noteN
    congr 1
    omega
  rw [e]
  apply List.filter_congr
  intro m hm
  obtain ⟨o, ho, rfl⟩ := List.mem_map.mp hm
  have ho := List.mem_range.mp ho
  have h1 : isNote (noteN n o) = true := by
    obtain ⟨a, b, c, d⟩ := h
    unfold isNote noteN STEPS
    simp only [Bool.and_eq_true, decide_eq_true_eq]
    omega
  rw [h1]
  rfl
/-- what has the name n and lies in a range: how many there are at most -/
theorem below_eq (x y : Note) : below x y = decide (x.sound < y.sound ∨ (x.sound = y.sound ∧ (x.d < y.d ∨ (x.d = y.d ∧ x.a ≤ y.a)))) := by
  unfold below
  rw [Bool.eq_iff_iff]
  simp only [Bool.or_eq_true, Bool.and_eq_true, decide_eq_true_eq, beq_iff_eq]
  constructor
  · rintro (h | ⟨h1, h2⟩)
    · exact .inl h
    · refine .inr ⟨h1, ?_⟩
      rcases Int.lt_or_eq_of_le h2 with h3 | h3
      · exact .inl h3
      · refine .inr ⟨h3, ?_⟩
        unfold Note.sound at h1
        rw [h3] at h1
        omega
  · rintro (h | ⟨h1, h2 | ⟨h2, _⟩⟩)
    · exact .inl h
    · exact .inr ⟨h1, by omega⟩
    · exact .inr ⟨h1, by omega⟩
theorem notes_named {r : Int × Int} {c : Cp05.Chord} (hc : ∀ n ∈ c.names, okName n) {m : Note} (hm : m ∈ options r c) : nameOf m ∈ c.names ∧ isNote m = true ∧ r.1 ≤ m.sound ∧ m.sound ≤ r.2 := by
  unfold options at hm
  rw [List.mem_mergeSort] at hm
  obtain ⟨n, hn, h⟩ := List.mem_flatMap.mp hm
  unfold notesIn at h
  obtain ⟨h1, h2⟩ := List.mem_filter.mp h
  obtain ⟨o, _, rfl⟩ := List.mem_map.mp h1
  have hk := hc n hn
  simp only [Bool.and_eq_true, decide_eq_true_eq] at h2
  refine ⟨?_, h2.1, h2.2.1, h2.2.2⟩
  have e : nameOf ⟨7 * (o : Int) + n.1, n.2⟩ = n := by
    obtain ⟨a, b, _, _⟩ := hk
    unfold nameOf
    have : (7 * (o : Int) + n.1) % 7 = n.1 := by omega
    rw [this]
  rw [e]
  exact hn
/-! ### settings -/
def near (k : Int) (u l : Note) : Bool := decide (l.sound ≤ u.sound) && decide (u.sound - l.sound ≤ k)
def missing (c : Cp05.Chord) (s : Setting) : List Name := c.names.filter fun n => !((s.map nameOf ++ [nameOf c.bass]).contains n)
def complete (c : Cp05.Chord) (s : Setting) : Bool := (missing c s).all fun n => c.may.contains n
theorem complete_eq (c : Cp05.Chord) (s : Setting) : complete c s = c.names.all fun n => c.may.contains n || (s.any fun x => nameOf x == n) || nameOf c.bass == n := by
  unfold complete missing
  rw [List.all_filter]
  congr 1
  funext n
  have e : (s.map nameOf ++ [nameOf c.bass]).contains n = ((s.any fun x => nameOf x == n) || nameOf c.bass == n) := by
    rw [Bool.eq_iff_iff]
    simp only [List.contains_iff_mem, List.mem_append, List.mem_map, List.mem_singleton, Bool.or_eq_true, List.any_eq_true, beq_iff_eq]
    constructor
    · rintro (⟨x, h1, h2⟩ | h)
      · exact .inl ⟨x, h1, h2⟩
      · exact .inr h.symm
    · rintro (⟨x, h1, h2⟩ | h)
      · exact .inl ⟨x, h1, h2⟩
      · exact .inr h.symm
  rw [e]
  cases c.may.contains n <;> cases (s.any fun x => nameOf x == n) <;> cases (nameOf c.bass == n) <;> rfl
theorem fits_eq (q : Rules) (c : Cp05.Chord) (a b t : Note) : fits q c [a, b, t] = (near (q.apart.getD 0 0) a b && (near (q.apart.getD 1 0) b t && (near (q.apart.getD 2 0) t c.bass && complete c [a, b, t]))) := by
  rw [complete_eq]
  rfl
/-- the tenors that are near enough above the bass, the innermost loop's settings -/
def setT (c : Cp05.Chord) (k : Int) (ts : List Note) (a b : Note) : List Setting := ((ts.filter (near k b)).filter fun t => complete c [a, b, t]).map fun t => [a, b, t]
def setB (c : Cp05.Chord) (k0 k1 : Int) (bs ts : List Note) (a : Note) : List Setting := (bs.filter (near k0 a)).flatMap (setT c k1 ts a)
def setA (c : Cp05.Chord) (k0 k1 : Int) (as bs ts : List Note) : List Setting := as.flatMap (setB c k0 k1 bs ts)
theorem filterMap_if {α β : Type} (p : α → Bool) (f : α → β) : ∀ l : List α, l.filterMap (fun x => if p x = true then some (f x) else none) = (l.filter p).map f
  | [] => rfl
  | x :: l => by
    rw [List.filterMap_cons, List.filter_cons, filterMap_if p f l]
    cases p x <;> rfl
theorem flatMap_filter {α β : Type} (p : α → Bool) (f : α → List β) : ∀ l : List α, (l.filter p).flatMap f = l.flatMap fun x => if p x = true then f x else []
  | [] => rfl
  | x :: l => by
    rw [List.filter_cons, List.flatMap_cons]
    cases p x
    · exact flatMap_filter p f l
    · show (x :: l.filter p).flatMap f = _
      rw [List.flatMap_cons, flatMap_filter p f l] <;> rfl
theorem settings_eq (q : Rules) (c : Cp05.Chord) : settings q c = setA c (q.apart.getD 0 0) (q.apart.getD 1 0) (options (q.ranges.getD 0 (0, 0)) c) (options (q.ranges.getD 1 (0, 0)) c) ((options (q.ranges.getD 2 (0, 0)) c).filter fun t => near (q.apart.getD 2 0) t c.bass) := by
  unfold settings setA
  congr 1
  funext a
  unfold setB
  rw [flatMap_filter]
  congr 1
  funext b
  rw [filterMap_if]
  by_cases h : near (q.apart.getD 0 0) a b = true
  · rw [if_pos h]
    unfold setT
    rw [List.filter_filter, List.filter_filter]
    congr 1
    apply List.filter_congr
    intro t _
    rw [fits_eq, h]
    cases near (q.apart.getD 1 0) b t <;> cases near (q.apart.getD 2 0) t c.bass <;> cases complete c [a, b, t] <;> rfl
  · rw [if_neg h]
    have e : ∀ t, fits q c [a, b, t] = false := fun t => by
      rw [fits_eq]
      rw [Bool.not_eq_true] at h
      rw [h]
      rfl
    simp [e]
theorem mem_settings {q : Rules} {c : Cp05.Chord} {s : Setting} (h : s ∈ settings q c) : ∃ a b t, s = [a, b, t] ∧ a ∈ options (q.ranges.getD 0 (0, 0)) c ∧ b ∈ options (q.ranges.getD 1 (0, 0)) c ∧ t ∈ options (q.ranges.getD 2 (0, 0)) c ∧ fits q c [a, b, t] = true := by
  unfold settings at h
  obtain ⟨a, ha, h⟩ := List.mem_flatMap.mp h
  obtain ⟨b, hb, h⟩ := List.mem_flatMap.mp h
  obtain ⟨t, ht, h⟩ := List.mem_filterMap.mp h
  by_cases e : fits q c [a, b, t] = true
  · rw [if_pos e] at h
    exact ⟨a, b, t, (Option.some.inj h).symm, ha, hb, ht, e⟩
  · rw [if_neg e] at h
    cases h
/-! ### costs -/
theorem missing_own (c : Cp05.Chord) (s : Setting) : c.names.filter (fun n => !((s.map nameOf).contains n || nameOf c.bass == n)) = missing c s := by
  unfold missing
  apply List.filter_congr
  intro n _
  congr 1
  rw [Bool.eq_iff_iff]
  simp only [Bool.or_eq_true, List.contains_iff_mem, List.mem_append, List.mem_singleton, beq_iff_eq]
  constructor
  · rintro (h | h)
    · exact .inl h
    · exact .inr h.symm
  · rintro (h | h)
    · exact .inl h
    · exact .inr h.symm
/-- a name twice among three, by how many unlike ones there are -/
theorem twice_iff (ns : List Name) (x y z : Name) (hx : x ∈ ns) (hy : y ∈ ns) (hz : z ∈ ns) :
    (ns.any fun n => decide (1 < ([x, y, z].filter fun m => m == n).length)) = !decide ([x, y, z].Nodup) := by
  rw [Bool.eq_iff_iff]
  simp only [List.any_eq_true, decide_eq_true_eq, Bool.not_eq_true', decide_eq_false_iff_not, List.nodup_cons, List.mem_cons, List.not_mem_nil, or_false, not_or, List.nodup_nil, and_true, not_and, not_false_eq_true]
  constructor
  · rintro ⟨n, hn, h⟩ ⟨h1, h2⟩ h3
    simp only [List.filter_cons, List.filter_nil] at h
    by_cases e1 : x == n <;> by_cases e2 : y == n <;> by_cases e3 : z == n <;> simp_all
  · intro h
    by_cases e1 : x = y
    · subst e1
      refine ⟨x, hx, ?_⟩
      simp only [List.filter_cons, beq_self_eq_true, if_true]
      simp only [List.length_cons]
      omega
    · by_cases e2 : x = z
      · subst e2
        refine ⟨x, hx, ?_⟩
        simp only [List.filter_cons, beq_self_eq_true, if_true, List.filter_nil]
        split <;> simp
      · by_cases e3 : y = z
        · subst e3
          refine ⟨y, hy, ?_⟩
          simp only [List.filter_cons, beq_self_eq_true, if_true, List.filter_nil]
          split <;> simp
        · exact absurd e3 (h ⟨e1, e2⟩)
theorem own_eq {q : Rules} {c : Cp05.Chord} {s : Setting} {a b t : Note} (e : s = [a, b, t]) (ha : nameOf a ∈ c.names) (hb : nameOf b ∈ c.names) (ht : nameOf t ∈ c.names) :
    own q c s = (if decide ([nameOf a, nameOf b, nameOf t].Nodup) = true then 0 else q.double) + q.left * (missing c s).length := by
  unfold own
  simp only [missing_own]
  subst e
  congr 1
  have h := twice_iff c.names (nameOf a) (nameOf b) (nameOf t) ha hb ht
  simp only [List.map_cons, List.map_nil]
  rw [h]
  cases decide ([nameOf a, nameOf b, nameOf t].Nodup) <;> rfl
/-! ### sizes -/
theorem flatMap_le {α β : Type} (f : α → List β) (k : Nat) : ∀ (l : List α), (∀ x ∈ l, (f x).length ≤ k) → (l.flatMap f).length ≤ l.length * k
  | [], _ => by simp
  | x :: l, h => by
    rw [List.flatMap_cons, List.length_append, List.length_cons, Nat.succ_mul]
    have h1 := h x List.mem_cons_self
    have h2 := flatMap_le f k l fun y hy => h y (List.mem_cons_of_mem _ hy)
    omega
theorem someNotes_le (r : Int × Int) (n : Name) (i : Nat) : (someNotes r n i).length ≤ i := by
  unfold someNotes
  refine Nat.le_trans (List.length_filter_le _ _) ?_
  rw [List.length_map, List.length_range]
  exact Nat.le_refl _
theorem options_le {r : Int × Int} {c : Cp05.Chord} (hc : ∀ n ∈ c.names, okName n) (h4 : c.names.length ≤ 4) : (options r c).length ≤ 40 := by
  unfold options
  rw [List.length_mergeSort]
  have h := flatMap_le (notesIn r) 10 c.names fun n hn => by
    rw [notesIn_eq (hc n hn)]
    exact someNotes_le r n 10
  omega
theorem setT_le (c : Cp05.Chord) (k : Int) (ts : List Note) (a b : Note) : (setT c k ts a b).length ≤ ts.length := by
  unfold setT
  rw [List.length_map]
  exact Nat.le_trans (List.length_filter_le _ _) (List.length_filter_le _ _)
theorem setB_le (c : Cp05.Chord) (k0 k1 : Int) (bs ts : List Note) (a : Note) : (setB c k0 k1 bs ts a).length ≤ bs.length * ts.length := by
  unfold setB
  refine Nat.le_trans (flatMap_le _ ts.length _ fun b _ => setT_le c k1 ts a b) ?_
  exact Nat.mul_le_mul_right _ (List.length_filter_le _ _)
theorem setA_le (c : Cp05.Chord) (k0 k1 : Int) (as bs ts : List Note) : (setA c k0 k1 as bs ts).length ≤ as.length * (bs.length * ts.length) := flatMap_le _ _ _ fun a _ => setB_le c k0 k1 bs ts a
theorem settings_le {q : Rules} {c : Cp05.Chord} (hc : ∀ n ∈ c.names, okName n) (h4 : c.names.length ≤ 4) : (settings q c).length ≤ 64000 := by
  rw [settings_eq]
  refine Nat.le_trans (setA_le _ _ _ _ _ _) ?_
  have h1 := options_le (r := q.ranges.getD 0 (0, 0)) hc h4
  have h2 := options_le (r := q.ranges.getD 1 (0, 0)) hc h4
  have h3 : ((options (q.ranges.getD 2 (0, 0)) c).filter fun t => near (q.apart.getD 2 0) t c.bass).length ≤ 40 := Nat.le_trans (List.length_filter_le _ _) (options_le hc h4)
  exact Nat.le_trans (Nat.mul_le_mul h1 (Nat.mul_le_mul h2 h3)) (by decide)
/-! ### rules -/
def isRange (a b : Int) : Bool := decide (0 ≤ a) && (decide (a ≤ b) && (decide (b ≤ 119) && decide (b - a ≤ 24)))
def rulesOk : List Int → Bool
  | [a, b, c, d, e, f, x, y, z, u, v, w, p, q, r] => (isRange a b && (isRange c d && isRange e f)) && (([x, y, z, u, v, w].all fun n => decide (0 ≤ n) && decide (n ≤ 60)) && ([p, q, r].all fun n => decide (0 ≤ n) && decide (n ≤ 20)))
  | _ => false
def rulesOf : List Int → Rules
  | [a, b, c, d, e, f, x, y, z, u, v, w, p, q, r] => ⟨[(a, b), (c, d), (e, f)], [x, y, z], [u, v, w], p.toNat, q.toNat, r.toNat⟩
  | _ => rules0
theorem ruled_eq (l : List Int) : ruled l = if rulesOk l = true then some (rulesOf l) else none := by
  match l with
  | [a, b, c, d, e, f, x, y, z, u, v, w, p, q, r] =>
    show (if _ then some _ else none) = _
    have e : (([a, b, c, d, e, f].all (isIn 0 119)) && ((([x, y, z, u, v, w].all (isIn 0 60)) && [p, q, r].all (isIn 0 20)) && (isIn a (a + 24) b && (isIn c (c + 24) d && isIn e (e + 24) f)))) = rulesOk [a, b, c, d, e, f, x, y, z, u, v, w, p, q, r] := by
      rw [Bool.eq_iff_iff]
      simp only [rulesOk, isRange, isIn, List.all_cons, List.all_nil, Bool.and_eq_true, decide_eq_true_eq, Bool.and_true]
      omega
    rw [e]
    rfl
  | [] => rfl
  | [_] => rfl
  | [_, _] => rfl
  | [_, _, _] => rfl
  | [_, _, _, _] => rfl
  | [_, _, _, _, _] => rfl
  | [_, _, _, _, _, _] => rfl
  | [_, _, _, _, _, _, _] => rfl
  | [_, _, _, _, _, _, _, _] => rfl
  | [_, _, _, _, _, _, _, _, _] => rfl
  | [_, _, _, _, _, _, _, _, _, _] => rfl
  | [_, _, _, _, _, _, _, _, _, _, _] => rfl
  | [_, _, _, _, _, _, _, _, _, _, _, _] => rfl
  | [_, _, _, _, _, _, _, _, _, _, _, _, _] => rfl
  | [_, _, _, _, _, _, _, _, _, _, _, _, _, _] => rfl
  | _ :: _ :: _ :: _ :: _ :: _ :: _ :: _ :: _ :: _ :: _ :: _ :: _ :: _ :: _ :: _ :: _ => rfl
/-! ### names -/
def okThree (d a m : Int) : Bool := isIn 0 6 d && (isIn (-2) 2 a && isIn 0 1 m)
/-- the names' numbers, by three -/
def threesI : List Int → List (Int × Int × Int)
  | d :: a :: m :: l => (d, a, m) :: threesI l
  | _ => []
theorem threesI_len : ∀ l : List Int, (threesI l).length = l.length / 3
  | [] => rfl
  | [_] => by simp [threesI]
  | [_, _] => by simp [threesI]
  | d :: a :: m :: l => by
    show (threesI l).length + 1 = (l.length + 1 + 1 + 1) / 3
    rw [threesI_len l]
    omega
theorem threesI_at : ∀ (l : List Int) (k : Nat), k < (threesI l).length → (threesI l)[k]? = some (l.getD (3 * k) 0, l.getD (3 * k + 1) 0, l.getD (3 * k + 2) 0)
  | [], k, h => absurd h (by simp [threesI])
  | [_], k, h => absurd h (by simp [threesI])
  | [_, _], k, h => absurd h (by simp [threesI])
  | d :: a :: m :: l, 0, _ => rfl
  | d :: a :: m :: l, k + 1, h => by
    have ih := threesI_at l k (by simpa [threesI] using h)
    show (threesI l)[k]? = _
    rw [ih]
    have e1 : 3 * (k + 1) = 3 * k + 3 := by omega
    have e2 : 3 * k + 3 + 1 = (3 * k + 1) + 3 := by omega
    have e3 : 3 * k + 3 + 2 = (3 * k + 2) + 3 := by omega
    rw [e1, e2, e3]
    rfl
def nm (t : Int × Int × Int) : Name := (t.1, t.2.1)
theorem namesOf_eq : ∀ l : List Int, namesOf l = if l.length % 3 = 0 ∧ ((threesI l).all fun t => okThree t.1 t.2.1 t.2.2) = true then some ((threesI l).map fun t => (nm t, t.2.2 == 1)) else none
  | [] => rfl
  | [_] => rfl
  | [_, _] => rfl
  | d :: a :: m :: l => by
    have ih := namesOf_eq l
    show (if okThree d a m = true then (namesOf l).map fun r => ((d, a), m == 1) :: r else none) = _
    rw [ih]
    have e : (d :: a :: m :: l).length % 3 = l.length % 3 := by
      show (l.length + 1 + 1 + 1) % 3 = _
      omega
    rw [e]
    by_cases h1 : okThree d a m = true
    · rw [if_pos h1]
      by_cases h2 : l.length % 3 = 0 ∧ ((threesI l).all fun t => okThree t.1 t.2.1 t.2.2) = true
      · rw [if_pos h2, if_pos ⟨h2.1, by show (okThree d a m && _) = true; rw [h1, h2.2]; rfl⟩]
        rfl
      · rw [if_neg h2, if_neg]
        · rfl
        · rintro ⟨h3, h4⟩
          have h5 : (okThree d a m && (threesI l).all fun t => okThree t.1 t.2.1 t.2.2) = true := h4
          rw [h1] at h5
          exact h2 ⟨h3, h5⟩
    · rw [if_neg h1, if_neg]
      rintro ⟨_, h4⟩
      have h5 : (okThree d a m && (threesI l).all fun t => okThree t.1 t.2.1 t.2.2) = true := h4
      rw [Bool.and_eq_true] at h5
      exact h1 h5.1
theorem eraseDups_le {α : Type} [BEq α] [LawfulBEq α] : ∀ (n : Nat) (l : List α), l.length ≤ n → l.eraseDups.length ≤ l.length
  | 0, [], _ => by simp
  | _ + 1, [], _ => by simp
  | n + 1, x :: l, h => by
    rw [List.eraseDups_cons, List.length_cons, List.length_cons]
    have h1 := List.length_filter_le (fun b => !b == x) l
    have h2 := eraseDups_le n (l.filter fun b => !b == x) (by simp only [List.length_cons] at h; omega)
    omega
theorem eraseDups_nodup {α : Type} [BEq α] [LawfulBEq α] : ∀ (l : List α), l.eraseDups.length = l.length ↔ l.Nodup
  | [] => by simp
  | x :: l => by
    rw [List.eraseDups_cons, List.length_cons, List.length_cons, List.nodup_cons]
    have h1 := List.length_filter_le (fun b => !b == x) l
    have h2 := eraseDups_le _ (l.filter fun b => !b == x) (Nat.le_refl _)
    have ih := eraseDups_nodup l
    constructor
    · intro h
      have h3 : (l.filter fun b => !b == x).length = l.length := by omega
      have h4 : l.filter (fun b => !b == x) = l := List.filter_eq_self.mpr (by
        intro a ha
        have := List.length_filter_eq_length_iff.mp h3 a ha
        exact this)
      refine ⟨fun hx => ?_, ?_⟩
      · have := List.filter_eq_self.mp h4 x hx
        simp at this
      · rw [h4] at h
        exact ih.mp (by omega)
    · rintro ⟨hx, hn⟩
      have h4 : l.filter (fun b => !b == x) = l := List.filter_eq_self.mpr fun a ha => by
        simp only [Bool.not_eq_true', beq_eq_false_iff_ne]
        intro e
        exact hx (e ▸ ha)
      rw [h4, ih.mpr hn]
/-- what are_names asks: some threes, at most four, each in its range, no name twice -/
def namesOk (l : List Int) : Prop := l.length % 3 = 0 ∧ 3 ≤ l.length ∧ l.length ≤ 12 ∧ ((threesI l).all fun t => okThree t.1 t.2.1 t.2.2) = true ∧ ((threesI l).map nm).Nodup
instance (l : List Int) : Decidable (namesOk l) := by unfold namesOk; infer_instance
def chordOf (d a : Int) (l : List Int) : Cp05.Chord := ⟨⟨d, a⟩, (threesI l).map nm, ((threesI l).filter fun t => t.2.2 == 1).map nm⟩
theorem step_chord_bad (s : State) (d a : Int) (r : List Int) (hn : isNote ⟨d, a⟩ = false) : Cp05.step s (.chord (d :: a :: r)) = (s, just (-1)) := by
  show (if !isNote ⟨d, a⟩ then (s, just (-1)) else _) = _
  rw [hn]
  rfl
theorem step_chord_few (s : State) (l : List Int) (h : l.length < 2) : Cp05.step s (.chord l) = (s, just (-1)) := by
  match l, h with
  | [], _ => rfl
  | [_], _ => rfl
  | _ :: _ :: _, h => exact absurd h (by simp)
theorem step_chord (s : State) (d a : Int) (r : List Int) (hn : isNote ⟨d, a⟩ = true) : Cp05.step s (.chord (d :: a :: r)) = if namesOk r then (if CHORDS ≤ s.chords.length then (s, just (-5)) else
        ({ s with chords := s.chords ++ [chordOf d a r] }, ⟨(s.chords.length : Int), [((settings s.rules (chordOf d a r)).length : Int)]⟩)) else (s, just (-2)) := by
      have e0 : Cp05.step s (.chord (d :: a :: r)) = (match namesOf r with
        | none => (s, just (-2))
        | some ns => if ns.isEmpty || (decide (4 < ns.length) || decide ((ns.map fun x => x.1).eraseDups.length ≠ ns.length)) then (s, just (-2)) else if CHORDS ≤ s.chords.length then (s, just (-5)) else
          ({ s with chords := s.chords ++ [⟨⟨d, a⟩, ns.map fun x => x.1, (ns.filter fun x => x.2).map fun x => x.1⟩] }, ⟨(s.chords.length : Int), [((settings s.rules ⟨⟨d, a⟩, ns.map fun x => x.1, (ns.filter fun x => x.2).map fun x => x.1⟩).length : Int)]⟩)) := by
        show (if !isNote ⟨d, a⟩ then (s, just (-1)) else _) = _
        rw [hn]
        rfl
      rw [e0]
      rw [namesOf_eq]
      by_cases h1 : r.length % 3 = 0 ∧ ((threesI r).all fun t => okThree t.1 t.2.1 t.2.2) = true
      · rw [if_pos h1]
        show (if _ then _ else _) = _
        have e1 : (((threesI r).map fun t => (nm t, t.2.2 == 1)).map fun x => x.1) = (threesI r).map nm := by rw [List.map_map] <;> rfl
        have e2 : ((((threesI r).map fun t => (nm t, t.2.2 == 1)).filter fun x => x.2).map fun x => x.1) = ((threesI r).filter fun t => t.2.2 == 1).map nm := by
          rw [List.filter_map, List.map_map] <;> rfl
        have e3 : ((threesI r).map fun t => (nm t, t.2.2 == 1)).length = r.length / 3 := by rw [List.length_map, threesI_len]
        rw [e1, e2]
        by_cases h2 : namesOk r
        · rw [if_neg, if_pos h2]
          · rfl
          · obtain ⟨a1, a2, a3, a4, a5⟩ := h2
            have h6 := (eraseDups_nodup ((threesI r).map nm)).mpr a5
            rw [List.length_map] at h6
            simp only [Bool.or_eq_true, List.isEmpty_iff, decide_eq_true_eq, not_or, List.length_map]
            refine ⟨fun h => ?_, ?_, ?_⟩
            · have := congrArg List.length h
              rw [e3] at this
              simp at this
              omega
            · rw [threesI_len]
              omega
            · exact fun h => h h6
        · rw [if_pos, if_neg h2]
          by_cases c1 : 3 ≤ r.length
          · by_cases c2 : r.length ≤ 12
            · have c3 : ¬ ((threesI r).map nm).Nodup := fun h => h2 ⟨h1.1, c1, c2, h1.2, h⟩
              have c4 : ((threesI r).map nm).eraseDups.length ≠ ((threesI r).map fun t => (nm t, t.2.2 == 1)).length := by
                rw [List.length_map]
                intro h
                exact c3 ((eraseDups_nodup _).mp (by rw [List.length_map]; exact h))
              rw [decide_eq_true c4]
              simp
            · have c3 : 4 < ((threesI r).map fun t => (nm t, t.2.2 == 1)).length := by rw [e3]; omega
              rw [decide_eq_true c3]
              simp
          · have c3 : ((threesI r).map fun t => (nm t, t.2.2 == 1)) = [] := List.length_eq_zero_iff.mp (by rw [e3]; omega)
            rw [c3]
            rfl
      · rw [if_neg h1, if_neg]
        · exact fun h => h1 ⟨h.1, h.2.2.2.1⟩
end Bf

namespace Bf
open Cp05
/-- what a call answers, number by number, and makes of the state -/
def stepA (s : Cp05.State) (c : Cp05.Call) : Cp05.State × List Int := ((Cp05.step s c).1, (Cp05.step s c).2.v :: (Cp05.step s c).2.l)
/-- how a call stands at the head of a list -/
inductive Rd1 : List Int → List Int → Cp05.Call → Prop
  | rules (ns t : List Int) : ns.length ≤ 59 → Rd1 (1 :: (ns.length : Int) :: (ns ++ t)) t (.rules ns)
  | chord (ns t : List Int) : ns.length ≤ 59 → Rd1 (2 :: (ns.length : Int) :: (ns ++ t)) t (.chord ns)
  | drop (t : List Int) : Rd1 (3 :: t) t .drop
  | settings (i k : Int) (t : List Int) : Rd1 (4 :: i :: k :: t) t (.settings i k)
  | count (p : Int) (t : List Int) : Rd1 (5 :: p :: t) t (.count p)
  | counts (t : List Int) : Rd1 (6 :: t) t .counts
  | nth (n : Int) (t : List Int) : Rd1 (7 :: n :: t) t (.nth n)
  | judge (ns t : List Int) : ns.length ≤ 59 → Rd1 (8 :: (ns.length : Int) :: (ns ++ t)) t (.judge ns)
inductive RdAll : List Int → List Cp05.Call → Prop
  | nil : RdAll [] []
  | cons {l t : List Int} {c : Cp05.Call} {cs : List Cp05.Call} : Rd1 l t c → RdAll t cs → RdAll l (c :: cs)
/-- the numbers that are told of the calls, from a state on -/
def tell (s : Cp05.State) : List Cp05.Call → List Int
  | [] => []
  | c :: r => ((stepA s c).2.length : Int) :: (stepA s c).2 ++ tell (stepA s c).1 r
theorem row_some {l x s : List Int} (h : PyFlat.row l = some (x, s)) : l = (x.length : Int) :: (x ++ s) := by
  match l, h with
  | [], h => cases h
  | n :: r, h =>
    unfold PyFlat.row at h
    dsimp only at h
    by_cases hc : 0 ≤ n ∧ n.toNat ≤ r.length
    · rw [if_pos hc] at h
      cases h
      rw [List.take_append_drop, List.length_take, Nat.min_eq_left hc.2]
      congr 1
      omega
    · rw [if_neg hc] at h
      cases h
theorem rows1 {l : List Int} {xs : List (List Int)} {t : List Int} (h : PyFlat.rows 1 l = some (xs, t)) : ∃ x, xs = [x] ∧ l = (x.length : Int) :: (x ++ t) := by
  unfold PyFlat.rows at h
  cases hr : PyFlat.row l with
  | none => rw [hr] at h; cases h
  | some p =>
    obtain ⟨x, s⟩ := p
    rw [hr] at h
    simp only [PyFlat.rows] at h
    cases h
    exact ⟨x, rfl, row_some hr⟩
theorem call_one {l : List Int} {c : List (List Int)} {t : List Int} (h : PyFlat.call PyCp05.shape l = some (c, t)) (hb : PyInside.call PyCp05.bound c = true) :
    ∃ k, Rd1 l t k ∧ (PyCp05.whole c).length = 1 ∧ Cp05Neutral.callOf ((PyCp05.whole c).headD []) = some k := by
  match l, h with
  | [], h => cases h
  | p :: r, h =>
    have key : ∀ (n k : Nat), PyCp05.shape p = some (n, k) → ∃ xs, r.length ≥ n ∧ PyFlat.rows k (r.drop n) = some (xs, t) ∧ c = (p :: r.take n) :: xs := fun n k e => by
      unfold PyFlat.call at h
      dsimp only at h
      rw [e] at h
      dsimp only at h
      by_cases hl : r.length < n
      · rw [if_pos hl] at h; cases h
      · rw [if_neg hl] at h
        cases hr : PyFlat.rows k (r.drop n) with
        | none => rw [hr] at h; cases h
        | some q =>
          obtain ⟨xs, s⟩ := q
          rw [hr] at h
          cases h
          exact ⟨xs, by omega, rfl, rfl⟩
    have lst : ∀ q : Int, PyCp05.bound q = ([], [(-9007199254740992, 9007199254740992, 0, 59)]) → ∀ x, c = [[q], x] → x.length ≤ 59 := fun q e x hc => by
      rw [hc] at hb
      unfold PyInside.call at hb
      simp only [e, PyInside.each, PyInside.lists, Bool.and_eq_true, decide_eq_true_eq] at hb
      omega
    by_cases h1 : p = 1
    · subst h1
      obtain ⟨xs, _, hr, hc⟩ := key 0 1 rfl
      obtain ⟨x, rfl, hx⟩ := rows1 hr
      rw [List.drop_zero] at hx
      subst hx
      subst hc
      exact ⟨_, .rules x t (lst 1 rfl x rfl), rfl, rfl⟩
    by_cases h2 : p = 2
    · subst h2
      obtain ⟨xs, _, hr, hc⟩ := key 0 1 rfl
      obtain ⟨x, rfl, hx⟩ := rows1 hr
      rw [List.drop_zero] at hx
      subst hx
      subst hc
      exact ⟨_, .chord x t (lst 2 rfl x rfl), rfl, rfl⟩
    by_cases h3 : p = 3
    · subst h3
      obtain ⟨xs, _, hr, hc⟩ := key 0 0 rfl
      rw [List.drop_zero] at hr
      cases hr
      subst hc
      exact ⟨_, .drop _, rfl, rfl⟩
    by_cases h4 : p = 4
    · subst h4
      obtain ⟨xs, hl, hr, hc⟩ := key 2 0 rfl
      match r, hl, hr, hc with
      | i :: k :: r, _, hr, hc =>
        cases hr
        subst hc
        exact ⟨_, .settings i k r, rfl, rfl⟩
      | [], hl, _, _ => exact absurd hl (by simp)
      | [_], hl, _, _ => exact absurd hl (by simp)
    by_cases h5 : p = 5
    · subst h5
      obtain ⟨xs, hl, hr, hc⟩ := key 1 0 rfl
      match r, hl, hr, hc with
      | i :: r, _, hr, hc =>
        cases hr
        subst hc
        exact ⟨_, .count i r, rfl, rfl⟩
      | [], hl, _, _ => exact absurd hl (by simp)
    by_cases h6 : p = 6
    · subst h6
      obtain ⟨xs, _, hr, hc⟩ := key 0 0 rfl
      rw [List.drop_zero] at hr
      cases hr
      subst hc
      exact ⟨_, .counts _, rfl, rfl⟩
    by_cases h7 : p = 7
    · subst h7
      obtain ⟨xs, hl, hr, hc⟩ := key 1 0 rfl
      match r, hl, hr, hc with
      | i :: r, _, hr, hc =>
        cases hr
        subst hc
        exact ⟨_, .nth i r, rfl, rfl⟩
      | [], hl, _, _ => exact absurd hl (by simp)
    by_cases h8 : p = 8
    · subst h8
      obtain ⟨xs, _, hr, hc⟩ := key 0 1 rfl
      obtain ⟨x, rfl, hx⟩ := rows1 hr
      rw [List.drop_zero] at hx
      subst hx
      subst hc
      exact ⟨_, .judge x t (lst 8 rfl x rfl), rfl, rfl⟩
    have : PyCp05.shape p = none := by
      unfold PyCp05.shape
      rw [if_neg h1, if_neg h2, if_neg h3, if_neg h4, if_neg h5, if_neg h6, if_neg h7, if_neg h8]
    unfold PyFlat.call at h
    dsimp only at h
    rw [this] at h
    cases h
theorem calls_all : ∀ (f : Nat) (l : List Int) (raw : List (List (List Int))), PyFlat.calls PyCp05.shape f l = some raw → PyInside.calls PyCp05.bound raw = true →
    ∃ cs, RdAll l cs ∧ cs.length = raw.length ∧ ∀ s, PyFlat.told (PyFlat.played Cp05Neutral.step s (raw.map PyCp05.whole)) = tell s cs
  | f, [], raw, h, _ => by
    have e : raw = [] := by
      cases f <;> exact (Option.some.inj h).symm
    subst e
    exact ⟨[], .nil, rfl, fun _ => rfl⟩
  | 0, _ :: _, raw, h, _ => by cases h
  | f + 1, p :: r, raw, h, hb => by
    unfold PyFlat.calls at h
    cases hc : PyFlat.call PyCp05.shape (p :: r) with
    | none => rw [hc] at h; cases h
    | some q =>
      obtain ⟨c, t⟩ := q
      rw [hc] at h
      simp only at h
      cases hr : PyFlat.calls PyCp05.shape f t with
      | none => rw [hr] at h; cases h
      | some rest =>
        rw [hr] at h
        cases h
        have hb' : (PyInside.call PyCp05.bound c && PyInside.calls PyCp05.bound rest) = true := hb
        rw [Bool.and_eq_true] at hb'
        obtain ⟨k, h1, h2, h3⟩ := call_one hc hb'.1
        obtain ⟨cs, g1, g2, g3⟩ := calls_all f t rest hr hb'.2
        refine ⟨k :: cs, .cons h1 g1, by simp [g2], fun s => ?_⟩
        have e : Cp05Neutral.step s (PyCp05.whole c) = stepA s k := by
          unfold Cp05Neutral.step
          rw [h3]
          rfl
        show PyFlat.told ((Cp05Neutral.step s (PyCp05.whole c)).2 :: PyFlat.played Cp05Neutral.step (Cp05Neutral.step s (PyCp05.whole c)).1 (rest.map PyCp05.whole)) = _
        rw [e]
        unfold PyFlat.told
        rw [List.flatMap_cons]
        show ((stepA s k).2.length : Int) :: (stepA s k).2 ++ PyFlat.told (PyFlat.played Cp05Neutral.step (stepA s k).1 (rest.map PyCp05.whole)) = _
        rw [g3]
        rfl
/-- what is asked: the calls stand in the list, and the answers are few enough -/
theorem asked_all {l : List Int} (h : PyCp05.answers_asked l = true) : ∃ cs, RdAll l cs ∧ cs.length ≤ 60 ∧ PyCp05.answers l = tell Cp05.start cs ∧ (tell Cp05.start cs).length ≤ 10000000 := by
  unfold PyCp05.answers_asked at h
  cases hr : PyFlat.calls PyCp05.shape l.length l with
  | none => rw [hr] at h; cases h
  | some raw =>
    rw [hr] at h
    simp only [Bool.and_eq_true] at h
    obtain ⟨⟨⟨⟨_, h1⟩, h2⟩, h3⟩, h4⟩ := h
    obtain ⟨cs, g1, g2, g3⟩ := calls_all _ _ _ hr h2
    have e : PyCp05.answers l = tell Cp05.start cs := by
      unfold PyCp05.answers PyCp05.calls
      rw [hr]
      exact g3 _
    refine ⟨cs, g1, ?_, e, ?_⟩
    · rw [g2]
      exact of_decide_eq_true h1
    · rw [← e]
      exact of_decide_eq_true h4
end Bf

namespace Bf
open Cp05
/-! ### rows of numbers, 120 of them -/
theorem none_len : none_.length = 120 := by unfold none_ BOUND; rw [List.length_replicate]
theorem nothing_len : nothing.length = 120 := by unfold nothing BOUND; rw [List.length_cons, List.length_replicate]
theorem added_len {a b : Ways} (ha : a.length = 120) (hb : b.length = 120) : (added a b).length = 120 := by unfold added; rw [List.length_map, List.length_zip]; omega
theorem dearer_len {w : Ways} (p : Nat) (hw : w.length = 120) : (dearer p w).length = 120 := by
  unfold dearer BOUND
  rw [List.length_take, List.length_append, List.length_replicate]
  omega
theorem none_at (p : Nat) : none_.getD p 0 = 0 := by
  unfold none_
  rw [List.getD_eq_getElem?_getD, List.getElem?_replicate]
  split <;> rfl
theorem nothing_at (p : Nat) : nothing.getD p 0 = if p = 0 then 1 else 0 := by
  cases p with
  | zero => rfl
  | succ p =>
    show (List.replicate (BOUND - 1) 0).getD p 0 = _
    rw [List.getD_eq_getElem?_getD, List.getElem?_replicate, if_neg (Nat.succ_ne_zero p)]
    split <;> rfl
theorem added_at {a b : Ways} (ha : a.length = 120) (hb : b.length = 120) (p : Nat) : (added a b).getD p 0 = a.getD p 0 + b.getD p 0 := by
  unfold added
  simp only [List.getD_eq_getElem?_getD, List.getElem?_map]
  rcases Nat.lt_or_ge p 120 with h | h
  · rw [List.getElem?_eq_getElem (l := a) (by omega), List.getElem?_eq_getElem (l := b) (by omega), List.getElem?_eq_getElem (by rw [List.length_zip]; omega), List.getElem_zip]
    rfl
  · rw [List.getElem?_eq_none (l := a) (by omega), List.getElem?_eq_none (l := b) (by omega), List.getElem?_eq_none (by rw [List.length_zip]; omega)]
    rfl
theorem dearer_at {w : Ways} (k p : Nat) (hp : p < 120) : (dearer k w).getD p 0 = if p < k then 0 else w.getD (p - k) 0 := by
  unfold dearer BOUND
  simp only [List.getD_eq_getElem?_getD]
  rw [List.getElem?_take_of_lt hp]
  by_cases h : p < k
  · rw [List.getElem?_append_left (by rw [List.length_replicate]; exact h), List.getElem?_replicate, if_pos h, if_pos h]
    rfl
  · rw [List.getElem?_append_right (by rw [List.length_replicate]; omega), List.length_replicate, if_neg h]
theorem getD_all {a b : Ways} (ha : a.length = 120) (hb : b.length = 120) (h : ∀ p, p < 120 → a.getD p 0 = b.getD p 0) : a = b := by
  apply List.ext_getElem (by omega)
  intro i h1 h2
  have := h i (by omega)
  rw [List.getD_eq_getElem?_getD, List.getD_eq_getElem?_getD, List.getElem?_eq_getElem h1, List.getElem?_eq_getElem h2] at this
  exact this
/-- rows added up, those of a kind alone -/
def sumIf {α : Type} (c : α → Bool) (f : α → Ways) (l : List α) (m : Ways) : Ways := l.foldl (fun m x => if c x = true then added m (f x) else m) m
theorem sumIf_len {α : Type} {c : α → Bool} {f : α → Ways} (hf : ∀ x, (f x).length = 120) : ∀ (l : List α) (m : Ways), m.length = 120 → (sumIf c f l m).length = 120
  | [], m, h => h
  | x :: l, m, h => by
    show (sumIf c f l (if c x = true then added m (f x) else m)).length = 120
    refine sumIf_len hf l _ ?_
    split
    · exact added_len h (hf x)
    · exact h
theorem sumIf_at {α : Type} {c : α → Bool} {f : α → Ways} (hf : ∀ x, (f x).length = 120) (p : Nat) : ∀ (l : List α) (m : Ways), m.length = 120 → (sumIf c f l m).getD p 0 = m.getD p 0 + ((l.filter c).map fun x => (f x).getD p 0).sum
  | [], m, h => rfl
  | x :: l, m, h => by
    show (sumIf c f l (if c x = true then added m (f x) else m)).getD p 0 = _
    cases hc : c x with
    | true =>
      rw [if_pos rfl, sumIf_at hf p l _ (added_len h (hf x)), added_at h (hf x), List.filter_cons, hc, if_pos rfl, List.map_cons, List.sum_cons]
      omega
    | false =>
      rw [if_neg Bool.false_ne_true, sumIf_at hf p l _ h, List.filter_cons, hc, if_neg Bool.false_ne_true]
/-! ### ways from a setting on -/
def okStep (q : Rules) (c e : Chord) (s t : Setting) : Bool := (wrongs q c e s t).isEmpty
def tailW (q : Rules) : List Chord → Chord → Setting → Ways
  | [], c, s => dearer (own q c s) nothing
  | e :: l, c, s => dearer (own q c s) (sumIf (okStep q c e s) (fun t => dearer (moved q s t) (tailW q l e t)) (settings q e) none_)
theorem tailW_len (q : Rules) : ∀ (l : List Chord) (c : Chord) (s : Setting), (tailW q l c s).length = 120
  | [], c, s => dearer_len _ nothing_len
  | e :: l, c, s => dearer_len _ (sumIf_len (fun t => dearer_len _ (tailW_len q l e t)) _ _ none_len)
theorem rowsOf_cons (q : Rules) : ∀ (l : List Chord) (c : Chord), rowsOf q (c :: l) = ((settings q c).map fun s => (s, tailW q l c s)) :: rowsOf q l
  | [], c => by
    show [(settings q c).map fun s => (s, dearer (own q c s) nothing)] = _
    rfl
  | e :: l, c => by
    have ih := rowsOf_cons q l e
    show ((settings q c).map fun s => (s, dearer (own q c s) (((rowsOf q (e :: l)).headD []).foldl (fun m x => if (wrongs q c e s x.1).isEmpty = true then added m (dearer (moved q s x.1) x.2) else m) none_))) :: rowsOf q (e :: l) = _
    congr 1
    apply List.map_congr_left
    intro s _
    rw [ih]
    show (s, dearer (own q c s) (((settings q e).map fun s => (s, tailW q l e s)).foldl (fun m x => if (wrongs q c e s x.1).isEmpty = true then added m (dearer (moved q s x.1) x.2) else m) none_)) = (s, _)
    rw [List.foldl_map]
    rfl
/-- how many ways of just the cost p there are from the setting s of c on -/
def numW (q : Rules) : List Chord → Chord → Setting → Nat → Nat
  | [], c, s, p => if p = own q c s then 1 else 0
  | e :: l, c, s, p => if p < own q c s then 0 else (((settings q e).filter (okStep q c e s)).map fun t => if p - own q c s < moved q s t then 0 else numW q l e t (p - own q c s - moved q s t)).sum
theorem tailW_at (q : Rules) : ∀ (l : List Chord) (c : Chord) (s : Setting) (p : Nat), p < 120 → (tailW q l c s).getD p 0 = numW q l c s p
  | [], c, s, p, h => by
    show (dearer (own q c s) nothing).getD p 0 = _
    rw [dearer_at _ _ h, nothing_at]
    show _ = if p = own q c s then 1 else 0
    by_cases h1 : p < own q c s
    · rw [if_pos h1, if_neg (by omega)]
    · rw [if_neg h1]
      by_cases h2 : p = own q c s
      · rw [if_pos (by omega), if_pos h2]
      · rw [if_neg (by omega), if_neg h2]
  | e :: l, c, s, p, h => by
    show (dearer (own q c s) (sumIf (okStep q c e s) (fun t => dearer (moved q s t) (tailW q l e t)) (settings q e) none_)).getD p 0 = if p < own q c s then 0 else _
    rw [dearer_at _ _ h]
    by_cases h1 : p < own q c s
    · rw [if_pos h1, if_pos h1]
    · rw [if_neg h1, if_neg h1, sumIf_at (fun t => dearer_len _ (tailW_len q l e t)) _ _ _ none_len, none_at, Nat.zero_add]
      congr 1
      apply List.map_congr_left
      intro t _
      rw [dearer_at _ _ (by omega)]
      split
      · rfl
      · exact tailW_at q l e t _ (by omega)
theorem counts_len (q : Rules) (l : List Chord) : (counts q l).length = 120 := by
  unfold counts
  match l with
  | [] => exact none_len
  | c :: l =>
    rw [rowsOf_cons]
    show (List.foldl (fun m x => added m x.2) none_ ((settings q c).map fun s => (s, tailW q l c s))).length = 120
    rw [List.foldl_map]
    have : ∀ (ss : List Setting) (m : Ways), m.length = 120 → (ss.foldl (fun m s => added m (tailW q l c s)) m).length = 120 := by
      intro ss
      induction ss with
      | nil => exact fun m h => h
      | cons s ss ih => exact fun m h => ih _ (added_len h (tailW_len q l c s))
    exact this _ _ none_len
theorem counts_at (q : Rules) (c : Chord) (l : List Chord) {p : Nat} (h : p < 120) : (counts q (c :: l)).getD p 0 = ((settings q c).map fun s => numW q l c s p).sum := by
  unfold counts
  rw [rowsOf_cons]
  show (List.foldl (fun m x => added m x.2) none_ ((settings q c).map fun s => (s, tailW q l c s))).getD p 0 = _
  rw [List.foldl_map]
  have : ∀ (ss : List Setting) (m : Ways), m.length = 120 → (ss.foldl (fun m s => added m (tailW q l c s)) m).getD p 0 = m.getD p 0 + (ss.map fun s => numW q l c s p).sum := by
    intro ss
    induction ss with
    | nil => exact fun m h => rfl
    | cons s ss ih =>
      intro m hm
      rw [List.foldl_cons, ih _ (added_len hm (tailW_len q l c s)), added_at hm (tailW_len q l c s), tailW_at q l c s p h, List.map_cons, List.sum_cons]
      omega
  rw [this _ _ none_len, none_at, Nat.zero_add]
/-! ### judging -/
def total (q : Rules) : List Chord → List Setting → Nat
  | [c], [s] => own q c s
  | c :: e :: l, s :: t :: m => own q c s + moved q s t + total q (e :: l) (t :: m)
  | _, _ => 0
theorem judged_nil (q : Rules) (i : Nat) (b : Option (Chord × Setting)) (c : Chord) (l : List Chord) (s : Setting) (m : List Setting) :
    judged q i b (c :: l) (s :: m) = (if (settings q c).contains s = true then [] else [[(i : Int), 4, 9, 9]]) ++ (match b with
    | none => []
    | some y => (wrongs q y.1 c y.2 s).map fun w => [(i : Int), (w.1 : Int), (w.2.1 : Int), (w.2.2 : Int)]) ++ judged q (i + 1) (some (c, s)) l m := rfl
theorem cost_eq (q : Rules) : ∀ (l : List Chord) (c : Chord) (s : Setting) (m : List Setting) (i : Nat), m.length = l.length → cost q (c :: l) (s :: m) = if (judged q i none (c :: l) (s :: m)).isEmpty = true then some (total q (c :: l) (s :: m)) else none
  | [], c, s, m, i, h => by
    have : m = [] := List.length_eq_zero_iff.mp h
    subst this
    show (if (settings q c).contains s = true then some (own q c s) else none) = _
    rw [judged_nil]
    by_cases hs : (settings q c).contains s = true
    · rw [if_pos hs, if_pos hs]
      rfl
    · rw [if_neg hs, if_neg hs]
      rfl
  | e :: l, c, s, m, i, h => by
    match m, h with
    | t :: m, h =>
      have ih := cost_eq q l e t m (i + 1) (by simpa using h)
      show (if (settings q c).contains s = true ∧ (wrongs q c e s t).isEmpty = true then (cost q (e :: l) (t :: m)).map fun k => own q c s + moved q s t + k else none) = _
      rw [judged_nil, judged_nil, ih, judged_nil]
      by_cases hs : (settings q c).contains s = true
      · rw [if_pos hs]
        by_cases hw : (wrongs q c e s t).isEmpty = true
        · rw [if_pos ⟨hs, hw⟩]
          have hw' : wrongs q c e s t = [] := List.isEmpty_iff.mp hw
          simp only [hw', List.map_nil, List.append_nil, List.nil_append]
          by_cases hj : ((if (settings q e).contains t = true then [] else [[((i + 1 : Nat) : Int), 4, 9, 9]]) ++ judged q (i + 1 + 1) (some (e, t)) l m).isEmpty = true
          · rw [if_pos hj, if_pos hj]
            rfl
          · rw [if_neg hj, if_neg hj]
            rfl
        · rw [if_neg fun z => hw z.2, if_neg]
          intro z
          rw [List.isEmpty_iff, List.append_eq_nil_iff, List.append_eq_nil_iff, List.append_eq_nil_iff] at z
          have := List.map_eq_nil_iff.mp (List.append_eq_nil_iff.mp z.2.1).2
          exact hw (List.isEmpty_iff.mpr this)
      · rw [if_neg fun z => hs z.1, if_neg hs, if_neg]
        intro z
        cases z
/-! ### picking -/
theorem pick_none {α : Type} : ∀ (l : List (Nat × α)) (n : Nat), pick l n = none ↔ (l.map (·.1)).sum ≤ n
  | [], n => by simp [pick]
  | x :: l, n => by
    unfold pick
    rw [List.map_cons, List.sum_cons]
    by_cases h : n < x.1
    · rw [if_pos h]
      constructor
      · intro z; cases z
      · intro z; omega
    · rw [if_neg h, pick_none l (n - x.1)]
      omega
theorem pick_some {α : Type} : ∀ (l : List (Nat × α)) (n : Nat) (a : α) (k : Nat), pick l n = some (a, k) ↔ ∃ i x, l[i]? = some x ∧ x.2 = a ∧ ((l.take i).map (·.1)).sum ≤ n ∧ n = ((l.take i).map (·.1)).sum + k ∧ k < x.1
  | [], n, a, k => by simp [pick]
  | x :: l, n, a, k => by
    unfold pick
    by_cases h : n < x.1
    · rw [if_pos h]
      constructor
      · intro z
        cases z
        exact ⟨0, x, rfl, rfl, Nat.zero_le _, (by simp), h⟩
      · rintro ⟨i, y, h1, h2, h3, h4, h5⟩
        cases i with
        | zero =>
          cases h1
          simp only [List.take_zero, List.map_nil, List.sum_nil, Nat.zero_add] at h4
          rw [h2, h4]
        | succ i =>
          rw [List.take_succ_cons, List.map_cons, List.sum_cons] at h3
          omega
    · rw [if_neg h, pick_some l (n - x.1) a k]
      constructor
      · rintro ⟨i, y, h1, h2, h3, h4, h5⟩
        refine ⟨i + 1, y, h1, h2, ?_, ?_, h5⟩ <;> rw [List.take_succ_cons, List.map_cons, List.sum_cons] <;> omega
      · rintro ⟨i, y, h1, h2, h3, h4, h5⟩
        cases i with
        | zero =>
          cases h1
          simp only [List.take_zero, List.map_nil, List.sum_nil, Nat.zero_add] at h4
          omega
        | succ i =>
          rw [List.take_succ_cons, List.map_cons, List.sum_cons] at h3 h4
          exact ⟨i, y, h1, h2, by omega, by omega, h5⟩
end Bf

namespace Bf
open Cp05
/-! ### numbers of ways in one number, a field for each cost -/
def wt (w c : Nat) : Nat := if c < 120 then 2 ^ ((119 - c) * w) else 0
/-- a sum over costs -/
def gs (g : Nat → Nat) (l : List Nat) : Nat := (l.map g).sum
def tal (w : Nat) (l : List Nat) : Nat := gs (wt w) l
theorem gs_nil (g : Nat → Nat) : gs g [] = 0 := rfl
theorem gs_cons (g : Nat → Nat) (x : Nat) (l : List Nat) : gs g (x :: l) = g x + gs g l := by unfold gs; rw [List.map_cons, List.sum_cons]
theorem gs_append (g : Nat → Nat) (l m : List Nat) : gs g (l ++ m) = gs g l + gs g m := by unfold gs; rw [List.map_append, List.sum_append]
theorem gs_flatMap {α : Type} (g : Nat → Nat) (f : α → List Nat) : ∀ l : List α, gs g (l.flatMap f) = (l.map fun x => gs g (f x)).sum
  | [] => rfl
  | x :: l => by rw [List.flatMap_cons, gs_append, gs_flatMap g f l, List.map_cons, List.sum_cons]
theorem gs_one : ∀ l : List Nat, gs (fun _ => 1) l = l.length
  | [] => rfl
  | x :: l => by rw [gs_cons, gs_one l, List.length_cons]; omega
theorem gs_map (g : Nat → Nat) (k : Nat) : ∀ l : List Nat, gs g (l.map (· + k)) = gs (fun c => g (c + k)) l
  | [] => rfl
  | x :: l => by rw [List.map_cons, gs_cons, gs_cons, gs_map g k l]
theorem tal_split (w k : Nat) : ∀ l : List Nat, ∃ R, tal w l = 2 ^ (k * w) * tal w (l.map (· + k)) + R ∧ R ≤ l.length * 2 ^ ((k - 1) * w) ∧ (k = 0 → R = 0)
  | [] => ⟨0, by simp [tal, gs], Nat.zero_le _, fun _ => rfl⟩
  | c :: l => by
    obtain ⟨R, h1, h2, h3⟩ := tal_split w k l
    unfold tal at h1 ⊢
    rw [List.map_cons, gs_cons, gs_cons, h1, Nat.mul_add, List.length_cons, Nat.succ_mul]
    by_cases hk : c + k < 120
    · refine ⟨R, ?_, Nat.le_trans h2 (Nat.le_add_right _ _), h3⟩
      have e1 : wt w c = 2 ^ (k * w) * wt w (c + k) := by
        unfold wt
        rw [if_pos (by omega), if_pos hk, ← Nat.pow_add, ← Nat.add_mul]
        congr 2
        omega
      omega
    · have e0 : wt w (c + k) = 0 := by unfold wt; rw [if_neg hk]
      refine ⟨R + wt w c, by rw [e0]; omega, ?_, fun h0 => ?_⟩
      · have : wt w c ≤ 2 ^ ((k - 1) * w) := by
          unfold wt
          split
          · exact Nat.pow_le_pow_right (by decide) (Nat.mul_le_mul_right _ (by omega))
          · exact Nat.zero_le _
        omega
      · rw [h3 h0]
        unfold wt
        rw [if_neg (by omega)]
/-- dearer by k: a shift -/
theorem tal_shift {w : Nat} {l : List Nat} (k : Nat) (h : l.length < 2 ^ w) : tal w (l.map (· + k)) = tal w l / 2 ^ (k * w) := by
  obtain ⟨R, h1, h2, h3⟩ := tal_split w k l
  have hR : R < 2 ^ (k * w) := by
    cases k with
    | zero => rw [h3 rfl]; exact Nat.two_pow_pos _
    | succ k =>
      refine Nat.lt_of_le_of_lt h2 ?_
      have : 2 ^ ((k + 1) * w) = 2 ^ w * 2 ^ ((k + 1 - 1) * w) := by
        rw [← Nat.pow_add]
        congr 1
        rw [Nat.add_sub_cancel, Nat.succ_mul]
        omega
      rw [this]
      exact Nat.mul_lt_mul_of_pos_right h (Nat.two_pow_pos _)
  rw [h1, Nat.mul_add_div (Nat.two_pow_pos _), Nat.div_eq_of_lt hR, Nat.add_zero]
theorem tal_mod (w : Nat) : ∀ m : List Nat, ∃ N, tal w m = 2 ^ w * N + m.count 119
  | [] => ⟨0, by simp [tal, gs]⟩
  | c :: m => by
    obtain ⟨N, h⟩ := tal_mod w m
    unfold tal at h ⊢
    rw [gs_cons, h, List.count_cons]
    by_cases h1 : c = 119
    · subst h1
      refine ⟨N, ?_⟩
      have : wt w 119 = 1 := by unfold wt; simp
      rw [this, if_pos (by simp)]
      omega
    · rw [if_neg (by simpa using h1)]
      by_cases h2 : c < 119
      · refine ⟨2 ^ ((118 - c) * w) + N, ?_⟩
        have : wt w c = 2 ^ w * 2 ^ ((118 - c) * w) := by
          unfold wt
          rw [if_pos (by omega), ← Nat.pow_add]
          congr 1
          have : 119 - c = (118 - c) + 1 := by omega
          rw [this, Nat.succ_mul]
          omega
        rw [this, Nat.mul_add]
        omega
      · refine ⟨N, ?_⟩
        have : wt w c = 0 := by unfold wt; rw [if_neg (by omega)]
        omega
theorem count_map_add (k : Nat) (p : Nat) : ∀ l : List Nat, (l.map (· + k)).count p = if p < k then 0 else l.count (p - k)
  | [] => by simp
  | c :: l => by
    rw [List.map_cons, List.count_cons, List.count_cons, count_map_add k p l]
    by_cases h : p < k
    · rw [if_pos h, if_pos h, if_neg (by simp; omega)]
    · rw [if_neg h, if_neg h]
      by_cases h2 : c + k = p
      · rw [if_pos (by simpa using h2), if_pos (by simp; omega)]
      · rw [if_neg (by simpa using h2), if_neg (by simp; omega)]
theorem count_flatMap {α : Type} (p : Nat) (f : α → List Nat) : ∀ l : List α, (l.flatMap f).count p = (l.map fun x => (f x).count p).sum
  | [] => rfl
  | x :: l => by rw [List.flatMap_cons, List.count_append, count_flatMap p f l, List.map_cons, List.sum_cons]
/-- the field of the cost p -/
theorem tal_field {w p : Nat} {l : List Nat} (h : l.length < 2 ^ w) (hp : p < 120) : tal w l / 2 ^ ((119 - p) * w) % 2 ^ w = l.count p := by
  rw [← tal_shift _ h]
  obtain ⟨N, hN⟩ := tal_mod w (l.map (· + (119 - p)))
  rw [hN, count_map_add, if_neg (by omega)]
  have e : 119 - (119 - p) = p := by omega
  rw [e, Nat.mul_add_mod]
  exact Nat.mod_eq_of_lt (Nat.lt_of_le_of_lt List.count_le_length h)
theorem tal_le (w : Nat) : ∀ l : List Nat, tal w l ≤ l.length * 2 ^ (119 * w)
  | [] => Nat.zero_le _
  | c :: l => by
    have ih := tal_le w l
    unfold tal at ih ⊢
    rw [gs_cons, List.length_cons, Nat.succ_mul]
    have : wt w c ≤ 2 ^ (119 * w) := by
      unfold wt
      split
      · exact Nat.pow_le_pow_right (by decide) (Nat.mul_le_mul_right _ (by omega))
      · exact Nat.zero_le _
    omega
/-- above all fields there is nothing -/
theorem tal_above {w n : Nat} {l : List Nat} (h : l.length < 2 ^ w) (hn : 120 ≤ n) : tal w l / 2 ^ (n * w) = 0 := by
  apply Nat.div_eq_of_lt
  refine Nat.lt_of_le_of_lt (tal_le w l) ?_
  have h1 : l.length * 2 ^ (119 * w) < 2 ^ w * 2 ^ (119 * w) := Nat.mul_lt_mul_of_pos_right h (Nat.two_pow_pos _)
  refine Nat.lt_of_lt_of_le h1 ?_
  rw [← Nat.pow_add]
  apply Nat.pow_le_pow_right (by decide)
  have : w + 119 * w = 120 * w := by omega
  rw [this]
  exact Nat.mul_le_mul_right _ hn
theorem tal_nothing (w : Nat) : tal w [0] = 2 ^ (119 * w) := by
  unfold tal gs wt
  simp
end Bf

namespace Bf
open Cp05
/-! ### from sounds to sounds -/
def sndC (c : Cp05.Chord) (s : Setting) : List Int := s.map Note.sound ++ [c.bass.sound]
def parS (a b x y : Int) : Bool :=
  let m := (a - b) % 12
  let n := (x - y) % 12
  m == n && ((m == 0 || m == 7) && (a != x && b != y))
def wrongsS (leap : List Int) (x y : List Int) : List (Nat × Nat × Nat) :=
  (pairs.filter fun p => parS (x.getD p.1 0) (x.getD p.2 0) (y.getD p.1 0) (y.getD p.2 0)).map (fun p => (1, p.1, p.2)) ++
  ((List.range 3).filter fun i => decide (leap.getD i 0 < (((y.getD i 0) - (x.getD i 0)).natAbs : Int))).map (fun i => (2, i, 9)) ++
  ((List.range 3).flatMap fun i => (if decide (x.getD i 0 < y.getD (i + 1) 0) = true then [(3, i + 1, i)] else []) ++ if decide (y.getD i 0 < x.getD (i + 1) 0) = true then [(3, i, i + 1)] else [])
def okS (leap : List Int) (x y : List Int) : Bool := (wrongsS leap x y).isEmpty
def movS (k : Nat) (x y : List Int) : Nat := k * ((y.getD 0 0 - x.getD 0 0).natAbs + (y.getD 1 0 - x.getD 1 0).natAbs + (y.getD 2 0 - x.getD 2 0).natAbs)
theorem wrongs_snd (q : Rules) (c e : Cp05.Chord) (a b t x y z : Note) : wrongs q c e [a, b, t] [x, y, z] = wrongsS q.leap (sndC c [a, b, t]) (sndC e [x, y, z]) := by
  unfold wrongs wrongsS
  congr 1
theorem okStep_snd (q : Rules) (c e : Cp05.Chord) (a b t x y z : Note) : okStep q c e [a, b, t] [x, y, z] = okS q.leap (sndC c [a, b, t]) (sndC e [x, y, z]) := by
  unfold okStep okS
  rw [wrongs_snd]
theorem moved_snd (q : Rules) (c e : Cp05.Chord) (a b t x y z : Note) : moved q [a, b, t] [x, y, z] = movS q.move (sndC c [a, b, t]) (sndC e [x, y, z]) := by
  unfold moved movS
  show q.move * (0 + (x.sound - a.sound).natAbs + (y.sound - b.sound).natAbs + (z.sound - t.sound).natAbs) = q.move * ((x.sound - a.sound).natAbs + (y.sound - b.sound).natAbs + (z.sound - t.sound).natAbs)
  rw [Nat.zero_add]
/-! ### the ways ahead, each by its cost -/
def aheadL (q : Rules) : List Cp05.Chord → List Int → List Nat
  | [], _ => [0]
  | e :: l, a => ((settings q e).filter fun t => okS q.leap a (sndC e t)).flatMap fun t => (aheadL q l (sndC e t)).map (· + (own q e t + movS q.move a (sndC e t)))
theorem three_of {q : Rules} {c : Cp05.Chord} {s : Setting} (h : s ∈ settings q c) : ∃ a b t, s = [a, b, t] := by
  obtain ⟨a, b, t, e, _⟩ := mem_settings h
  exact ⟨a, b, t, e⟩
theorem sum_congr {α : Type} {f g : α → Nat} : ∀ {l : List α}, (∀ x ∈ l, f x = g x) → (l.map f).sum = (l.map g).sum
  | [], _ => rfl
  | x :: l, h => by rw [List.map_cons, List.map_cons, List.sum_cons, List.sum_cons, h x List.mem_cons_self, sum_congr fun y hy => h y (List.mem_cons_of_mem _ hy)]
theorem numW_ahead (q : Rules) : ∀ (l : List Cp05.Chord) (c : Cp05.Chord) (s : Setting) (p : Nat), s ∈ settings q c → numW q l c s p = ((aheadL q l (sndC c s)).map (· + own q c s)).count p
  | [], c, s, p, h => by
    show (if p = own q c s then 1 else 0) = ([0].map (· + own q c s)).count p
    rw [List.map_cons, List.map_nil, List.count_cons, List.count_nil]
    by_cases e : p = own q c s
    · rw [if_pos e, if_pos (by simp [e])]
    · rw [if_neg e, if_neg (by simp; omega)]
  | e :: l, c, s, p, h => by
    obtain ⟨a, b, t, rfl⟩ := three_of h
    show (if p < own q c [a, b, t] then 0 else (((settings q e).filter (okStep q c e [a, b, t])).map fun t' => if p - own q c [a, b, t] < moved q [a, b, t] t' then 0 else numW q l e t' (p - own q c [a, b, t] - moved q [a, b, t] t')).sum) = _
    rw [count_map_add]
    by_cases h1 : p < own q c [a, b, t]
    · rw [if_pos h1, if_pos h1]
    · rw [if_neg h1, if_neg h1]
      generalize p - own q c [a, b, t] = r
      show _ = (((settings q e).filter fun t' => okS q.leap (sndC c [a, b, t]) (sndC e t')).flatMap fun t' => (aheadL q l (sndC e t')).map (· + (own q e t' + movS q.move (sndC c [a, b, t]) (sndC e t')))).count r
      rw [count_flatMap]
      have hf : (settings q e).filter (okStep q c e [a, b, t]) = (settings q e).filter fun t' => okS q.leap (sndC c [a, b, t]) (sndC e t') := by
        apply List.filter_congr
        intro t' ht'
        obtain ⟨x, y, z, rfl⟩ := three_of ht'
        exact okStep_snd q c e a b t x y z
      rw [hf]
      apply sum_congr
      intro t' ht'
      have hm := (List.mem_filter.mp ht').1
      have ih := fun p => numW_ahead q l e t' p hm
      rw [ih]
      obtain ⟨x, y, z, rfl⟩ := three_of hm
      rw [moved_snd q c e, count_map_add, count_map_add]
      generalize own q e [x, y, z] = o
      generalize movS q.move (sndC c [a, b, t]) (sndC e [x, y, z]) = m
      by_cases h2 : r < m
      · rw [if_pos h2, if_pos (by omega)]
      · rw [if_neg h2]
        by_cases h3 : r - m < o
        · rw [if_pos h3, if_pos (by omega)]
        · rw [if_neg h3, if_neg (by omega)]
          congr 1
          omega
/-- all ways through, each by its cost -/
def allL (q : Rules) (c : Cp05.Chord) (l : List Cp05.Chord) : List Nat := (settings q c).flatMap fun s => (aheadL q l (sndC c s)).map (· + own q c s)
theorem counts_all (q : Rules) (c : Cp05.Chord) (l : List Cp05.Chord) {p : Nat} (h : p < 120) : (counts q (c :: l)).getD p 0 = (allL q c l).count p := by
  rw [counts_at q c l h]
  unfold allL
  rw [count_flatMap]
  exact sum_congr fun s hs => numW_ahead q l c s p hs
/-! ### how many -/
def prodS (q : Rules) : List Cp05.Chord → Nat
  | [] => 1
  | c :: l => max 1 (settings q c).length * prodS q l
theorem prodS_pos (q : Rules) : ∀ l : List Cp05.Chord, 1 ≤ prodS q l
  | [] => Nat.le_refl _
  | c :: l => by
    show 1 ≤ max 1 (settings q c).length * prodS q l
    exact Nat.mul_le_mul (Nat.le_max_left 1 _) (prodS_pos q l)
theorem prodS_tail (q : Rules) (c : Cp05.Chord) (l : List Cp05.Chord) : prodS q l ≤ prodS q (c :: l) := by
  show prodS q l ≤ max 1 (settings q c).length * prodS q l
  have : 1 * prodS q l ≤ max 1 (settings q c).length * prodS q l := Nat.mul_le_mul_right _ (Nat.le_max_left 1 _)
  omega
theorem prodS_drop (q : Rules) : ∀ (l : List Cp05.Chord) (i : Nat), prodS q (l.drop i) ≤ prodS q l
  | [], i => by rw [List.drop_nil]; exact Nat.le_refl _
  | c :: l, 0 => Nat.le_refl _
  | c :: l, i + 1 => Nat.le_trans (prodS_drop q l i) (prodS_tail q c l)
theorem flat_le {α : Type} (f : α → List Nat) (k : Nat) (l : List α) (h : ∀ x ∈ l, (f x).length ≤ k) : (l.flatMap f).length ≤ l.length * k := flatMap_le f k l h
theorem aheadL_len (q : Rules) : ∀ (l : List Cp05.Chord) (a : List Int), (aheadL q l a).length ≤ prodS q l
  | [], _ => Nat.le_refl _
  | e :: l, a => by
    show (((settings q e).filter fun t => okS q.leap a (sndC e t)).flatMap fun t => (aheadL q l (sndC e t)).map (· + (own q e t + movS q.move a (sndC e t)))).length ≤ max 1 (settings q e).length * prodS q l
    refine Nat.le_trans (flat_le _ (prodS q l) _ fun t _ => ?_) (Nat.mul_le_mul_right _ ?_)
    · rw [List.length_map]
      exact aheadL_len q l _
    · exact Nat.le_trans (List.length_filter_le _ _) (Nat.le_max_right _ _)
theorem allL_len (q : Rules) (c : Cp05.Chord) (l : List Cp05.Chord) : (allL q c l).length ≤ prodS q (c :: l) := by
  refine Nat.le_trans (flat_le _ (prodS q l) _ fun t _ => ?_) (Nat.mul_le_mul_right _ (Nat.le_max_right _ _))
  rw [List.length_map]
  exact aheadL_len q l _
/-! ### sums over places, each thing at its one place -/
def sm {α : Type} (l : List α) (f : α → Nat) : Nat := (l.map f).sum
theorem sm_nil {α : Type} (f : α → Nat) : sm [] f = 0 := rfl
theorem sm_cons {α : Type} (x : α) (l : List α) (f : α → Nat) : sm (x :: l) f = f x + sm l f := by unfold sm; rw [List.map_cons, List.sum_cons]
theorem sm_add {α : Type} (f g : α → Nat) : ∀ l : List α, sm l (fun x => f x + g x) = sm l f + sm l g
  | [] => rfl
  | x :: l => by rw [sm_cons, sm_cons, sm_cons, sm_add f g l]; omega
theorem sm_zero {α : Type} : ∀ l : List α, sm l (fun _ => 0) = 0
  | [] => rfl
  | x :: l => by rw [sm_cons, sm_zero l]
theorem sm_congr {α : Type} {f g : α → Nat} {l : List α} (h : ∀ x ∈ l, f x = g x) : sm l f = sm l g := sum_congr h
theorem sm_filter {α : Type} (p : α → Bool) (f : α → Nat) : ∀ l : List α, sm (l.filter p) f = sm l fun x => if p x = true then f x else 0
  | [] => rfl
  | x :: l => by
    rw [List.filter_cons, sm_cons, ← sm_filter p f l]
    cases p x
    · rw [if_neg Bool.false_ne_true, if_neg Bool.false_ne_true, Nat.zero_add]
    · rw [if_pos rfl, if_pos rfl, sm_cons]
theorem sm_not {z : Int} {f : Int → Nat} : ∀ {l : List Int}, z ∉ l → sm l (fun y => if y = z then f y else 0) = 0
  | [], _ => rfl
  | x :: l, h => by
    rw [sm_cons, sm_not (l := l) fun hz => h (List.mem_cons_of_mem _ hz), if_neg]
    intro e
    exact h (e ▸ List.mem_cons_self)
/-- one place at most -/
theorem sm_one_le {z : Int} {f : Int → Nat} : ∀ {l : List Int}, l.Nodup → sm l (fun y => if y = z then f y else 0) ≤ f z
  | [], _ => Nat.zero_le _
  | x :: l, h => by
    rw [List.nodup_cons] at h
    rw [sm_cons]
    by_cases e : x = z
    · rw [if_pos e, sm_not (e ▸ h.1), e]
      omega
    · rw [if_neg e]
      have := sm_one_le (z := z) (f := f) h.2
      omega
theorem sm_one {z : Int} {f : Int → Nat} : ∀ {l : List Int}, l.Nodup → z ∈ l → sm l (fun y => if y = z then f y else 0) = f z
  | [], _, h => by cases h
  | x :: l, h, hz => by
    rw [List.nodup_cons] at h
    rw [sm_cons]
    by_cases e : x = z
    · rw [if_pos e, sm_not (e ▸ h.1), e, Nat.add_zero]
    · rw [if_neg e, Nat.zero_add]
      refine sm_one h.2 ?_
      rcases List.mem_cons.mp hz with h' | h'
      · exact absurd h'.symm e
      · exact h'
end Bf

namespace Bf
open Cp05
theorem sm_swap {α β : Type} (F : α → β → Nat) : ∀ (P : List α) (X : List β), sm P (fun p => sm X fun x => F p x) = sm X fun x => sm P fun p => F p x
  | [], X => by
    rw [sm_nil]
    exact (sm_zero X).symm
  | p :: P, X => by
    rw [sm_cons, sm_swap F P X, ← sm_add]
    apply sm_congr
    intro x _
    rw [sm_cons]
theorem sm_if {β : Type} (c : Bool) (F : β → Nat) (X : List β) : (if c = true then sm X F else 0) = sm X fun x => if c = true then F x else 0 := by
  cases c
  · rw [if_neg Bool.false_ne_true]
    refine (sm_zero X).symm.trans (sm_congr fun x _ => ?_)
    rw [if_neg Bool.false_ne_true]
  · rw [if_pos rfl]
    exact sm_congr fun x _ => by rw [if_pos rfl]
theorem sm_le {α : Type} {f g : α → Nat} : ∀ {l : List α}, (∀ x ∈ l, f x ≤ g x) → sm l f ≤ sm l g
  | [], _ => Nat.le_refl _
  | x :: l, h => by
    rw [sm_cons, sm_cons]
    have h1 := h x List.mem_cons_self
    have h2 := sm_le (l := l) fun y hy => h y (List.mem_cons_of_mem _ hy)
    omega
section
variable {X : Type} (c0 : Int → Bool) (c1 : Int → Int → Bool) (c2 : Int → Int → Int → Bool) (h : Int → Int → Int → X → Nat) (f0 f1 f2 : X → Int)
/-- over all places of three voices, what stands there -/
def big (P0 P1 P2 : List Int) (xs : List X) : Nat := sm P0 fun s => if c0 s = true then (sm P1 fun a => if c1 s a = true then (sm P2 fun t => if c2 s a t = true then (sm xs fun x => if f0 x = s ∧ f1 x = a ∧ f2 x = t then h s a t x else 0) else 0) else 0) else 0
/-- of one thing -/
def big1 (P0 P1 P2 : List Int) (x : X) : Nat := sm P0 fun s => if c0 s = true then (sm P1 fun a => if c1 s a = true then (sm P2 fun t => if c2 s a t = true then (if f0 x = s ∧ f1 x = a ∧ f2 x = t then h s a t x else 0) else 0) else 0) else 0
theorem big_eq (P0 P1 P2 : List Int) (xs : List X) : big c0 c1 c2 h f0 f1 f2 P0 P1 P2 xs = sm xs fun x => big1 c0 c1 c2 h f0 f1 f2 P0 P1 P2 x := by
  unfold big big1
  rw [← sm_swap]
  apply sm_congr
  intro s _
  rw [← sm_if]
  congr 1
  rw [← sm_swap]
  apply sm_congr
  intro a _
  rw [← sm_if]
  congr 1
  rw [← sm_swap]
  apply sm_congr
  intro t _
  rw [← sm_if]
theorem big1_at {P0 P1 P2 : List Int} (n0 : P0.Nodup) (n1 : P1.Nodup) (n2 : P2.Nodup) (x : X) (m0 : f0 x ∈ P0) (m1 : f1 x ∈ P1) (m2 : f2 x ∈ P2) :
    big1 c0 c1 c2 h f0 f1 f2 P0 P1 P2 x = if (c0 (f0 x) && (c1 (f0 x) (f1 x) && c2 (f0 x) (f1 x) (f2 x))) = true then h (f0 x) (f1 x) (f2 x) x else 0 := by
  unfold big1
  have e2 : ∀ s a, sm P2 (fun t => if c2 s a t = true then (if f0 x = s ∧ f1 x = a ∧ f2 x = t then h s a t x else 0) else 0) = if f0 x = s ∧ f1 x = a ∧ c2 s a (f2 x) = true then h s a (f2 x) x else 0 := fun s a => by
    have := sm_one (f := fun t => if f0 x = s ∧ f1 x = a ∧ c2 s a t = true then h s a t x else 0) n2 m2
    rw [← this]
    apply sm_congr
    intro t _
    by_cases q1 : t = f2 x
    · subst q1
      rw [if_pos rfl]
      by_cases q2 : c2 s a (f2 x) = true <;> by_cases q3 : f0 x = s <;> by_cases q4 : f1 x = a <;> simp [q2, q3, q4]
    · rw [if_neg q1]
      have : ¬ (f0 x = s ∧ f1 x = a ∧ f2 x = t) := fun z => q1 z.2.2.symm
      rw [if_neg this]
      split <;> rfl
  have e1 : ∀ s, sm P1 (fun a => if c1 s a = true then sm P2 (fun t => if c2 s a t = true then (if f0 x = s ∧ f1 x = a ∧ f2 x = t then h s a t x else 0) else 0) else 0) = if f0 x = s ∧ c1 s (f1 x) = true ∧ c2 s (f1 x) (f2 x) = true then h s (f1 x) (f2 x) x else 0 := fun s => by
    have := sm_one (f := fun a => if f0 x = s ∧ c1 s a = true ∧ c2 s a (f2 x) = true then h s a (f2 x) x else 0) n1 m1
    rw [← this]
    apply sm_congr
    intro a _
    rw [e2]
    by_cases q1 : a = f1 x
    · subst q1
      rw [if_pos rfl]
      by_cases q2 : c1 s (f1 x) = true <;> by_cases q3 : f0 x = s <;> by_cases q4 : c2 s (f1 x) (f2 x) = true <;> simp [q2, q3, q4]
    · rw [if_neg q1]
      have : ¬ (f0 x = s ∧ f1 x = a ∧ c2 s a (f2 x) = true) := fun z => q1 z.2.1.symm
      rw [if_neg this]
      split <;> rfl
  have := sm_one (f := fun s => if c0 s = true ∧ c1 s (f1 x) = true ∧ c2 s (f1 x) (f2 x) = true then h s (f1 x) (f2 x) x else 0) n0 m0
  have e0 : (if (c0 (f0 x) && (c1 (f0 x) (f1 x) && c2 (f0 x) (f1 x) (f2 x))) = true then h (f0 x) (f1 x) (f2 x) x else 0) = if c0 (f0 x) = true ∧ c1 (f0 x) (f1 x) = true ∧ c2 (f0 x) (f1 x) (f2 x) = true then h (f0 x) (f1 x) (f2 x) x else 0 := by
    congr 1
    simp only [Bool.and_eq_true]
  rw [e0, ← this]
  apply sm_congr
  intro s _
  rw [e1]
  by_cases q1 : s = f0 x
  · subst q1
    rw [if_pos rfl]
    by_cases q2 : c0 (f0 x) = true <;> by_cases q3 : c1 (f0 x) (f1 x) = true <;> by_cases q4 : c2 (f0 x) (f1 x) (f2 x) = true <;> simp [q2, q3, q4]
  · rw [if_neg q1]
    have : ¬ (f0 x = s ∧ c1 s (f1 x) = true ∧ c2 s (f1 x) (f2 x) = true) := fun z => q1 z.1.symm
    rw [if_neg this]
    split <;> rfl
theorem if_le {c : Bool} {a b : Nat} (h : a ≤ b) : (if c = true then a else 0) ≤ b := by
  cases c
  · exact Nat.zero_le _
  · exact h
theorem big1_le {P0 P1 P2 : List Int} (n0 : P0.Nodup) (n1 : P1.Nodup) (n2 : P2.Nodup) (x : X) {k : Nat} (hk : ∀ s a t, h s a t x ≤ k) : big1 c0 c1 c2 h f0 f1 f2 P0 P1 P2 x ≤ k := by
  unfold big1
  have e2 : ∀ s a, sm P2 (fun t => if c2 s a t = true then (if f0 x = s ∧ f1 x = a ∧ f2 x = t then h s a t x else 0) else 0) ≤ if f0 x = s ∧ f1 x = a then k else 0 := fun s a => by
    refine Nat.le_trans (sm_le (g := fun t => if t = f2 x then (if f0 x = s ∧ f1 x = a then k else 0) else 0) fun t _ => ?_) (sm_one_le (f := fun _ => if f0 x = s ∧ f1 x = a then k else 0) n2)
    refine if_le ?_
    by_cases q : f0 x = s ∧ f1 x = a ∧ f2 x = t
    · rw [if_pos q, if_pos q.2.2.symm, if_pos ⟨q.1, q.2.1⟩]
      exact hk _ _ _
    · rw [if_neg q]
      exact Nat.zero_le _
  have e1 : ∀ s, sm P1 (fun a => if c1 s a = true then sm P2 (fun t => if c2 s a t = true then (if f0 x = s ∧ f1 x = a ∧ f2 x = t then h s a t x else 0) else 0) else 0) ≤ if f0 x = s then k else 0 := fun s => by
    refine Nat.le_trans (sm_le (g := fun a => if a = f1 x then (if f0 x = s then k else 0) else 0) fun a _ => ?_) (sm_one_le (f := fun _ => if f0 x = s then k else 0) n1)
    refine if_le (Nat.le_trans (e2 s a) ?_)
    by_cases q : f0 x = s ∧ f1 x = a
    · rw [if_pos q, if_pos q.2.symm, if_pos q.1]
      exact Nat.le_refl _
    · rw [if_neg q]
      exact Nat.zero_le _
  refine Nat.le_trans (sm_le (g := fun s => if s = f0 x then k else 0) fun s _ => ?_) (sm_one_le (f := fun _ => k) n0)
  refine if_le (Nat.le_trans (e1 s) ?_)
  by_cases q : f0 x = s
  · rw [if_pos q, if_pos q.symm]
    exact Nat.le_refl _
  · rw [if_neg q]
    exact Nat.zero_le _
end
/-! ### where a voice may go -/
def reachF (L b b' : Int) (pl : List Int) (x lo hi : Int) : List Int := (pl.filter fun p => decide (max lo (x - L) ≤ p) && decide (p ≤ min hi (x + L))).filter fun p => !parS x b p b'
def notBar (one other n1 : Int) (pl : List Int) : List Int := pl.filter fun p => !parS one other n1 p
def barF (one other n1 : Int) : Int := if n1 = one ∨ ¬ ((one - other) % 12 = 0 ∨ (one - other) % 12 = 7) then -1 else (one - other) % 12
/-- barred again, by what is barred -/
theorem par_bar (one other n1 n2 : Int) : parS one other n1 n2 = (!decide (n2 = other) && decide ((n1 - n2) % 12 = barF one other n1)) := by
  unfold parS barF
  have h12 : 0 ≤ (n1 - n2) % 12 := Int.emod_nonneg _ (by decide)
  rw [Bool.eq_iff_iff]
  simp only [Bool.and_eq_true, beq_iff_eq, Bool.or_eq_true, bne_iff_ne, ne_eq, Bool.not_eq_true', decide_eq_false_iff_not, decide_eq_true_eq]
  by_cases h1 : n1 = one
  · rw [if_pos (.inl h1)]
    constructor
    · rintro ⟨_, _, h, _⟩
      exact absurd h1.symm h
    · rintro ⟨_, h⟩
      omega
  · by_cases h2 : (one - other) % 12 = 0 ∨ (one - other) % 12 = 7
    · rw [if_neg (by rintro (h | h); exact h1 h; exact h h2)]
      constructor
      · rintro ⟨a, _, _, c⟩
        exact ⟨fun z => c z.symm, a.symm⟩
      · rintro ⟨a, c⟩
        exact ⟨c.symm, h2, fun z => h1 z.symm, fun z => a z.symm⟩
    · rw [if_pos (.inr h2)]
      constructor
      · rintro ⟨_, h, _⟩
        exact absurd h h2
      · rintro ⟨_, h⟩
        omega
theorem notBar_bar (one other n1 : Int) (pl : List Int) : notBar one other n1 pl = pl.filter fun p => decide (p = other) || !decide ((n1 - p) % 12 = barF one other n1) := by
  unfold notBar
  apply List.filter_congr
  intro p _
  rw [par_bar]
  cases decide (p = other) <;> cases decide ((n1 - p) % 12 = barF one other n1) <;> rfl
theorem notBar_free {one other n1 : Int} (h : barF one other n1 = -1) (pl : List Int) : notBar one other n1 pl = pl := by
  rw [notBar_bar, h]
  apply List.filter_eq_self.mpr
  intro p _
  have h12 : 0 ≤ (n1 - p) % 12 := Int.emod_nonneg _ (by decide)
  rw [decide_eq_false (p := (n1 - p) % 12 = -1) (by omega)]
  simp
section
variable (L0 L1 L2 b b' : Int) (k : Nat) (P0 P1 P2 : List Int) (G : Int → Int → Int → List Nat)
/-- the tenors beside an alto's place | costs over the tenors | over the altos | over the sopranos -/
def tenF (a t a' : Int) : List Int := notBar a t a' (reachF L2 b b' P2 t b a)
def lsT (s a t s' a' : Int) : List Nat := (notBar s t s' (tenF L2 b b' P2 a t a')).flatMap fun t' => (G s' a' t').map (· + k * (t' - t).natAbs)
def lsA (s a t s' : Int) : List Nat := (notBar s a s' (reachF L1 b b' P1 a t s)).flatMap fun a' => (lsT L2 b b' k P2 G s a t s' a').map (· + k * (a' - a).natAbs)
def lsS (s a t : Int) : List Nat := (reachF L0 b b' P0 s a 119).flatMap fun s' => (lsA L1 L2 b b' k P1 P2 G s a t s').map (· + k * (s' - s).natAbs)
def q0 (s a t : Int) (s' : Int) : Bool := (decide (max a (s - L0) ≤ s') && decide (s' ≤ min 119 (s + L0))) && !parS s b s' b'
def q1 (s a t : Int) (s' a' : Int) : Bool := ((decide (max t (a - L1) ≤ a') && decide (a' ≤ min s (a + L1))) && !parS a b a' b') && !parS s a s' a'
def q2 (s a t : Int) (s' a' t' : Int) : Bool := (((decide (max b (t - L2) ≤ t') && decide (t' ≤ min a (t + L2))) && !parS t b t' b') && !parS a t a' t') && !parS s t s' t'
theorem reachF_if (L : Int) (pl : List Int) (x lo hi : Int) (f : Int → Nat) : sm (reachF L b b' pl x lo hi) f = sm pl fun p => if ((decide (max lo (x - L) ≤ p) && decide (p ≤ min hi (x + L))) && !parS x b p b') = true then f p else 0 := by
  unfold reachF
  rw [List.filter_filter, sm_filter]
  apply sm_congr
  intro p _
  rw [Bool.and_comm]
theorem gs_T (g : Nat → Nat) (s a t s' a' : Int) : gs g (lsT L2 b b' k P2 G s a t s' a') = sm P2 fun t' => if q2 L2 b b' s a t s' a' t' = true then gs (fun c => g (c + k * (t' - t).natAbs)) (G s' a' t') else 0 := by
  unfold lsT
  rw [gs_flatMap]
  show sm (notBar s t s' (tenF L2 b b' P2 a t a')) _ = _
  unfold notBar tenF notBar
  rw [List.filter_filter, sm_filter, reachF_if]
  apply sm_congr
  intro t' _
  unfold q2
  rw [gs_map]
  generalize ((decide (max b (t - L2) ≤ t') && decide (t' ≤ min a (t + L2))) && !parS t b t' b') = x1
  generalize (!parS a t a' t') = x2
  generalize (!parS s t s' t') = x3
  cases x1 <;> cases x2 <;> cases x3 <;> rfl
theorem gs_A (g : Nat → Nat) (s a t s' : Int) : gs g (lsA L1 L2 b b' k P1 P2 G s a t s') = sm P1 fun a' => if q1 L1 b b' s a t s' a' = true then gs (fun c => g (c + k * (a' - a).natAbs)) (lsT L2 b b' k P2 G s a t s' a') else 0 := by
  unfold lsA
  rw [gs_flatMap]
  show sm (notBar s a s' (reachF L1 b b' P1 a t s)) _ = _
  unfold notBar
  rw [sm_filter, reachF_if]
  apply sm_congr
  intro a' _
  unfold q1
  rw [gs_map]
  generalize ((decide (max t (a - L1) ≤ a') && decide (a' ≤ min s (a + L1))) && !parS a b a' b') = x1
  generalize (!parS s a s' a') = x2
  cases x1 <;> cases x2 <;> rfl
theorem gs_S (g : Nat → Nat) (s a t : Int) : gs g (lsS L0 L1 L2 b b' k P0 P1 P2 G s a t) = sm P0 fun s' => if q0 L0 b b' s a t s' = true then gs (fun c => g (c + k * (s' - s).natAbs)) (lsA L1 L2 b b' k P1 P2 G s a t s') else 0 := by
  unfold lsS
  rw [gs_flatMap]
  show sm (reachF L0 b b' P0 s a 119) _ = _
  rw [reachF_if]
  apply sm_congr
  intro s' _
  unfold q0
  rw [gs_map]
end
end Bf

namespace Bf
open Cp05
theorem filter_isEmpty {α : Type} (f : α → Bool) : ∀ l : List α, (l.filter f).isEmpty = l.all fun x => !f x
  | [] => rfl
  | x :: l => by
    rw [List.filter_cons, List.all_cons, ← filter_isEmpty f l]
    cases f x <;> rfl
theorem flatMap_isEmpty {α β : Type} (f : α → List β) : ∀ l : List α, (l.flatMap f).isEmpty = l.all fun x => (f x).isEmpty
  | [] => rfl
  | x :: l => by
    rw [List.flatMap_cons, List.all_cons, ← flatMap_isEmpty f l]
    cases f x <;> simp
theorem map_isEmpty {α β : Type} (f : α → β) : ∀ l : List α, (l.map f).isEmpty = l.isEmpty
  | [] => rfl
  | x :: l => rfl
theorem append_isEmpty {α : Type} : ∀ l m : List α, (l ++ m).isEmpty = (l.isEmpty && m.isEmpty)
  | [], m => rfl
  | x :: l, m => rfl
theorem if_isEmpty {α : Type} (c : Bool) (x : α) : (if c = true then [x] else []).isEmpty = !c := by cases c <;> rfl
theorem okS_eq (L0 L1 L2 s a t b s' a' t' b' : Int) : okS [L0, L1, L2] [s, a, t, b] [s', a', t', b'] =
    ((!parS s a s' a' && (!parS s t s' t' && (!parS s b s' b' && (!parS a t a' t' && (!parS a b a' b' && !parS t b t' b'))))) &&
    ((!decide (L0 < ((s' - s).natAbs : Int)) && (!decide (L1 < ((a' - a).natAbs : Int)) && !decide (L2 < ((t' - t).natAbs : Int)))) &&
    ((!decide (s < a') && !decide (s' < a)) && ((!decide (a < t') && !decide (a' < t)) && (!decide (t < b') && !decide (t' < b)))))) := by
  unfold okS wrongsS
  rw [append_isEmpty, append_isEmpty, map_isEmpty, map_isEmpty, filter_isEmpty, filter_isEmpty, flatMap_isEmpty, Bool.and_assoc]
  have r3 : List.range 3 = [0, 1, 2] := rfl
  rw [r3]
  unfold pairs
  simp only [List.all_cons, List.all_nil, append_isEmpty, if_isEmpty, Bool.and_true]
  rfl
/-- the conditions, voice by voice -/
theorem okS_q {L0 L1 L2 s a t b s' a' t' b' : Int} (hb : b' ≤ t) (h119 : s' ≤ 119) : okS [L0, L1, L2] [s, a, t, b] [s', a', t', b'] = (q0 L0 b b' s a t s' && (q1 L1 b b' s a t s' a' && q2 L2 b b' s a t s' a' t')) := by
  rw [okS_eq]
  unfold q0 q1 q2
  have e0 : decide (max a (s - L0) ≤ s') = (decide (a ≤ s') && decide (s - L0 ≤ s')) := by
    rw [Bool.eq_iff_iff]; simp only [Bool.and_eq_true, decide_eq_true_eq]; omega
  have e1 : decide (s' ≤ min 119 (s + L0)) = decide (s' ≤ s + L0) := decide_eq_decide.mpr (by omega)
  have e2 : decide (max t (a - L1) ≤ a') = (decide (t ≤ a') && decide (a - L1 ≤ a')) := by
    rw [Bool.eq_iff_iff]; simp only [Bool.and_eq_true, decide_eq_true_eq]; omega
  have e3 : decide (a' ≤ min s (a + L1)) = (decide (a' ≤ s) && decide (a' ≤ a + L1)) := by
    rw [Bool.eq_iff_iff]; simp only [Bool.and_eq_true, decide_eq_true_eq]; omega
  have e4 : decide (max b (t - L2) ≤ t') = (decide (b ≤ t') && decide (t - L2 ≤ t')) := by
    rw [Bool.eq_iff_iff]; simp only [Bool.and_eq_true, decide_eq_true_eq]; omega
  have e5 : decide (t' ≤ min a (t + L2)) = (decide (t' ≤ a) && decide (t' ≤ t + L2)) := by
    rw [Bool.eq_iff_iff]; simp only [Bool.and_eq_true, decide_eq_true_eq]; omega
  have d : ∀ (L x x' : Int), (!decide (L < ((x' - x).natAbs : Int))) = (decide (x - L ≤ x') && decide (x' ≤ x + L)) := fun L x x' => by
    rw [Bool.eq_iff_iff]; simp only [Bool.and_eq_true, decide_eq_true_eq, Bool.not_eq_true', decide_eq_false_iff_not]; omega
  have n : ∀ (x y : Int), (!decide (x < y)) = decide (y ≤ x) := fun x y => by
    rw [Bool.eq_iff_iff]; simp only [decide_eq_true_eq, Bool.not_eq_true', decide_eq_false_iff_not]; omega
  rw [e0, e1, e2, e3, e4, e5, d, d, d, n, n, n, n, n, n, decide_eq_true hb]
  rw [Bool.eq_iff_iff]
  simp only [Bool.and_eq_true]
  constructor
  · rintro ⟨⟨p1, p2, p3, p4, p5, p6⟩, ⟨⟨l1, l2⟩, ⟨l3, l4⟩, l5, l6⟩, ⟨b1, b2⟩, ⟨b3, b4⟩, b5, b6⟩
    exact ⟨⟨⟨⟨b2, l1⟩, l2⟩, p3⟩, ⟨⟨⟨⟨b4, l3⟩, b1, l4⟩, p5⟩, p1⟩, ⟨⟨⟨⟨b6, l5⟩, b3, l6⟩, p6⟩, p4⟩, p2⟩
  · rintro ⟨⟨⟨⟨b2, l1⟩, l2⟩, p3⟩, ⟨⟨⟨⟨b4, l3⟩, b1, l4⟩, p5⟩, p1⟩, ⟨⟨⟨⟨b6, l5⟩, b3, l6⟩, p6⟩, p4⟩, p2⟩
    exact ⟨⟨p1, p2, p3, p4, p5, p6⟩, ⟨⟨l1, l2⟩, ⟨l3, l4⟩, l5, l6⟩, ⟨b1, b2⟩, ⟨b3, b4⟩, trivial, b6⟩
/-! ### what stands at a place -/
def fV (e : Cp05.Chord) (i : Nat) (x : Setting) : Int := (sndC e x).getD i 0
def groupL (q : Rules) (e : Cp05.Chord) (l : List Cp05.Chord) (s' a' t' : Int) : List Nat := ((settings q e).filter fun x => decide (sndC e x = [s', a', t', e.bass.sound])).flatMap fun x => (aheadL q l (sndC e x)).map (· + own q e x)
theorem snd_at {q : Rules} {e : Cp05.Chord} {x : Setting} (h : x ∈ settings q e) : sndC e x = [fV e 0 x, fV e 1 x, fV e 2 x, e.bass.sound] := by
  obtain ⟨a, b, t, rfl⟩ := three_of h
  rfl
theorem group_gs (q : Rules) (e : Cp05.Chord) (l : List Cp05.Chord) (g : Nat → Nat) (s' a' t' : Int) : gs g (groupL q e l s' a' t') = sm (settings q e) fun x => if fV e 0 x = s' ∧ fV e 1 x = a' ∧ fV e 2 x = t' then gs (fun c => g (c + own q e x)) (aheadL q l (sndC e x)) else 0 := by
  unfold groupL
  rw [gs_flatMap]
  show sm _ _ = _
  rw [sm_filter]
  apply sm_congr
  intro x hx
  have : (decide (sndC e x = [s', a', t', e.bass.sound]) = true) ↔ (fV e 0 x = s' ∧ fV e 1 x = a' ∧ fV e 2 x = t') := by
    rw [decide_eq_true_eq, snd_at hx]
    simp only [List.cons.injEq, and_true]
  rw [gs_map]
  by_cases h : fV e 0 x = s' ∧ fV e 1 x = a' ∧ fV e 2 x = t'
  · rw [if_pos h, if_pos (this.mpr h)]
  · rw [if_neg h, if_neg fun z => h (this.mp z)]
section
variable {q : Rules} {e : Cp05.Chord} {l : List Cp05.Chord} {L0 L1 L2 b : Int} {P0 P1 P2 : List Int} {s a t : Int}
/-- the nested sums are the ways ahead -/
theorem pass_gs (g : Nat → Nat) (hL : q.leap = [L0, L1, L2]) (n0 : P0.Nodup) (n1 : P1.Nodup) (n2 : P2.Nodup) (hp : ∀ x ∈ settings q e, fV e 0 x ∈ P0 ∧ fV e 1 x ∈ P1 ∧ fV e 2 x ∈ P2) (h119 : ∀ x ∈ settings q e, fV e 0 x ≤ 119) (hb : e.bass.sound ≤ t) :
    gs g (lsS L0 L1 L2 b e.bass.sound q.move P0 P1 P2 (groupL q e l) s a t) = gs g (aheadL q (e :: l) [s, a, t, b]) := by
  have e1 : gs g (lsS L0 L1 L2 b e.bass.sound q.move P0 P1 P2 (groupL q e l) s a t) = big (q0 L0 b e.bass.sound s a t) (q1 L1 b e.bass.sound s a t) (q2 L2 b e.bass.sound s a t)
      (fun s' a' t' x => gs (fun c => g (c + own q e x + q.move * (t' - t).natAbs + q.move * (a' - a).natAbs + q.move * (s' - s).natAbs)) (aheadL q l (sndC e x))) (fV e 0) (fV e 1) (fV e 2) P0 P1 P2 (settings q e) := by
    rw [gs_S]
    unfold big
    apply sm_congr
    intro s' _
    congr 1
    rw [gs_A]
    apply sm_congr
    intro a' _
    congr 1
    rw [gs_T]
    apply sm_congr
    intro t' _
    congr 1
    rw [group_gs]
  rw [e1, big_eq]
  show _ = gs g (((settings q e).filter fun t' => okS q.leap [s, a, t, b] (sndC e t')).flatMap fun t' => (aheadL q l (sndC e t')).map (· + (own q e t' + movS q.move [s, a, t, b] (sndC e t'))))
  rw [gs_flatMap]
  show _ = sm _ _
  rw [sm_filter]
  apply sm_congr
  intro x hx
  obtain ⟨m0, m1, m2⟩ := hp x hx
  rw [big1_at _ _ _ _ _ _ _ n0 n1 n2 x m0 m1 m2, hL, snd_at hx, okS_q hb (h119 x hx), gs_map]
  congr 1
  congr 1
  funext c
  congr 1
  unfold movS
  simp only [List.getD_cons_zero, List.getD_cons_succ]
  rw [Nat.mul_add, Nat.mul_add]
  omega
/-- how many there are, at most all -/
theorem group_one (s' a' t' : Int) : gs (fun _ => 1) (groupL q e l s' a' t') = sm (settings q e) fun x => if fV e 0 x = s' ∧ fV e 1 x = a' ∧ fV e 2 x = t' then (aheadL q l (sndC e x)).length else 0 := by
  rw [group_gs]
  apply sm_congr
  intro x _
  rw [gs_one]
theorem allL_sm : (allL q e l).length = sm (settings q e) fun x => (aheadL q l (sndC e x)).length := by
  rw [← gs_one]
  unfold allL
  rw [gs_flatMap]
  apply sm_congr
  intro x _
  rw [gs_one, List.length_map]
theorem lsT_len (n2 : P2.Nodup) (s' a' : Int) : (lsT L2 b e.bass.sound q.move P2 (groupL q e l) s a t s' a').length ≤ (allL q e l).length := by
  rw [← gs_one, gs_T]
  have h := big_eq (fun _ => true) (fun _ _ => true) (fun s'' a'' t'' => q2 L2 b e.bass.sound s a t s'' a'' t'') (fun _ _ _ x => (aheadL q l (sndC e x)).length) (fV e 0) (fV e 1) (fV e 2) [s'] [a'] P2 (settings q e)
  have h2 : big (fun _ => true) (fun _ _ => true) (fun s'' a'' t'' => q2 L2 b e.bass.sound s a t s'' a'' t'') (fun _ _ _ x => (aheadL q l (sndC e x)).length) (fV e 0) (fV e 1) (fV e 2) [s'] [a'] P2 (settings q e) = sm P2 fun t' => if q2 L2 b e.bass.sound s a t s' a' t' = true then gs (fun _ => 1) (groupL q e l s' a' t') else 0 := by
    unfold big
    rw [sm_cons, sm_nil, if_pos rfl, sm_cons, sm_nil, if_pos rfl]
    simp only [group_one, Nat.add_zero]
  rw [← h2, h, allL_sm]
  exact sm_le fun x _ => big1_le _ _ _ _ _ _ _ (by simp) (by simp) n2 x fun _ _ _ => Nat.le_refl _
theorem lsA_len (n1 : P1.Nodup) (n2 : P2.Nodup) (s' : Int) : (lsA L1 L2 b e.bass.sound q.move P1 P2 (groupL q e l) s a t s').length ≤ (allL q e l).length := by
  rw [← gs_one, gs_A]
  have h := big_eq (fun _ => true) (fun s'' a'' => q1 L1 b e.bass.sound s a t s'' a'') (fun s'' a'' t'' => q2 L2 b e.bass.sound s a t s'' a'' t'') (fun _ _ _ x => (aheadL q l (sndC e x)).length) (fV e 0) (fV e 1) (fV e 2) [s'] P1 P2 (settings q e)
  have h2 : big (fun _ => true) (fun s'' a'' => q1 L1 b e.bass.sound s a t s'' a'') (fun s'' a'' t'' => q2 L2 b e.bass.sound s a t s'' a'' t'') (fun _ _ _ x => (aheadL q l (sndC e x)).length) (fV e 0) (fV e 1) (fV e 2) [s'] P1 P2 (settings q e) = sm P1 fun a' => if q1 L1 b e.bass.sound s a t s' a' = true then gs (fun _ => 1) (lsT L2 b e.bass.sound q.move P2 (groupL q e l) s a t s' a') else 0 := by
    unfold big
    rw [sm_cons, sm_nil, if_pos rfl]
    simp only [gs_T, group_one, Nat.add_zero]
  rw [← h2, h, allL_sm]
  exact sm_le fun x _ => big1_le _ _ _ _ _ _ _ (by simp) n1 n2 x fun _ _ _ => Nat.le_refl _
theorem group_len (s' a' t' : Int) : (groupL q e l s' a' t').length ≤ (allL q e l).length := by
  rw [← gs_one, group_one, allL_sm]
  refine sm_le fun x _ => ?_
  split
  · exact Nat.le_refl _
  · exact Nat.zero_le _
/-- nothing, where the bass goes beyond -/
theorem ahead_none (hL : q.leap = [L0, L1, L2]) (hb : t < e.bass.sound) : aheadL q (e :: l) [s, a, t, b] = [] := by
  show (((settings q e).filter fun t' => okS q.leap [s, a, t, b] (sndC e t')).flatMap fun t' => (aheadL q l (sndC e t')).map (· + (own q e t' + movS q.move [s, a, t, b] (sndC e t')))) = []
  have : (settings q e).filter (fun t' => okS q.leap [s, a, t, b] (sndC e t')) = [] := by
    apply List.filter_eq_nil_iff.mpr
    intro x hx
    rw [hL, snd_at hx, okS_eq, decide_eq_true (p := t < e.bass.sound) hb]
    simp
  rw [this]
  rfl
end
end Bf

/-! # Values read as data: what an expression gives, said by PyData -/
namespace L2
open PySem PySem.Spec PyProof.Rows Evl
section
variable {K : PySem.W.Frag} {H H' : Hp}
/-! ### data and heaps -/
/-- tuples (and what is locked) stand as they stood -/
def TSame (H H' : Hp) : Prop := ∀ b xs, Rd H b (.tup xs) → Rd H' b (.tup xs)
theorem TSame.of (e : Ex H H') : TSame H H' := fun _ _ h => ex_rd e h
theorem TSame.refl (H : Hp) : TSame H H := fun _ _ h => h
theorem TSame.trans {H1 H2 H3 : Hp} (a : TSame H1 H2) (b : TSame H2 H3) : TSame H1 H3 := fun c xs h => b c xs (a c xs h)
/-- what is put at an address that holds no tuple leaves the tuples alone -/
theorem TSame.upd {p : Addr} {o : HO} (h : ∀ xs, ¬ Rd H p (.tup xs)) : TSame H (upd H p o) := fun b xs hb => by
  have hne : b ≠ p := fun e => h xs (e ▸ hb)
  unfold Rd at hb ⊢
  rw [upd_ne hne]
  exact hb
theorem no_tup_lst {p : Addr} {ys : List V} (h : H p = some (.lst ys)) : ∀ xs, ¬ Rd H p (.tup xs) := fun xs r => by
  rcases r with r | ⟨o, r⟩ <;> rw [h] at r <;> cases r
theorem no_tup_ins {p C dx : Addr} {fs : List (Str × V)} (h : H p = some (.ins C dx fs)) : ∀ xs, ¬ Rd H p (.tup xs) := fun xs r => by
  rcases r with r | ⟨o, r⟩ <;> rw [h] at r <;> cases r
theorem no_tup_none {p : Addr} (h : H p = none) : ∀ xs, ¬ Rd H p (.tup xs) := fun xs r => by
  rcases r with r | ⟨o, r⟩ <;> rw [h] at r <;> cases r
theorem no_tup_dT {p : Addr} {kvs : List (List Key × V)} (h : H p = some (.dT kvs)) : ∀ xs, ¬ Rd H p (.tup xs) := fun xs r => by
  rcases r with r | ⟨o, r⟩ <;> rw [h] at r <;> cases r
theorem TSame.sq (e : TSame H H') {a : Addr} {xs : List V} (h : SqT K H a xs) : SqT K H' a xs := by
  rcases h with h | h
  · exact .inl (e _ _ h)
  · exact .inr h
mutual
def noList : PyData → Bool
  | .list _ => false
  | .tuple xs => noListAll xs
  | .dict _ => false
  | _ => true
def noListAll : List PyData → Bool
  | [] => true
  | x :: xs => noList x && noListAll xs
end
mutual
theorem Dp.mono (e : Ex H H') : ∀ (d : PyData) {v : V}, Dp K H v d → Dp K H' v d
  | .none, _, h => by cases h; exact .non
  | .bool b, _, h => by cases h; exact .bl b
  | .int i, _, h => by cases h; exact .int i
  | .str x, _, h => by cases h; exact .str x
  | .list ds, _, h => by cases h with | lst hs ha => exact .lst (ex_l e hs) (DpAll.mono e ds ha)
  | .tuple ds, _, h => by cases h with | tup hs ha => exact .tup (ex_t e hs) (DpAll.mono e ds ha)
  | .dict _, _, h => by cases h
theorem DpAll.mono (e : Ex H H') : ∀ (ds : List PyData) {vs : List V}, DpAll K H vs ds → DpAll K H' vs ds
  | [], _, h => by cases h; exact .nil
  | d :: ds, _, h => by cases h with | cons h1 h2 => exact .cons (Dp.mono e d h1) (DpAll.mono e ds h2)
end
mutual
theorem Dp.monoT (e : TSame H H') : ∀ (d : PyData) {v : V}, noList d = true → Dp K H v d → Dp K H' v d
  | .none, _, _, h => by cases h; exact .non
  | .bool b, _, _, h => by cases h; exact .bl b
  | .int i, _, _, h => by cases h; exact .int i
  | .str x, _, _, h => by cases h; exact .str x
  | .list ds, _, n, h => by simp [noList] at n
  | .tuple ds, _, n, h => by
    cases h with | tup hs ha => exact .tup (e.sq hs) (DpAll.monoT e ds (by simpa [noList] using n) ha)
  | .dict _, _, n, h => by cases h
theorem DpAll.monoT (e : TSame H H') : ∀ (ds : List PyData) {vs : List V}, noListAll ds = true → DpAll K H vs ds → DpAll K H' vs ds
  | [], _, _, h => by cases h; exact .nil
  | d :: ds, _, n, h => by
    have n' : noList d = true ∧ noListAll ds = true := by simpa [noListAll] using n
    cases h with | cons h1 h2 => exact .cons (Dp.monoT e d n'.1 h1) (DpAll.monoT e ds n'.2 h2)
end
theorem noListAll_of : ∀ {ds : List PyData}, (∀ d ∈ ds, noList d = true) → noListAll ds = true
  | [], _ => by simp [noListAll]
  | d :: ds, h => by
    have h1 := h d List.mem_cons_self
    have h2 := noListAll_of fun x hx => h x (List.mem_cons_of_mem _ hx)
    simp [noListAll, h1, h2]
theorem noListAll_map {α : Type} {enc : α → PyData} (h : ∀ x, noList (enc x) = true) (l : List α) : noListAll (l.map enc) = true := noListAll_of fun d hd => by
  obtain ⟨x, _, rfl⟩ := List.mem_map.mp hd
  exact h x
theorem DpAll.length : ∀ {vs : List V} {ds : List PyData}, DpAll K H vs ds → vs.length = ds.length
  | _, _, .nil => rfl
  | _, _, .cons _ t => by rw [List.length_cons, List.length_cons, DpAll.length t]
theorem DpAll.get : ∀ {vs : List V} {ds : List PyData} {i : Nat} {d : PyData}, DpAll K H vs ds → ds[i]? = some d → ∃ v, vs[i]? = some v ∧ Dp K H v d
  | _, _, _, _, .nil, e => by simp at e
  | _, _, 0, _, .cons h _, e => by simp at e; subst e; exact ⟨_, rfl, h⟩
  | _, _, i + 1, d, .cons _ t, e => by
    obtain ⟨v, h1, h2⟩ := DpAll.get (i := i) (d := d) t (by simpa using e)
    exact ⟨v, by simpa using h1, h2⟩
theorem DpAll.at : ∀ {vs : List V} {ds : List PyData} {i : Nat} {v : V}, DpAll K H vs ds → vs[i]? = some v → ∃ d, ds[i]? = some d ∧ Dp K H v d
  | _, _, _, _, .nil, e => by simp at e
  | _, _, 0, _, .cons h _, e => by simp at e; subst e; exact ⟨_, rfl, h⟩
  | _, _, i + 1, v, .cons _ t, e => by
    obtain ⟨d, h1, h2⟩ := DpAll.at (i := i) (v := v) t (by simpa using e)
    exact ⟨d, by simpa using h1, h2⟩
theorem DpAll.append : ∀ {vs ws : List V} {ds es : List PyData}, DpAll K H vs ds → DpAll K H ws es → DpAll K H (vs ++ ws) (ds ++ es)
  | _, _, _, _, .nil, s => s
  | _, _, _, _, .cons h t, s => .cons h (DpAll.append t s)
theorem DpAll.one {v : V} {d : PyData} (h : Dp K H v d) : DpAll K H [v] [d] := .cons h .nil
theorem DpAll.take : ∀ {vs : List V} {ds : List PyData} (n : Nat), DpAll K H vs ds → DpAll K H (vs.take n) (ds.take n)
  | _, _, 0, _ => .nil
  | _, _, _ + 1, .nil => .nil
  | _, _, n + 1, .cons h t => .cons h (DpAll.take n t)
theorem DpAll.drop : ∀ {vs : List V} {ds : List PyData} (n : Nat), DpAll K H vs ds → DpAll K H (vs.drop n) (ds.drop n)
  | _, _, 0, h => h
  | _, _, _ + 1, .nil => .nil
  | _, _, n + 1, .cons _ t => DpAll.drop n t
theorem Dp.int_inv {v : V} {i : Int} (h : Dp K H v (.int i)) : v = .int i := by cases h; rfl
theorem Dp.bool_inv {v : V} {b : Bool} (h : Dp K H v (.bool b)) : v = .bl b := by cases h; rfl
theorem Dp.tup_inv {v : V} {ds : List PyData} (h : Dp K H v (.tuple ds)) : ∃ a xs, v = .ref a ∧ SqT K H a xs ∧ DpAll K H xs ds := by
  cases h with | tup hs ha => exact ⟨_, _, rfl, hs, ha⟩
theorem Dp.lst_inv {v : V} {ds : List PyData} (h : Dp K H v (.list ds)) : ∃ a xs, v = .ref a ∧ SqL K H a xs ∧ DpAll K H xs ds := by
  cases h with | lst hs ha => exact ⟨_, _, rfl, hs, ha⟩
/-- a list of ints -/
theorem DpAll.ints : ∀ {xs : List V} {ns : List Int}, DpAll K H xs (ns.map .int) → xs = ns.map V.int
  | _, [], h => by
    have h' : DpAll K H _ [] := h
    cases h'
    rfl
  | _, n :: ns, h => by
    have h' : DpAll K H _ (PyData.int n :: ns.map .int) := h
    cases h' with
    | cons h1 h2 =>
      rw [h1.int_inv, DpAll.ints h2]
      rfl
theorem DpAll.ofInts (K : PySem.W.Frag) (H : Hp) : ∀ (ns : List Int), DpAll K H (ns.map V.int) (ns.map .int)
  | [] => .nil
  | n :: ns => .cons (.int n) (DpAll.ofInts K H ns)
theorem DpAll.bools : ∀ {xs : List V} {bs : List Bool}, DpAll K H xs (bs.map .bool) → xs = bs.map V.bl
  | _, [], h => by
    have h' : DpAll K H _ [] := h
    cases h'
    rfl
  | _, n :: ns, h => by
    have h' : DpAll K H _ (PyData.bool n :: ns.map .bool) := h
    cases h' with
    | cons h1 h2 =>
      rw [h1.bool_inv, DpAll.bools h2]
      rfl
end
end L2
namespace Bf
open PySem PySem.Spec PyProof.Rows L2 Evl
/-! ### what an expression gives -/
/-- te gives a value that reads as d; what was tracked stands -/
def Dv (K : PySem.W.Frag) (te : TE) (σ : L2.St) (H : Hp) (d : PyData) : Prop := ∀ H1, Ex H H1 → ∀ Q : VK, (∀ v H2, Ex H1 H2 → Dp K H2 v d → Q v H2) → te σ H1 Q
/-- te gives a NEW list whose items read as ds -/
def DvL (K : PySem.W.Frag) (te : TE) (σ : L2.St) (H : Hp) (ds : List PyData) : Prop := ∀ H1, Ex H H1 → ∀ Q : VK, (∀ p xs H2, H1 p = none → Ex H1 H2 → H2 p = some (.lst xs) → DpAll K H2 xs ds → Q (.ref p) H2) → te σ H1 Q
def DvA (K : PySem.W.Frag) (ta : TA) (σ : L2.St) (H : Hp) (ds : List PyData) : Prop := ∀ H1, Ex H H1 → ∀ Q : List V → Hp → Prop, (∀ vs H2, Ex H1 H2 → DpAll K H2 vs ds → Q vs H2) → ta σ H1 Q
section
variable {K : PySem.W.Frag} {H H' : Hp} {σ : L2.St} {te ta tb tc : TE} {t u : TT} {d d' : PyData} {ds es : List PyData} {v : V}
theorem Dv.mono (e : Ex H H') (h : Dv K te σ H d) : Dv K te σ H' d := fun H1 a Q q => h H1 (e.trans a) Q q
theorem DvL.mono (e : Ex H H') (h : DvL K te σ H ds) : DvL K te σ H' ds := fun H1 a Q q => h H1 (e.trans a) Q q
theorem DvL.dv (h : DvL K te σ H ds) : Dv K te σ H (.list ds) := fun H1 e Q q => h H1 e Q fun p xs H2 hp e2 h2 hd => q _ H2 e2 (.lst (sq_of h2) hd)
theorem dv_ev (h : Ev te σ H v) (hd : Dp K H v d) : Dv K te σ H d := fun H1 e Q q => h H1 e Q fun H2 e2 => q v H2 e2 (Dp.mono (e.trans e2) d hd)
theorem ev_int {i : Int} (h : Dv K te σ H (.int i)) : Ev te σ H (.int i) := fun H1 e Q q => h H1 e Q fun v H2 e2 hd => by
  rw [hd.int_inv]
  exact q H2 e2
theorem ev_bl {b : Bool} (h : Dv K te σ H (.bool b)) : Ev te σ H (.bl b) := fun H1 e Q q => h H1 e Q fun v H2 e2 hd => by
  rw [hd.bool_inv]
  exact q H2 e2
theorem dv_i {i : Int} (h : Ev te σ H (.int i)) : Dv K te σ H (.int i) := dv_ev h (.int i)
theorem dv_b {b : Bool} (h : Ev te σ H (.bl b)) : Dv K te σ H (.bool b) := dv_ev h (.bl b)
theorem dv_is (h : Dv K te σ H d) (e : d = d') : Dv K te σ H d' := e ▸ h
theorem dvl_is (h : DvL K te σ H ds) (e : ds = es) : DvL K te σ H es := e ▸ h
theorem dv_var {i : Nat} (h : σ[i]? = some (some v)) (hd : Dp K H v d) : Dv K (tVar i) σ H d := dv_ev (ev_var h) hd
theorem dv_vi {i : Nat} {n : Int} (h : σ[i]? = some (some (.int n))) : Dv K (tVar i) σ H (.int n) := dv_ev (ev_var h) (.int n)
theorem dv_int {i : Int} : Dv K (tC (.int i)) σ H (.int i) := dv_ev ev_c (.int i)
theorem dv_bl {b : Bool} : Dv K (tC (.bl b)) σ H (.bool b) := dv_ev ev_c (.bl b)
theorem dv_c (h : Dp K H v d) : Dv K (tC v) σ H d := dv_ev ev_c h
/-- an operator of two ints -/
theorem dv_I {g : Int → Int → Int} {i j : Int} (ha : Dv K ta σ H (.int i)) (hb : Dv K tb σ H (.int j)) : Dv K (tOp (rI0 fun i j => .int (g i j)) ta tb) σ H (.int (g i j)) := dv_i (ev_op (ev_int ha) (ev_int hb) rv_I0)
theorem dv_IC {C : Int → Int → Prop} {g : Int → Int → Int} {i j : Int} (ha : Dv K ta σ H (.int i)) (hb : Dv K tb σ H (.int j)) (hc : C i j) : Dv K (tOp (rI C fun i j => .int (g i j)) ta tb) σ H (.int (g i j)) := dv_i (ev_op (ev_int ha) (ev_int hb) (rv_I hc))
theorem dv_B {g : Int → Int → Bool} {i j : Int} (ha : Dv K ta σ H (.int i)) (hb : Dv K tb σ H (.int j)) : Dv K (tOp (rI0 fun i j => .bl (g i j)) ta tb) σ H (.bool (g i j)) := dv_b (ev_op (ev_int ha) (ev_int hb) rv_I0)
theorem dv_neg {i : Int} (ha : Dv K ta σ H (.int i)) : Dv K (tUn (rU fun i => .int (-i)) ta) σ H (.int (-i)) := dv_i (ev_un (ev_int ha) ru_neg)
theorem dv_eqI {i j : Int} (ha : Dv K ta σ H (.int i)) (hb : Dv K tb σ H (.int j)) : Dv K (tOp rEq ta tb) σ H (.bool (decide (i = j))) := dv_b (ev_is (ev_op (ev_int ha) (ev_int hb) (rv_eq rfl)) (by
  congr 1
  by_cases e : i = j
  · subst e; simp
  · rw [decide_eq_false e, decide_eq_false fun q => e (V.int.inj q)]))
theorem dv_neI {i j : Int} (ha : Dv K ta σ H (.int i)) (hb : Dv K tb σ H (.int j)) : Dv K (tOp rNe ta tb) σ H (.bool (!decide (i = j))) := dv_b (ev_is (ev_op (ev_int ha) (ev_int hb) (rv_ne rfl)) (by
  congr 2
  by_cases e : i = j
  · subst e; simp
  · rw [decide_eq_false e, decide_eq_false fun q => e (V.int.inj q)]))
theorem dv_and {a b : Bool} (h1 : Dv K ta σ H (.bool a)) (h2 : a = true → Dv K tb σ H (.bool b)) : Dv K (tAndV ta tb) σ H (.bool (a && b)) := dv_b (ev_andV (ev_bl h1) fun e => ev_bl (h2 e))
theorem dv_or {a b : Bool} (h1 : Dv K ta σ H (.bool a)) (h2 : a = false → Dv K tb σ H (.bool b)) : Dv K (tOrV ta tb) σ H (.bool (a || b)) := dv_b (ev_orV (ev_bl h1) fun e => ev_bl (h2 e))
theorem dv_not {a : Bool} (h1 : Dv K ta σ H (.bool a)) : Dv K (tNotV ta) σ H (.bool (!a)) := dv_b (ev_notV (ev_bl h1))
/-- tests -/
theorem dt_test {b : Bool} (h : Dv K te σ H (.bool b)) : EvT (tTest te) σ H b := et_test (ev_bl h)
theorem dt_B {b : Bool} (h : Dv K te σ H (.bool b)) : EvT (tB te) σ H b := et_B (ev_bl h)
theorem dv_if {b : Bool} (h : EvT t σ H b) (h1 : b = true → Dv K ta σ H d) (h2 : b = false → Dv K tb σ H d) : Dv K (tIf t ta tb) σ H d := fun H1 e Q q => h H1 e _ fun H2 e2 => by
  cases b with
  | true => exact h1 rfl H2 (e.trans e2) _ fun v H3 e3 hd => q v H3 (e2.trans e3) hd
  | false => exact h2 rfl H2 (e.trans e2) _ fun v H3 e3 hd => q v H3 (e2.trans e3) hd
/-- a < b < c -/
theorem dv_chain {g g' : Int → Int → Bool} {i j k : Int} (ha : Dv K ta σ H (.int i)) (hb : Dv K tb σ H (.int j)) (hc : Dv K tc σ H (.int k)) :
    Dv K (tChain (rI0 fun i j => .bl (g i j)) (rI0 fun i j => .bl (g' i j)) ta tb tc) σ H (.bool (g i j && g' j k)) := dv_b fun H1 e Q q =>
  ev_int ha H1 e _ fun H2 e2 => ev_int hb H2 (e.trans e2) _ fun H3 e3 => ⟨i, j, rfl, rfl, g i j, rfl, by
    generalize g i j = z at q ⊢
    cases z with
    | true => exact iteT (ev_int hc H3 ((e.trans e2).trans e3) _ fun H4 e4 => ⟨j, k, rfl, rfl, q H4 ((e2.trans e3).trans e4)⟩)
    | false => exact iteF (q H3 (e2.trans e3))⟩
/-- a < b < c < d -/
def tChain3 (r r' r'' : R2) (ta tb tc td : TE) : TE := fun σ H Q => ta σ H fun x H1 => tb σ H1 fun y H2 => r x y H2 fun z H3 => ∃ k, z = .bl k ∧
  (if k = true then tc σ H3 fun w H4 => r' y w H4 fun z' H5 => ∃ k', z' = .bl k' ∧ (if k' = true then td σ H5 fun w' H6 => r'' w w' H6 Q else Q (.bl false) H5) else Q (.bl false) H3)
theorem pe_chain3 {X : Cx} {op op' op'' : CmpOp} {a b c e : Expr} {pos : Pos} {td : TE} {r r' r'' : R2} (ho : OpR X (compareOp op) r) (ho' : OpR X (compareOp op') r') (ho'' : OpR X (compareOp op'') r'') (ha : PE X a ta) (hb : PE X b tb) (hc : PE X c tc) (he : PE X e td)
    (hm : lastMarks [op, op', op''] [b, c, e] = false := by with_unfolding_all rfl) : PE X (.Compare a [op, op', op''] [b, c, e] pos) (tChain3 r r' r'' ta tb tc td) := by
  refine ⟨fun pins s σ H Q I h => ?_⟩
  refine Compare_chain (thn (ha.run pins s σ H _ I h) fun v s1 ⟨x, H1, I1, r1, q1⟩ => chain_link (thn (hb.run pins s1 σ H1 _ I1 q1) fun u s2 ⟨y, H2, I2, r2, q2⟩ =>
    thn (ho pins s2 σ H2 x y v u _ I2 r1 r2 q2) fun d s3 ⟨z, H3, I3, r3, k, e, q3⟩ => ?_)) hm
  subst e
  cases r3
  refine wpAny_truthy_bool ?_
  cases k with
  | false => exact ite_ff ⟨.bl false, H3, I3, rfl, q3⟩
  | true =>
    refine ite_tt (chain_link (thn (hc.run pins s3 σ H3 _ I3 q3) fun u' s4 ⟨y', H4, I4, r4, q4⟩ => thn (ho' pins s4 σ H4 y y' u u' _ I4 r2 r4 q4) fun d' s5 ⟨z', H5, I5, r5, k', e', q5⟩ => ?_))
    subst e'
    cases r5
    refine wpAny_truthy_bool ?_
    cases k' with
    | false => exact ite_ff ⟨.bl false, H5, I5, rfl, q5⟩
    | true => exact ite_tt (chain_last (thn (he.run pins s5 σ H5 _ I5 q5) fun w' s6 ⟨z', H6, I6, r6, q6⟩ => ho'' pins s6 σ H6 y' z' u' w' Q I6 r4 r6 q6))
theorem dv_chain3 {td : TE} {g g' g'' : Int → Int → Bool} {i j k l : Int} (ha : Dv K ta σ H (.int i)) (hb : Dv K tb σ H (.int j)) (hc : Dv K tc σ H (.int k)) (hd : Dv K td σ H (.int l)) :
    Dv K (tChain3 (rI0 fun i j => .bl (g i j)) (rI0 fun i j => .bl (g' i j)) (rI0 fun i j => .bl (g'' i j)) ta tb tc td) σ H (.bool (g i j && (g' j k && g'' k l))) := dv_b fun H1 e Q q =>
  ev_int ha H1 e _ fun H2 e2 => ev_int hb H2 (e.trans e2) _ fun H3 e3 => ⟨i, j, rfl, rfl, g i j, rfl, by
    generalize g i j = z at q ⊢
    cases z with
    | true =>
      refine iteT (ev_int hc H3 ((e.trans e2).trans e3) _ fun H4 e4 => ⟨j, k, rfl, rfl, g' j k, rfl, ?_⟩)
      generalize g' j k = z at q ⊢
      cases z with
      | true => exact iteT (ev_int hd H4 (((e.trans e2).trans e3).trans e4) _ fun H5 e5 => ⟨k, l, rfl, rfl, q H5 (((e2.trans e3).trans e4).trans e5)⟩)
      | false => exact iteF (q H4 ((e2.trans e3).trans e4))
    | false => exact iteF (q H3 (e2.trans e3))⟩
/-! ### arguments, displays, items -/
theorem da_nil : DvA K tNil σ H [] := fun H1 _ _ q => q [] H1 (Ex.refl H1) .nil
theorem da_cons {tr : TA} (h : Dv K ta σ H d) (hr : DvA K tr σ H ds) : DvA K (tCons ta tr) σ H (d :: ds) := fun H1 e _ q =>
  h H1 e _ fun v H2 e2 hd => hr H2 (e.trans e2) _ fun vs H3 e3 hds => q (v :: vs) H3 (e2.trans e3) (.cons (Dp.mono e3 d hd) hds)
theorem dv_tup {tr : TA} (h : DvA K tr σ H ds) (hl : ds.length ≤ 100000) : Dv K (tTup tr) σ H (.tuple ds) := fun H1 e _ q =>
  h H1 e _ fun vs H2 e2 hds => ⟨by rw [hds.length]; exact sz_of hl, fun p hp => q _ _ (e2.trans (Ex.new hp)) (.tup (st_of upd_same) (DpAll.mono (Ex.new hp) ds hds))⟩
theorem dvl_lst {tr : TA} (h : DvA K tr σ H ds) (hl : ds.length ≤ 100000) : DvL K (tLst tr) σ H ds := fun H1 e _ q =>
  h H1 e _ fun vs H2 e2 hds => ⟨by rw [hds.length]; exact sz_of hl, fun p hp => q p vs _ (fresh_back e2 hp) (e2.trans (Ex.new hp)) upd_same (DpAll.mono (Ex.new hp) ds hds)⟩
theorem dv_ixT {j : Nat} {i : Int} (ha : Dv K ta σ H (.tuple ds)) (hb : Dv K tb σ H (.int i)) (e : i = (j : Int)) (hj : ds[j]? = some d) : Dv K (tOp (rIxT K) ta tb) σ H d := fun H1 e1 _ q =>
  ha H1 e1 _ fun x H2 e2 hx => ev_int hb H2 (e1.trans e2) _ fun H3 e3 => by
    obtain ⟨a, xs, rfl, hs, hd⟩ := hx.tup_inv
    obtain ⟨v, hv, hvd⟩ := hd.get hj
    exact ⟨a, xs, i, v, rfl, rfl, ex_t e3 hs, at_of e hv, q v H3 (e2.trans e3) (Dp.mono e3 d hvd)⟩
theorem dv_ixL {j : Nat} {i : Int} (ha : Dv K ta σ H (.list ds)) (hb : Dv K tb σ H (.int i)) (e : i = (j : Int)) (hj : ds[j]? = some d) : Dv K (tOp (rIxL K) ta tb) σ H d := fun H1 e1 _ q =>
  ha H1 e1 _ fun x H2 e2 hx => ev_int hb H2 (e1.trans e2) _ fun H3 e3 => by
    obtain ⟨a, xs, rfl, hs, hd⟩ := hx.lst_inv
    obtain ⟨v, hv, hvd⟩ := hd.get hj
    exact ⟨a, xs, i, v, rfl, rfl, ex_l e3 hs, at_of e hv, q v H3 (e2.trans e3) (Dp.mono e3 d hvd)⟩
theorem dv_len (ha : Dv K ta σ H (.list ds)) : Dv K (tCB (rLenS K) (tCons ta tNil)) σ H (.int (ds.length : Int)) := dv_i fun H1 e1 _ q =>
  ha H1 e1 _ fun x H2 e2 hx => by
    obtain ⟨a, xs, rfl, hs, hd⟩ := hx.lst_inv
    refine ⟨a, xs, rfl, .inl hs, ?_⟩
    rw [hd.length]
    exact q H2 e2
theorem dv_lenT (ha : Dv K ta σ H (.tuple ds)) : Dv K (tCB (rLenS K) (tCons ta tNil)) σ H (.int (ds.length : Int)) := dv_i fun H1 e1 _ q =>
  ha H1 e1 _ fun x H2 e2 hx => by
    obtain ⟨a, xs, rfl, hs, hd⟩ := hx.tup_inv
    refine ⟨a, xs, rfl, .inr hs, ?_⟩
    rw [hd.length]
    exact q H2 e2
/-! ### a def's promise by data: R says which arguments, which answer -/
def SpD (K : PySem.W.Frag) (R : List PyData → PyData → Prop) : Sp := fun vs H Q _ => ∃ ds d, DpAll K H vs ds ∧ R ds d ∧ ∀ v H', Ex H H' → Dp K H' v d → Q v H'
/-- .. a new list -/
def SpDL (K : PySem.W.Frag) (R : List PyData → List PyData → Prop) : Sp := fun vs H Q _ => ∃ ds es, DpAll K H vs ds ∧ R ds es ∧ ∀ p xs H', H p = none → Ex H H' → H' p = some (.lst xs) → DpAll K H' xs es → Q (.ref p) H'
theorem dv_call {R : List PyData → PyData → Prop} {E : XK} {tr : TA} (h : DvA K tr σ H ds) (hR : R ds d) : Dv K (tCall (SpD K R) [] E tr) σ H d := fun H1 e _ q =>
  h H1 e _ fun vs H2 e2 hds => ⟨ds, d, by rw [List.append_nil]; exact hds, hR, fun v H3 e3 hd => q v H3 (e2.trans e3) hd⟩
theorem dvl_call {R : List PyData → List PyData → Prop} {E : XK} {tr : TA} (h : DvA K tr σ H ds) (hR : R ds es) : DvL K (tCall (SpDL K R) [] E tr) σ H es := fun H1 e _ q =>
  h H1 e _ fun vs H2 e2 hds => ⟨ds, es, by rw [List.append_nil]; exact hds, hR, fun p xs H3 hp e3 h3 hd => q p xs H3 (fresh_back e2 hp) (e2.trans e3) h3 hd⟩
end
/-! ### statements -/
section
variable {K : PySem.W.Frag} {H : Hp} {σ : L2.St} {te : TE} {t : TT} {d : PyData} {ds : List PyData} {D : Ends} {tu tw tz : TS}
theorem s_asgD {i : Nat} (h : Dv K te σ H d) (k : ∀ v H1, Ex H H1 → Dp K H1 v d → D.nx (σ.set i (some v)) H1) : tAsg te (gName i) D σ H := h H (Ex.refl H) _ k
theorem s_asgDL {i : Nat} (h : DvL K te σ H ds) (k : ∀ p xs H1, H p = none → Ex H H1 → H1 p = some (.lst xs) → DpAll K H1 xs ds → D.nx (σ.set i (some (.ref p))) H1) : tAsg te (gName i) D σ H := h H (Ex.refl H) _ k
theorem s_retD (h : Dv K te σ H d) (k : ∀ v H1, Ex H H1 → Dp K H1 v d → D.rt v H1) : tRet te D σ H := h H (Ex.refl H) _ k
theorem s_retDL (h : DvL K te σ H ds) (k : ∀ p xs H1, H p = none → Ex H H1 → H1 p = some (.lst xs) → DpAll K H1 xs ds → D.rt (.ref p) H1) : tRet te D σ H := h H (Ex.refl H) _ k
theorem q_asgD {i : Nat} (h : Dv K te σ H d) (k : ∀ v H1, Ex H H1 → Dp K H1 v d → tz D (σ.set i (some v)) H1) : tSeq (tAsg te (gName i)) tz D σ H := s_asgD (D := { D with nx := tz D }) h k
theorem q_asgDL {i : Nat} (h : DvL K te σ H ds) (k : ∀ p xs H1, H p = none → Ex H H1 → H1 p = some (.lst xs) → DpAll K H1 xs ds → tz D (σ.set i (some (.ref p))) H1) : tSeq (tAsg te (gName i)) tz D σ H := s_asgDL (D := { D with nx := tz D }) h k
/-- p.append(e), e no list -/
theorem s_appD {K' : PySem.W.Frag} {ta : TE} {l : Addr} {xs : List V} (hl : H l = some (.lst xs)) (ha : Ev ta σ H (.ref l)) (h : Dv K te σ H d) (hz : xs.length < 100000) (k : ∀ v H1, Ex H H1 → Dp K H1 v d → D.nx σ (upd H1 l (.lst (xs ++ [v])))) :
    tDrop (tBM K' "list" rAppend ta (tCons te tNil)) D σ H := ha H (Ex.refl H) _ fun H1 e1 =>
  ⟨Or.inl ⟨rfl, xs, sq_of (e1 l _ hl)⟩, h H1 e1 _ fun v H2 e2 hv => ⟨l, xs, v, rfl, rfl, e2 l _ (e1 l _ hl), sz_lt hz, k v H2 (e1.trans e2) hv⟩⟩
theorem q_appD {K' : PySem.W.Frag} {ta : TE} {l : Addr} {xs : List V} (hl : H l = some (.lst xs)) (ha : Ev ta σ H (.ref l)) (h : Dv K te σ H d) (hz : xs.length < 100000) (k : ∀ v H1, Ex H H1 → Dp K H1 v d → tz D σ (upd H1 l (.lst (xs ++ [v])))) :
    tSeq (tDrop (tBM K' "list" rAppend ta (tCons te tNil))) tz D σ H := s_appD (D := { D with nx := tz D }) hl ha h hz k
/-- a list under construction: grown by one, its items still read as they did -/
theorem _root_.L2.DpAll.grow {H1 : Hp} {l : Addr} {xs : List V} {v : V} (hl : H1 l = some (.lst xs)) (nl : noListAll ds = true) (nd : noList d = true) (h : DpAll K H1 xs ds) (hv : Dp K H1 v d) : DpAll K (upd H1 l (.lst (xs ++ [v]))) (xs ++ [v]) (ds ++ [d]) :=
  have e : TSame H1 (upd H1 l (.lst (xs ++ [v]))) := TSame.upd (no_tup_lst hl)
  (DpAll.monoT e ds nl h).append (.one (Dp.monoT e d nd hv))
end
end Bf

namespace Bf
open PySem PySem.Spec PyProof.Rows L2 Evl
/-! ### sorted(xs), xs a list that reads as data -/
section
variable {X : Cx} {β : Type}
def rSortedD (K : PySem.W.Frag) (enc : β → PyData) : List V → Hp → VK → Prop := fun vs H Q => ∃ (bs : List β) (v : V), vs = [v] ∧ Dp K H v (.list (bs.map enc)) ∧ PySem.W.AllAlike (bs.map enc) ∧ PySem.W.Sortable (bs.map enc) ∧ (∀ b ∈ bs, (enc b).depth ≤ 8) ∧
  ∀ p xs, H p = none → DpAll K H xs ((bs.mergeSort (PySem.W.dataLe false enc)).map enc) → Q (.ref p) (upd H p (.lst xs))
theorem each_of {K : PySem.W.Frag} {H : Hp} (enc : β → PyData) : ∀ {xs : List V} {its : List Value} {bs : List β}, Vals xs its → DpAll K H xs (bs.map enc) → PySem.W.EachIs (fun u b => ∃ v, RelV v u ∧ Dp K H v (enc b)) its bs
  | _, _, [], .nil, _ => .nil
  | _, _, b :: bs, .nil, h => by
    have h' : DpAll K H [] (enc b :: bs.map enc) := h
    cases h'
  | _, _, [], .cons r t, h => by
    have h' : DpAll K H _ [] := h
    cases h'
  | _, _, b :: bs, .cons r t, h => by
    have h' : DpAll K H _ (enc b :: bs.map enc) := h
    cases h' with
    | cons h1 h2 => exact .cons ⟨_, r, h1⟩ (each_of enc t h2)
theorem of_each {K : PySem.W.Frag} {H : Hp} (enc : β → PyData) : ∀ {its : List Value} {bs : List β}, PySem.W.EachIs (fun u b => ∃ v, RelV v u ∧ Dp K H v (enc b)) its bs → ∃ xs, Vals xs its ∧ DpAll K H xs (bs.map enc)
  | _, _, .nil => ⟨[], .nil, .nil⟩
  | _, _, .cons ⟨v, r, h⟩ t => by
    obtain ⟨xs, h1, h2⟩ := of_each enc t
    exact ⟨v :: xs, .cons r h1, .cons h h2⟩
theorem cr_sortedD {enc : β → PyData} (hu : X.A.units + 64 < cLine) : CallR X (.builtin "sorted") (rSortedD X.K enc) := by
  intro pins s σ H vs us Q I r h
  obtain ⟨bs, v, rfl, hd, hal, hk, hdep, q⟩ := h
  obtain ⟨a, xs, rfl, hs, ha⟩ := hd.lst_inv
  obtain ⟨its, rv, hl, hz⟩ := I.list hs
  rw [Vals.ref1 r]
  have hlen : its.length = bs.length := by
    have h1 := rv.length
    have h2 := ha.length
    rw [List.length_map] at h2
    omega
  obtain ⟨as, hr⟩ := Dp.readsAll I _ _ its ha rv
  refine PySem.W.sorted_data (vs := its) (bs := bs) (enc := enc) hl.isList (each_of enc rv ha) (PySem.W.readsAll_each enc hr) hal hk (by rw [← hlen, ← rv.length]; exact hz) (fun b hb => ?_) fun out ho he => ?_
  · have := hdep b hb
    omega
  · obtain ⟨ys, hy, hyd⟩ := of_each enc he
    obtain ⟨ep, he'⟩ := PyProof.Rows.sortedAll_at s.heap its out.toArray
    have hlen' : ys.length ≤ sizeLine := by
      rw [hy.length, ho, ← hlen, ← rv.length]
      exact hz
    refine ⟨.ref _, upd H (s.heap.objs.size + 1) (.lst ys), I.laid (t' := s.toks) (fun _ _ => PyProof.Rows.sortedAll_old) (Nat.le_succ _) ⟨hlen', out, ep, hy, he'⟩, rfl, q _ ys (I.hok.fresh (Nat.le_succ _)) hyd⟩
theorem dvl_sorted {K : PySem.W.Frag} {H : Hp} {σ : L2.St} {ta : TE} {enc : β → PyData} {bs : List β} (h : Dv K ta σ H (.list (bs.map enc))) (hal : PySem.W.AllAlike (bs.map enc)) (hk : PySem.W.Sortable (bs.map enc)) (hd : ∀ b ∈ bs, (enc b).depth ≤ 8) :
    DvL K (tCB (rSortedD K enc) (tCons ta tNil)) σ H ((bs.mergeSort (PySem.W.dataLe false enc)).map enc) := fun H1 e _ q =>
  h H1 e _ fun v H2 e2 hv => ⟨bs, v, rfl, hv, hal, hk, hd, fun p xs hp hx => q p xs _ (fresh_back e2 hp) (e2.trans (Ex.new hp)) upd_same (DpAll.mono (Ex.new hp) _ hx)⟩
end
/-! ### len(set(xs)), xs a list of tuples of ints -/
def tupI (ns : List Int) : PyData := .tuple (ns.map .int)
theorem tups_of {K : PySem.W.Frag} {H : Hp} : ∀ {xs : List V} {nss : List (List Int)}, DpAll K H xs (nss.map tupI) → ∃ ks : List (Addr × List Int), xs = ks.map (fun p => V.ref p.1) ∧ nss = ks.map (·.2) ∧ ∀ p ∈ ks, SqT K H p.1 (p.2.map V.int)
  | _, [], h => by
    have h' : DpAll K H _ [] := h
    cases h'
    exact ⟨[], rfl, rfl, fun _ h => by cases h⟩
  | _, ns :: nss, h => by
    have h' : DpAll K H _ (tupI ns :: nss.map tupI) := h
    cases h' with
    | cons h1 h2 =>
      obtain ⟨a, ys, rfl, hs, hd⟩ := h1.tup_inv
      obtain ⟨ks, rfl, rfl, hk⟩ := tups_of h2
      have e := hd.ints
      subst e
      exact ⟨(a, ns) :: ks, rfl, rfl, fun p hp => by
        rcases List.mem_cons.mp hp with rfl | hp
        · exact hs
        · exact hk p hp⟩
def tLenSetT (K : PySem.W.Frag) (ta : TE) : TE := fun σ H Q => ta σ H fun x H1 => ∃ nss : List (List Int), Dp K H1 x (.list (nss.map tupI)) ∧ nss.length < 64 ∧ ∀ L : List (List Int), L.Nodup → (∀ m, m ∈ L ↔ m ∈ nss) → Q (.int (L.length : Int)) H1
theorem pe_lenSetT {X : Cx} {a : Expr} {ta : TE} {p p2 q pos : Pos} (hc : X.calm = true) (hu : X.A.units + 64 < cLine) (hg : Gl X "len") (hm : X.mg "len" = none) (hg2 : Gl X "set") (hm2 : X.mg "set" = none) (ha : PE X a ta)
    (na : starEach [a] X.env = (false, eval a X.env) :: starEach [] X.env := by rfl) : PE X (.Call (.Name "len" p) [.Call (.Name "set" p2) [a] [] q] [] pos) (tLenSetT X.K ta) := by
  refine ⟨fun pins s σ H Q I h => ?_⟩
  refine Call_ (ld_blt I hg hm PySem.boot_len ?_)
  refine PyProof.Rows.callWith_builtin1 (PyProof.Rows.args_cons ?_ rfl) rfl rfl
  refine Call_ (ld_blt I hg2 hm2 PyProof.Rows.boot_set ?_)
  refine PyProof.Rows.callWith_type1 (PyProof.Rows.args_cons (thn (ha.run pins s σ H _ I h) fun v s1 ⟨x, H1, I1, r1, q1⟩ => PyProof.Rows.args_nil ?_) na) na rfl
  obtain ⟨nss, hd, h1, q1⟩ := q1
  obtain ⟨l, xs, rfl, hs, hx⟩ := hd.lst_inv
  obtain ⟨ks, rfl, rfl, hk⟩ := tups_of hx
  cases r1
  obtain ⟨its, r, pl, hz⟩ := I1.list hs
  refine call_set_tups (P := X.prog) (w := X.w) ks (I1.ok.hd hc) pl.isList (by simpa using refs_of_vals r) (fun p hp => I1.isT (hk p hp)) (by rw [List.length_map] at h1; exact h1) (by omega) fun h' tk L es ep t R g k => ?_
  refine PyProof.Rows.args_nil ?_
  have I2 : Inv X pins σ H1 { s1 with heap := h', toks := tk } := I1.kept k
  obtain ⟨o, ho, hex, hdt⟩ := R.ob
  have hfew := R.few
  have hsz : es.size = L.length := by
    have h := congrArg List.length R.rows
    unfold rowsOf at h
    rw [Array.length_toList, List.length_map] at h
    exact h
  have hfit : t.fits es.size = true := SetTR.fits (s := { s1 with heap := h', toks := tk }) R
  refine call_len_set ho hex hdt hfit (by rw [hsz]; omega) ⟨.int (L.length : Nat), H1, I2.tok _, ⟨_, by rw [hsz]⟩, ?_⟩
  have e : (L.map (·.2)).length = L.length := List.length_map _
  rw [← e]
  refine q1 _ R.nd fun m => ⟨fun hm => ?_, fun hm => ?_⟩
  · obtain ⟨p, hp, rfl⟩ := List.mem_map.mp hm
    exact List.mem_map.mpr ⟨p, List.mem_of_mem_take (g.sub p hp), rfl⟩
  · obtain ⟨p, hp, rfl⟩ := List.mem_map.mp hm
    exact g.all p (by rw [List.take_length]; exact hp)
section
variable {K : PySem.W.Frag} {H H' : Hp} {σ : L2.St} {te ta tb tc : TE} {t u : TT} {d d' : PyData} {ds es : List PyData} {v : V}
/-! ### in, all -/
theorem dv_inD (ha : Dv K ta σ H d) (hb : Dv K tb σ H (.list ds)) (h1 : SeqAt.shaped d = true) (h2 : SeqAt.shaped (.list ds) = true) : Dv K (tOp (rInD K) ta tb) σ H (.bool (ds.any fun z => PyData.eqv z d)) := fun H1 e _ q =>
  ha H1 e _ fun x H2 e2 hx => hb H2 (e.trans e2) _ fun y H3 e3 hy => ⟨d, ds, Dp.mono e3 d hx, hy, h1, h2, q _ H3 (e2.trans e3) (.bl _)⟩
theorem dv_notInD (ha : Dv K ta σ H d) (hb : Dv K tb σ H (.list ds)) (h1 : SeqAt.shaped d = true) (h2 : SeqAt.shaped (.list ds) = true) : Dv K (tOp (rNotInD K) ta tb) σ H (.bool (!ds.any fun z => PyData.eqv z d)) := fun H1 e _ q =>
  ha H1 e _ fun x H2 e2 hx => hb H2 (e.trans e2) _ fun y H3 e3 hy => ⟨d, ds, Dp.mono e3 d hx, hy, h1, h2, q _ H3 (e2.trans e3) (.bl _)⟩
theorem dv_all {bs : List Bool} (ha : Dv K ta σ H (.list (bs.map .bool))) : Dv K (tCB (rAll K) (tCons ta tNil)) σ H (.bool (bs.all id)) := fun H1 e _ q =>
  ha H1 e _ fun x H2 e2 hx => by
    obtain ⟨a, xs, rfl, hs, hd⟩ := hx.lst_inv
    have e3 := hd.bools
    subst e3
    exact ⟨a, bs, rfl, hs, q _ H2 e2 (.bl _)⟩
/-! ### slices -/
def cutP {α : Type} (xs : List α) (lo hi : Option Int) : List α := (xs.drop (HT.sIx xs.length 0 lo)).take (HT.sIx xs.length xs.length hi - HT.sIx xs.length 0 lo)
theorem dvl_sl {tl th : TO} {lo hi : Option Int} (h : Dv K te σ H (.list ds)) (h1 : EvO tl σ H lo) (h2 : EvO th σ H hi) : DvL K (tSl (rSlL K) te tl th) σ H (cutP ds lo hi) := fun H1 e Q q =>
  h H1 e _ fun x H2 e2 hx => by
    obtain ⟨a, xs, rfl, hs, hd⟩ := hx.lst_inv
    have hq : EvL (tSl (rSlL K) (tC (.ref a)) tl th) σ H2 (cutV xs lo hi) := el_sl ev_c (fun H1 a Q q => h1 H1 ((e.trans e2).trans a) Q q) (fun H1 a Q q => h2 H1 ((e.trans e2).trans a) Q q) hs
    refine hq H2 (Ex.refl _) Q fun p H3 hp e3 h3 => q p _ H3 (fresh_back e2 hp) (e2.trans e3) h3 ?_
    have el := hd.length
    unfold cutP
    rw [← el]
    exact ((DpAll.mono e3 _ hd).drop _).take _
/-! ### fields -/
theorem ev_fld {a C dx : Addr} {fs : List (Str × V)} {f : Str} (h : Ev ta σ H (.ref a)) (ho : H a = some (.ins C dx fs)) (hc : Cls K C) (hn : NoAttr K C f) (hl : fs.lookup f = some v) : Ev (tFld K ta f) σ H v := fun H1 e _ q =>
  h H1 e _ fun H2 e2 => ⟨a, C, dx, fs, v, rfl, e2 _ _ (e _ _ ho), hc, hn, hl, q H2 e2⟩
theorem dv_fld {a C dx : Addr} {fs : List (Str × V)} {f : Str} (h : Ev ta σ H (.ref a)) (ho : H a = some (.ins C dx fs)) (hc : Cls K C) (hn : NoAttr K C f) (hl : fs.lookup f = some v) (hd : Dp K H v d) : Dv K (tFld K ta f) σ H d := dv_ev (ev_fld h ho hc hn hl) hd
/-! ### comprehensions -/
theorem filter_take_succ {α : Type} {l : List α} {i : Nat} {x : α} (p : α → Bool) (h : l[i]? = some x) : (l.take (i + 1)).filter p = (l.take i).filter p ++ (if p x = true then [x] else []) := by
  rw [List.take_add_one, h, List.filter_append]
  show _ ++ List.filter p [x] = _
  rw [List.filter_cons]
  cases p x <;> rfl
theorem take_len_le {α : Type} (l : List α) (p : α → Bool) (i : Nat) : ((l.take i).filter p).length ≤ l.length := by
  refine Nat.le_trans (List.length_filter_le _ _) ?_
  rw [List.length_take]
  omega
/-- what stands between the turns of a comprehension -/
def Cd {α : Type} (K : PySem.W.Frag) (H : Hp) (l : List α) (p : α → Bool) (g : α → PyData) (Dl : Addr) (i : Nat) (H' : Hp) : Prop := H Dl = none ∧ Ex H H' ∧ ∃ acc, H' Dl = some (.lst acc) ∧ DpAll K H' acc (((l.take i).filter p).map g)
theorem cd_turn {α : Type} {l : List α} {p : α → Bool} {g : α → PyData} {Dl : Addr} {i : Nat} {σ2 : L2.St} {x : α} (c : Cd K H l p g Dl i H') (hz : l.length ≤ 64000) (hx : l[i]? = some x) (hg : ∀ x ∈ l, noList (g x) = true)
    (ht : EvT t σ2 H' (p x)) (he : p x = true → Dv K te σ2 H' (g x)) :
    t σ2 H' fun b H3 => if b = true then te σ2 H3 fun y H4 => ∃ acc, H4 Dl = some (.lst acc) ∧ acc.length < sizeLine ∧ Cd K H l p g Dl (i + 1) (upd H4 Dl (.lst (acc ++ [y]))) else Cd K H l p g Dl (i + 1) H3 := by
  obtain ⟨c1, c2, acc, c3, c4⟩ := c
  refine ht H' (Ex.refl _) _ fun H3 e3 => ?_
  have hs := filter_take_succ p hx
  have hn : noListAll (((l.take i).filter p).map g) = true := noListAll_of fun d hd => by
    obtain ⟨z, hz, rfl⟩ := List.mem_map.mp hd
    exact hg z (List.mem_of_mem_take (List.mem_filter.mp hz).1)
  cases hp : p x with
  | true =>
    rw [hp] at hs
    show te σ2 H3 fun y H4 => ∃ acc, H4 Dl = some (.lst acc) ∧ acc.length < sizeLine ∧ Cd K H l p g Dl (i + 1) (upd H4 Dl (.lst (acc ++ [y])))
    refine he hp H3 e3 _ fun y H4 e4 hy => ?_
    have h4 : H4 Dl = some (.lst acc) := e4 _ _ (e3 _ _ c3)
    refine ⟨acc, h4, sz_lt ?_, c1, Ex.mut ((c2.trans e3).trans e4) c1, acc ++ [y], upd_same, ?_⟩
    · rw [c4.length, List.length_map]
      have := take_len_le l p i
      omega
    · rw [hs, if_pos rfl, List.map_append]
      exact DpAll.grow h4 hn (hg x (List.mem_of_getElem? hx)) (DpAll.mono (e3.trans e4) _ c4) hy
  | false =>
    rw [hp] at hs
    show Cd K H l p g Dl (i + 1) H3
    refine ⟨c1, c2.trans e3, acc, e3 _ _ c3, ?_⟩
    rw [hs, if_neg Bool.false_ne_true, List.append_nil]
    exact DpAll.mono e3 _ c4
theorem at_map {α : Type} {enc : α → PyData} {l : List α} {xs : List V} {i : Nat} {v : V} (h : DpAll K H xs (l.map enc)) (hv : xs[i]? = some v) : ∃ x, l[i]? = some x ∧ Dp K H v (enc x) := by
  obtain ⟨d, h1, h2⟩ := h.at hv
  rw [List.getElem?_map] at h1
  cases e : l[i]? with
  | none => rw [e] at h1; cases h1
  | some x =>
    rw [e] at h1
    cases h1
    exact ⟨x, rfl, h2⟩
theorem dvl_lc {α : Type} {tl : TE} {j : Nat} {vs : List Nat} {enc : α → PyData} {l : List α} (p : α → Bool) (g : α → PyData) (h : Dv K tl σ H (.list (l.map enc))) (hz : l.length ≤ 64000) (hw : ∀ x, wipe ((wipe σ vs).set j (some x)) vs = wipe σ vs)
    (hg : ∀ x ∈ l, noList (g x) = true) (ht : ∀ x ∈ l, ∀ v H1, Ex H H1 → Dp K H1 v (enc x) → EvT t ((wipe σ vs).set j (some v)) H1 (p x)) (he : ∀ x ∈ l, p x = true → ∀ v H1, Ex H H1 → Dp K H1 v (enc x) → Dv K te ((wipe σ vs).set j (some v)) H1 (g x)) :
    DvL K (tLc (iList K tl) (gName j) t te vs) σ H ((l.filter p).map g) := fun H0 e Q q => h H0 e _ fun x H1 e1 hx => by
  obtain ⟨a, xs, rfl, hs, hd⟩ := hx.lst_inv
  have hlen : xs.length = l.length := by rw [hd.length, List.length_map]
  refine ⟨a, rfl, ⟨xs, hs⟩, fun Dl hD => lc_list (xs := xs) (Cd K H1 l p g Dl) ⟨hD, Ex.new hD, [], upd_same, .nil⟩ (fun i H' _ c => ex_l c.2.1 hs) (fun i v H' hi c => ⟨hw v, ?_⟩) (fun H' c => ?_)⟩
  · obtain ⟨x, hx, hv⟩ := at_map hd hi
    have hm := List.mem_of_getElem? hx
    have ee := (e.trans e1).trans c.2.1
    exact cd_turn c hz hx hg (ht x hm v H' ee (Dp.mono c.2.1 _ hv)) (fun hp => he x hm hp v H' ee (Dp.mono c.2.1 _ hv))
  · obtain ⟨c1, c2, acc, c3, c4⟩ := c
    rw [hlen, List.take_length] at c4
    exact q Dl acc H' (fresh_back e1 c1) (e1.trans c2) c3 c4
/-- .. over a tuple -/
theorem dvl_lcT {α : Type} {tl : TE} {j : Nat} {vs : List Nat} {enc : α → PyData} {l : List α} (p : α → Bool) (g : α → PyData) (h : Dv K tl σ H (.tuple (l.map enc))) (hz : l.length ≤ 64000) (hw : ∀ x, wipe ((wipe σ vs).set j (some x)) vs = wipe σ vs)
    (hg : ∀ x ∈ l, noList (g x) = true) (ht : ∀ x ∈ l, ∀ v H1, Ex H H1 → Dp K H1 v (enc x) → EvT t ((wipe σ vs).set j (some v)) H1 (p x)) (he : ∀ x ∈ l, p x = true → ∀ v H1, Ex H H1 → Dp K H1 v (enc x) → Dv K te ((wipe σ vs).set j (some v)) H1 (g x)) :
    DvL K (tLc (iTup K tl) (gName j) t te vs) σ H ((l.filter p).map g) := fun H0 e Q q => h H0 e _ fun x H1 e1 hx => by
  obtain ⟨a, xs, rfl, hs, hd⟩ := hx.tup_inv
  have hlen : xs.length = l.length := by rw [hd.length, List.length_map]
  refine ⟨a, rfl, ⟨xs, hs⟩, fun Dl hD => lc_tup (xs := xs) (Cd K H1 l p g Dl) ⟨hD, Ex.new hD, [], upd_same, .nil⟩ (fun i H' _ c => ex_t c.2.1 hs) (fun i v H' hi c => ⟨hw v, ?_⟩) (fun H' c => ?_)⟩
  · obtain ⟨x, hx, hv⟩ := at_map hd hi
    have hm := List.mem_of_getElem? hx
    have ee := (e.trans e1).trans c.2.1
    exact cd_turn c hz hx hg (ht x hm v H' ee (Dp.mono c.2.1 _ hv)) (fun hp => he x hm hp v H' ee (Dp.mono c.2.1 _ hv))
  · obtain ⟨c1, c2, acc, c3, c4⟩ := c
    rw [hlen, List.take_length] at c4
    exact q Dl acc H' (fresh_back e1 c1) (e1.trans c2) c3 c4
theorem et_yes : EvT tYes σ H true := fun H1 _ _ q => q H1 (Ex.refl H1)
theorem filter_true {α : Type} (l : List α) : l.filter (fun _ => true) = l := List.filter_eq_self.mpr fun _ _ => rfl
/-- [e for x in xs] -/
theorem dvl_map {α : Type} {tl : TE} {j : Nat} {vs : List Nat} {enc : α → PyData} {l : List α} (g : α → PyData) (h : Dv K tl σ H (.list (l.map enc))) (hz : l.length ≤ 64000) (hw : ∀ x, wipe ((wipe σ vs).set j (some x)) vs = wipe σ vs)
    (hg : ∀ x ∈ l, noList (g x) = true) (he : ∀ x ∈ l, ∀ v H1, Ex H H1 → Dp K H1 v (enc x) → Dv K te ((wipe σ vs).set j (some v)) H1 (g x)) :
    DvL K (tLc (iList K tl) (gName j) tYes te vs) σ H (l.map g) :=
  dvl_is (dvl_lc (fun _ => true) g h hz hw hg (fun _ _ _ _ _ _ => et_yes) fun x hx _ v H1 e hv => he x hx v H1 e hv) (by rw [filter_true])
theorem dvl_mapT {α : Type} {tl : TE} {j : Nat} {vs : List Nat} {enc : α → PyData} {l : List α} (g : α → PyData) (h : Dv K tl σ H (.tuple (l.map enc))) (hz : l.length ≤ 64000) (hw : ∀ x, wipe ((wipe σ vs).set j (some x)) vs = wipe σ vs)
    (hg : ∀ x ∈ l, noList (g x) = true) (he : ∀ x ∈ l, ∀ v H1, Ex H H1 → Dp K H1 v (enc x) → Dv K te ((wipe σ vs).set j (some v)) H1 (g x)) :
    DvL K (tLc (iTup K tl) (gName j) tYes te vs) σ H (l.map g) :=
  dvl_is (dvl_lcT (fun _ => true) g h hz hw hg (fun _ _ _ _ _ _ => et_yes) fun x hx _ v H1 e hv => he x hx v H1 e hv) (by rw [filter_true])
/-! ### [e for x in xs], e a new list -/
def cutH (H : Hp) (a : Addr) : Hp := fun b => if b = a then none else H b
theorem cutH_same (H : Hp) (a : Addr) : cutH H a a = none := if_pos rfl
theorem cutH_ne {a b : Addr} (h : b ≠ a) : cutH H a b = H b := if_neg h
theorem cutH_ex {o : HO} {a : Addr} : Ex (cutH H a) (upd H a o) := fun b u hb => by
  by_cases e : b = a
  · rw [e, cutH_same] at hb; cases hb
  · rw [cutH_ne e] at hb
    rw [upd_ne e]
    exact hb
theorem cutH_tsame {a : Addr} (h : ∀ xs, ¬ Rd H a (.tup xs)) : TSame H (cutH H a) := fun b xs hb => by
  have hne : b ≠ a := fun e => h xs (e ▸ hb)
  unfold Rd at hb ⊢
  rw [cutH_ne hne]
  exact hb
def Cl {α : Type} (K : PySem.W.Frag) (H : Hp) (l : List α) (g : α → List PyData) (Dl : Addr) (i : Nat) (H' : Hp) : Prop := H Dl = none ∧ Ex H H' ∧ ∃ G acc, Ex G H' ∧ G Dl = none ∧ H' Dl = some (.lst acc) ∧ DpAll K G acc ((l.take i).map fun x => .list (g x))
theorem dvl_mapL {α : Type} {tl : TE} {j : Nat} {vs : List Nat} {enc : α → PyData} {l : List α} (g : α → List PyData) (h : Dv K tl σ H (.list (l.map enc))) (hz : l.length ≤ 64000) (hw : ∀ x, wipe ((wipe σ vs).set j (some x)) vs = wipe σ vs)
    (hg : ∀ x ∈ l, noListAll (g x) = true) (he : ∀ x ∈ l, ∀ v H1, Ex H H1 → Dp K H1 v (enc x) → DvL K te ((wipe σ vs).set j (some v)) H1 (g x)) :
    DvL K (tLc (iList K tl) (gName j) tYes te vs) σ H (l.map fun x => .list (g x)) := fun H0 e Q q => h H0 e _ fun x H1 e1 hx => by
  obtain ⟨a, xs, rfl, hs, hd⟩ := hx.lst_inv
  have hlen : xs.length = l.length := by rw [hd.length, List.length_map]
  refine ⟨a, rfl, ⟨xs, hs⟩, fun Dl hD => lc_list (xs := xs) (Cl K H1 l g Dl) ⟨hD, Ex.new hD, H1, [], Ex.new hD, hD, upd_same, .nil⟩ (fun i H' _ c => ex_l c.2.1 hs) (fun i v H' hi c => ⟨hw v, ?_⟩) (fun H' c => ?_)⟩
  · obtain ⟨x, hx, hv⟩ := at_map hd hi
    have hm := List.mem_of_getElem? hx
    obtain ⟨c1, c2, G, acc, c3, c4, c5, c6⟩ := c
    show te (List.set (wipe σ vs) j (some v)) H' fun y H4 => ∃ acc, H4 Dl = some (.lst acc) ∧ acc.length < sizeLine ∧ Cl K H1 l g Dl (i + 1) (upd H4 Dl (.lst (acc ++ [y])))
    refine he x hm v H' ((e.trans e1).trans c2) (Dp.mono c2 _ hv) H' (Ex.refl _) _ fun p ys H4 hp e4 h4 hy => ?_
    have h4D : H4 Dl = some (.lst acc) := e4 _ _ c5
    have hne : p ≠ Dl := fun z => by rw [z, c5] at hp; cases hp
    refine ⟨acc, h4D, sz_lt ?_, c1, Ex.mut (c2.trans e4) c1, cutH H4 Dl, acc ++ [.ref p], cutH_ex, cutH_same _ _, upd_same, ?_⟩
    · rw [c6.length, List.length_map, List.length_take]
      omega
    · have eG : Ex G (cutH H4 Dl) := fun b o hb => by
        have hb' : b ≠ Dl := fun z => by rw [z, c4] at hb; cases hb
        rw [cutH_ne hb']
        exact e4 _ _ (c3 _ _ hb)
      rw [List.take_add_one, hx, List.map_append]
      refine (DpAll.mono eG _ c6).append (.one (.lst (sq_of (xs := ys) ?_) (DpAll.monoT (cutH_tsame (no_tup_lst h4D)) _ (hg x hm) hy)))
      rw [cutH_ne hne]
      exact h4
  · obtain ⟨c1, c2, G, acc, c3, c4, c5, c6⟩ := c
    rw [hlen, List.take_length] at c6
    exact q Dl acc H' (fresh_back e1 c1) (e1.trans c2) c5 (DpAll.mono c3 _ c6)
end
/-! ### loops over a new list -/
section
variable {K : PySem.W.Frag} {H : Hp} {σ : L2.St} {tl : TE} {ds : List PyData} {D : Ends} {tu tz : TS}
theorem s_forDL {j : Nat} (h : DvL K tl σ H ds) (Pv : Addr → List V → Nat → L2.St → Hp → Prop) (h0 : ∀ p xs H1, H p = none → Ex H H1 → H1 p = some (.lst xs) → DpAll K H1 xs ds → Pv p xs 0 σ H1)
    (hl : ∀ p xs i σ' H', Pv p xs i σ' H' → H' p = some (.lst xs)) (hs : ∀ p xs i x σ' H', xs[i]? = some x → Pv p xs i σ' H' → tu { D with nx := Pv p xs (i + 1), ct := Pv p xs (i + 1), bk := D.nx } (σ'.set j (some x)) H')
    (hd : ∀ p xs σ' H', xs.length = ds.length → Pv p xs xs.length σ' H' → D.nx σ' H') : tFor (iList K tl) (gName j) tu D σ H := h H (Ex.refl H) _ fun p xs H1 hp e h1 hx =>
  ⟨p, rfl, ⟨xs, sq_of h1⟩, for_list (Pv p xs) (h0 p xs H1 hp e h1 hx) (fun i σ' H' _ c => sq_of (hl p xs i σ' H' c)) (fun i x σ' H' hi c => hs p xs i x σ' H' hi c) (fun σ' H' c => hd p xs σ' H' hx.length c)⟩
end
end Bf

namespace Bf
open PySem PySem.Spec PyProof.Rows L2 Evl
/-- the i-th statement of the program -/
def top (i : Nat) : Stmt := PySem.Challenge.pw_bassfilled_s01_answers.main.body.getD i (.Pass ⟨0, 0, 0, 0⟩)
/-! ### what a def is worth to its callers -/
/-- the def x of the text stands at some address, and the name x is that -/
def Def (K : PySem.W.Frag) (mg : Str → Option Value) (x : Str) (st : Stmt) : Prop := ∃ f fd, Fun K x x st f fd ∧ mg x = some (.ref f)
/-- .. and keeps its promise -/
def Cal (P : Program) (w : World) (K : PySem.W.Frag) (mg : Str → Option Value) (base : Heap) (x : Str) (k : Nat) (ps : List Str) (sp : Sp) : Prop :=
  ∃ f fd, mg x = some (.ref f) ∧ PySem.W.keepIn K (.ref f) = true ∧ Binds K fd ps [] ∧ FnOk P w K mg base CX0 k f fd ps sp
/-- a module's constant: an int -/
def Gi (mg : Str → Option Value) (x : Str) (n : Int) : Prop := ∃ t, mg x = some (.int n t)
section
variable {X : Cx}
theorem pe_gi {x : Str} {n : Int} {pos : Pos} (h : Gi X.mg x n) (hg : Gl X x := by rfl) (hd : (x == ("__debug__" : Str)) = false := by decide) : PE X (.Name x pos) (tC (.int n)) := by
  obtain ⟨t, ht⟩ := h
  exact pe_glob hg ht ⟨t, rfl⟩ hd
theorem pe_cal {x : Str} {k : Nat} {ps : List Str} {sp : Sp} {e : Expr} {es : List Expr} {t : TA} {p pos : Pos} (C : Cal X.prog X.w X.K X.mg X.base x k ps sp) (hr : Room k X.A) (ha : PA X (e :: es) t) (hg : Gl X x := by rfl)
    (h1 : starEach (e :: es) X.env = (false, eval e X.env) :: starEach es X.env := by rfl) (h2 : (backTo pos (starEach es X.env)).any (·.1) = false := by rfl) (hd : (x == ("__debug__" : Str)) = false := by decide) : PE X (.Call (.Name x p) (e :: es) [] pos) (tCall sp [] E0 t) := by
  obtain ⟨f, fd, hm, hk, hb, F⟩ := C
  exact pe_call F hr hg hm hk hb .nil pass0 ha hd h1 h2
end
section
variable {P : Program} {w : World} {K : PySem.W.Frag} {mg : Str → Option Value} {base : Heap}
/-- a def whose promise is by data -/
theorem ok_D {x : Str} {st : Stmt} {N ps : List Str} {k : Nat} {R : List PyData → PyData → Prop} (D : Def K mg x st) (S : FnScope N ps (defScope st)) (len : ∀ ds d, R ds d → ds.length = ps.length)
    (hb : ∀ (kV doc pm : Value) (an : Option Addr) (cdv ct : Value) (us : List Value), us.length = ps.length → bindArgs (PySem.W.fnOf x x (defArgs st) (defBody st) (defScope st) .none kV doc pm an cdv ct) ⟨us, []⟩ = pure (ps.zip us))
    (hbody : ∀ (f : Addr) (cdv : Value) (A : Around) (outer : List Env) (s : Shared) (H : Hp) (vs : List V) (Q : VK) (E : XK) (ds : List PyData) (d : PyData), Room k (A.deeper (envOfC x (defScope st) s.heap.objs.size f cdv)) → DpAll K H vs ds → R ds d → (∀ v H', Ex H H' → Dp K H' v d → Q v H') →
      ∃ t, PSs (cxOf CX0 P w K mg base N x (defScope st) f cdv A outer s H E).nox (defBody st) t ∧ t { nx := fun _ H' => Q .non H', rt := Q } (start N vs) H) : Cal P w K mg base x (k + 1) ps (SpD K R) := by
  obtain ⟨f, fd, F, hm⟩ := D
  refine ⟨f, fd, hm, F.kp, F.binds hb, F.ok S (fun vs H Q E h => ?_) (fun cdv A outer s H vs Q E hr h => ?_)⟩
  · obtain ⟨ds, d, h1, h2, _⟩ := h
    rw [h1.length]
    exact len ds d h2
  · obtain ⟨ds, d, h1, h2, h3⟩ := h
    exact hbody f cdv A outer s H vs Q E ds d hr h1 h2 h3
/-- a def whose promise is a new list -/
theorem ok_DL {x : Str} {st : Stmt} {N ps : List Str} {k : Nat} {R : List PyData → List PyData → Prop} (D : Def K mg x st) (S : FnScope N ps (defScope st)) (len : ∀ ds es, R ds es → ds.length = ps.length)
    (hb : ∀ (kV doc pm : Value) (an : Option Addr) (cdv ct : Value) (us : List Value), us.length = ps.length → bindArgs (PySem.W.fnOf x x (defArgs st) (defBody st) (defScope st) .none kV doc pm an cdv ct) ⟨us, []⟩ = pure (ps.zip us))
    (hbody : ∀ (f : Addr) (cdv : Value) (A : Around) (outer : List Env) (s : Shared) (H : Hp) (vs : List V) (Q : VK) (E : XK) (ds es : List PyData), Room k (A.deeper (envOfC x (defScope st) s.heap.objs.size f cdv)) → DpAll K H vs ds → R ds es → (∀ p xs H', H p = none → Ex H H' → H' p = some (.lst xs) → DpAll K H' xs es → Q (.ref p) H') →
      ∃ t, PSs (cxOf CX0 P w K mg base N x (defScope st) f cdv A outer s H E).nox (defBody st) t ∧ t { nx := fun _ H' => Q .non H', rt := Q } (start N vs) H) : Cal P w K mg base x (k + 1) ps (SpDL K R) := by
  obtain ⟨f, fd, F, hm⟩ := D
  refine ⟨f, fd, hm, F.kp, F.binds hb, F.ok S (fun vs H Q E h => ?_) (fun cdv A outer s H vs Q E hr h => ?_)⟩
  · obtain ⟨ds, d, h1, h2, _⟩ := h
    rw [h1.length]
    exact len ds d h2
  · obtain ⟨ds, d, h1, h2, h3⟩ := h
    exact hbody f cdv A outer s H vs Q E ds d hr h1 h2 h3
/-- a def with a promise of its own -/
theorem ok_S {x : Str} {st : Stmt} {N ps : List Str} {k : Nat} {sp : Sp} (D : Def K mg x st) (S : FnScope N ps (defScope st)) (len : ∀ vs H Q E, sp vs H Q E → vs.length = ps.length)
    (hb : ∀ (kV doc pm : Value) (an : Option Addr) (cdv ct : Value) (us : List Value), us.length = ps.length → bindArgs (PySem.W.fnOf x x (defArgs st) (defBody st) (defScope st) .none kV doc pm an cdv ct) ⟨us, []⟩ = pure (ps.zip us))
    (hbody : ∀ (f : Addr) (cdv : Value) (A : Around) (outer : List Env) (s : Shared) (H : Hp) (vs : List V) (Q : VK) (E : XK), Room k (A.deeper (envOfC x (defScope st) s.heap.objs.size f cdv)) → sp vs H Q E →
      ∃ t, PSs (cxOf CX0 P w K mg base N x (defScope st) f cdv A outer s H E).nox (defBody st) t ∧ t { nx := fun _ H' => Q .non H', rt := Q } (start N vs) H) : Cal P w K mg base x (k + 1) ps sp := by
  obtain ⟨f, fd, F, hm⟩ := D
  exact ⟨f, fd, hm, F.kp, F.binds hb, F.ok S len (fun cdv A outer s H vs Q E hr h => hbody f cdv A outer s H vs Q E hr h)⟩
end
end Bf

namespace Bf
open PySem PySem.Spec PyProof.Rows L2 Evl
abbrev sIsAlt : Stmt := top 6
abbrev sIsNote : Stmt := top 7
abbrev sSound : Stmt := top 9
abbrev sMake : Stmt := top 10
abbrev sName : Stmt := top 11
def encName (n : Cp05.Name) : PyData := .tuple [.int n.1, .int n.2]
def encNote (n : Cp05.Note) : PyData := .tuple [.int n.sound, .int n.d, .int n.a]
def isAlt (a : Int) : Bool := decide (-2 ≤ a) && decide (a ≤ 2)
def RIsAlt (ds : List PyData) (d : PyData) : Prop := ∃ a, ds = [.int a] ∧ d = .bool (isAlt a)
def RIsNote (ds : List PyData) (d : PyData) : Prop := ∃ s a, ds = [.int s, .int a] ∧ d = .bool (Cp05.isNote ⟨s, a⟩)
def RSound (ds : List PyData) (d : PyData) : Prop := ∃ s a, ds = [.int s, .int a] ∧ 0 ≤ s ∧ s < 1000 ∧ d = .int (Cp05.Note.sound ⟨s, a⟩)
def RMake (ds : List PyData) (d : PyData) : Prop := ∃ s a, ds = [.int s, .int a] ∧ 0 ≤ s ∧ s < 1000 ∧ d = encNote ⟨s, a⟩
def RName (ds : List PyData) (d : PyData) : Prop := ∃ n, ds = [encNote n] ∧ d = encName (Cp05.nameOf n)
section
variable {P : Program} {w : World} {K : PySem.W.Frag} {mg : Str → Option Value} {base : Heap}
theorem scIsAlt : FnScope ["alteration"] ["alteration"] (defScope sIsAlt) := ⟨rfl, rfl, rfl, by decide +kernel, rfl, by decide +kernel, by decide +kernel⟩
theorem cal_isAlt (D : Def K mg "is_alteration" sIsAlt) (g : Gi mg "MOST_ALTERED" 2) : Cal P w K mg base "is_alteration" 1 ["alteration"] (SpD K RIsAlt) := by
  refine ok_D D scIsAlt (fun ds d h => ?_) (fun _ _ _ _ _ _ us hl => match us, hl with | [_], _ => rfl) (fun f cdv A outer s H vs Q E ds d hr hv h k => ?_)
  · obtain ⟨a, rfl, _⟩ := h
    rfl
  · obtain ⟨a, rfl, rfl⟩ := h
    have e : vs = [.int a] := DpAll.ints (ns := [a]) hv
    subst e
    refine ⟨_, pss_one (ps_ret (pe_chain op_le op_le (pe_un un_neg (pe_gi g)) (pv 0) (pe_gi g))), ?_⟩
    exact s_retD (dv_chain (dv_neg dv_int) (dv_vi rfl) dv_int) k
theorem scIsNote : FnScope ["step", "alteration"] ["step", "alteration"] (defScope sIsNote) := ⟨rfl, rfl, rfl, by decide +kernel, rfl, by decide +kernel, by decide +kernel⟩
theorem cal_isNote (D : Def K mg "is_note" sIsNote) (g : Gi mg "STEPS" 70) (c : Cal P w K mg base "is_alteration" 1 ["alteration"] (SpD K RIsAlt)) : Cal P w K mg base "is_note" 2 ["step", "alteration"] (SpD K RIsNote) := by
  refine ok_D D scIsNote (fun ds d h => ?_) (fun _ _ _ _ _ _ us hl => match us, hl with | [_, _], _ => rfl) (fun f cdv A outer s H vs Q E ds d hr hv h k => ?_)
  · obtain ⟨a, b, rfl, _⟩ := h
    rfl
  · obtain ⟨st, a, rfl, rfl⟩ := h
    have e : vs = [.int st, .int a] := DpAll.ints (ns := [st, a]) hv
    subst e
    refine ⟨_, pss_one (ps_ret (pe_and (pe_chain op_le op_lt pe_int (pv 0) (pe_gi g)) (pe_one (pe_cal c hr (pa_cons (pv 1) pa_nil))))), ?_⟩
    refine s_retD (dv_is (dv_and (dv_chain dv_int (dv_vi rfl) dv_int) fun _ => dv_call (da_cons (dv_vi rfl) da_nil) ⟨a, rfl, rfl⟩) ?_) k
    unfold Cp05.isNote isAlt Cp05.STEPS
    rw [Bool.and_assoc]
theorem scSound : FnScope ["step", "alteration"] ["step", "alteration"] (defScope sSound) := ⟨rfl, rfl, rfl, by decide +kernel, rfl, by decide +kernel, by decide +kernel⟩
/-- SEMITONES, a tuple of the top -/
def Semi (K : PySem.W.Frag) (mg : Str → Option Value) : Prop := ∃ a, mg "SEMITONES" = some (.ref a) ∧ ∀ H, Dp K H (.ref a) (.tuple (Cp05.whites.map .int))
theorem cal_sound (D : Def K mg "sound_of" sSound) (g1 : Gi mg "OCTAVE_SEMITONES" 12) (g2 : Gi mg "OCTAVE_STEPS" 7) (g3 : Semi K mg) : Cal P w K mg base "sound_of" 1 ["step", "alteration"] (SpD K RSound) := by
  refine ok_D D scSound (fun ds d h => ?_) (fun _ _ _ _ _ _ us hl => match us, hl with | [_, _], _ => rfl) (fun f cdv A outer s H vs Q E ds d hr hv h k => ?_)
  · obtain ⟨a, b, rfl, _⟩ := h
    rfl
  · obtain ⟨st, a, rfl, h0, h1, rfl⟩ := h
    have e : vs = [.int st, .int a] := DpAll.ints (ns := [st, a]) hv
    subst e
    obtain ⟨t, ht, hd⟩ := g3
    refine ⟨_, pss_one (ps_ret (pe_op op_add (pe_op op_add (pe_op op_mul (pe_gi g1) (pe_op op_fdiv (pv 0) (pe_gi g2))) (pe_ix ix_tup (pe_glob (v := .ref t) (by rfl) ht rfl) (pe_op op_mod (pv 0) (pe_gi g2)) (fun _ _ => rfl))) (pv 1))), ?_⟩
    have hm := mod7_lt st
    have hw : (Cp05.whites.map PyData.int)[(st % 7).toNat]? = some (.int (Cp05.whites.getD (st % 7).toNat 0)) := by
      obtain ⟨n, hn⟩ : ∃ n : Nat, (st % 7).toNat = n := ⟨_, rfl⟩
      rw [hn]
      have : n < 7 := by omega
      match n, this with
      | 0, _ => rfl
      | 1, _ => rfl
      | 2, _ => rfl
      | 3, _ => rfl
      | 4, _ => rfl
      | 5, _ => rfl
      | 6, _ => rfl
    refine s_retD (dv_is (dv_I (dv_I (dv_IC dv_int (dv_IC (dv_vi rfl) dv_int ⟨by decide, by decide⟩) (.inl ⟨by decide, by decide⟩)) (dv_ixT (j := (st % 7).toNat) (dv_c (hd _)) (dv_IC (dv_vi rfl) dv_int (by decide)) (by omega) hw)) (dv_vi rfl)) ?_) k
    rfl
theorem scMake : FnScope ["step", "alteration"] ["step", "alteration"] (defScope sMake) := ⟨rfl, rfl, rfl, by decide +kernel, rfl, by decide +kernel, by decide +kernel⟩
theorem cal_make (D : Def K mg "make_note" sMake) (c : Cal P w K mg base "sound_of" 1 ["step", "alteration"] (SpD K RSound)) : Cal P w K mg base "make_note" 2 ["step", "alteration"] (SpD K RMake) := by
  refine ok_D D scMake (fun ds d h => ?_) (fun _ _ _ _ _ _ us hl => match us, hl with | [_, _], _ => rfl) (fun f cdv A outer s H vs Q E ds d hr hv h k => ?_)
  · obtain ⟨a, b, rfl, _⟩ := h
    rfl
  · obtain ⟨st, a, rfl, h0, h1, rfl⟩ := h
    have e : vs = [.int st, .int a] := DpAll.ints (ns := [st, a]) hv
    subst e
    refine ⟨_, pss_one (ps_ret (pe_tup (pa_cons (pe_cal c hr (pa_cons (pv 0) (pa_cons (pv 1) pa_nil))) (pa_cons (pv 0) (pa_cons (pv 1) pa_nil))))), ?_⟩
    exact s_retD (dv_tup (da_cons (dv_call (da_cons (dv_vi rfl) (da_cons (dv_vi rfl) da_nil)) ⟨st, a, rfl, h0, h1, rfl⟩) (da_cons (dv_vi rfl) (da_cons (dv_vi rfl) da_nil))) (by show 3 ≤ 100000; decide)) k
theorem scName : FnScope ["note"] ["note"] (defScope sName) := ⟨rfl, rfl, rfl, by decide +kernel, rfl, by decide +kernel, by decide +kernel⟩
theorem DpAll1 {H : Hp} {vs : List V} {d : PyData} (h : DpAll K H vs [d]) : ∃ v, vs = [v] ∧ Dp K H v d := by
  cases h with | cons h1 h2 => cases h2; exact ⟨_, rfl, h1⟩
theorem DpAll2 {H : Hp} {vs : List V} {d e : PyData} (h : DpAll K H vs [d, e]) : ∃ v u, vs = [v, u] ∧ Dp K H v d ∧ Dp K H u e := by
  cases h with | cons h1 h2 => obtain ⟨u, rfl, h3⟩ := DpAll1 h2; exact ⟨_, u, rfl, h1, h3⟩
theorem DpAll3 {H : Hp} {vs : List V} {d e f : PyData} (h : DpAll K H vs [d, e, f]) : ∃ v u x, vs = [v, u, x] ∧ Dp K H v d ∧ Dp K H u e ∧ Dp K H x f := by
  cases h with | cons h1 h2 => obtain ⟨u, x, rfl, h3, h4⟩ := DpAll2 h2; exact ⟨_, u, x, rfl, h1, h3, h4⟩
theorem cal_name (D : Def K mg "name_of" sName) (g2 : Gi mg "OCTAVE_STEPS" 7) : Cal P w K mg base "name_of" 1 ["note"] (SpD K RName) := by
  refine ok_D D scName (fun ds d h => ?_) (fun _ _ _ _ _ _ us hl => match us, hl with | [_], _ => rfl) (fun f cdv A outer s H vs Q E ds d hr hv h k => ?_)
  · obtain ⟨a, rfl, _⟩ := h
    rfl
  · obtain ⟨n, rfl, rfl⟩ := h
    obtain ⟨v, rfl, hn⟩ := DpAll1 hv
    refine ⟨_, pss_one (ps_ret (pe_tup (pa_cons (pe_op op_mod (pe_ix ix_tup (pv 0) pe_int (fun _ _ => rfl)) (pe_gi g2)) (pa_cons (pe_ix ix_tup (pv 0) pe_int (fun _ _ => rfl)) pa_nil)))), ?_⟩
    exact s_retD (dv_tup (da_cons (dv_IC (dv_ixT (j := 1) (dv_var rfl hn) dv_int rfl rfl) dv_int (by decide)) (da_cons (dv_ixT (j := 2) (dv_var rfl hn) dv_int rfl rfl) da_nil)) (by show 2 ≤ 100000; decide)) k
end
end Bf

namespace Bf
open PySem PySem.Spec PyProof.Rows L2 Evl
section
variable {K : PySem.W.Frag} {H : Hp} {σ : L2.St} {D : Ends} {tu tz : TS}
theorem ea_ints {ta : TA} {ns : List Int} (h : DvA K ta σ H (ns.map .int)) : EvA ta σ H (ns.map V.int) := fun H1 e _ q => h H1 e _ fun vs H2 e2 hd => by
  rw [hd.ints]
  exact q H2 e2
theorem s_forR3 {ta : TA} {j : Nat} {lo hi c : Int} {n : Nat} (h : DvA K ta σ H [.int lo, .int hi, .int c]) (hr : RgC lo hi c n) (Pv : Nat → L2.St → Hp → Prop) (h0 : ∀ H1, Ex H H1 → Pv 0 σ H1)
    (hs : ∀ (i : Nat) σ' H', i < n → Pv i σ' H' → tu { D with nx := Pv (i + 1), ct := Pv (i + 1), bk := D.nx } (σ'.set j (some (.int (lo + (i : Int) * c)))) H') (hd : ∀ σ' H', Pv n σ' H' → D.nx σ' H') : tFor (iRng3 ta) (gName j) tu D σ H :=
  ea_ints (ns := [lo, hi, c]) h H (Ex.refl H) _ fun H1 e => ⟨lo, hi, c, n, rfl, hr, for_rangeC Pv (h0 H1 e) (fun i σ' H' hi p => hs i σ' H' hi p) hd⟩
theorem q_forR3 {ta : TA} {j : Nat} {lo hi c : Int} {n : Nat} (h : DvA K ta σ H [.int lo, .int hi, .int c]) (hr : RgC lo hi c n) (Pv : Nat → L2.St → Hp → Prop) (h0 : ∀ H1, Ex H H1 → Pv 0 σ H1)
    (hs : ∀ (i : Nat) σ' H', i < n → Pv i σ' H' → tu { D with nx := Pv (i + 1), ct := Pv (i + 1), bk := tz D } (σ'.set j (some (.int (lo + (i : Int) * c)))) H') (hd : ∀ σ' H', Pv n σ' H' → tz D σ' H') : tSeq (tFor (iRng3 ta) (gName j) tu) tz D σ H :=
  s_forR3 (D := { D with nx := tz D }) h hr Pv h0 hs hd
end
theorem hu64 {k : Nat} {A : Around} (hr : Room k A) : A.units + 64 < cLine := by
  have := hr.un
  omega
theorem hu65 {k : Nat} {A : Around} (hr : Room k A) : A.units + 65 < cLine := by
  have := hr.un
  omega
theorem rgc_name {i : Int} (h0 : 0 ≤ i) (h6 : i ≤ 6) : RgC i 70 7 10 := by
  have h : i = 0 ∨ i = 1 ∨ i = 2 ∨ i = 3 ∨ i = 4 ∨ i = 5 ∨ i = 6 := by omega
  refine ⟨by decide, by decide, ?_, ?_⟩ <;> rcases h with rfl | rfl | rfl | rfl | rfl | rfl | rfl <;> decide
theorem nl_note (n : Cp05.Note) : noList (encNote n) = true := by simp [encNote, noList, noListAll]
theorem nl_name (n : Cp05.Name) : noList (encName n) = true := by simp [encName, noList, noListAll]
/-- notes as tuples stand in the specification's order -/
theorem le_note : PySem.W.dataLe false encNote = Cp05.below := by
  funext x y
  rw [below_eq, PySem.W.dataLe_eq]
  show (!PySem.W.dataLt (encNote y) (encNote x)) = _
  unfold encNote
  rw [PySem.W.dataLt_tuple, PySem.W.dataLt_cons (by simp [PySem.W.alike]), PySem.W.dataLt_cons (by simp [PySem.W.alike]), PySem.W.dataLt_cons (by simp [PySem.W.alike])]
  have e : PyProof.Rows.lexLt PyProof.Rows.itemOrd (PySem.W.keyToksAll []) (PySem.W.keyToksAll []) = false := PyProof.Rows.lex_irrefl _
  rw [e]
  simp only [PySem.W.dataLt_int, PyData.eqv, beq_iff_eq]
  generalize x.sound = a
  generalize y.sound = b
  generalize x.d = c
  generalize y.d = d
  generalize x.a = f
  generalize y.a = g
  by_cases h1 : b = a <;> by_cases h2 : d = c <;> by_cases h3 : g = f <;> simp [h1, h2, h3] <;> first | omega | (rw [Bool.eq_iff_iff]; simp <;> omega) | skip
abbrev sNotesWithin : Stmt := top 39
abbrev sNear : Stmt := top 40
abbrev sNearAbove : Stmt := top 41
abbrev sNearBelow : Stmt := top 42
def RNotesWithin (ds es : List PyData) : Prop := ∃ (names : List Cp05.Name) (lo hi : Int), ds = [.list (names.map encName), .int lo, .int hi] ∧ (∀ n ∈ names, okName n) ∧ names.length ≤ 4 ∧ es = ((names.flatMap (Cp05.notesIn (lo, hi))).mergeSort Cp05.below).map encNote
def RNear (ds : List PyData) (d : PyData) : Prop := ∃ u l k, ds = [encNote u, encNote l, .int k] ∧ d = .bool (near k u l)
def RNearAbove (ds es : List PyData) : Prop := ∃ (us : List Cp05.Note) (l : Cp05.Note) (k : Int), ds = [.list (us.map encNote), encNote l, .int k] ∧ us.length ≤ 40 ∧ es = (us.filter fun u => near k u l).map encNote
def RNearBelow (ds es : List PyData) : Prop := ∃ (ls : List Cp05.Note) (u : Cp05.Note) (k : Int), ds = [.list (ls.map encNote), encNote u, .int k] ∧ ls.length ≤ 40 ∧ es = (ls.filter fun l => near k u l).map encNote
section
variable {P : Program} {w : World} {K : PySem.W.Frag} {mg : Str → Option Value} {base : Heap}
abbrev nmNW : List Str := ["names", "low", "high", "found", "name", "step", "note"]
theorem scNW : FnScope nmNW ["names", "low", "high"] (defScope sNotesWithin) := ⟨rfl, rfl, rfl, by decide +kernel, rfl, by decide +kernel, by decide +kernel⟩
theorem someNotes_next {lo hi : Int} {n : Cp05.Name} {i : Nat} (b : Bool) (hb : b = inRange (lo, hi) (noteN n i)) : someNotes (lo, hi) n (i + 1) = someNotes (lo, hi) n i ++ (if b = true then [noteN n i] else []) := by
  rw [someNotes_succ, hb]
theorem cal_notesWithin (D : Def K mg "notes_within" sNotesWithin) (g1 : Gi mg "STEPS" 70) (g2 : Gi mg "OCTAVE_STEPS" 7) (gr : mg "range" = none) (gs : mg "sorted" = none) (c : Cal P w K mg base "make_note" 2 ["step", "alteration"] (SpD K RMake)) :
    Cal P w K mg base "notes_within" 3 ["names", "low", "high"] (SpDL K RNotesWithin) := by
  refine ok_DL D scNW (fun ds d h => ?_) (fun _ _ _ _ _ _ us hl => match us, hl with | [_, _, _], _ => rfl) (fun f cdv A outer s H vs Q E ds es hr hv h k => ?_)
  · obtain ⟨_, _, _, rfl, _⟩ := h
    rfl
  · obtain ⟨names, lo, hi, rfl, hok, h4, rfl⟩ := h
    obtain ⟨vn, v1, v2, rfl, hn, h1, h2⟩ := DpAll3 hv
    cases h1.int_inv
    cases h2.int_inv
    refine ⟨_, pss_cons (ps_set (i := 3) scNW.nd rfl (Or.inl rfl) (pe_lst pa_nil))
      (pss_cons (ps_for PassesOwn.never rfl (pi_list (pv 0)) (pg_name (i := 4) scNW.nd rfl (Or.inl rfl))
        (pss_one (ps_for PassesOwn.never rfl (pi_range3 (by rfl) gr (pa_cons (pe_ix ix_tup (pv 4) pe_int (fun _ _ => rfl)) (pa_cons (pe_gi g1) (pa_cons (pe_gi g2) pa_nil)))) (pg_name (i := 5) scNW.nd rfl (Or.inl rfl))
          (pss_cons (ps_set (i := 6) scNW.nd rfl (Or.inl rfl) (pe_cal c hr (pa_cons (pv 5) (pa_cons (pe_ix ix_tup (pv 4) pe_int (fun _ _ => rfl)) pa_nil))))
            (pss_one (ps_if (pt_chain op_le op_le (pv 1) (pe_ix ix_tup (pv 6) pe_int (fun _ _ => rfl)) (pv 2))
              (pss_one (ps_expr (pe_bm PySem.F.plainAttrs_list PySem.F.slot_list_append PySem.F.type_list_append mt_append (pv 3) (pa_cons (pv 6) pa_nil)))) pss_nil))))))
      (pss_one (ps_ret (pe_callB (cr_sortedD (enc := encNote) (hu64 hr)) (by rfl) gs (by decide +kernel) (pa_cons (pv 3) pa_nil))))), ?_⟩
    obtain ⟨a, xs, rfl, hs, hd⟩ := hn.lst_inv
    have hlen : xs.length = names.length := by rw [hd.length, List.length_map]
    refine q_asgDL (K := K) (dvl_lst da_nil (by decide)) fun p ys H1 hp e1 h1' hy => ?_
    cases hy
    have bound : ∀ i, ((names.take i).flatMap (Cp05.notesIn (lo, hi))).length ≤ 40 := fun i => by
      have h := flatMap_le (Cp05.notesIn (lo, hi)) 10 (names.take i) fun n hn => by
        rw [notesIn_eq (hok n (List.mem_of_mem_take hn))]
        exact someNotes_le _ n 10
      rw [List.length_take] at h
      omega
    refine q_forLn (xs := xs) (ev_var rfl) (ex_l e1 hs) (fun i σ' H' => ∃ o4 o5 o6 acc, σ' = [some (.ref a), some (.int lo), some (.int hi), some (.ref p), o4, o5, o6] ∧ Ex H H' ∧ H' p = some (.lst acc) ∧ DpAll K H' acc (((names.take i).flatMap (Cp05.notesIn (lo, hi))).map encNote)) (fun H2 e2 => ⟨none, none, none, [], rfl, e1.trans e2, e2 _ _ h1', .nil⟩) (fun i σ' H' _ ⟨_, _, _, _, _, e3, _⟩ => ex_l e3 hs) (fun i x σ' H' hix ⟨o4, o5, o6, acc, eσ, e3, h3, hacc⟩ => ?_) (fun σ' H' ⟨o4, o5, o6, acc, eσ, e3, h3, hacc⟩ => ?_)
    · subst eσ
      obtain ⟨n, hn', hx⟩ := at_map hd hix
      have hnok := hok n (List.mem_of_getElem? hn')
      have hset : (names.take (i + 1)).flatMap (Cp05.notesIn (lo, hi)) = (names.take i).flatMap (Cp05.notesIn (lo, hi)) ++ someNotes (lo, hi) n 10 := by
        rw [List.take_add_one, hn', List.flatMap_append]
        show _ ++ ((Cp05.notesIn (lo, hi) n) ++ []) = _
        rw [List.append_nil, notesIn_eq hnok]
      have hx' := fun (G : Hp) (e : Ex H G) => Dp.mono (K := K) e _ hx
      have hb0 := bound i
      refine s_forR3 (lo := n.1) (hi := 70) (c := 7) (n := 10) (da_cons (dv_ixT (j := 0) (dv_var rfl (hx' _ e3)) dv_int rfl rfl) (da_cons dv_int (da_cons dv_int da_nil))) (rgc_name hnok.1 hnok.2.1)
        (fun j σ' H' => ∃ o5 o6 acc, σ' = [some (.ref a), some (.int lo), some (.int hi), some (.ref p), some x, o5, o6] ∧ Ex H H' ∧ H' p = some (.lst acc) ∧ DpAll K H' acc (((names.take i).flatMap (Cp05.notesIn (lo, hi)) ++ someNotes (lo, hi) n j).map encNote)) (fun H2 e2 => ⟨o5, o6, acc, rfl, e3.trans e2, e2 _ _ h3, ?_⟩) (fun j σ' H' hj ⟨o5, o6, acc, eσ, e4, h4', hacc⟩ => ?_) (fun σ' H' ⟨o5, o6, acc, eσ, e4, h4', hacc⟩ => ?_)
      · rw [someNotes_zero, List.append_nil]
        exact DpAll.mono e2 _ hacc
      · subst eσ
        refine q_asgD (dv_call (d := encNote (noteN n j)) (da_cons (dv_vi rfl) (da_cons (dv_ixT (j := 1) (dv_var rfl (hx' _ e4)) dv_int rfl rfl) da_nil)) ⟨n.1 + (j : Int) * 7, n.2, rfl, by have := hnok.1; omega, by have := hnok.2.1; omega, rfl⟩) fun v H2 e5 hv => ?_
        have hlen2 : acc.length < 100000 := by
          rw [hacc.length, List.length_map, List.length_append]
          have := someNotes_le (lo, hi) n j
          omega
        refine s_when (b := inRange (lo, hi) (noteN n j)) (et_test (ev_bl (dv_chain (dv_vi rfl) (dv_ixT (j := 0) (dv_var rfl hv) dv_int rfl rfl) (dv_vi rfl)))) (fun hb H3 e6 => ?_) (fun hb H3 e6 => ?_)
        · refine s_appD ((e5.trans e6) _ _ h4') (ev_var rfl) (dv_var rfl (Dp.mono e6 _ hv)) hlen2 fun v' H4 e7 hv' => ?_
          have e8 := (e5.trans e6).trans e7
          refine ⟨_, _, acc ++ [v'], rfl, Ex.mut (e4.trans e8) hp, upd_same, ?_⟩
          rw [someNotes_next true (hb.symm), if_pos rfl, ← List.append_assoc, List.map_append]
          exact DpAll.grow (e8 _ _ h4') (noListAll_map nl_note _) (nl_note _) (DpAll.mono e8 _ hacc) hv'
        · have e8 := e5.trans e6
          refine ⟨_, _, acc, rfl, e4.trans e8, e8 _ _ h4', ?_⟩
          rw [someNotes_next false (hb.symm), if_neg Bool.false_ne_true, List.append_nil]
          exact DpAll.mono e8 _ hacc
      · subst eσ
        refine ⟨_, _, _, acc, rfl, e4, h4', ?_⟩
        rw [hset]
        exact hacc
    · subst eσ
      rw [hlen, List.take_length] at hacc
      refine s_retDL (dvl_is (dvl_sorted (bs := names.flatMap (Cp05.notesIn (lo, hi))) (enc := encNote) (dv_var rfl (.lst (sq_of h3) hacc)) (PySem.W.AllAlike.of fun b b' => ?_) (PySem.W.Sortable.tuples fun b => ⟨_, _, rfl⟩) fun b _ => ?_) (by rw [le_note])) fun q zs H2 hq e2 h2 hz => k q zs H2 (fresh_back e3 hq) (e3.trans e2) h2 hz
      · simp [encNote, PySem.W.alike, PySem.W.alikeAll]
      · simp [encNote, PyData.depth, PyData.depthAll]
theorem scNear : FnScope ["upper", "lower", "apart"] ["upper", "lower", "apart"] (defScope sNear) := ⟨rfl, rfl, rfl, by decide +kernel, rfl, by decide +kernel, by decide +kernel⟩
theorem cal_near (D : Def K mg "is_near_above" sNear) : Cal P w K mg base "is_near_above" 1 ["upper", "lower", "apart"] (SpD K RNear) := by
  refine ok_D D scNear (fun ds d h => ?_) (fun _ _ _ _ _ _ us hl => match us, hl with | [_, _, _], _ => rfl) (fun f cdv A outer s H vs Q E ds d hr hv h k => ?_)
  · obtain ⟨_, _, _, rfl, _⟩ := h
    rfl
  · obtain ⟨u, l, n, rfl, rfl⟩ := h
    obtain ⟨v0, v1, v2, rfl, h0, h1, h2⟩ := DpAll3 hv
    cases h2.int_inv
    refine ⟨_, pss_one (ps_ret (pe_chain op_le op_le pe_int (pe_op op_sub (pe_ix ix_tup (pv 0) pe_int (fun _ _ => rfl)) (pe_ix ix_tup (pv 1) pe_int (fun _ _ => rfl))) (pv 2))), ?_⟩
    refine s_retD (dv_is (dv_chain dv_int (dv_I (dv_ixT (j := 0) (dv_var rfl h0) dv_int rfl rfl) (dv_ixT (j := 0) (dv_var rfl h1) dv_int rfl rfl)) (dv_vi rfl)) ?_) k
    unfold near
    congr 2
    apply decide_eq_decide.mpr
    omega
abbrev nmNA : List Str := ["uppers", "lower", "apart", "upper"]
theorem scNA : FnScope nmNA ["uppers", "lower", "apart"] (defScope sNearAbove) := ⟨rfl, rfl, rfl, by decide +kernel, rfl, by decide +kernel, by decide +kernel⟩
theorem cal_nearAbove (D : Def K mg "near_above" sNearAbove) (c : Cal P w K mg base "is_near_above" 1 ["upper", "lower", "apart"] (SpD K RNear)) : Cal P w K mg base "near_above" 2 ["uppers", "lower", "apart"] (SpDL K RNearAbove) := by
  refine ok_DL D scNA (fun ds d h => ?_) (fun _ _ _ _ _ _ us hl => match us, hl with | [_, _, _], _ => rfl) (fun f cdv A outer s H vs Q E ds es hr hv h k => ?_)
  · obtain ⟨_, _, _, rfl, _⟩ := h
    rfl
  · obtain ⟨us, l, n, rfl, h40, rfl⟩ := h
    obtain ⟨v0, v1, v2, rfl, h0, h1, h2⟩ := DpAll3 hv
    cases h2.int_inv
    refine ⟨_, pss_one (ps_ret (pe_lc (own := [("upper", 3)]) (g := gName 3) rfl scNA.nd (pi_list (pv 0)) (blkOk_by (own := [("upper", 3)]) (N := nmNA) (sc := defScope sNearAbove) (by decide +kernel)) (fun _ _ _ _ _ => pg_name (i := 3) scNA.nd rfl (Or.inl rfl))
      (fun _ _ _ _ _ => pts_one (pt_val (pe_cal c hr (pa_cons (pv 3) (pa_cons (pv 1) (pa_cons (pv 2) pa_nil)))))) (fun _ _ _ _ _ => pv 3))), ?_⟩
    exact s_retDL (dvl_lc (fun u => near n u l) encNote (dv_var rfl h0) (by omega) (fun _ => rfl) (fun x _ => nl_note x) (fun x _ v H1 e hx => dt_B (dv_call (da_cons (dv_var rfl hx) (da_cons (dv_var rfl (Dp.mono e _ h1)) (da_cons (dv_vi rfl) da_nil))) ⟨x, l, n, rfl, rfl⟩)) (fun x _ _ v H1 e hx => dv_var rfl hx)) k
abbrev nmNB : List Str := ["lowers", "upper", "apart", "lower"]
theorem scNB : FnScope nmNB ["lowers", "upper", "apart"] (defScope sNearBelow) := ⟨rfl, rfl, rfl, by decide +kernel, rfl, by decide +kernel, by decide +kernel⟩
theorem cal_nearBelow (D : Def K mg "near_below" sNearBelow) (c : Cal P w K mg base "is_near_above" 1 ["upper", "lower", "apart"] (SpD K RNear)) : Cal P w K mg base "near_below" 2 ["lowers", "upper", "apart"] (SpDL K RNearBelow) := by
  refine ok_DL D scNB (fun ds d h => ?_) (fun _ _ _ _ _ _ us hl => match us, hl with | [_, _, _], _ => rfl) (fun f cdv A outer s H vs Q E ds es hr hv h k => ?_)
  · obtain ⟨_, _, _, rfl, _⟩ := h
    rfl
  · obtain ⟨us, l, n, rfl, h40, rfl⟩ := h
    obtain ⟨v0, v1, v2, rfl, h0, h1, h2⟩ := DpAll3 hv
    cases h2.int_inv
    refine ⟨_, pss_one (ps_ret (pe_lc (own := [("lower", 3)]) (g := gName 3) rfl scNB.nd (pi_list (pv 0)) (blkOk_by (own := [("lower", 3)]) (N := nmNB) (sc := defScope sNearBelow) (by decide +kernel)) (fun _ _ _ _ _ => pg_name (i := 3) scNB.nd rfl (Or.inl rfl))
      (fun _ _ _ _ _ => pts_one (pt_val (pe_cal c hr (pa_cons (pv 1) (pa_cons (pv 3) (pa_cons (pv 2) pa_nil)))))) (fun _ _ _ _ _ => pv 3))), ?_⟩
    exact s_retDL (dvl_lc (fun x => near n l x) encNote (dv_var rfl h0) (by omega) (fun _ => rfl) (fun x _ => nl_note x) (fun x _ v H1 e hx => dt_B (dv_call (da_cons (dv_var rfl (Dp.mono e _ h1)) (da_cons (dv_var rfl hx) (da_cons (dv_vi rfl) da_nil))) ⟨l, x, n, rfl, rfl⟩)) (fun x _ _ v H1 e hx => dv_var rfl hx)) k
end
end Bf

namespace Bf
open PySem PySem.Spec PyProof.Rows L2 Evl
/-! ### d[t], t a tuple of ints that is read -/
def keyI (ns : List Int) : List Key := ns.map Sum.inl
theorem keyI_kV (ns : List Int) : (keyI ns).map kV = ns.map V.int := by
  unfold keyI
  rw [List.map_map]
  rfl
def tDGetS (K : PySem.W.Frag) (td ty : TE) : TE := fun σ H Q => td σ H fun x H1 => ty σ H1 fun y H2 => ∃ a kvs ns v, x = .ref a ∧ H2 a = some (.dT kvs) ∧ Dp K H2 y (tupI ns) ∧ valV kvs (keyI ns) = some v ∧ Q v H2
theorem pe_dgetS {X : Cx} {o i : Expr} {pos : Pos} {td ty : TE} (hu : X.A.units + 1 < cLine) (ho : PE X o td) (hi : PE X i ty) (hs : NoSl i) : PE X (.Subscript o i pos) (tDGetS X.K td ty) := by
  refine ⟨fun pins s σ H Q I h => ?_⟩
  refine subD_of PySem.F.slot_dict_getitem.lookup hs (thn (ho.run pins s σ H _ I h) fun u s1 ⟨x, H1, I1, rx, q1⟩ => thn (hi.run pins s1 σ H1 _ I1 q1) fun iv s2 ⟨y, H2, I2, ry, a, kvs, ns, v, ex, e, hd, l, q2⟩ => ?_)
  subst ex
  obtain rfl : u = Value.ref a := rx
  obtain ⟨b, xs, rfl, hsq, hx⟩ := hd.tup_inv
  have ex := hx.ints
  subst ex
  cases (show iv = Value.ref b from ry)
  obtain ⟨z, hd', xs', rel, dd⟩ := dt_rd I2.hok (.inl e)
  refine ⟨dd.typeIs, ?_⟩
  obtain ⟨w', hw, rw'⟩ := RelO.some_of (v := v) (o := (atKey xs' (keyI ns)).map (·.2)) (by rw [← l]; exact rel.val (keyI ns))
  obtain ⟨p, hp, hp2⟩ := Option.map_eq_some_iff.mp hw
  have hkey : (tupleKind (mixKind X.prog X.w)).is s2.heap (keyI ns) b := by
    obtain ⟨its, r, ⟨o, ho, hc, n, hdt⟩, _⟩ := I2.tuple hsq
    rw [← keyI_kV] at r
    exact ⟨o, its.toArray, n, ho, hc, hdt, by simpa using items_are r⟩
  refine wpAny_getItem_heap (tupleKind_room_in1 hu) hkey dd hp ?_
  rw [hp2]
  exact ⟨v, H2, I2.tok _, rw', q2⟩
section
variable {K : PySem.W.Frag} {H H' : Hp} {σ : L2.St} {te ta tb tv : TE} {d : PyData} {D : Ends} {tz : TS}
theorem dv_dget {a : Addr} {kvs : List (List Key × V)} {ns : List Int} {v : V} (ha : Ev ta σ H (.ref a)) (ho : H a = some (.dT kvs)) (hb : Dv K tb σ H (tupI ns)) (hl : valV kvs (keyI ns) = some v) (hd : Dp K H v d) : Dv K (tDGetS K ta tb) σ H d := fun H1 e _ q =>
  ha H1 e _ fun H2 e2 => hb H2 (e.trans e2) _ fun y H3 e3 hy => ⟨a, kvs, ns, v, rfl, ((e.trans e2).trans e3) _ _ ho, hy, hl, q v H3 (e2.trans e3) (Dp.mono ((e.trans e2).trans e3) _ hd)⟩
/-- o.f = e -/
theorem s_fldD {a C dx : Addr} {fs : List (Str × V)} {f : Str} (hv : Dv K tv σ H d) (ha : Ev ta σ H (.ref a)) (ho : H a = some (.ins C dx fs)) (hc : Cls K C) (hn : NoAttr K C f) (hl : fs.length < 1000)
    (k : ∀ v H1, Ex H H1 → Dp K H1 v d → D.nx σ (upd H1 a (.ins C dx (putF f v fs)))) : sFld K ta tv f D σ H := hv H (Ex.refl H) _ fun v H1 e1 hd => ha H1 e1 _ fun H2 e2 =>
  ⟨a, C, dx, fs, rfl, (e1.trans e2) _ _ ho, hc, hn, hl, k v H2 (e1.trans e2) (Dp.mono e2 _ hd)⟩
theorem s_fldL {ds : List PyData} {a C dx : Addr} {fs : List (Str × V)} {f : Str} (hv : DvL K tv σ H ds) (ha : Ev ta σ H (.ref a)) (ho : H a = some (.ins C dx fs)) (hc : Cls K C) (hn : NoAttr K C f) (hl : fs.length < 1000)
    (k : ∀ p xs H1, H p = none → Ex H H1 → H1 p = some (.lst xs) → DpAll K H1 xs ds → D.nx σ (upd H1 a (.ins C dx (putF f (.ref p) fs)))) : sFld K ta tv f D σ H := hv H (Ex.refl H) _ fun p xs H1 hp e1 h1 hd => ha H1 e1 _ fun H2 e2 =>
  ⟨a, C, dx, fs, rfl, (e1.trans e2) _ _ ho, hc, hn, hl, k p xs H2 hp (e1.trans e2) (e2 _ _ h1) (DpAll.mono e2 _ hd)⟩
theorem q_fldD {a C dx : Addr} {fs : List (Str × V)} {f : Str} (hv : Dv K tv σ H d) (ha : Ev ta σ H (.ref a)) (ho : H a = some (.ins C dx fs)) (hc : Cls K C) (hn : NoAttr K C f) (hl : fs.length < 1000)
    (k : ∀ v H1, Ex H H1 → Dp K H1 v d → tz D σ (upd H1 a (.ins C dx (putF f v fs)))) : tSeq (sFld K ta tv f) tz D σ H := s_fldD (D := { D with nx := tz D }) hv ha ho hc hn hl k
theorem q_fldL {ds : List PyData} {a C dx : Addr} {fs : List (Str × V)} {f : Str} (hv : DvL K tv σ H ds) (ha : Ev ta σ H (.ref a)) (ho : H a = some (.ins C dx fs)) (hc : Cls K C) (hn : NoAttr K C f) (hl : fs.length < 1000)
    (k : ∀ p xs H1, H p = none → Ex H H1 → H1 p = some (.lst xs) → DpAll K H1 xs ds → tz D σ (upd H1 a (.ins C dx (putF f (.ref p) fs)))) : tSeq (sFld K ta tv f) tz D σ H := s_fldL (D := { D with nx := tz D }) hv ha ho hc hn hl k
theorem lk_here {k : Str} {v : V} {r : List (Str × V)} : List.lookup k ((k, v) :: r) = some v := by
  have e : (k == k) = true := beq_self_eq_true k
  simp only [List.lookup, e]
theorem lk_past {k g : Str} {v : V} {r : List (Str × V)} (h : (k == g) = false) : List.lookup k ((g, v) :: r) = List.lookup k r := by
  simp only [List.lookup, h]
theorem put_here {f : Str} {v x : V} {r : List (Str × V)} : putF f v ((f, x) :: r) = (f, v) :: r := if_pos rfl
theorem put_past {f g : Str} {v x : V} {r : List (Str × V)} (h : ¬ g = f) : putF f v ((g, x) :: r) = (g, x) :: putF f v r := if_neg h
/-- a list of ints read, apart from an object at p -/
theorem Dp_cut_ints {p : Addr} {v : V} {ns : List Int} (hp : ∀ xs, ¬ Rd H p (.lst xs)) (h : Dp K H v (.list (ns.map .int))) : Dp K (cutH H p) v (.list (ns.map .int)) := by
  obtain ⟨a, xs, rfl, hs, hd⟩ := h.lst_inv
  have e := hd.ints
  subst e
  refine .lst ?_ (DpAll.ofInts _ _ ns)
  rcases hs with hs | hs
  · have hne : a ≠ p := fun z => hp _ (z ▸ hs)
    refine .inl ?_
    unfold Rd at hs ⊢
    rw [cutH_ne hne]
    exact hs
  · exact .inr hs
theorem no_lst_ins {p C dx : Addr} {fs : List (Str × V)} (h : H p = some (.ins C dx fs)) : ∀ xs, ¬ Rd H p (.lst xs) := fun xs r => by
  rcases r with r | ⟨o, r⟩ <;> rw [h] at r <;> cases r
theorem cutH_upd {a : Addr} {o : HO} (h : H a = none) : Ex (cutH H a) H := fun b u hb => by
  by_cases e : b = a
  · rw [e, cutH_same] at hb; cases hb
  · rw [cutH_ne e] at hb; exact hb
theorem cutH_le {a : Addr} : Ex (cutH H a) H := fun b u hb => by
  by_cases e : b = a
  · rw [e, cutH_same] at hb; cases hb
  · rw [cutH_ne e] at hb; exact hb
end
/-! ### apart from some addresses -/
def cutS (H : Hp) (S : Addr → Bool) : Hp := fun b => if S b = true then none else H b
/-- S is of addresses that are tracked, and hold no tuple -/
def Av (S : Addr → Bool) (H : Hp) : Prop := ∀ b, S b = true → (∃ o, H b = some o) ∧ ∀ xs, ¬ Rd H b (.tup xs)
section
variable {K : PySem.W.Frag} {H H' : Hp} {S : Addr → Bool}
theorem cutS_ne {b : Addr} (h : S b = false) : cutS H S b = H b := if_neg (by rw [h]; exact Bool.false_ne_true)
theorem cutS_in {b : Addr} (h : S b = true) : cutS H S b = none := if_pos h
theorem cutS_le : Ex (cutS H S) H := fun b o hb => by
  cases e : S b with
  | true => rw [cutS_in e] at hb; cases hb
  | false => rw [cutS_ne e] at hb; exact hb
theorem cutS_mono (e : Ex H H') : Ex (cutS H S) (cutS H' S) := fun b o hb => by
  cases z : S b with
  | true => rw [cutS_in z] at hb; cases hb
  | false => rw [cutS_ne z] at hb ⊢; exact e _ _ hb
/-- what is put at an address of S leaves the rest alone -/
theorem cutS_upd {a : Addr} {o : HO} (h : S a = true) : cutS (upd H a o) S = cutS H S := by
  funext b
  cases z : S b with
  | true => rw [cutS_in z, cutS_in z]
  | false =>
    rw [cutS_ne z, cutS_ne z, upd_ne]
    intro e
    rw [e, h] at z
    cases z
theorem cutS_none : cutS H (fun _ => false) = H := rfl
theorem Av.mono (e : Ex H H') (h : Av S H) : Av S H' := fun b hb => by
  obtain ⟨⟨o, ho⟩, hn⟩ := h b hb
  refine ⟨⟨o, e _ _ ho⟩, fun xs r => hn xs ?_⟩
  unfold Rd at r ⊢
  rw [e _ _ ho] at r
  rw [ho]
  exact r
theorem Av.fresh (h : Av S H) {b : Addr} (hb : H b = none) : S b = false := by
  cases z : S b with
  | false => rfl
  | true =>
    obtain ⟨⟨o, ho⟩, _⟩ := h b z
    rw [hb] at ho
    cases ho
theorem Av.upd {a : Addr} {o : HO} (h : Av S H) (ho : ∀ xs, ¬ Rd (upd H a o) a (.tup xs)) : Av S (upd H a o) := fun b hb => by
  by_cases e : b = a
  · rw [e]
    exact ⟨⟨o, upd_same⟩, ho⟩
  · obtain ⟨⟨u, hu⟩, hn⟩ := h b hb
    refine ⟨⟨u, by rw [upd_ne e]; exact hu⟩, fun xs r => hn xs ?_⟩
    unfold Rd at r ⊢
    rw [upd_ne e] at r
    exact r
theorem Av.none : Av (fun _ => false) H := fun _ h => by cases h
theorem cutS_tsame (h : Av S H) : TSame H (cutS H S) := fun b xs hb => by
  cases z : S b with
  | true => exact absurd hb ((h b z).2 xs)
  | false =>
    unfold Rd at hb ⊢
    rw [cutS_ne z]
    exact hb
theorem Dp_cutS (h : Av S H) {v : V} {d : PyData} (n : noList d = true) (hd : Dp K H v d) : Dp K (cutS H S) v d := Dp.monoT (cutS_tsame h) _ n hd
theorem Dp_cutS_list (h : Av S H) {l : Addr} {xs : List V} {ds : List PyData} (hl : S l = false) (e : H l = some (.lst xs)) (n : noListAll ds = true) (hd : DpAll K H xs ds) : Dp K (cutS H S) (.ref l) (.list ds) :=
  .lst (sq_of (by rw [cutS_ne hl]; exact e)) (DpAll.monoT (cutS_tsame h) _ n hd)
end
/-! ### names as data -/
theorem eqv_name (m n : Cp05.Name) : PyData.eqv (encName m) (encName n) = (m == n) := by
  unfold encName
  simp only [PyData.eqv, PyData.eqvAll, Bool.and_true]
  rfl
theorem any_name (l : List Cp05.Name) (n : Cp05.Name) : ((l.map encName).any fun z => PyData.eqv z (encName n)) = l.contains n := by
  rw [List.any_map, List.contains_eq_any_beq]
  congr 1
  funext m
  show PyData.eqv (encName m) (encName n) = (n == m)
  rw [eqv_name, Bool.eq_iff_iff]
  simp only [beq_iff_eq]
  exact eq_comm
theorem shaped_name (n : Cp05.Name) : SeqAt.shaped (encName n) = true := by
  simp [SeqAt.shaped, encName, PyData.canLay0, PyData.canLayAll0, PyData.depth, PyData.depthAll]
theorem names_lay : ∀ l : List Cp05.Name, PyData.canLayAll0 (l.map encName) = true ∧ PyData.depthAll (l.map encName) ≤ 1
  | [] => by simp [PyData.canLayAll0, PyData.depthAll]
  | n :: l => by
    obtain ⟨h1, h2⟩ := names_lay l
    have e : (n :: l).map encName = encName n :: l.map encName := rfl
    rw [e]
    constructor
    · rw [PyData.canLayAll0, h1]
      simp [encName, PyData.canLay0, PyData.canLayAll0]
    · rw [PyData.depthAll]
      have : (encName n).depth = 1 := by simp [encName, PyData.depth, PyData.depthAll]
      omega
theorem shaped_names (l : List Cp05.Name) : SeqAt.shaped (.list (l.map encName)) = true := by
  obtain ⟨h1, h2⟩ := names_lay l
  unfold SeqAt.shaped
  rw [PyData.canLay0, h1, PyData.depth]
  simp
  omega
theorem encName_tup (n : Cp05.Name) : encName n = tupI [n.1, n.2] := rfl
def keyN (n : Cp05.Name) : List Key := keyI [n.1, n.2]
theorem keyN_inj {m n : Cp05.Name} (h : keyN m = keyN n) : m = n := by
  unfold keyN keyI at h
  simp only [List.map_cons, List.map_nil, List.cons.injEq, Sum.inl.injEq, and_true] at h
  exact Prod.ext h.1 h.2
theorem valV_names (g : Cp05.Name → V) : ∀ (l : List Cp05.Name) (n : Cp05.Name), valV (l.map fun m => (keyN m, g m)) (keyN n) = if n ∈ l then some (g n) else none
  | [], n => by simp [valV]
  | m :: l, n => by
    show valV ((keyN m, g m) :: l.map fun m => (keyN m, g m)) (keyN n) = _
    by_cases e : m = n
    · subst e
      rw [valV_pos rfl, if_pos List.mem_cons_self]
    · rw [valV_neg fun h => e (keyN_inj h), valV_names g l n]
      have : (n ∈ m :: l) ↔ n ∈ l := by
        rw [List.mem_cons]
        exact ⟨fun h => h.elim (fun z => absurd z.symm e) id, .inr⟩
      by_cases h : n ∈ l
      · rw [if_pos h, if_pos (this.mpr h)]
      · rw [if_neg h, if_neg fun z => h (this.mp z)]
end Bf

namespace Bf
open PySem PySem.Spec PyProof.Rows L2 Evl
abbrev sChI : Stmt := inClass (top 14) 0
abbrev sHasBass : Stmt := top 15
abbrev sIsName : Stmt := top 16
abbrev sAreNames : Stmt := top 17
def hasBass : List Int → Bool
  | d :: a :: _ => Cp05.isNote ⟨d, a⟩
  | _ => false
def RHasBass (ds : List PyData) (d : PyData) : Prop := ∃ ns : List Int, ds = [.list (ns.map .int)] ∧ d = .bool (hasBass ns)
def RIsName (ds : List PyData) (d : PyData) : Prop := ∃ s a m, ds = [.int s, .int a, .int m] ∧ d = .bool (okThree s a m)
def RAreNames (ds : List PyData) (d : PyData) : Prop := ∃ ns : List Int, ds = [.list (ns.map .int)] ∧ d = .bool (decide (namesOk ns))
theorem int_at {ns : List Int} {j : Nat} {z : Int} (h : ns[j]? = some z) : (ns.map PyData.int)[j]? = some (.int z) := by rw [List.getElem?_map, h] <;> rfl
theorem getD_at {ns : List Int} {j : Nat} (h : j < ns.length) : ns[j]? = some (ns.getD j 0) := by
  rw [List.getD_eq_getElem?_getD, List.getElem?_eq_getElem h] <;> rfl
section
variable {P : Program} {w : World} {K : PySem.W.Frag} {mg : Str → Option Value} {base : Heap}
theorem scHasBass : FnScope ["numbers"] ["numbers"] (defScope sHasBass) := ⟨rfl, rfl, rfl, by decide +kernel, rfl, by decide +kernel, by decide +kernel⟩
theorem cal_hasBass (D : Def K mg "has_bass" sHasBass) (gl : mg "len" = none) (c : Cal P w K mg base "is_note" 2 ["step", "alteration"] (SpD K RIsNote)) : Cal P w K mg base "has_bass" 3 ["numbers"] (SpD K RHasBass) := by
  refine ok_D D scHasBass (fun ds d h => ?_) (fun _ _ _ _ _ _ us hl => match us, hl with | [_], _ => rfl) (fun f cdv A outer s H vs Q E ds d hr hv h k => ?_)
  · obtain ⟨_, rfl, _⟩ := h
    rfl
  · obtain ⟨ns, rfl, rfl⟩ := h
    obtain ⟨v, rfl, hn⟩ := DpAll1 hv
    refine ⟨_, pss_one (ps_ret (pe_and (pe_cmpR op_ge (pe_callB call_len_seq (by rfl) gl PySem.boot_len (pa_cons (pv 0) pa_nil)) pe_int (nomark _))
      (pe_one (pe_cal c hr (pa_cons (pe_ix ix_list (pv 0) pe_int (fun _ _ => rfl)) (pa_cons (pe_ix ix_list (pv 0) pe_int (fun _ _ => rfl)) pa_nil)))))), ?_⟩
    refine s_retD (dv_is (dv_and (b := hasBass ns) (dv_B (dv_len (dv_var rfl hn)) dv_int) fun hl => ?_) ?_) k
    · match ns, hl, hn with
      | d :: a :: r, _, hn => exact dv_call (da_cons (dv_ixL (j := 0) (dv_var rfl hn) dv_int rfl rfl) (da_cons (dv_ixL (j := 1) (dv_var rfl hn) dv_int rfl rfl) da_nil)) ⟨d, a, rfl, rfl⟩
      | [], hl, _ => exact absurd hl (by decide)
      | [_], hl, _ => exact absurd hl (by simp)
    · congr 1
      match ns with
      | d :: a :: r =>
        have e : decide ((2 : Int) ≤ (((d :: a :: r).map PyData.int).length : Int)) = true := by
          apply decide_eq_true
          simp only [List.length_map, List.length_cons]
          omega
        rw [e]
        rfl
      | [] => rfl
      | [_] => rfl
theorem scIsName : FnScope ["step", "alteration", "may_lack"] ["step", "alteration", "may_lack"] (defScope sIsName) := ⟨rfl, rfl, rfl, by decide +kernel, rfl, by decide +kernel, by decide +kernel⟩
theorem cal_isName (D : Def K mg "is_name" sIsName) (g : Gi mg "OCTAVE_STEPS" 7) (c : Cal P w K mg base "is_alteration" 1 ["alteration"] (SpD K RIsAlt)) : Cal P w K mg base "is_name" 2 ["step", "alteration", "may_lack"] (SpD K RIsName) := by
  refine ok_D D scIsName (fun ds d h => ?_) (fun _ _ _ _ _ _ us hl => match us, hl with | [_, _, _], _ => rfl) (fun f cdv A outer s H vs Q E ds d hr hv h k => ?_)
  · obtain ⟨_, _, _, rfl, _⟩ := h
    rfl
  · obtain ⟨st, a, m, rfl, rfl⟩ := h
    have e : vs = [.int st, .int a, .int m] := DpAll.ints (ns := [st, a, m]) hv
    subst e
    refine ⟨_, pss_one (ps_ret (pe_and (pe_chain op_le op_lt pe_int (pv 0) (pe_gi g)) (pe_and (pe_cal c hr (pa_cons (pv 1) pa_nil)) (pe_one (pe_chain op_le op_le pe_int (pv 2) pe_int))))), ?_⟩
    refine s_retD (dv_is (dv_and (dv_chain dv_int (dv_vi rfl) dv_int) fun _ => dv_and (dv_call (da_cons (dv_vi rfl) da_nil) ⟨a, rfl, rfl⟩) fun _ => dv_chain dv_int (dv_vi rfl) dv_int) ?_) k
    unfold okThree Cp05.isIn isAlt
    have e : decide (st < 7) = decide (st ≤ 6) := decide_eq_decide.mpr (by omega)
    rw [e]
abbrev nmAN : List Str := ["numbers", "seen", "k", "name"]
theorem scAN : FnScope nmAN ["numbers"] (defScope sAreNames) := ⟨rfl, rfl, rfl, by decide +kernel, rfl, by decide +kernel, by decide +kernel⟩
theorem rgc_three {i j : Int} {n : Nat} (hi : i = 0 ∨ i = 2) (hn : n ≤ 4) (hj : j = i + 3 * (n : Int)) : RgC i j 3 n := by
  have h : n = 0 ∨ n = 1 ∨ n = 2 ∨ n = 3 ∨ n = 4 := by omega
  subst hj
  refine ⟨by decide, by decide, ?_, ?_⟩ <;> rcases hi with rfl | rfl <;> rcases h with rfl | rfl | rfl | rfl | rfl <;> decide
theorem cal_areNames (D : Def K mg "are_names" sAreNames) (gl : mg "len" = none) (gr : mg "range" = none) (g : Gi mg "MOST_NAMES" 4) (c : Cal P w K mg base "is_name" 2 ["step", "alteration", "may_lack"] (SpD K RIsName)) : Cal P w K mg base "are_names" 3 ["numbers"] (SpD K RAreNames) := by
  refine ok_D D scAN (fun ds d h => ?_) (fun _ _ _ _ _ _ us hl => match us, hl with | [_], _ => rfl) (fun f cdv A outer s H vs Q E ds d hr hv h k => ?_)
  · obtain ⟨_, rfl, _⟩ := h
    rfl
  · obtain ⟨ns, rfl, rfl⟩ := h
    obtain ⟨v, rfl, hn⟩ := DpAll1 hv
    refine ⟨_, pss_cons (ps_if (PW.pt (pw_or (pt_cmpR op_ne (pe_op op_mod (pe_callB call_len_seq (by rfl) gl PySem.boot_len (pa_cons (pv 0) pa_nil)) pe_int) pe_int (nomark _))
        (pw_or1 (pt_not (pt_chain op_le op_le pe_int (pe_callB call_len_seq (by rfl) gl PySem.boot_len (pa_cons (pv 0) pa_nil)) (pe_op op_mul pe_int (pe_gi g))))))) (pss_one (ps_ret pe_bl)) pss_nil)
      (pss_cons (ps_set (i := 1) scAN.nd rfl (Or.inl rfl) (pe_lst pa_nil))
      (pss_cons (ps_for PassesOwn.never rfl (pi_range3 (by rfl) gr (pa_cons pe_int (pa_cons (pe_callB call_len_seq (by rfl) gl PySem.boot_len (pa_cons (pv 0) pa_nil)) (pa_cons pe_int pa_nil)))) (pg_name (i := 2) scAN.nd rfl (Or.inl rfl))
        (pss_cons (ps_set (i := 3) scAN.nd rfl (Or.inl rfl) (pe_tup (pa_cons (pe_ix ix_list (pv 0) (pv 2) (fun _ _ => rfl)) (pa_cons (pe_ix ix_list (pv 0) (pe_op op_add (pv 2) pe_int) (fun _ _ => rfl)) pa_nil))))
        (pss_cons (ps_if (PW.pt (pw_or (pt_cmpR (op_inD (hu65 hr)) (pv 3) (pv 1) (by rfl))
            (pw_or1 (pt_not (pt_val (pe_cal c hr (pa_cons (pe_ix ix_list (pv 0) (pv 2) (fun _ _ => rfl)) (pa_cons (pe_ix ix_list (pv 0) (pe_op op_add (pv 2) pe_int) (fun _ _ => rfl)) (pa_cons (pe_ix ix_list (pv 0) (pe_op op_add (pv 2) pe_int) (fun _ _ => rfl)) pa_nil)))))))))
          (pss_one (ps_ret pe_bl)) pss_nil)
        (pss_one (ps_expr (pe_bm PySem.F.plainAttrs_list PySem.F.slot_list_append PySem.F.type_list_append mt_append (pv 1) (pa_cons (pv 3) pa_nil)))))))
      (pss_one (ps_ret pe_bl)))), ?_⟩
    have hlen : ((ns.map PyData.int).length : Int) = (ns.length : Int) := by rw [List.length_map]
    have h3 : ∀ j, j < ns.length → (ns.map PyData.int)[j]? = some (.int (ns.getD j 0)) := fun j hj => int_at (getD_at hj)
    refine q_when (b := !decide ((ns.length : Int) % 3 = 0) || !(decide ((3 : Int) ≤ (ns.length : Int)) && decide ((ns.length : Int) ≤ 12)))
      (et_or (dt_test (dv_is (dv_neI (dv_IC (dv_len (dv_var rfl hn)) dv_int (by decide)) dv_int) (by rw [hlen]))) fun _ => et_not (dt_test (dv_is (dv_chain dv_int (dv_len (dv_var rfl hn)) (dv_IC dv_int dv_int (.inl ⟨by decide, by decide⟩))) (by rw [hlen]; rfl))))
      (fun hb H1 e1 => ?_) (fun hb H1 e1 => ?_)
    · refine s_retD (dv_is dv_bl ?_) fun v' H2 e2 hd => k v' H2 (e1.trans e2) hd
      rw [decide_eq_false]
      rintro ⟨a1, a2, a3, _⟩
      simp only [Bool.or_eq_true, Bool.not_eq_true', decide_eq_false_iff_not, Bool.and_eq_false_iff] at hb
      omega
    · simp only [Bool.or_eq_false_iff, Bool.not_eq_false', decide_eq_true_eq, Bool.and_eq_true] at hb
      obtain ⟨b1, b2, b3⟩ := hb
      have hT : (threesI ns).length = ns.length / 3 := threesI_len ns
      refine q_asgDL (K := K) (dvl_lst da_nil (by decide)) fun p ys H2 hp e2 h2 hy => ?_
      cases hy
      have hn2 := fun (G : Hp) (e : Ex H G) => Dp.mono (K := K) e _ hn
      have e12 := e1.trans e2
      have hpH : H p = none := fresh_back e1 hp
      refine q_forR3 (lo := 0) (hi := (ns.length : Int)) (c := 3) (n := ns.length / 3) (da_cons dv_int (da_cons (dv_is (dv_len (dv_var rfl (hn2 _ e12))) (by rw [hlen])) (da_cons dv_int da_nil))) (rgc_three (.inl rfl) (by omega) (by omega))
        (fun i σ' H' => ∃ o2 o3 acc, σ' = [some v, some (.ref p), o2, o3] ∧ Ex H H' ∧ H' p = some (.lst acc) ∧ DpAll K H' acc ((((threesI ns).take i).map nm).map encName) ∧ (((threesI ns).take i).all fun t => okThree t.1 t.2.1 t.2.2) = true ∧ (((threesI ns).take i).map nm).Nodup)
        (fun H3 e3 => ⟨none, none, [], rfl, e12.trans e3, e3 _ _ h2, .nil, rfl, List.nodup_nil⟩) (fun i σ' H' hi ⟨o2, o3, acc, eσ, e3, h3', hacc, hall, hnd⟩ => ?_) (fun σ' H' ⟨o2, o3, acc, eσ, e3, h3', hacc, hall, hnd⟩ => ?_)
      · subst eσ
        have ht := threesI_at ns i (by omega)
        have j0 : (ns.map PyData.int)[3 * i]? = some (.int (ns.getD (3 * i) 0)) := h3 _ (by omega)
        have j1 : (ns.map PyData.int)[3 * i + 1]? = some (.int (ns.getD (3 * i + 1) 0)) := h3 _ (by omega)
        have j2 : (ns.map PyData.int)[3 * i + 2]? = some (.int (ns.getD (3 * i + 2) 0)) := h3 _ (by omega)
        generalize ns.getD (3 * i) 0 = d at ht j0
        generalize ns.getD (3 * i + 1) 0 = a at ht j1
        generalize ns.getD (3 * i + 2) 0 = m at ht j2
        refine q_asgD (d := encName (d, a)) (dv_tup (da_cons (dv_ixL (j := 3 * i) (dv_var rfl (hn2 _ e3)) (dv_vi rfl) (by omega) j0) (da_cons (dv_ixL (j := 3 * i + 1) (dv_var rfl (hn2 _ e3)) (dv_I (dv_vi rfl) dv_int) (by omega) j1) da_nil)) (by show 2 ≤ 100000; decide)) fun v3 H4 e4 hv3 => ?_
        have e34 := e3.trans e4
        have htake : (threesI ns).take (i + 1) = (threesI ns).take i ++ [(d, a, m)] := by rw [List.take_add_one, ht] <;> rfl
        refine q_when (b := (((threesI ns).take i).map nm).contains (d, a) || !okThree d a m)
          (et_or (dt_test (dv_is (dv_inD (dv_var rfl hv3) (dv_var rfl (.lst (sq_of (e4 _ _ h3')) (DpAll.mono e4 _ hacc))) (shaped_name _) (shaped_names _)) (by rw [any_name]))) fun _ => et_not (dt_B (dv_call (da_cons (dv_ixL (j := 3 * i) (dv_var rfl (hn2 _ e34)) (dv_vi rfl) (by omega) j0) (da_cons (dv_ixL (j := 3 * i + 1) (dv_var rfl (hn2 _ e34)) (dv_I (dv_vi rfl) dv_int) (by omega) j1) (da_cons (dv_ixL (j := 3 * i + 2) (dv_var rfl (hn2 _ e34)) (dv_I (dv_vi rfl) dv_int) (by omega) j2) da_nil))) ⟨d, a, m, rfl, rfl⟩)))
          (fun hb H5 e5 => ?_) (fun hb H5 e5 => ?_)
        · refine s_retD (dv_is dv_bl ?_) fun v' H6 e6 hd => k v' H6 ((e34.trans e5).trans e6) hd
          rw [decide_eq_false]
          rintro ⟨_, _, _, a4, a5⟩
          have hmem : (d, a, m) ∈ threesI ns := List.mem_of_getElem? ht
          rw [Bool.or_eq_true] at hb
          rcases hb with hb | hb
          · have a6 : (((threesI ns).take (i + 1)).map nm).Nodup := by
              refine List.Nodup.sublist ?_ a5
              exact (List.take_sublist _ _).map nm
            rw [htake, List.map_append, List.nodup_append] at a6
            exact a6.2.2 (d, a) (by simpa using hb) (d, a) (by simp [nm]) rfl
          · have := List.all_eq_true.mp a4 _ hmem
            rw [Bool.not_eq_true'] at hb
            rw [show okThree d a m = true from this] at hb
            cases hb
        · rw [Bool.or_eq_false_iff, Bool.not_eq_false'] at hb
          have hlen2 : acc.length < 100000 := by
            rw [hacc.length, List.length_map, List.length_map, List.length_take]
            omega
          refine s_appD ((e4.trans e5) _ _ h3') (ev_var rfl) (dv_var rfl (Dp.mono e5 _ hv3)) hlen2 fun v' H6 e6 hv' => ?_
          have e8 := (e4.trans e5).trans e6
          refine ⟨_, _, acc ++ [v'], rfl, Ex.mut (e3.trans e8) hpH, upd_same, ?_, ?_, ?_⟩
          · rw [htake, List.map_append, List.map_append]
            exact DpAll.grow (e8 _ _ h3') (noListAll_map nl_name _) (nl_name _) (DpAll.mono e8 _ hacc) hv'
          · rw [htake, List.all_append, hall]
            simp [hb.2]
          · rw [htake, List.map_append, List.nodup_append]
            refine ⟨hnd, by simp, fun x hx y hy => ?_⟩
            have : y = (d, a) := by simpa [nm] using hy
            subst this
            rintro rfl
            have := hb.1
            rw [← Bool.not_eq_true] at this
            exact this (by simpa using hx)
      · subst eσ
        rw [← hT, List.take_length] at hall hnd
        refine s_retD (dv_is dv_bl ?_) fun v' H6 e6 hd => k v' H6 (e3.trans e6) hd
        rw [decide_eq_true]
        exact ⟨by omega, by omega, by omega, hall, hnd⟩
end
end Bf

namespace Bf
open PySem PySem.Spec PyProof.Rows L2 Evl
/-! ### a chord in the heap -/
structure ChTxt (K : PySem.W.Frag) (C : Addr) : Prop where
  cl : Cls K C
  nB : NoAttr K C "bass"
  nN : NoAttr K C "names"
  nM : NoAttr K C "may_lack"
def chF (vb : V) (ln ld : Addr) : List (Str × V) := [("bass", vb), ("names", .ref ln), ("may_lack", .ref ld)]
theorem chF_bass (vb : V) (ln ld : Addr) : (chF vb ln ld).lookup ("bass" : Str) = some vb := lk_here
theorem chF_names (vb : V) (ln ld : Addr) : (chF vb ln ld).lookup ("names" : Str) = some (.ref ln) := (lk_past (by decide +kernel)).trans lk_here
theorem chF_may (vb : V) (ln ld : Addr) : (chF vb ln ld).lookup ("may_lack" : Str) = some (.ref ld) := (lk_past (by decide +kernel)).trans ((lk_past (by decide +kernel)).trans lk_here)
def mayK (c : Cp05.Chord) : List (List Key × V) := c.names.map fun n => (keyN n, V.bl (c.may.contains n))
def ChAt (K : PySem.W.Frag) (C : Addr) (H : Hp) (a : Addr) (c : Cp05.Chord) : Prop := ∃ dx vb ln ld xs, H a = some (.ins C dx (chF vb ln ld)) ∧ Dp K H vb (encNote c.bass) ∧ H ln = some (.lst xs) ∧ DpAll K H xs (c.names.map encName) ∧ H ld = some (.dT (mayK c))
theorem ChAt.mono {K : PySem.W.Frag} {C a : Addr} {H H' : Hp} {c : Cp05.Chord} (e : Ex H H') (h : ChAt K C H a c) : ChAt K C H' a c := by
  obtain ⟨dx, vb, ln, ld, xs, h1, h2, h3, h4, h5⟩ := h
  exact ⟨dx, vb, ln, ld, xs, e _ _ h1, Dp.mono e _ h2, e _ _ h3, DpAll.mono e _ h4, e _ _ h5⟩
/-- what holds of each chord that is taken -/
structure ChOk (c : Cp05.Chord) : Prop where
  ok : ∀ n ∈ c.names, okName n
  few : c.names.length ≤ 4
  nd : c.names.Nodup
  bass : Cp05.isNote c.bass = true
theorem chordOf_ok {d a : Int} {r : List Int} (hb : Cp05.isNote ⟨d, a⟩ = true) (h : namesOk r) : ChOk (chordOf d a r) := by
  obtain ⟨h1, h2, h3, h4, h5⟩ := h
  refine ⟨fun n hn => ?_, ?_, h5, hb⟩
  · obtain ⟨t, ht, rfl⟩ := List.mem_map.mp hn
    have := List.all_eq_true.mp h4 t ht
    unfold okThree Cp05.isIn at this
    simp only [Bool.and_eq_true, decide_eq_true_eq] at this
    exact ⟨this.1.1, this.1.2, this.2.1.1, this.2.1.2⟩
  · show ((threesI r).map nm).length ≤ 4
    rw [List.length_map, threesI_len]
    omega
theorem may_of {l : List (Int × Int × Int)} (hn : (l.map nm).Nodup) {t : Int × Int × Int} (ht : t ∈ l) : ((l.filter fun t => t.2.2 == 1).map nm).contains (nm t) = (t.2.2 == 1) := by
  rw [Bool.eq_iff_iff]
  simp only [List.contains_iff_mem, List.mem_map, List.mem_filter]
  constructor
  · rintro ⟨u, ⟨hu, h1⟩, e⟩
    have : u = t := by
      obtain ⟨i, hi, rfl⟩ := List.getElem_of_mem hu
      obtain ⟨j, hj, rfl⟩ := List.getElem_of_mem ht
      have hij : i = j := by
        refine nd_ix hn (i := i) (j := j) (x := nm l[j]) ?_ ?_
        · rw [List.getElem?_map, List.getElem?_eq_getElem hi]
          exact congrArg some e
        · rw [List.getElem?_map, List.getElem?_eq_getElem hj] <;> rfl
      subst hij
      rfl
    rw [← this]
    exact h1
  · intro h
    exact ⟨t, ⟨ht, h⟩, rfl⟩
theorem mayK_chord {d a : Int} {r : List Int} (h : namesOk r) : mayK (chordOf d a r) = (threesI r).map fun t => (keyN (nm t), V.bl (t.2.2 == 1)) := by
  unfold mayK chordOf
  rw [List.map_map]
  apply List.map_congr_left
  intro t ht
  show (keyN (nm t), V.bl (((threesI r).filter fun t => t.2.2 == 1).map nm |>.contains (nm t))) = _
  rw [may_of h.2.2.2.2 ht]
theorem mayK_get {c : Cp05.Chord} {n : Cp05.Name} (h : n ∈ c.names) : valV (mayK c) (keyN n) = some (.bl (c.may.contains n)) := by
  unfold mayK
  rw [valV_names (fun n => V.bl (c.may.contains n)), if_pos h]
/-! ### Chord.__init__ -/
def spChI (K : PySem.W.Frag) (C : Addr) : Sp := fun vs H Q _ => ∃ (p dx : Addr) (v : V) (d a : Int) (r : List Int), vs = [.ref p, v] ∧ H p = some (.ins C dx []) ∧ Dp K H v (.list ((d :: a :: r).map .int)) ∧ Cp05.isNote ⟨d, a⟩ = true ∧ namesOk r ∧
  ∀ H', (∀ S, Av S H → S p = false → ChAt K C (cutS H' S) p (chordOf d a r)) → Ex (cutH H p) H' → Q .non H'
section
variable {P : Program} {w : World} {K : PySem.W.Frag} {mg : Str → Option Value} {base : Heap} {C : Addr}
abbrev nmCI : List Str := ["self", "numbers", "k", "name"]
theorem scCI : FnScope nmCI ["self", "numbers"] (defScope sChI) := ⟨rfl, rfl, rfl, by decide +kernel, rfl, by decide +kernel, by decide +kernel⟩
theorem chF_1 (vb : V) : putF "bass" vb [] = [(("bass" : Str), vb)] := rfl
theorem chF_2 (vb v : V) : putF "names" v [(("bass" : Str), vb)] = [(("bass" : Str), vb), ("names", v)] := (put_past (by decide +kernel)).trans rfl
theorem chF_3 (vb : V) (ln ld : Addr) : putF "may_lack" (.ref ld) [(("bass" : Str), vb), ("names", .ref ln)] = chF vb ln ld := (put_past (by decide +kernel)).trans (congrArg _ ((put_past (by decide +kernel)).trans rfl))
theorem Ex_upd2 {G H : Hp} {a : Addr} {o : HO} (e : Ex G H) (h : G a = none) : Ex G (upd H a o) := Ex.mut e h
theorem ok_chI {f : Addr} {fd : FuncData} (F : Fun K "__init__" "Chord.__init__" sChI f fd) (T : ChTxt K C) (gl : mg "len" = none) (gr : mg "range" = none) (c : Cal P w K mg base "make_note" 2 ["step", "alteration"] (SpD K RMake)) : FnOk P w K mg base CX0 3 f fd ["self", "numbers"] (spChI K C) := by
  refine F.ok scCI (fun vs H Q E h => ?_) (fun cdv A outer s H vs Q E hr h => ?_)
  · obtain ⟨_, _, _, _, _, _, rfl, _⟩ := h
    rfl
  · obtain ⟨p, dx, v, d, a, r, rfl, hp, hv, hb, hno, k⟩ := h
    refine ⟨_, pss_cons (ps_fld (pv 0) (pe_cal c hr (pa_cons (pe_ix ix_list (pv 1) pe_int (fun _ _ => rfl)) (pa_cons (pe_ix ix_list (pv 1) pe_int (fun _ _ => rfl)) pa_nil))) rfl)
      (pss_cons (ps_fld (pv 0) (pe_lst pa_nil) rfl)
      (pss_cons (ps_fld (pv 0) pe_dnewT rfl)
      (pss_one (ps_for PassesOwn.never rfl (pi_range3 (by rfl) gr (pa_cons pe_int (pa_cons (pe_callB call_len_seq (by rfl) gl PySem.boot_len (pa_cons (pv 1) pa_nil)) (pa_cons pe_int pa_nil)))) (pg_name (i := 2) scCI.nd rfl (Or.inl rfl))
        (pss_cons (ps_set (i := 3) scCI.nd rfl (Or.inl rfl) (pe_tup (pa_cons (pe_ix ix_list (pv 1) (pv 2) (fun _ _ => rfl)) (pa_cons (pe_ix ix_list (pv 1) (pe_op op_add (pv 2) pe_int) (fun _ _ => rfl)) pa_nil))))
        (pss_cons (ps_expr (pe_bm PySem.F.plainAttrs_list PySem.F.slot_list_append PySem.F.type_list_append mt_append (pe_fld (pv 0) rfl) (pa_cons (pv 3) pa_nil)))
        (pss_one (ps_dput (hu_of hr) (pe_fld (pv 0) rfl) (pv 3) (pe_cmpR op_eq (pe_ix ix_list (pv 1) (pe_op op_add (pv 2) pe_int) (fun _ _ => rfl)) pe_int (nomark _)) rfl)))))))), ?_⟩
    -- the base: all but the object itself
    have hv0 : Dp K (cutH H p) v (.list ((d :: a :: r).map .int)) := Dp_cut_ints (no_lst_ins hp) hv
    have hlen : ((((d :: a :: r).map PyData.int).length : Nat) : Int) = (r.length : Int) + 2 := by
      simp only [List.length_map, List.length_cons]
      omega
    obtain ⟨n1, n2, n3, n4, n5⟩ := hno
    have hb' : 0 ≤ d ∧ d < 70 := by
      unfold Cp05.isNote Cp05.STEPS at hb
      simp only [Bool.and_eq_true, decide_eq_true_eq] at hb
      omega
    refine q_fldD (dv_call (d := encNote ⟨d, a⟩) (da_cons (dv_ixL (j := 0) (dv_var rfl hv) dv_int rfl rfl) (da_cons (dv_ixL (j := 1) (dv_var rfl hv) dv_int rfl rfl) da_nil)) ⟨d, a, rfl, hb'.1, by omega, rfl⟩) (ev_var rfl) hp T.cl T.nB (by show 0 < 1000; decide) fun vb H1 e1 hvb => ?_
    rw [chF_1]
    have eG1 : Ex (cutH H p) (upd H1 p (.ins C dx [(("bass" : Str), vb)])) := Ex.mut (cutH_le.trans e1) (cutH_same _ _)
    have hb1 : Dp K (upd H1 p (.ins C dx [(("bass" : Str), vb)])) vb (encNote ⟨d, a⟩) := Dp.monoT (TSame.upd (no_tup_ins (e1 _ _ hp))) _ (nl_note _) hvb
    refine q_fldL (ds := []) (dvl_lst da_nil (by decide)) (ev_var rfl) upd_same T.cl T.nN (by show 1 < 1000; decide) fun ln ys H2 hln e2 h2 hy => ?_
    cases hy
    rw [chF_2]
    have hlnp : ln ≠ p := fun z => by rw [z, upd_same] at hln; cases hln
    have hp2 : H2 p = some (.ins C dx [(("bass" : Str), vb)]) := e2 _ _ upd_same
    have eG2 : Ex (cutH H p) (upd H2 p (.ins C dx [(("bass" : Str), vb), ("names", .ref ln)])) := Ex.mut (eG1.trans e2) (cutH_same _ _)
    have hb2 : Dp K (upd H2 p (.ins C dx [(("bass" : Str), vb), ("names", .ref ln)])) vb (encNote ⟨d, a⟩) := Dp.monoT (TSame.upd (no_tup_ins hp2)) _ (nl_note _) (Dp.mono e2 _ hb1)
    -- self.may_lack = {}
    intro ld hld
    refine ⟨_, rfl, p, C, dx, _, rfl, (Ex.new hld) _ _ upd_same, T.cl, T.nM, (by show 2 < 1000; decide), ?_⟩
    rw [chF_3]
    have hldp : ld ≠ p := fun z => by rw [z, upd_same] at hld; cases hld
    have hldl : ld ≠ ln := fun z => by rw [z, upd_ne hlnp] at hld; rw [h2] at hld; cases hld
    have hGln : cutH H p ln = none := fresh_back eG1 hln
    have hGld : cutH H p ld = none := fresh_back eG2 hld
    obtain ⟨H3, hH3⟩ : ∃ H3, H3 = upd (upd (upd H2 p (.ins C dx [(("bass" : Str), vb), ("names", .ref ln)])) ld (.dT [])) p (.ins C dx (chF vb ln ld)) := ⟨_, rfl⟩
    rw [← hH3]
    have e3p : H3 p = some (.ins C dx (chF vb ln ld)) := by rw [hH3]; exact upd_same
    have e3ln : H3 ln = some (.lst []) := by rw [hH3, upd_ne hlnp, upd_ne hldl.symm, upd_ne hlnp]; exact h2
    have e3ld : H3 ld = some (.dT []) := by rw [hH3, upd_ne hldp]; exact upd_same
    have eG3 : Ex (cutH H p) H3 := by rw [hH3]; exact Ex.mut (Ex.mut eG2 hGld) (cutH_same _ _)
    have hb3 : Dp K H3 vb (encNote ⟨d, a⟩) := by
      rw [hH3]
      refine Dp.monoT (TSame.upd (no_tup_ins (C := C) (dx := dx) (fs := [(("bass" : Str), vb), ("names", .ref ln)]) ?_)) _ (nl_note _) (Dp.mono (Ex.new hld) _ hb2)
      rw [upd_ne hldp.symm]
      exact upd_same
    have hT : (threesI r).length = r.length / 3 := threesI_len r
    refine s_forR3 (lo := 2) (hi := (r.length : Int) + 2) (c := 3) (n := r.length / 3) (da_cons dv_int (da_cons (dv_is (dv_len (dv_var rfl (Dp.mono eG3 _ hv0))) (by rw [hlen])) (da_cons dv_int da_nil))) (rgc_three (.inr rfl) (by omega) (by omega))
      (fun i σ' H' => ∃ o2 o3 xs, σ' = [some (.ref p), some v, o2, o3] ∧ Ex (cutH H p) H' ∧ H' p = some (.ins C dx (chF vb ln ld)) ∧ Dp K H' vb (encNote ⟨d, a⟩) ∧ H' ln = some (.lst xs) ∧ DpAll K H' xs ((((threesI r).take i).map nm).map encName) ∧ H' ld = some (.dT (((threesI r).take i).map fun t => (keyN (nm t), V.bl (t.2.2 == 1)))))
      (fun H4 e4 => ⟨none, none, [], rfl, eG3.trans e4, e4 _ _ e3p, Dp.mono e4 _ hb3, e4 _ _ e3ln, .nil, e4 _ _ e3ld⟩) (fun i σ' H' hi ⟨o2, o3, xs, eσ, eG, q1, q2, q3, q4, q5⟩ => ?_) (fun σ' H' ⟨o2, o3, xs, eσ, eG, q1, q2, q3, q4, q5⟩ => ?_)
    · subst eσ
      have ht := threesI_at r i (by omega)
      have h3 : ∀ j, j < r.length → ((d :: a :: r).map PyData.int)[j + 2]? = some (.int (r.getD j 0)) := fun j hj => int_at (ns := r) (getD_at hj)
      have j0 : ((d :: a :: r).map PyData.int)[3 * i + 2]? = some (.int (r.getD (3 * i) 0)) := h3 _ (by omega)
      have j1 : ((d :: a :: r).map PyData.int)[3 * i + 1 + 2]? = some (.int (r.getD (3 * i + 1) 0)) := h3 _ (by omega)
      have j2 : ((d :: a :: r).map PyData.int)[3 * i + 2 + 2]? = some (.int (r.getD (3 * i + 2) 0)) := h3 _ (by omega)
      generalize r.getD (3 * i) 0 = x at ht j0
      generalize r.getD (3 * i + 1) 0 = y at ht j1
      generalize r.getD (3 * i + 2) 0 = m at ht j2
      have hv' := Dp.mono eG _ hv0
      have htake : (threesI r).take (i + 1) = (threesI r).take i ++ [(x, y, m)] := by rw [List.take_add_one, ht] <;> rfl
      -- name = (numbers[k], numbers[k + 1]): a tuple that is tracked
      refine q_asgU (xs := [.int x, .int y]) (eu_tup (ea_cons (ev_int (dv_ixL (j := 3 * i + 2) (dv_var rfl hv') (dv_vi rfl) (by omega) j0)) (ea_cons (ev_int (dv_ixL (j := 3 * i + 1 + 2) (dv_var rfl hv') (dv_I (dv_vi rfl) dv_int) (by omega) j1)) ea_nil)) (by show 2 ≤ 100000; decide)) fun b H4 hb4 e4 h4 => ?_
      have hnameD : Dp K H4 (.ref b) (encName (x, y)) := .tup (st_of h4) (.cons (.int x) (.cons (.int y) .nil))
      refine q_appD (d := encName (x, y)) (e4 _ _ q3) (ev_fld (ev_var rfl) (e4 _ _ q1) T.cl T.nN (chF_names _ _ _)) (dv_var rfl hnameD) ?_ fun v5 H5 e5 hv5 => ?_
      · rw [q4.length, List.length_map, List.length_map, List.length_take]
        omega
      have ts5 : TSame H5 (upd H5 ln (.lst (xs ++ [v5]))) := TSame.upd (no_tup_lst (e5 _ _ (e4 _ _ q3)))
      have lnb : b ≠ ln := fun z => by rw [z, q3] at hb4; cases hb4
      have lnp : p ≠ ln := hlnp.symm
      have eH5 : Ex (cutH H p) (upd H5 ln (.lst (xs ++ [v5]))) := Ex.mut ((eG.trans e4).trans e5) hGln
      have hv5' := Dp.mono eH5 _ hv0
      -- self.may_lack[name] = numbers[k + 2] == 1
      refine ev_bl (dv_eqI (dv_ixL (j := 3 * i + 2 + 2) (dv_var rfl hv5') (dv_I (dv_vi rfl) dv_int) (by omega) j2) dv_int) _ (Ex.refl _) _ fun H6 e6 => ?_
      have q1' : H6 p = some (.ins C dx (chF vb ln ld)) := e6 _ _ (by rw [upd_ne lnp]; exact e5 _ _ (e4 _ _ q1))
      refine ev_fld (ev_var rfl) q1' T.cl T.nM (chF_may _ _ _) _ (Ex.refl _) _ fun H7 e7 => ?_
      have h7b : H7 b = some (.tup ((keyN (x, y)).map kV)) := by
        have e : (keyN (x, y)).map kV = [V.int x, V.int y] := keyI_kV [x, y]
        rw [e]
        exact e7 _ _ (e6 _ _ (by rw [upd_ne lnb]; exact e5 _ _ h4))
      have h7ld : H7 ld = some (.dT (((threesI r).take i).map fun t => (keyN (nm t), V.bl (t.2.2 == 1)))) := e7 _ _ (e6 _ _ (by rw [upd_ne hldl]; exact e5 _ _ (e4 _ _ q5)))
      refine ⟨.ref b, rfl, ld, _, rfl, DPut.t h7ld h7b (sz_lt ?_), ?_⟩
      · rw [List.length_map, List.length_take]
        omega
      have ts7 : TSame H7 (upd H7 ld (.dT (putK (((threesI r).take i).map fun t => (keyN (nm t), V.bl (t.2.2 == 1))) (keyN (x, y)) (.bl (decide (m = 1)))))) := TSame.upd (no_tup_dT h7ld)
      have tsAll := ((TSame.of (e4.trans e5)).trans ts5).trans ((TSame.of (e6.trans e7)).trans ts7)
      refine ⟨_, _, xs ++ [v5], rfl, Ex.mut ((eH5.trans e6).trans e7) hGld, ?_, Dp.monoT tsAll _ (nl_note _) q2, ?_, ?_, ?_⟩
      · rw [upd_ne hldp.symm]
        exact e7 _ _ q1'
      · rw [upd_ne hldl.symm]
        exact e7 _ _ (e6 _ _ upd_same)
      · rw [htake, List.map_append, List.map_append]
        exact (DpAll.monoT tsAll _ (noListAll_map nl_name _) q4).append (.one (Dp.monoT (ts5.trans ((TSame.of (e6.trans e7)).trans ts7)) _ (nl_name _) hv5))
      · have hnew : valV (((threesI r).take i).map fun t => (keyN (nm t), V.bl (t.2.2 == 1))) (keyN (x, y)) = none := by
          have hnd : (((threesI r).take (i + 1)).map nm).Nodup := List.Nodup.sublist ((List.take_sublist _ _).map nm) n5
          rw [htake, List.map_append, List.nodup_append] at hnd
          have hno : ∀ t ∈ (threesI r).take i, nm t ≠ (x, y) := fun t ht e => hnd.2.2 (nm t) (List.mem_map.mpr ⟨t, ht, rfl⟩) (x, y) (by simp [nm]) e
          revert hno
          generalize (threesI r).take i = l
          intro hno
          induction l with
          | nil => rfl
          | cons t l ih =>
            show valV ((keyN (nm t), V.bl (t.2.2 == 1)) :: l.map fun t => (keyN (nm t), V.bl (t.2.2 == 1))) (keyN (x, y)) = none
            rw [valV_neg fun h => hno t List.mem_cons_self (keyN_inj h)]
            exact ih fun u hu => hno u (List.mem_cons_of_mem _ hu)
        rw [upd_same, putK_new _ hnew, htake, List.map_append]
        rfl
    · subst eσ
      rw [← hT, List.take_length] at q4 q5
      refine k H' (fun S hS hSp => ?_) eG
      have hS' : Av S H' := fun b hb => by
        have hbp : b ≠ p := fun z => by rw [z, hSp] at hb; cases hb
        have := hS b hb
        obtain ⟨⟨u, hu⟩, hn⟩ := this
        have hu' : H' b = some u := eG _ _ (by rw [cutH_ne hbp]; exact hu)
        refine ⟨⟨u, hu'⟩, fun ys r => hn ys ?_⟩
        unfold Rd at r ⊢
        rw [hu'] at r
        rw [hu]
        exact r
      have frS : ∀ b, cutH H p b = none → b ≠ p → S b = false := fun b hb hbp => hS.fresh (by rw [cutH_ne hbp] at hb; exact hb)
      have sl := frS ln hGln hlnp
      have sd := frS ld hGld hldp
      refine ⟨dx, vb, ln, ld, xs, ?_, Dp_cutS hS' (nl_note _) q2, ?_, DpAll.monoT (cutS_tsame hS') _ (noListAll_map nl_name _) q4, ?_⟩
      · rw [cutS_ne hSp]
        exact q1
      · rw [cutS_ne sl]
        exact q3
      · rw [cutS_ne sd, mayK_chord ⟨n1, n2, n3, n4, n5⟩]
        exact q5
end
end Bf

namespace Bf
open PySem PySem.Spec PyProof.Rows L2 Evl
abbrev sMissing : Stmt := top 43
abbrev sComplete : Stmt := top 44
abbrev sSettings : Stmt := top 45
abbrev sTwice : Stmt := top 48
abbrev sCost : Stmt := top 49
def encSet (s : Cp05.Setting) : PyData := .tuple (s.map encNote)
theorem nl_set (s : Cp05.Setting) : noList (encSet s) = true := by
  unfold encSet
  rw [noList]
  exact noListAll_map nl_note s
section
variable {K : PySem.W.Frag} {H H' : Hp} {σ : L2.St} {ta : TA} {d : PyData} {es : List PyData} {vs : List V} {sp : Sp}
theorem dvl_callS (h : EvA ta σ H vs) (hs : ∀ H1, Ex H H1 → ∀ Q : VK, (∀ p xs H2, H1 p = none → Ex H1 H2 → H2 p = some (.lst xs) → DpAll K H2 xs es → Q (.ref p) H2) → sp vs H1 Q E0) : DvL K (tCall sp [] E0 ta) σ H es := fun H1 e Q q => h H1 e _ fun H2 e2 => by
  show sp (vs ++ []) H2 Q E0
  rw [List.append_nil]
  exact hs H2 (e.trans e2) Q fun p xs H3 hp e3 h3 hx => q p xs H3 (fresh_back e2 hp) (e2.trans e3) h3 hx
theorem dv_callS (h : EvA ta σ H vs) (hs : ∀ H1, Ex H H1 → ∀ Q : VK, (∀ v H2, Ex H1 H2 → Dp K H2 v d → Q v H2) → sp vs H1 Q E0) : Dv K (tCall sp [] E0 ta) σ H d := fun H1 e Q q => h H1 e _ fun H2 e2 => by
  show sp (vs ++ []) H2 Q E0
  rw [List.append_nil]
  exact hs H2 (e.trans e2) Q fun v H3 e3 hd => q v H3 (e2.trans e3) hd
end
/-- a def of a chord and a setting: a new list -/
def SpCL (K : PySem.W.Frag) (C : Addr) (g : Cp05.Chord → Cp05.Setting → List PyData) : Sp := fun vs H Q _ => ∃ (a : Addr) (v : V) (c : Cp05.Chord) (s : Cp05.Setting), vs = [.ref a, v] ∧ ChAt K C H a c ∧ ChOk c ∧ Dp K H v (encSet s) ∧ s.length ≤ 3 ∧
  ∀ p xs H', H p = none → Ex H H' → H' p = some (.lst xs) → DpAll K H' xs (g c s) → Q (.ref p) H'
def SpC (K : PySem.W.Frag) (C : Addr) (g : Cp05.Chord → Cp05.Setting → PyData) : Sp := fun vs H Q _ => ∃ (a : Addr) (v : V) (c : Cp05.Chord) (s : Cp05.Setting), vs = [.ref a, v] ∧ ChAt K C H a c ∧ ChOk c ∧ Dp K H v (encSet s) ∧ s.length ≤ 3 ∧
  ∀ u H', Ex H H' → Dp K H' u (g c s) → Q u H'
def gMissing (c : Cp05.Chord) (s : Cp05.Setting) : List PyData := (missing c s).map encName
def gComplete (c : Cp05.Chord) (s : Cp05.Setting) : PyData := .bool (complete c s)
def RTwice (ds : List PyData) (d : PyData) : Prop := ∃ x y z : Cp05.Note, ds = [encSet [x, y, z]] ∧ d = .bool (!decide ([Cp05.nameOf x, Cp05.nameOf y, Cp05.nameOf z].Nodup))
section
variable {P : Program} {w : World} {K : PySem.W.Frag} {mg : Str → Option Value} {base : Heap} {C : Addr}
abbrev nmMN : List Str := ["chord", "setting", "heard", "note", "name"]
theorem scMN : FnScope nmMN ["chord", "setting"] (defScope sMissing) := ⟨rfl, rfl, rfl, by decide +kernel, rfl, by decide +kernel, by decide +kernel⟩
theorem cal_missing (D : Def K mg "missing_names" sMissing) (T : ChTxt K C) (c : Cal P w K mg base "name_of" 1 ["note"] (SpD K RName)) : Cal P w K mg base "missing_names" 2 ["chord", "setting"] (SpCL K C gMissing) := by
  refine ok_S D scMN (fun vs H Q E h => ?_) (fun _ _ _ _ _ _ us hl => match us, hl with | [_, _], _ => rfl) (fun f cdv A outer s H vs Q E hr h => ?_)
  · obtain ⟨_, _, _, _, rfl, _⟩ := h
    rfl
  · obtain ⟨a, v, ch, st, rfl, hc, ok, hs, h3, k⟩ := h
    refine ⟨_, pss_cons (ps_set (i := 2) scMN.nd rfl (Or.inr rfl) (pe_lc (own := [("note", 3)]) (g := gName 3) rfl scMN.nd (pi_tup (pv 1)) (blkOk_by (own := [("note", 3)]) (N := nmMN) (sc := defScope sMissing) (by decide +kernel)) (fun _ _ _ _ _ => pg_name (i := 3) scMN.nd rfl (Or.inl rfl)) (fun _ _ _ _ _ => pts_nil) (fun _ _ _ _ _ => pe_cal c hr (pa_cons (pv 3) pa_nil))))
      (pss_cons (ps_expr (pe_bm PySem.F.plainAttrs_list PySem.F.slot_list_append PySem.F.type_list_append mt_append (pv 2) (pa_cons (pe_cal c hr (pa_cons (pe_fld (pv 0) rfl) pa_nil)) pa_nil)))
      (pss_one (ps_ret (pe_lc (own := [("name", 4)]) (g := gName 4) (tt := tTest (tOp (rNotInD K) (tVar 4) (tVar 2))) rfl scMN.nd (pi_list (pe_fld (pv 0) rfl)) (blkOk_by (own := [("name", 4)]) (N := nmMN) (sc := defScope sMissing) (by decide +kernel)) (fun _ _ _ _ _ => pg_name (i := 4) scMN.nd rfl (Or.inl rfl))
        (fun _ _ _ _ _ => pts_one (pt_cmpR (op_notInD (hu65 hr)) (pv 4) (pv 2) (by rfl))) (fun _ _ _ _ _ => pv 4))))), ?_⟩
    refine q_asgDL (K := K) (dvl_mapT (l := st) (enc := encNote) (fun n => encName (Cp05.nameOf n)) (dv_var rfl hs) (by omega) (fun _ => rfl) (fun x _ => nl_name _) fun x _ u H1 e hx => dv_call (da_cons (dv_var rfl hx) da_nil) ⟨x, rfl, rfl⟩) fun p xs H1 hp e1 h1 hx => ?_
    have hxs : (st.map fun n => encName (Cp05.nameOf n)) = (st.map Cp05.nameOf).map encName := by rw [List.map_map] <;> rfl
    rw [hxs] at hx
    obtain ⟨dx, vb, ln, ld, ys, c1, c2, c3, c4, c5⟩ := hc.mono e1
    refine q_appD h1 (ev_var rfl) (dv_call (d := encName (Cp05.nameOf ch.bass)) (da_cons (dv_fld (ev_var rfl) c1 T.cl T.nB (chF_bass _ _ _) c2) da_nil) ⟨ch.bass, rfl, rfl⟩) ?_ fun v2 H2 e2 hv2 => ?_
    · rw [hx.length, List.length_map, List.length_map]
      omega
    have eH : Ex H (upd H2 p (.lst (xs ++ [v2]))) := Ex.mut (e1.trans e2) hp
    have hheard : DpAll K (upd H2 p (.lst (xs ++ [v2]))) (xs ++ [v2]) ((st.map Cp05.nameOf ++ [Cp05.nameOf ch.bass]).map encName) := by
      rw [List.map_append]
      exact DpAll.grow (e2 _ _ h1) (noListAll_map nl_name _) (nl_name _) (DpAll.mono e2 _ hx) hv2
    obtain ⟨dx, vb, ln, ld, ys, c1, c2, c3, c4, c5⟩ := hc.mono eH
    refine s_retDL (dvl_lc (l := ch.names) (enc := encName) (fun n => !((st.map Cp05.nameOf ++ [Cp05.nameOf ch.bass]).contains n)) encName (dv_fld (ev_var rfl) c1 T.cl T.nN (chF_names _ _ _) (.lst (sq_of c3) c4)) (by have := ok.few; omega) (fun _ => rfl) (fun x _ => nl_name x) (fun x _ u H3 e3 hx => dt_test (dv_is (dv_notInD (dv_var rfl hx) (dv_var rfl (.lst (sq_of (e3 _ _ upd_same)) (DpAll.mono e3 _ hheard))) (shaped_name _) (shaped_names _)) (by rw [any_name]))) (fun x _ _ u H3 e3 hx => dv_var rfl hx)) fun q zs H3 hq e3 h3 hz => k q zs H3 (fresh_back eH hq) (eH.trans e3) h3 hz
abbrev nmIC : List Str := ["chord", "setting", "name"]
theorem scIC : FnScope nmIC ["chord", "setting"] (defScope sComplete) := ⟨rfl, rfl, rfl, by decide +kernel, rfl, by decide +kernel, by decide +kernel⟩
theorem cal_complete (D : Def K mg "is_complete" sComplete) (T : ChTxt K C) (ga : mg "all" = none) (c : Cal P w K mg base "missing_names" 2 ["chord", "setting"] (SpCL K C gMissing)) : Cal P w K mg base "is_complete" 3 ["chord", "setting"] (SpC K C gComplete) := by
  refine ok_S D scIC (fun vs H Q E h => ?_) (fun _ _ _ _ _ _ us hl => match us, hl with | [_, _], _ => rfl) (fun f cdv A outer s H vs Q E hr h => ?_)
  · obtain ⟨_, _, _, _, rfl, _⟩ := h
    rfl
  · obtain ⟨a, v, ch, st, rfl, hc, ok, hs, h3, k⟩ := h
    refine ⟨_, pss_one (ps_ret (pe_callB (cr_all rfl) (by rfl) ga (by decide +kernel) (pa_cons (pe_lc (own := [("name", 2)]) (g := gName 2) (te := tDGetS K (tFld K (tVar 0) "may_lack") (tVar 2)) rfl scIC.nd (pi_list (pe_cal c hr (pa_cons (pv 0) (pa_cons (pv 1) pa_nil)))) (blkOk_by (own := [("name", 2)]) (N := nmIC) (sc := defScope sComplete) (by decide +kernel)) (fun _ _ _ _ _ => pg_name (i := 2) scIC.nd rfl (Or.inl rfl))
      (fun _ _ _ _ _ => pts_nil) (fun _ _ _ _ _ => pe_dgetS (hu_of hr) (pe_fld (pv 0) rfl) (pv 2) (fun _ _ => rfl))) pa_nil))), ?_⟩
    have hm : (missing ch st).length ≤ 4 := Nat.le_trans (List.length_filter_le _ _) ok.few
    refine s_retD (dv_is (dv_all (bs := (missing ch st).map fun n => ch.may.contains n) (dv_is (dvl_map (l := missing ch st) (enc := encName) (fun n => .bool (ch.may.contains n)) (dvl_callS (es := gMissing ch st) (ea_cons (ev_var rfl) (ea_cons (ev_var rfl) ea_nil)) fun H1 e1 Q1 q1 => ⟨a, v, ch, st, rfl, hc.mono e1, ok, Dp.mono e1 _ hs, h3, q1⟩).dv (by omega) (fun _ => rfl) (fun x _ => by simp [noList]) fun x hx u H1 e1 hu => ?_).dv (by rw [List.map_map] <;> rfl))) ?_) k
    · obtain ⟨dx, vb, ln, ld, ys, c1, c2, c3, c4, c5⟩ := hc.mono e1
      exact dv_dget (ns := [x.1, x.2]) (ev_fld (ev_var rfl) c1 T.cl T.nM (chF_may _ _ _)) c5 (dv_var rfl hu) (mayK_get (List.mem_filter.mp hx).1) (.bl _)
    · unfold gComplete complete
      congr 1
      rw [List.all_map]
      rfl
abbrev nmTw : List Str := ["setting", "note"]
theorem scTw : FnScope nmTw ["setting"] (defScope sTwice) := ⟨rfl, rfl, rfl, by decide +kernel, rfl, by decide +kernel, by decide +kernel⟩
theorem nodup_len {α : Type} [DecidableEq α] {L : List α} {x y z : α} (hn : L.Nodup) (hm : ∀ m, m ∈ L ↔ m ∈ [x, y, z]) : decide ((L.length : Int) < 3) = !decide ([x, y, z].Nodup) := by
  have hsub : L.length ≤ 3 := by
    have : L ⊆ [x, y, z] := fun m h => (hm m).mp h
    exact List.Nodup.length_le_of_subset hn this
  by_cases h : [x, y, z].Nodup
  · have : ([x, y, z] : List α).length ≤ L.length := List.Nodup.length_le_of_subset h fun m hm' => (hm m).mpr hm'
    rw [decide_eq_true h, decide_eq_false]
    · rfl
    · simp only [List.length_cons, List.length_nil] at this
      omega
  · rw [decide_eq_false h, decide_eq_true]
    · rfl
    · have hx := (hm x).mpr (by simp)
      rcases Nat.lt_or_ge L.length 3 with hl | hl
      · omega
      · exfalso
        -- three unlike members of [x, y, z] are x, y, z themselves
        match L, hl, hsub, hn, hm with
        | [p, q, r], _, _, hn, hm =>
          apply h
          have hp := (hm p).mp (by simp)
          have hq := (hm q).mp (by simp)
          have hr := (hm r).mp (by simp)
          simp only [List.nodup_cons, List.mem_cons, List.not_mem_nil, or_false, not_or, List.nodup_nil, and_true, not_false_eq_true] at hn hp hq hr ⊢
          obtain ⟨⟨n1, n2⟩, n3⟩ := hn
          refine ⟨⟨?_, ?_⟩, ?_⟩ <;> intro e <;> subst e <;> rcases hp with rfl | rfl | rfl <;> rcases hq with rfl | rfl | rfl <;> rcases hr with rfl | rfl | rfl <;> simp_all
theorem nodup_dups {α : Type} [BEq α] [LawfulBEq α] : ∀ (n : Nat) (l : List α), l.length ≤ n → l.eraseDups.Nodup
  | _, [], _ => by simp
  | 0, x :: l, h => absurd h (by simp)
  | n + 1, x :: l, h => by
    rw [List.eraseDups_cons, List.nodup_cons]
    have h1 := List.length_filter_le (fun b => !b == x) l
    refine ⟨fun hx => ?_, nodup_dups n _ (by simp only [List.length_cons] at h; omega)⟩
    rw [List.mem_eraseDups] at hx
    have := (List.mem_filter.mp hx).2
    simp at this
theorem dv_lenSetT {σ : L2.St} {H : Hp} {ta : TE} {nss : List (List Int)} (h : DvL K ta σ H (nss.map tupI)) (hl : nss.length < 64) : Dv K (tLenSetT K ta) σ H (.int (nss.eraseDups.length : Int)) := dv_i fun H1 e1 Q q => h H1 e1 _ fun p xs H2 hp e2 h2 hx => ⟨nss, .lst (sq_of h2) hx, hl, fun L hn hm => by
  have e : L.length = nss.eraseDups.length := Nat.le_antisymm (List.Nodup.length_le_of_subset hn fun m h => List.mem_eraseDups.mpr ((hm m).mp h)) (List.Nodup.length_le_of_subset (nodup_dups _ _ (Nat.le_refl _)) fun m h => (hm m).mpr (List.mem_eraseDups.mp h))
  rw [e]
  exact q H2 e2⟩
theorem cal_twice (D : Def K mg "has_name_twice" sTwice) (gl : mg "len" = none) (gs : mg "set" = none) (c : Cal P w K mg base "name_of" 1 ["note"] (SpD K RName)) : Cal P w K mg base "has_name_twice" 2 ["setting"] (SpD K RTwice) := by
  refine ok_D D scTw (fun ds d h => ?_) (fun _ _ _ _ _ _ us hl => match us, hl with | [_], _ => rfl) (fun f cdv A outer s H vs Q E ds d hr hv h k => ?_)
  · obtain ⟨_, _, _, rfl, _⟩ := h
    rfl
  · obtain ⟨x, y, z, rfl, rfl⟩ := h
    obtain ⟨v, rfl, hs⟩ := DpAll1 hv
    refine ⟨_, pss_one (ps_ret (pe_cmpR op_lt (pe_lenSetT rfl (hu64 hr) (by rfl) gl (by rfl) gs (pe_lc (own := [("note", 1)]) (g := gName 1) rfl scTw.nd (pi_tup (pv 0)) (blkOk_by (own := [("note", 1)]) (N := nmTw) (sc := defScope sTwice) (by decide +kernel)) (fun _ _ _ _ _ => pg_name (i := 1) scTw.nd rfl (Or.inl rfl)) (fun _ _ _ _ _ => pts_nil) (fun _ _ _ _ _ => pe_cal c hr (pa_cons (pv 1) pa_nil))))
      (pe_callB call_len_seq (by rfl) gl PySem.boot_len (pa_cons (pv 0) pa_nil)) (nomark _))), ?_⟩
    refine s_retD (dv_is (dv_B (dv_lenSetT (nss := [[(Cp05.nameOf x).1, (Cp05.nameOf x).2], [(Cp05.nameOf y).1, (Cp05.nameOf y).2], [(Cp05.nameOf z).1, (Cp05.nameOf z).2]]) (dvl_mapT (l := [x, y, z]) (enc := encNote) (fun n => encName (Cp05.nameOf n)) (dv_var rfl hs) (by show 3 ≤ 64000; decide) (fun _ => rfl) (fun x _ => nl_name _) fun x _ u H1 e hx => dv_call (da_cons (dv_var rfl hx) da_nil) ⟨x, rfl, rfl⟩) (by show 3 < 64; decide)) (dv_lenT (dv_var rfl hs))) ?_) k
    have e := nodup_len (x := [(Cp05.nameOf x).1, (Cp05.nameOf x).2]) (y := [(Cp05.nameOf y).1, (Cp05.nameOf y).2]) (z := [(Cp05.nameOf z).1, (Cp05.nameOf z).2]) (nodup_dups _ _ (Nat.le_refl _)) fun m => List.mem_eraseDups
    have e' : (([x, y, z].map encNote).length : Int) = 3 := rfl
    rw [e', e]
    have hN : ([[(Cp05.nameOf x).1, (Cp05.nameOf x).2], [(Cp05.nameOf y).1, (Cp05.nameOf y).2], [(Cp05.nameOf z).1, (Cp05.nameOf z).2]].Nodup) ↔ [Cp05.nameOf x, Cp05.nameOf y, Cp05.nameOf z].Nodup := by
      have hi : ∀ m n : Cp05.Name, ([m.1, m.2] : List Int) = [n.1, n.2] ↔ m = n := fun m n => by
        constructor
        · intro h
          simp only [List.cons.injEq, and_true] at h
          exact Prod.ext h.1 h.2
        · rintro rfl
          rfl
      simp only [List.nodup_cons, List.mem_cons, List.not_mem_nil, or_false, not_or, List.nodup_nil, and_true, not_false_eq_true, hi]
    rw [decide_eq_decide.mpr hN]
end
end Bf

namespace Bf
open PySem PySem.Spec PyProof.Rows L2 Evl
/-! ### the rules in the heap -/
structure RuTxt (K : PySem.W.Frag) (C : Addr) : Prop where
  cl : Cls K C
  nR : NoAttr K C "ranges"
  nA : NoAttr K C "apart"
  nL : NoAttr K C "leaps"
  nT : NoAttr K C "twice"
  nF : NoAttr K C "left"
  nM : NoAttr K C "move"
def encRange (r : Int × Int) : PyData := .tuple [.int r.1, .int r.2]
def ruF (vr va vl : V) (q : Cp05.Rules) : List (Str × V) := [("ranges", vr), ("apart", va), ("leaps", vl), ("twice", .int (q.double : Int)), ("left", .int (q.left : Int)), ("move", .int (q.move : Int))]
section
variable (vr va vl : V) (q : Cp05.Rules)
theorem ruF_ranges : (ruF vr va vl q).lookup ("ranges" : Str) = some vr := lk_here
theorem ruF_apart : (ruF vr va vl q).lookup ("apart" : Str) = some va := (lk_past (by decide +kernel)).trans lk_here
theorem ruF_leaps : (ruF vr va vl q).lookup ("leaps" : Str) = some vl := (lk_past (by decide +kernel)).trans ((lk_past (by decide +kernel)).trans lk_here)
theorem ruF_twice : (ruF vr va vl q).lookup ("twice" : Str) = some (.int (q.double : Int)) := (lk_past (by decide +kernel)).trans ((lk_past (by decide +kernel)).trans ((lk_past (by decide +kernel)).trans lk_here))
theorem ruF_left : (ruF vr va vl q).lookup ("left" : Str) = some (.int (q.left : Int)) := (lk_past (by decide +kernel)).trans ((lk_past (by decide +kernel)).trans ((lk_past (by decide +kernel)).trans ((lk_past (by decide +kernel)).trans lk_here)))
theorem ruF_move : (ruF vr va vl q).lookup ("move" : Str) = some (.int (q.move : Int)) := (lk_past (by decide +kernel)).trans ((lk_past (by decide +kernel)).trans ((lk_past (by decide +kernel)).trans ((lk_past (by decide +kernel)).trans ((lk_past (by decide +kernel)).trans lk_here))))
end
def RuAt (K : PySem.W.Frag) (C : Addr) (H : Hp) (a : Addr) (q : Cp05.Rules) : Prop := ∃ dx vr va vl, H a = some (.ins C dx (ruF vr va vl q)) ∧ Dp K H vr (.list (q.ranges.map encRange)) ∧ Dp K H va (.list (q.apart.map .int)) ∧ Dp K H vl (.list (q.leap.map .int))
theorem RuAt.mono {K : PySem.W.Frag} {C a : Addr} {H H' : Hp} {q : Cp05.Rules} (e : Ex H H') (h : RuAt K C H a q) : RuAt K C H' a q := by
  obtain ⟨dx, vr, va, vl, h1, h2, h3, h4⟩ := h
  exact ⟨dx, vr, va, vl, e _ _ h1, Dp.mono e _ h2, Dp.mono e _ h3, Dp.mono e _ h4⟩
/-- rules that are taken -/
structure RuOk (q : Cp05.Rules) : Prop where
  r3 : ∃ x y z, q.ranges = [x, y, z]
  a3 : ∃ x y z, q.apart = [x, y, z]
  l3 : ∃ x y z, q.leap = [x, y, z]
  d20 : q.double ≤ 20
  f20 : q.left ≤ 20
  m20 : q.move ≤ 20
  rb : ∀ r ∈ q.ranges, 0 ≤ r.1 ∧ r.2 ≤ 119
  rw : ∀ r ∈ q.ranges, r.2 - r.1 ≤ 24
def SpSet (K : PySem.W.Frag) (CR C : Addr) : Sp := fun vs H Q _ => ∃ (ar a : Addr) (q : Cp05.Rules) (c : Cp05.Chord), vs = [.ref ar, .ref a] ∧ RuAt K CR H ar q ∧ RuOk q ∧ ChAt K C H a c ∧ ChOk c ∧
  ∀ p xs H', H p = none → Ex H H' → H' p = some (.lst xs) → DpAll K H' xs ((Cp05.settings q c).map encSet) → Q (.ref p) H'
def SpCost (K : PySem.W.Frag) (CR C : Addr) : Sp := fun vs H Q _ => ∃ (ar a : Addr) (v : V) (q : Cp05.Rules) (c : Cp05.Chord) (s : Cp05.Setting), vs = [.ref ar, .ref a, v] ∧ RuAt K CR H ar q ∧ RuOk q ∧ ChAt K C H a c ∧ ChOk c ∧ Dp K H v (encSet s) ∧ s ∈ Cp05.settings q c ∧
  ∀ H', Ex H H' → Q (.int (Cp05.own q c s : Int)) H'
section
variable {P : Program} {w : World} {K : PySem.W.Frag} {mg : Str → Option Value} {base : Heap} {CR C : Addr}
abbrev nmSC : List Str := ["rules", "chord", "setting", "cost"]
theorem scSC : FnScope nmSC ["rules", "chord", "setting"] (defScope sCost) := ⟨rfl, rfl, rfl, by decide +kernel, rfl, by decide +kernel, by decide +kernel⟩
theorem own_at {q : Cp05.Rules} {c : Cp05.Chord} {s : Cp05.Setting} (ok : ChOk c) (h : s ∈ Cp05.settings q c) : ∃ a b t, s = [a, b, t] ∧ Cp05.own q c s = (if decide ([Cp05.nameOf a, Cp05.nameOf b, Cp05.nameOf t].Nodup) = true then 0 else q.double) + q.left * (missing c s).length := by
  obtain ⟨a, b, t, e, ha, hb, ht, _⟩ := mem_settings h
  exact ⟨a, b, t, e, own_eq e (notes_named ok.ok ha).1 (notes_named ok.ok hb).1 (notes_named ok.ok ht).1⟩
theorem cal_cost (D : Def K mg "setting_cost" sCost) (TR : RuTxt K CR) (gl : mg "len" = none) (c1 : Cal P w K mg base "missing_names" 2 ["chord", "setting"] (SpCL K C gMissing)) (c2 : Cal P w K mg base "has_name_twice" 2 ["setting"] (SpD K RTwice)) :
    Cal P w K mg base "setting_cost" 3 ["rules", "chord", "setting"] (SpCost K CR C) := by
  refine ok_S D scSC (fun vs H Q E h => ?_) (fun _ _ _ _ _ _ us hl => match us, hl with | [_, _, _], _ => rfl) (fun f cdv A outer s H vs Q E hr h => ?_)
  · obtain ⟨_, _, _, _, _, _, rfl, _⟩ := h
    rfl
  · obtain ⟨ar, a, v, q, c, st, rfl, hR, okR, hC, okC, hs, hm, k⟩ := h
    refine ⟨_, pss_cons (ps_set (i := 3) scSC.nd rfl (Or.inl rfl) (pe_op op_mul (pe_fld (pv 0) rfl) (pe_callB call_len_seq (by rfl) gl PySem.boot_len (pa_cons (pe_cal c1 hr (pa_cons (pv 1) (pa_cons (pv 2) pa_nil))) pa_nil))))
      (pss_cons (ps_if (pt_val (pe_cal c2 hr (pa_cons (pv 2) pa_nil))) (pss_one (ps_aug (i := 3) scSC.nd rfl (Or.inl rfl) (pe_fld (pv 0) rfl) ip_add)) pss_nil)
      (pss_one (ps_ret (pv 3)))), ?_⟩
    obtain ⟨x, y, z, es, hown⟩ := own_at okC hm
    have hlen : st.length ≤ 3 := by rw [es]; exact Nat.le_refl _
    obtain ⟨dx, vr, va, vl, r1, r2, r3, r4⟩ := hR
    have hf := okR.f20
    refine q_asgD (d := .int ((q.left : Int) * ((missing c st).length : Int))) (dv_is (dv_IC (dv_fld (ev_var rfl) r1 TR.cl TR.nF (ruF_left _ _ _ _) (.int _)) (dv_is (dv_len (dvl_callS (es := gMissing c st) (ea_cons (ev_var rfl) (ea_cons (ev_var rfl) ea_nil)) fun H1 e1 Q1 q1 => ⟨a, v, c, st, rfl, hC.mono e1, okC, Dp.mono e1 _ hs, hlen, q1⟩).dv) (by unfold gMissing; rw [List.length_map])) (.inl ⟨?_, ?_⟩)) rfl) fun v3 H1 e1 hv3 => ?_
    · have : (0 : Int) ≤ (q.left : Int) := Int.natCast_nonneg _
      have : -(2 ^ 64 : Int) < 0 := by decide
      omega
    · have : (20 : Int) < 2 ^ 64 := by decide
      omega
    cases hv3.int_inv
    refine q_when (b := !decide ([Cp05.nameOf x, Cp05.nameOf y, Cp05.nameOf z].Nodup)) (dt_B (dv_call (da_cons (dv_var rfl (by rw [← es]; exact Dp.mono e1 _ hs)) da_nil) ⟨x, y, z, rfl, rfl⟩)) (fun hb H2 e2 => ?_) (fun hb H2 e2 => ?_)
    · refine s_aug rfl (ev_fld (ev_var rfl) ((e1.trans e2) _ _ r1) TR.cl TR.nT (ruF_twice _ _ _ _)) fun H3 e3 => ?_
      refine s_ret (ev_var rfl) fun H4 e4 => ?_
      have hk := k H4 (((e1.trans e2).trans e3).trans e4)
      rw [hown, Bool.not_eq_true'] at *
      rw [hb] at hk
      have e : (((if false = true then 0 else q.double) + q.left * (missing c st).length : Nat) : Int) = (q.left : Int) * ((missing c st).length : Int) + (q.double : Int) := by
        rw [if_neg Bool.false_ne_true]
        push_cast
        omega
      rw [e] at hk
      exact hk
    · refine s_ret (ev_var rfl) fun H4 e4 => ?_
      have hk := k H4 ((e1.trans e2).trans e4)
      rw [hown, Bool.not_eq_false'] at *
      rw [hb] at hk
      have e : (((if true = true then 0 else q.double) + q.left * (missing c st).length : Nat) : Int) = (q.left : Int) * ((missing c st).length : Int) := by
        rw [if_pos rfl]
        push_cast
        omega
      rw [e] at hk
      exact hk
end
end Bf

namespace Bf
open PySem PySem.Spec PyProof.Rows L2 Evl
section
variable {P : Program} {w : World} {K : PySem.W.Frag} {mg : Str → Option Value} {base : Heap} {CR C : Addr}
abbrev nmSO : List Str := ["rules", "chord", "choices", "tenors", "found", "soprano", "alto", "tenor", "setting", "reach"]
theorem scSO : FnScope nmSO ["rules", "chord"] (defScope sSettings) := ⟨rfl, rfl, rfl, by decide +kernel, rfl, by decide +kernel, by decide +kernel⟩
theorem ev_ixL {σ : L2.St} {H : Hp} {ta tb : TE} {a : Addr} {xs : List V} {i : Int} {j : Nat} {v : V} (ha : Ev ta σ H (.ref a)) (hs : SqL K H a xs) (hb : Ev tb σ H (.int i)) (e : i = (j : Int)) (h : xs[j]? = some v) : Ev (tOp (rIxL K) ta tb) σ H v := ev_op ha hb (rv_ixL hs (at_of e h))
theorem flat_take {α β : Type} {l : List α} {i : Nat} {x : α} (f : α → List β) (h : l[i]? = some x) : (l.take (i + 1)).flatMap f = (l.take i).flatMap f ++ f x := by
  rw [List.take_add_one, h, List.flatMap_append]
  show _ ++ (f x ++ []) = _
  rw [List.append_nil]
theorem flat_len {α β : Type} (f : α → List β) (k : Nat) (l : List α) (i : Nat) (h : ∀ x ∈ l, (f x).length ≤ k) : ((l.take i).flatMap f).length ≤ l.length * k := by
  refine Nat.le_trans (flatMap_le f k _ fun x hx => h x (List.mem_of_mem_take hx)) ?_
  rw [List.length_take]
  exact Nat.mul_le_mul_right _ (Nat.min_le_right _ _)
theorem cal_settings (D : Def K mg "settings_of" sSettings) (TC : ChTxt K C) (TR : RuTxt K CR) (c1 : Cal P w K mg base "notes_within" 3 ["names", "low", "high"] (SpDL K RNotesWithin)) (c2 : Cal P w K mg base "near_above" 2 ["uppers", "lower", "apart"] (SpDL K RNearAbove)) (c3 : Cal P w K mg base "near_below" 2 ["lowers", "upper", "apart"] (SpDL K RNearBelow))
    (c4 : Cal P w K mg base "is_complete" 3 ["chord", "setting"] (SpC K C gComplete)) : Cal P w K mg base "settings_of" 4 ["rules", "chord"] (SpSet K CR C) := by
  refine ok_S D scSO (fun vs H Q E h => ?_) (fun _ _ _ _ _ _ us hl => match us, hl with | [_, _], _ => rfl) (fun f cdv A outer s H vs Q E hr h => ?_)
  · obtain ⟨_, _, _, _, rfl, _⟩ := h
    rfl
  · obtain ⟨ar, a, q, c, rfl, hR, okR, hC, okC, k⟩ := h
    have hr2 : Room 2 _ := hr.mono (by decide : 2 ≤ 3)
    refine ⟨_, pss_cons (ps_setLc (i := 2) (own := [("reach", 9)]) (g := gName 9) (te := tCall (SpDL K RNotesWithin) [] E0 (tCons (tFld K (tVar 1) "names") (tCons (tOp (rIxT K) (tVar 9) (tC (.int 0))) (tCons (tOp (rIxT K) (tVar 9) (tC (.int 1))) tNil)))) rfl scSO.nd rfl rfl (sw_true rfl rfl rfl (by decide +kernel)) (pi_list (pe_fld (pv 0) rfl)) (blkOk_by (own := [("reach", 9)]) (N := nmSO) (sc := defScope sSettings) (by decide +kernel)) (fun _ _ _ _ _ => pg_name (i := 9) scSO.nd rfl (Or.inl rfl)) (fun _ _ _ _ _ => pts_nil)
        (fun _ _ _ _ _ => pe_cal c1 hr (pa_cons (pe_fld (pv 1) rfl) (pa_cons (pe_ix ix_tup (pv 9) pe_int (fun _ _ => rfl)) (pa_cons (pe_ix ix_tup (pv 9) pe_int (fun _ _ => rfl)) pa_nil)))))
      (pss_cons (ps_set (i := 3) scSO.nd rfl (Or.inl rfl) (pe_cal c2 hr2 (pa_cons (pe_ix ix_list (pv 2) pe_int (fun _ _ => rfl)) (pa_cons (pe_fld (pv 1) rfl) (pa_cons (pe_ix ix_list (pe_fld (pv 0) rfl) pe_int (fun _ _ => rfl)) pa_nil)))))
      (pss_cons (ps_set (i := 4) scSO.nd rfl (Or.inl rfl) (pe_lst pa_nil))
      (pss_cons (ps_for PassesOwn.never rfl (pi_list (pe_ix ix_list (pv 2) pe_int (fun _ _ => rfl))) (pg_name (i := 5) scSO.nd rfl (Or.inl rfl))
        (pss_one (ps_for PassesOwn.never rfl (pi_list (pe_cal c3 hr2 (pa_cons (pe_ix ix_list (pv 2) pe_int (fun _ _ => rfl)) (pa_cons (pv 5) (pa_cons (pe_ix ix_list (pe_fld (pv 0) rfl) pe_int (fun _ _ => rfl)) pa_nil))))) (pg_name (i := 6) scSO.nd rfl (Or.inl rfl))
          (pss_one (ps_for PassesOwn.never rfl (pi_list (pe_cal c3 hr2 (pa_cons (pv 3) (pa_cons (pv 6) (pa_cons (pe_ix ix_list (pe_fld (pv 0) rfl) pe_int (fun _ _ => rfl)) pa_nil))))) (pg_name (i := 7) scSO.nd rfl (Or.inl rfl))
            (pss_cons (ps_set (i := 8) scSO.nd rfl (Or.inl rfl) (pe_tup (pa_cons (pv 5) (pa_cons (pv 6) (pa_cons (pv 7) pa_nil)))))
            (pss_one (ps_if (pt_val (pe_cal c4 hr (pa_cons (pv 1) (pa_cons (pv 8) pa_nil)))) (pss_one (ps_expr (pe_bm PySem.F.plainAttrs_list PySem.F.slot_list_append PySem.F.type_list_append mt_append (pv 4) (pa_cons (pv 8) pa_nil)))) pss_nil))))))))
      (pss_one (ps_ret (pv 4)))))), ?_⟩
    obtain ⟨r0, r1, r2, hr3⟩ := okR.r3
    obtain ⟨k0, k1, k2, ha3⟩ := okR.a3
    have okN := okC.ok
    have few := okC.few
    obtain ⟨dx, vr, va, vl, R1, R2, R3, R4⟩ := hR
    obtain ⟨dc, vb, ln, ld, ns, C1, C2, C3, C4, C5⟩ := id hC
    rw [hr3] at R2
    rw [ha3] at R3
    have hseq := settings_eq q c
    rw [hr3, ha3] at hseq
    have hset : Cp05.settings q c = setA c k0 k1 (Cp05.options r0 c) (Cp05.options r1 c) ((Cp05.options r2 c).filter fun t => near k2 t c.bass) := hseq
    have l0 := options_le (r := r0) okN few
    have l1 := options_le (r := r1) okN few
    have l2 := options_le (r := r2) okN few
    have l3 : ((Cp05.options r2 c).filter fun t => near k2 t c.bass).length ≤ 40 := Nat.le_trans (List.length_filter_le _ _) l2
    -- choices
    refine q_asgDL (K := K) (dvl_mapL (l := [r0, r1, r2]) (enc := encRange) (fun r => (Cp05.options r c).map encNote) (dv_fld (ev_var rfl) R1 TR.cl TR.nR (ruF_ranges _ _ _ _) R2) (by show 3 ≤ 64000; decide) (fun _ => rfl) (fun x _ => noListAll_map nl_note _) fun x _ u H1 e hx => dvl_call (da_cons (dv_fld (ev_var rfl) (e _ _ C1) TC.cl TC.nN (chF_names _ _ _) (.lst (sq_of (e _ _ C3)) (DpAll.mono e _ C4))) (da_cons (dv_ixT (j := 0) (dv_var rfl hx) dv_int rfl rfl) (da_cons (dv_ixT (j := 1) (dv_var rfl hx) dv_int rfl rfl) da_nil))) ⟨c.names, x.1, x.2, rfl, okN, few, rfl⟩) fun pc xc H1 hpc e1 h1 hxc => ?_
    obtain ⟨v0, v1, v2, rfl, d0, d1, d2⟩ := DpAll3 hxc
    obtain ⟨a0, x0, rfl, s0, D0⟩ := d0.lst_inv
    obtain ⟨a1, x1, rfl, s1, D1⟩ := d1.lst_inv
    obtain ⟨a2, x2, rfl, s2, D2⟩ := d2.lst_inv
    have hch : ∀ G, Ex H1 G → Dp K G (.ref pc) (.list [.list ((Cp05.options r0 c).map encNote), .list ((Cp05.options r1 c).map encNote), .list ((Cp05.options r2 c).map encNote)]) := fun G e => .lst (sq_of (e _ _ h1)) (DpAll.mono e _ hxc)
    have hap : ∀ G, Ex H G → ∀ σ : L2.St, σ[0]? = some (some (.ref ar)) → Dv K (tFld K (tVar 0) "apart") σ G (.list ([k0, k1, k2].map .int)) := fun G e σ hσ => dv_fld (ev_var hσ) (e _ _ R1) TR.cl TR.nA (ruF_apart _ _ _ _) (Dp.mono e _ R3)
    -- tenors
    refine q_asgDL (K := K) (dvl_call (es := ((Cp05.options r2 c).filter fun t => near k2 t c.bass).map encNote) (da_cons (dv_ixL (j := 2) (dv_var rfl (hch _ (Ex.refl _))) dv_int rfl rfl) (da_cons (dv_fld (ev_var rfl) (e1 _ _ C1) TC.cl TC.nB (chF_bass _ _ _) (Dp.mono e1 _ C2)) (da_cons (dv_ixL (j := 2) (hap _ e1 _ rfl) dv_int rfl rfl) da_nil))) ⟨Cp05.options r2 c, c.bass, k2, rfl, l2, rfl⟩) fun pt xt H2 hpt e2 h2 hxt => ?_
    -- found
    refine q_asgDL (K := K) (dvl_lst da_nil (by decide)) fun p ys H3 hp e3 h3 hy => ?_
    cases hy
    have eH2 : Ex H H2 := e1.trans e2
    have hten : ∀ G, Ex H2 G → Dp K G (.ref pt) (.list (((Cp05.options r2 c).filter fun t => near k2 t c.bass).map encNote)) := fun G e => .lst (sq_of (e _ _ h2)) (DpAll.mono e _ hxt)
    have hpH1 : H1 p = none := fresh_back e2 hp
    have hpH : H p = none := fresh_back e1 hpH1
    generalize hts : ((Cp05.options r2 c).filter fun t => near k2 t c.bass) = ts at *
    generalize has : Cp05.options r0 c = as at *
    generalize hbs : Cp05.options r1 c = bs at *
    have bB : ∀ x, (setB c k0 k1 bs ts x).length ≤ 1600 := fun x => Nat.le_trans (setB_le _ _ _ _ _ _) (Nat.le_trans (Nat.mul_le_mul l1 l3) (by decide))
    have hx0 : x0.length = as.length := by rw [D0.length, List.length_map]
    refine q_forLn (a := a0) (xs := x0) (ev_ixL (ev_var rfl) (sq_of ((e2.trans e3) _ _ h1)) ev_c rfl rfl) (ex_l (e2.trans e3) s0)
      (fun i σ' H' => ∃ o5 o6 o7 o8 acc, σ' = [some (.ref ar), some (.ref a), some (.ref pc), some (.ref pt), some (.ref p), o5, o6, o7, o8, none] ∧ Ex H2 H' ∧ H' p = some (.lst acc) ∧ DpAll K H' acc (((as.take i).flatMap (setB c k0 k1 bs ts)).map encSet))
      (fun H4 e4 => ⟨none, none, none, none, [], rfl, e3.trans e4, e4 _ _ h3, .nil⟩) (fun i σ' H' _ ⟨_, _, _, _, _, _, e, _⟩ => ex_l (e2.trans e) s0) (fun i x σ' H' hix ⟨o5, o6, o7, o8, acc, eσ, e4, h4, hacc⟩ => ?_) (fun σ' H' ⟨o5, o6, o7, o8, acc, eσ, e4, h4, hacc⟩ => ?_)
    · subst eσ
      obtain ⟨na, hna, hxa⟩ := at_map D0 hix
      have hA : ∀ G, Ex H2 G → Dp K G x (encNote na) := fun G e => Dp.mono (e2.trans e) _ hxa
      have bA := flat_len (setB c k0 k1 bs ts) 1600 as i fun y _ => bB y
      have bT : ∀ y, (setT c k1 ts na y).length ≤ 40 := fun y => Nat.le_trans (setT_le _ _ _ _ _) l3
      generalize hpre : (as.take i).flatMap (setB c k0 k1 bs ts) = pre at *
      have hpre' : (as.take (i + 1)).flatMap (setB c k0 k1 bs ts) = pre ++ setB c k0 k1 bs ts na := by rw [flat_take _ hna, hpre]
      generalize hbf : bs.filter (near k0 na) = bf
      have lbf : bf.length ≤ 40 := by rw [← hbf]; exact Nat.le_trans (List.length_filter_le _ _) l1
      refine s_forDL (K := K) (j := 6) (ds := bf.map encNote) (dvl_call (da_cons (dv_ixL (j := 1) (dv_var rfl (hch _ (e2.trans e4))) dv_int rfl rfl) (da_cons (dv_var rfl (hA _ e4)) (da_cons (dv_ixL (j := 0) (hap _ (eH2.trans e4) _ rfl) dv_int rfl rfl) da_nil))) ⟨bs, na, k0, rfl, l1, by rw [hbf]⟩)
        (fun p2 xs2 j σ' H' => ∃ o6 o7 o8 acc, σ' = [some (.ref ar), some (.ref a), some (.ref pc), some (.ref pt), some (.ref p), some x, o6, o7, o8, none] ∧ Ex H2 H' ∧ H' p2 = some (.lst xs2) ∧ p2 ≠ p ∧ DpAll K H' xs2 (bf.map encNote) ∧ H' p = some (.lst acc) ∧ DpAll K H' acc ((pre ++ (bf.take j).flatMap (setT c k1 ts na)).map encSet))
        (fun p2 xs2 H5 hp2 e5 h5 hx5 => ⟨o6, o7, o8, acc, rfl, e4.trans e5, h5, (fun z => by rw [z, h4] at hp2; cases hp2), hx5, e5 _ _ h4, by rw [List.take_zero, List.flatMap_nil, List.append_nil]; exact DpAll.mono e5 _ hacc⟩)
        (fun p2 xs2 j σ' H' ⟨_, _, _, _, _, _, h, _⟩ => h) (fun p2 xs2 j y σ' H' hjy ⟨o6, o7, o8, acc, eσ, e5, h5, ne2, hx5, h5p, hacc⟩ => ?_) (fun p2 xs2 σ' H' hl2 ⟨o6, o7, o8, acc, eσ, e5, h5, ne2, hx5, h5p, hacc⟩ => ?_)
      · subst eσ
        obtain ⟨nb, hnb, hyb⟩ := at_map hx5 hjy
        have bB2 := flat_len (setT c k1 ts na) 40 bf j fun y _ => bT y
        generalize hpre2 : pre ++ (bf.take j).flatMap (setT c k1 ts na) = pre2 at *
        have lp2 : pre2.length ≤ 66000 := by
          rw [← hpre2, List.length_append]
          have := Nat.mul_le_mul_right 40 lbf
          have := Nat.mul_le_mul_right 1600 l0
          omega
        have hpre2' : pre ++ (bf.take (j + 1)).flatMap (setT c k1 ts na) = pre2 ++ setT c k1 ts na nb := by rw [flat_take _ hnb, ← List.append_assoc, hpre2]
        generalize htf : ts.filter (near k1 nb) = tf
        have ltf : tf.length ≤ 40 := by rw [← htf]; exact Nat.le_trans (List.length_filter_le _ _) l3
        refine s_forDL (K := K) (j := 7) (ds := tf.map encNote) (dvl_call (da_cons (dv_var rfl (hten _ e5)) (da_cons (dv_var rfl hyb) (da_cons (dv_ixL (j := 1) (hap _ (eH2.trans e5) _ rfl) dv_int rfl rfl) da_nil))) ⟨ts, nb, k1, rfl, l3, by rw [htf]⟩)
          (fun p3 xs3 m σ' H' => ∃ o7 o8 acc, σ' = [some (.ref ar), some (.ref a), some (.ref pc), some (.ref pt), some (.ref p), some x, some y, o7, o8, none] ∧ Ex H2 H' ∧ H' p2 = some (.lst xs2) ∧ DpAll K H' xs2 (bf.map encNote) ∧ H' p3 = some (.lst xs3) ∧ p3 ≠ p ∧ DpAll K H' xs3 (tf.map encNote) ∧ Dp K H' y (encNote nb) ∧ H' p = some (.lst acc) ∧ DpAll K H' acc ((pre2 ++ ((tf.take m).filter fun t => complete c [na, nb, t]).map fun t => [na, nb, t]).map encSet))
          (fun p3 xs3 H6 hp3 e6 h6 hx6 => ⟨o7, o8, acc, rfl, e5.trans e6, e6 _ _ h5, DpAll.mono e6 _ hx5, h6, (fun z => by rw [z, h5p] at hp3; cases hp3), hx6, Dp.mono e6 _ hyb, e6 _ _ h5p, by rw [List.take_zero, List.filter_nil, List.map_nil, List.append_nil]; exact DpAll.mono e6 _ hacc⟩)
          (fun p3 xs3 m σ' H' ⟨_, _, _, _, _, _, _, h, _⟩ => h) (fun p3 xs3 m z σ' H' hmz ⟨o7, o8, acc, eσ, e6, h6, hx6, h63, ne3, hx63, hyb6, h6p, hacc⟩ => ?_) (fun p3 xs3 σ' H' hl3 ⟨o7, o8, acc, eσ, e6, h6, hx6, h63, ne3, hx63, hyb6, h6p, hacc⟩ => ?_)
        · subst eσ
          obtain ⟨nt, hnt, hzt⟩ := at_map hx63 hmz
          have hlacc : acc.length < 100000 := by
            rw [hacc.length, List.length_map, List.length_append, List.length_map]
            have := take_len_le tf (fun t => complete c [na, nb, t]) m
            omega
          have hstep := filter_take_succ (fun t => complete c [na, nb, t]) hnt
          refine q_asgD (K := K) (d := encSet [na, nb, nt]) (dv_tup (da_cons (dv_var rfl (hA _ e6)) (da_cons (dv_var rfl hyb6) (da_cons (dv_var rfl hzt) da_nil))) (by show 3 ≤ 100000; decide)) fun v8 H7 e7 hv8 => ?_
          refine s_when (b := complete c [na, nb, nt]) (dt_B (dv_callS (K := K) (ea_cons (ev_var rfl) (ea_cons (ev_var rfl) ea_nil)) fun H1 e1' Q1 q1 => ⟨a, v8, c, [na, nb, nt], rfl, hC.mono ((eH2.trans (e6.trans e7)).trans e1'), okC, Dp.mono e1' _ hv8, Nat.le_refl 3, q1⟩)) (fun hb H8 e8 => ?_) (fun hb H8 e8 => ?_)
          · have e78 := e7.trans e8
            refine s_appD (e78 _ _ h6p) (ev_var rfl) (dv_var rfl (Dp.mono e8 _ hv8)) hlacc fun v9 H9 e9 hv9 => ?_
            have e79 := e78.trans e9
            have ts9 : TSame H9 (upd H9 p (.lst (acc ++ [v9]))) := TSame.upd (no_tup_lst (e79 _ _ h6p))
            refine ⟨_, _, acc ++ [v9], rfl, Ex.mut (e6.trans e79) hp, ?_, DpAll.monoT ts9 _ (noListAll_map nl_note _) (DpAll.mono e79 _ hx6), ?_, ne3, DpAll.monoT ts9 _ (noListAll_map nl_note _) (DpAll.mono e79 _ hx63), Dp.monoT ts9 _ (nl_note _) (Dp.mono e79 _ hyb6), upd_same, ?_⟩
            · rw [upd_ne ne2]
              exact e79 _ _ h6
            · rw [upd_ne ne3]
              exact e79 _ _ h63
            · rw [hstep, hb, if_pos rfl]
              have em : (pre2 ++ ((tf.take m).filter (fun t => complete c [na, nb, t]) ++ [nt]).map fun t => [na, nb, t]).map encSet = (pre2 ++ ((tf.take m).filter fun t => complete c [na, nb, t]).map fun t => [na, nb, t]).map encSet ++ [encSet [na, nb, nt]] := by
                simp only [List.map_append, List.append_assoc, List.map_cons, List.map_nil]
              rw [em]
              exact DpAll.grow (e79 _ _ h6p) (noListAll_map nl_set _) (nl_set _) (DpAll.mono e79 _ hacc) hv9
          · have e78 := e7.trans e8
            refine ⟨_, _, acc, rfl, e6.trans e78, e78 _ _ h6, DpAll.mono e78 _ hx6, e78 _ _ h63, ne3, DpAll.mono e78 _ hx63, Dp.mono e78 _ hyb6, e78 _ _ h6p, ?_⟩
            rw [hstep, hb, if_neg Bool.false_ne_true, List.append_nil]
            exact DpAll.mono e78 _ hacc
        · subst eσ
          refine ⟨_, _, _, acc, rfl, e6, h6, ne2, hx6, h6p, ?_⟩
          rw [hpre2']
          unfold setT
          rw [htf]
          rw [hl3, List.length_map, List.take_length] at hacc
          exact hacc
      · subst eσ
        refine ⟨_, _, _, _, acc, rfl, e5, h5p, ?_⟩
        rw [hpre']
        unfold setB
        rw [hbf]
        rw [hl2, List.length_map, List.take_length] at hacc
        exact hacc
    · subst eσ
      rw [hx0, List.take_length] at hacc
      refine s_ret (ev_var rfl) fun H5 e5 => ?_
      refine k p acc H5 hpH (eH2.trans (e4.trans e5)) (e5 _ _ h4) ?_
      rw [hset]
      exact DpAll.mono e5 _ hacc
end
end Bf

namespace Bf
open PySem PySem.Spec PyProof.Rows L2 Evl
abbrev sRuI : Stmt := inClass (top 65) 0
abbrev sFirst : Stmt := top 66
abbrev sIsRange : Stmt := top 67
abbrev sAllWithin : Stmt := top 68
abbrev sAreRules : Stmt := top 69
def firstNs : List Int := [60, 79, 53, 72, 48, 67, 12, 12, 24, 12, 7, 7, 3, 4, 1]
def RIsRange (ds : List PyData) (d : PyData) : Prop := ∃ a b, ds = [.int a, .int b] ∧ d = .bool (isRange a b)
def within (m n : Int) : Bool := decide (0 ≤ n) && decide (n ≤ m)
def RAllWithin (ds : List PyData) (d : PyData) : Prop := ∃ (ns : List Int) (m : Int), ds = [.list (ns.map .int), .int m] ∧ ns.length ≤ 100 ∧ d = .bool (ns.all (within m))
def RAreRules (ds : List PyData) (d : PyData) : Prop := ∃ ns : List Int, ds = [.list (ns.map .int)] ∧ ns.length ≤ 100 ∧ d = .bool (rulesOk ns)
/-- FIRST_RULES, a tuple of the top -/
def FirstT (K : PySem.W.Frag) (mg : Str → Option Value) : Prop := ∃ a, mg "FIRST_RULES" = some (.ref a) ∧ ∀ H, Dp K H (.ref a) (.tuple (firstNs.map .int))
section
variable {K : PySem.W.Frag} {H : Hp} {σ : L2.St} {tl : TE} {ds : List PyData} {D : Ends} {tu tz : TS}
theorem s_forU {xs : List V} {j : Nat} (h : EvU tl σ H xs) (Pv : Addr → Nat → L2.St → Hp → Prop) (h0 : ∀ p H1, H p = none → Ex H H1 → H1 p = some (.tup xs) → Pv p 0 σ H1) (hl : ∀ p i σ' H', Pv p i σ' H' → H' p = some (.tup xs)) (hs : ∀ p i x σ' H', xs[i]? = some x → Pv p i σ' H' → tu { D with nx := Pv p (i + 1), ct := Pv p (i + 1), bk := D.nx } (σ'.set j (some x)) H')
    (hd : ∀ p σ' H', Pv p xs.length σ' H' → D.nx σ' H') : tFor (iTup K tl) (gName j) tu D σ H := h H (Ex.refl H) _ fun p H1 hp e h1 =>
  ⟨p, rfl, ⟨xs, st_of h1⟩, for_tup (xs := xs) (Pv p) (h0 p H1 hp e h1) (fun i σ' H' _ c => st_of (hl p i σ' H' c)) (fun i x σ' H' hi c => hs p i x σ' H' hi c) (fun σ' H' c => hd p σ' H' c)⟩
theorem q_forU {xs : List V} {j : Nat} (h : EvU tl σ H xs) (Pv : Addr → Nat → L2.St → Hp → Prop) (h0 : ∀ p H1, H p = none → Ex H H1 → H1 p = some (.tup xs) → Pv p 0 σ H1) (hl : ∀ p i σ' H', Pv p i σ' H' → H' p = some (.tup xs)) (hs : ∀ p i x σ' H', xs[i]? = some x → Pv p i σ' H' → tu { D with nx := Pv p (i + 1), ct := Pv p (i + 1), bk := tz D } (σ'.set j (some x)) H')
    (hd : ∀ p σ' H', Pv p xs.length σ' H' → tz D σ' H') : tSeq (tFor (iTup K tl) (gName j) tu) tz D σ H := s_forU (D := { D with nx := tz D }) h Pv h0 hl hs hd
end
theorem cutP_map {α β : Type} (f : α → β) (l : List α) (lo hi : Option Int) : cutP (l.map f) lo hi = (cutP l lo hi).map f := by
  unfold cutP
  rw [List.length_map, List.map_take, List.map_drop]
theorem len15 {ns : List Int} (h : ns.length = 15) : ∃ a b c d e f x y z u v w p q r, ns = [a, b, c, d, e, f, x, y, z, u, v, w, p, q, r] := by
  match ns, h with
  | [a, b, c, d, e, f, x, y, z, u, v, w, p, q, r], _ => exact ⟨a, b, c, d, e, f, x, y, z, u, v, w, p, q, r, rfl⟩
theorem rulesOk_15 (a b c d e f x y z u v w p q r : Int) : rulesOk [a, b, c, d, e, f, x, y, z, u, v, w, p, q, r] = ((isRange a b && (isRange c d && isRange e f)) && (([x, y, z, u, v, w].all (within 60)) && ([p, q, r].all (within 20)))) := rfl
theorem rulesOk_len {ns : List Int} (h : rulesOk ns = true) : ns.length = 15 := by
  unfold rulesOk at h
  split at h
  · rfl
  · cases h
section
variable {P : Program} {w : World} {K : PySem.W.Frag} {mg : Str → Option Value} {base : Heap} {CR C : Addr}
theorem scIsRange : FnScope ["low", "high"] ["low", "high"] (defScope sIsRange) := ⟨rfl, rfl, rfl, by decide +kernel, rfl, by decide +kernel, by decide +kernel⟩
theorem cal_isRange (D : Def K mg "is_range" sIsRange) (g1 : Gi mg "HIGHEST_SOUND" 119) (g2 : Gi mg "WIDEST_RANGE" 24) : Cal P w K mg base "is_range" 1 ["low", "high"] (SpD K RIsRange) := by
  refine ok_D D scIsRange (fun ds d h => ?_) (fun _ _ _ _ _ _ us hl => match us, hl with | [_, _], _ => rfl) (fun f cdv A outer s H vs Q E ds d hr hv h k => ?_)
  · obtain ⟨_, _, rfl, _⟩ := h
    rfl
  · obtain ⟨a, b, rfl, rfl⟩ := h
    have e : vs = [.int a, .int b] := DpAll.ints (ns := [a, b]) hv
    subst e
    refine ⟨_, pss_one (ps_ret (pe_and (pe_chain3 op_le op_le op_le pe_int (pv 0) (pv 1) (pe_gi g1)) (pe_one (pe_cmpR op_le (pe_op op_sub (pv 1) (pv 0)) (pe_gi g2) (nomark _))))), ?_⟩
    refine s_retD (dv_is (dv_and (dv_chain3 dv_int (dv_vi rfl) (dv_vi rfl) dv_int) fun _ => dv_B (dv_I (dv_vi rfl) (dv_vi rfl)) dv_int) ?_) k
    unfold isRange
    rw [Bool.and_assoc, Bool.and_assoc]
abbrev nmAW : List Str := ["numbers", "most", "number"]
theorem scAW : FnScope nmAW ["numbers", "most"] (defScope sAllWithin) := ⟨rfl, rfl, rfl, by decide +kernel, rfl, by decide +kernel, by decide +kernel⟩
theorem cal_allWithin (D : Def K mg "are_all_within" sAllWithin) (ga : mg "all" = none) : Cal P w K mg base "are_all_within" 1 ["numbers", "most"] (SpD K RAllWithin) := by
  refine ok_D D scAW (fun ds d h => ?_) (fun _ _ _ _ _ _ us hl => match us, hl with | [_, _], _ => rfl) (fun f cdv A outer s H vs Q E ds d hr hv h k => ?_)
  · obtain ⟨_, _, rfl, _⟩ := h
    rfl
  · obtain ⟨ns, m, rfl, hl, rfl⟩ := h
    obtain ⟨v0, v1, rfl, h0, h1⟩ := DpAll2 hv
    cases h1.int_inv
    refine ⟨_, pss_one (ps_ret (pe_callB (cr_all rfl) (by rfl) ga (by decide +kernel) (pa_cons (pe_lc (own := [("number", 2)]) (g := gName 2) rfl scAW.nd (pi_list (pv 0)) (blkOk_by (own := [("number", 2)]) (N := nmAW) (sc := defScope sAllWithin) (by decide +kernel)) (fun _ _ _ _ _ => pg_name (i := 2) scAW.nd rfl (Or.inl rfl)) (fun _ _ _ _ _ => pts_nil)
      (fun _ _ _ _ _ => pe_chain op_le op_le pe_int (pv 2) (pv 1))) pa_nil))), ?_⟩
    refine s_retD (dv_is (dv_all (bs := ns.map (within m)) (dv_is (dvl_map (l := ns) (enc := PyData.int) (fun n => .bool (within m n)) (dv_var rfl h0) (by omega) (fun _ => rfl) (fun x _ => by simp [noList]) fun x _ u H1 e hx => ?_).dv (by rw [List.map_map] <;> rfl))) ?_) k
    · cases hx.int_inv
      exact dv_chain dv_int (dv_vi rfl) (dv_vi rfl)
    · congr 1
      rw [List.all_map]
      rfl
abbrev nmAR : List Str := ["numbers", "k"]
theorem scAR : FnScope nmAR ["numbers"] (defScope sAreRules) := ⟨rfl, rfl, rfl, by decide +kernel, rfl, by decide +kernel, by decide +kernel⟩
theorem cal_areRules (D : Def K mg "are_rules" sAreRules) (gl : mg "len" = none) (gF : FirstT K mg) (g1 : Gi mg "MOST_SEMITONES" 60) (g2 : Gi mg "HIGHEST_PRICE" 20) (c1 : Cal P w K mg base "is_range" 1 ["low", "high"] (SpD K RIsRange)) (c2 : Cal P w K mg base "are_all_within" 1 ["numbers", "most"] (SpD K RAllWithin)) :
    Cal P w K mg base "are_rules" 2 ["numbers"] (SpD K RAreRules) := by
  refine ok_D D scAR (fun ds d h => ?_) (fun _ _ _ _ _ _ us hl => match us, hl with | [_], _ => rfl) (fun f cdv A outer s H vs Q E ds d hr hv h k => ?_)
  · obtain ⟨_, rfl, _⟩ := h
    rfl
  · obtain ⟨ns, rfl, hln, rfl⟩ := h
    obtain ⟨v, rfl, hn⟩ := DpAll1 hv
    obtain ⟨aF, hF, dF⟩ := gF
    refine ⟨_, pss_cons (ps_if (pt_cmpR op_ne (pe_callB call_len_seq (by rfl) gl PySem.boot_len (pa_cons (pv 0) pa_nil)) (pe_callB call_len_seq (by rfl) gl PySem.boot_len (pa_cons (pe_glob (v := .ref aF) (by rfl) hF rfl) pa_nil)) (nomark _)) (pss_one (ps_ret pe_bl)) pss_nil)
      (pss_cons (ps_for PassesOwn.never rfl (pi_tup (pe_tup (pa_cons pe_int (pa_cons pe_int (pa_cons pe_int pa_nil))))) (pg_name (i := 1) scAR.nd rfl (Or.inl rfl))
        (pss_one (ps_if (pt_not (pt_val (pe_cal c1 hr (pa_cons (pe_ix ix_list (pv 0) (pv 1) (fun _ _ => rfl)) (pa_cons (pe_ix ix_list (pv 0) (pe_op op_add (pv 1) pe_int) (fun _ _ => rfl)) pa_nil))))) (pss_one (ps_ret pe_bl)) pss_nil)))
      (pss_one (ps_ret (pe_and (pe_cal c2 hr (pa_cons (pe_slice sl_list (pv 0) (po_some pe_int) (po_some pe_int)) (pa_cons (pe_gi g1) pa_nil))) (pe_one (pe_cal c2 hr (pa_cons (pe_slice sl_list (pv 0) (po_some pe_int) po_none) (pa_cons (pe_gi g2) pa_nil)))))))), ?_⟩
    have hlen : ((ns.map PyData.int).length : Int) = (ns.length : Int) := by rw [List.length_map]
    refine q_when (b := !decide ((ns.length : Int) = 15)) (dt_test (dv_is (dv_neI (dv_len (dv_var rfl hn)) (dv_lenT (dv_c (dF _)))) (by rw [hlen]; rfl))) (fun hb H1 e1 => ?_) (fun hb H1 e1 => ?_)
    · refine s_retD (dv_is dv_bl ?_) fun v' H2 e2 hd => k v' H2 (e1.trans e2) hd
      cases hro : rulesOk ns with
      | false => rfl
      | true =>
        have := rulesOk_len hro
        simp only [Bool.not_eq_true', decide_eq_false_iff_not] at hb
        omega
    · have hl15 : ns.length = 15 := by
        simp only [Bool.not_eq_false', decide_eq_true_eq] at hb
        omega
      obtain ⟨a, b, c, d, e, f', x, y, z, u, v', w', p, q, r, rfl⟩ := len15 hl15
      have hn' : ∀ G, Ex H G → Dp K G v _ := fun G e => Dp.mono e _ hn
      refine q_forU (K := K) (xs := [.int 0, .int 2, .int 4]) (eu_tup (ea_cons ev_c (ea_cons ev_c (ea_cons ev_c ea_nil))) (by show 3 ≤ 100000; decide))
        (fun pt i σ' H' => ∃ o1, σ' = [some v, o1] ∧ Ex H H' ∧ H' pt = some (.tup [.int 0, .int 2, .int 4]) ∧ (1 ≤ i → isRange a b = true) ∧ (2 ≤ i → isRange c d = true) ∧ (3 ≤ i → isRange e f' = true))
        (fun pt H2 hp e2 h2 => ⟨none, rfl, e1.trans e2, h2, fun h => absurd h (by decide), fun h => absurd h (by decide), fun h => absurd h (by decide)⟩) (fun _ _ _ _ ⟨_, _, _, h, _⟩ => h) (fun pt i xk σ' H' hi ⟨o1, eσ, e2, h2, i1, i2, i3⟩ => ?_) (fun pt σ' H' ⟨o1, eσ, e2, h2, i1, i2, i3⟩ => ?_)
      · subst eσ
        obtain ⟨lo, hi', j, hxk, hlo, hhi, hbad, hgood⟩ : ∃ (lo hi' : Int) (j : Nat), xk = .int (j : Int) ∧ ([a, b, c, d, e, f', x, y, z, u, v', w', p, q, r].map PyData.int)[j]? = some (.int lo) ∧ ([a, b, c, d, e, f', x, y, z, u, v', w', p, q, r].map PyData.int)[j + 1]? = some (.int hi') ∧ (isRange lo hi' = false → rulesOk [a, b, c, d, e, f', x, y, z, u, v', w', p, q, r] = false) ∧
            (isRange lo hi' = true → (1 ≤ i + 1 → isRange a b = true) ∧ (2 ≤ i + 1 → isRange c d = true) ∧ (3 ≤ i + 1 → isRange e f' = true)) := by
          match i, hi with
          | 0, hi =>
            cases hi
            refine ⟨a, b, 0, rfl, rfl, rfl, fun h => ?_, fun h => ⟨fun _ => h, fun h => absurd h (by decide), fun h => absurd h (by decide)⟩⟩
            rw [rulesOk_15, h]
            rfl
          | 1, hi =>
            cases hi
            refine ⟨c, d, 2, rfl, rfl, rfl, fun h => ?_, fun h => ⟨fun _ => i1 (by decide), fun _ => h, fun h => absurd h (by decide)⟩⟩
            rw [rulesOk_15, h]
            simp
          | 2, hi =>
            cases hi
            refine ⟨e, f', 4, rfl, rfl, rfl, fun h => ?_, fun h => ⟨fun _ => i1 (by decide), fun _ => i2 (by decide), fun _ => h⟩⟩
            rw [rulesOk_15, h]
            simp
          | n + 3, hi => simp at hi
        subst hxk
        refine s_when (b := !isRange lo hi') (et_not (dt_B (dv_call (da_cons (dv_ixL (j := j) (dv_var rfl (hn' _ e2)) (dv_vi rfl) rfl hlo) (da_cons (dv_ixL (j := j + 1) (dv_var rfl (hn' _ e2)) (dv_I (dv_vi rfl) dv_int) (by push_cast; omega) hhi) da_nil)) ⟨lo, hi', rfl, rfl⟩))) (fun hb' H3 e3 => ?_) (fun hb' H3 e3 => ?_)
        · refine s_retD (dv_is dv_bl ?_) fun v'' H4 e4 hd => k v'' H4 ((e2.trans e3).trans e4) hd
          rw [hbad (by simpa using hb')]
        · exact ⟨_, rfl, e2.trans e3, e3 _ _ h2, hgood (by simpa using hb')⟩
      · subst eσ
        have j1 := i1 (by decide)
        have j2 := i2 (by decide)
        have j3 := i3 (by decide)
        refine s_retD (dv_is (dv_and (dv_call (da_cons (dvl_sl (dv_var rfl (hn' _ e2)) (eo_some ev_c) (eo_some ev_c)).dv (da_cons dv_int da_nil)) ⟨[x, y, z, u, v', w'], 60, rfl, by show 6 ≤ 100; decide, rfl⟩) fun _ => dv_call (da_cons (dvl_sl (dv_var rfl (hn' _ e2)) (eo_some ev_c) eo_none).dv (da_cons dv_int da_nil)) ⟨[p, q, r], 20, rfl, by show 3 ≤ 100; decide, rfl⟩) ?_) fun v'' H4 e4 hd => k v'' H4 (e2.trans e4) hd
        rw [rulesOk_15, j1, j2, j3]
        rfl
end
end Bf

namespace Bf
open PySem PySem.Spec PyProof.Rows L2 Evl
theorem rulesOf_15 (a b c d e f x y z u v w p q r : Int) : rulesOf [a, b, c, d, e, f, x, y, z, u, v, w, p, q, r] = ⟨[(a, b), (c, d), (e, f)], [x, y, z], [u, v, w], p.toNat, q.toNat, r.toNat⟩ := rfl
theorem rulesOf_ok {ns : List Int} (h : rulesOk ns = true) : RuOk (rulesOf ns) := by
  obtain ⟨a, b, c, d, e, f, x, y, z, u, v, w, p, q, r, rfl⟩ := len15 (rulesOk_len h)
  rw [rulesOk_15] at h
  simp only [Bool.and_eq_true, List.all_cons, List.all_nil, within, decide_eq_true_eq, Bool.and_true] at h
  obtain ⟨⟨g1, g2, g3⟩, _, ⟨p1, p2⟩, ⟨q1, q2⟩, r1, r2⟩ := h
  have hr : ∀ {x y : Int}, isRange x y = true → (0 ≤ x ∧ y ≤ 119) ∧ y - x ≤ 24 := fun {x y} h => by
    unfold isRange at h
    simp only [Bool.and_eq_true, decide_eq_true_eq] at h
    omega
  have hall : ∀ z ∈ [(a, b), (c, d), (e, f)], (0 ≤ z.1 ∧ z.2 ≤ 119) ∧ z.2 - z.1 ≤ 24 := fun z hz => by
    have hz' : z = (a, b) ∨ z = (c, d) ∨ z = (e, f) := by simpa using hz
    rcases hz' with rfl | rfl | rfl
    · exact hr g1
    · exact hr g2
    · exact hr g3
  exact ⟨⟨_, _, _, rfl⟩, ⟨_, _, _, rfl⟩, ⟨_, _, _, rfl⟩, by show p.toNat ≤ 20; omega, by show q.toNat ≤ 20; omega, by show r.toNat ≤ 20; omega, fun z hz => (hall z hz).1, fun z hz => (hall z hz).2⟩
theorem first_ok : rulesOk firstNs = true := by decide
theorem first_rules : rulesOf firstNs = Cp05.rules0 := rfl
theorem nl_range (r : Int × Int) : noList (encRange r) = true := by simp [encRange, noList, noListAll]
def spRuI (K : PySem.W.Frag) (C : Addr) : Sp := fun vs H Q _ => ∃ (p dx : Addr) (v : V) (ns : List Int), vs = [.ref p, v] ∧ H p = some (.ins C dx []) ∧ Dp K H v (.list (ns.map .int)) ∧ rulesOk ns = true ∧
  ∀ H', (∀ S, Av S H → S p = false → RuAt K C (cutS H' S) p (rulesOf ns)) → Ex (cutH H p) H' → Q .non H'
def spFirst (K : PySem.W.Frag) (C : Addr) : Sp := fun vs H Q _ => vs = [] ∧ ∀ p H', H p = none → Ex H H' → (∀ S, Av S H → RuAt K C (cutS H' S) p Cp05.rules0) → Q (.ref p) H'
/-- C(..) : the class x stands at C, its __init__ keeps sp -/
def MkC (P : Program) (w : World) (K : PySem.W.Frag) (mg : Str → Option Value) (base : Heap) (x : Str) (C : Addr) (k : Nat) (ps : List Str) (sp : Sp) : Prop := ∃ f fd, mg x = some (.ref C) ∧ Mk K C f ∧ Binds K fd ps [] ∧ FnOk P w K mg base CX0 k f fd ps sp
theorem pe_mkC {X : Cx} {x : Str} {C : Addr} {k : Nat} {ps : List Str} {sp : Sp} {e : Expr} {es : List Expr} {t : TA} {p pos : Pos} (M : MkC X.prog X.w X.K X.mg X.base x C k ps sp) (hr : Room (k + 1) X.A) (ha : PA X (e :: es) t) (hg : Gl X x := by rfl)
    (hd : (x == ("__debug__" : Str)) = false := by decide) (h1 : starEach (e :: es) X.env = (false, eval e X.env) :: starEach es X.env := by rfl) (h2 : (backTo pos (starEach es X.env)).any (·.1) = false := by rfl) : PE X (.Call (.Name x p) (e :: es) [] pos) (tMake C sp [] E0 t) := by
  obtain ⟨f, fd, hm, M, hb, F⟩ := M
  exact pe_make M F hr hg hm hb .nil pass0 ha hd h1 h2
theorem pe_mkC0 {X : Cx} {x : Str} {C : Addr} {k : Nat} {ps : List Str} {sp : Sp} {p pos : Pos} (M : MkC X.prog X.w X.K X.mg X.base x C k ps sp) (hr : Room (k + 1) X.A) (hg : Gl X x := by rfl)
    (hd : (x == ("__debug__" : Str)) = false := by decide) : PE X (.Call (.Name x p) [] [] pos) (tMake C sp [] E0 tNil) := by
  obtain ⟨f, fd, hm, M, hb, F⟩ := M
  exact pe_make0 M F hr hg hm hb .nil pass0 hd
theorem pe_cal0 {X : Cx} {x : Str} {k : Nat} {ps : List Str} {sp : Sp} {p pos : Pos} (C : Cal X.prog X.w X.K X.mg X.base x k ps sp) (hr : Room k X.A) (hg : Gl X x := by rfl) (hd : (x == ("__debug__" : Str)) = false := by decide) : PE X (.Call (.Name x p) [] [] pos) (tCall sp [] E0 tNil) := by
  obtain ⟨f, fd, hm, hk, hb, F⟩ := C
  exact pe_call0 F hr hg hm hk hb .nil pass0 hd
section
variable {P : Program} {w : World} {K : PySem.W.Frag} {mg : Str → Option Value} {base : Heap} {C : Addr}
theorem Ex_make {H : Hp} {x dx : Addr} (nx : H x = none) (nd : H dx = none) : Ex H (upd (upd H dx (.own x)) x (.ins C dx [])) := Ex.mut (Ex.new nd) nx
/-- behind __init__ of a new object: what was there stands -/
theorem Ex_made {H H' : Hp} {x dx : Addr} (nx : H x = none) (nd : H dx = none) (e : Ex (cutH (upd (upd H dx (.own x)) x (.ins C dx [])) x) H') : Ex H H' := fun b o hb => e b o (by
  rw [cutH_ne (ne_of_none hb nx), upd_ne (ne_of_none hb nx), upd_ne (ne_of_none hb nd)]
  exact hb)
abbrev nmRI : List Str := ["self", "numbers"]
theorem scRI : FnScope nmRI ["self", "numbers"] (defScope sRuI) := ⟨rfl, rfl, rfl, by decide +kernel, rfl, by decide +kernel, by decide +kernel⟩
/-- the fields as they come -/
theorem put_new (ks : List Str) {fs : List (Str × V)} {f : Str} {v : V} (hk : fs.map Prod.fst = ks) (h : (ks.any fun g => decide (g = f)) = false) : putF f v fs = fs ++ [(f, v)] := by
  subst hk
  induction fs with
  | nil => rfl
  | cons p r ih =>
    obtain ⟨g, x⟩ := p
    have h' : (decide (g = f) || (r.map Prod.fst).any fun g => decide (g = f)) = false := h
    rw [Bool.or_eq_false_iff, decide_eq_false_iff_not] at h'
    rw [put_past h'.1, ih h'.2]
    rfl
theorem ruF_1 (a : V) : putF "ranges" a [] = [(("ranges" : Str), a)] := rfl
theorem ruF_2 (a b : V) : putF "apart" b [(("ranges" : Str), a)] = [(("ranges" : Str), a), ("apart", b)] := put_new ["ranges"] rfl (by decide +kernel)
theorem ruF_3 (a b c : V) : putF "leaps" c [(("ranges" : Str), a), ("apart", b)] = [(("ranges" : Str), a), ("apart", b), ("leaps", c)] := put_new ["ranges", "apart"] rfl (by decide +kernel)
theorem ruF_4 (a b c d : V) : putF "twice" d [(("ranges" : Str), a), ("apart", b), ("leaps", c)] = [(("ranges" : Str), a), ("apart", b), ("leaps", c), ("twice", d)] := put_new ["ranges", "apart", "leaps"] rfl (by decide +kernel)
theorem ruF_5 (a b c d e : V) : putF "left" e [(("ranges" : Str), a), ("apart", b), ("leaps", c), ("twice", d)] = [(("ranges" : Str), a), ("apart", b), ("leaps", c), ("twice", d), ("left", e)] := put_new ["ranges", "apart", "leaps", "twice"] rfl (by decide +kernel)
theorem ruF_6 (a b c d e f : V) : putF "move" f [(("ranges" : Str), a), ("apart", b), ("leaps", c), ("twice", d), ("left", e)] = [(("ranges" : Str), a), ("apart", b), ("leaps", c), ("twice", d), ("left", e), ("move", f)] := put_new ["ranges", "apart", "leaps", "twice", "left"] rfl (by decide +kernel)
/-- a new list beside the object p: it is read apart from p -/
theorem Dp_cut_new {H : Hp} {l p : Addr} {xs : List V} {ds : List PyData} (hne : l ≠ p) (h : H l = some (.lst xs)) (nt : ∀ ys, ¬ Rd H p (.tup ys)) (nl : noListAll ds = true) (hd : DpAll K H xs ds) : Dp K (cutH H p) (.ref l) (.list ds) :=
  .lst (sq_of (by rw [cutH_ne hne]; exact h)) (DpAll.monoT (cutH_tsame nt) _ nl hd)
theorem cutH_ex2 {H G : Hp} {p : Addr} {o : HO} (e : Ex H G) : Ex (cutH H p) (upd G p o) := Ex.mut (cutH_le.trans e) (cutH_same _ _)
theorem cutH_mono {H G : Hp} {p : Addr} (e : Ex H G) : Ex (cutH H p) (cutH G p) := fun b o hb => by
  by_cases z : b = p
  · rw [z, cutH_same] at hb; cases hb
  · rw [cutH_ne z] at hb ⊢; exact e _ _ hb
theorem cutH_upd_eq {H : Hp} {p : Addr} {o : HO} : cutH (upd H p o) p = cutH H p := by
  funext b
  by_cases z : b = p
  · rw [z, cutH_same, cutH_same]
  · rw [cutH_ne z, cutH_ne z, upd_ne z]
theorem Av_cut {H H' : Hp} {S : Addr → Bool} {p : Addr} (hS : Av S H) (hSp : S p = false) (e : Ex (cutH H p) H') : Av S H' := fun b hb => by
  have hbp : b ≠ p := fun z => by rw [z, hSp] at hb; cases hb
  obtain ⟨⟨u, hu⟩, hn⟩ := hS b hb
  have hu' : H' b = some u := e _ _ (by rw [cutH_ne hbp]; exact hu)
  refine ⟨⟨u, hu'⟩, fun ys r => hn ys ?_⟩
  unfold Rd at r ⊢
  rw [hu'] at r
  rw [hu]
  exact r
theorem ok_ruI {f : Addr} {fd : FuncData} (F : Fun K "__init__" "Rules.__init__" sRuI f fd) (T : RuTxt K C) : FnOk P w K mg base CX0 1 f fd ["self", "numbers"] (spRuI K C) := by
  refine F.ok scRI (fun vs H Q E h => ?_) (fun cdv A outer s H vs Q E hr h => ?_)
  · obtain ⟨_, _, _, _, rfl, _⟩ := h
    rfl
  · obtain ⟨o, dx, v, ns, rfl, hp, hv, hok, k⟩ := h
    refine ⟨_, pss_cons (ps_fld (pv 0) (pe_lst (pa_cons (pe_tup (pa_cons (pe_ix ix_list (pv 1) pe_int (fun _ _ => rfl)) (pa_cons (pe_ix ix_list (pv 1) pe_int (fun _ _ => rfl)) pa_nil))) (pa_cons (pe_tup (pa_cons (pe_ix ix_list (pv 1) pe_int (fun _ _ => rfl)) (pa_cons (pe_ix ix_list (pv 1) pe_int (fun _ _ => rfl)) pa_nil))) (pa_cons (pe_tup (pa_cons (pe_ix ix_list (pv 1) pe_int (fun _ _ => rfl)) (pa_cons (pe_ix ix_list (pv 1) pe_int (fun _ _ => rfl)) pa_nil))) pa_nil)))) rfl)
      (pss_cons (ps_fld (pv 0) (pe_slice sl_list (pv 1) (po_some pe_int) (po_some pe_int)) rfl)
      (pss_cons (ps_fld (pv 0) (pe_slice sl_list (pv 1) (po_some pe_int) (po_some pe_int)) rfl)
      (pss_cons (ps_fld (pv 0) (pe_ix ix_list (pv 1) pe_int (fun _ _ => rfl)) rfl)
      (pss_cons (ps_fld (pv 0) (pe_ix ix_list (pv 1) pe_int (fun _ _ => rfl)) rfl)
      (pss_one (ps_fld (pv 0) (pe_ix ix_list (pv 1) pe_int (fun _ _ => rfl)) rfl)))))), ?_⟩
    have hokR := rulesOf_ok hok
    obtain ⟨a, b, c, d, e, f', x, y, z, u, v', w', p, q, r, rfl⟩ := len15 (rulesOk_len hok)
    rw [rulesOf_15] at k hokR
    have hpos : 0 ≤ p ∧ 0 ≤ q ∧ 0 ≤ r := by
      rw [rulesOk_15] at hok
      simp only [Bool.and_eq_true, List.all_cons, List.all_nil, within, decide_eq_true_eq, Bool.and_true] at hok
      obtain ⟨_, _, ⟨p1, _⟩, ⟨q1, _⟩, r1, _⟩ := hok
      exact ⟨p1, q1, r1⟩
    have hv0 := Dp_cut_ints (no_lst_ins hp) hv
    -- self.ranges
    refine q_fldL (ds := [(a, b), (c, d), (e, f')].map encRange) (dvl_lst (da_cons (dv_tup (da_cons (dv_ixL (j := 0) (dv_var rfl hv) dv_int rfl rfl) (da_cons (dv_ixL (j := 1) (dv_var rfl hv) dv_int rfl rfl) da_nil)) (by show 2 ≤ 100000; decide)) (da_cons (dv_tup (da_cons (dv_ixL (j := 2) (dv_var rfl hv) dv_int rfl rfl) (da_cons (dv_ixL (j := 3) (dv_var rfl hv) dv_int rfl rfl) da_nil)) (by show 2 ≤ 100000; decide)) (da_cons (dv_tup (da_cons (dv_ixL (j := 4) (dv_var rfl hv) dv_int rfl rfl) (da_cons (dv_ixL (j := 5) (dv_var rfl hv) dv_int rfl rfl) da_nil)) (by show 2 ≤ 100000; decide)) da_nil))) (by show 3 ≤ 100000; decide)) (ev_var rfl) hp T.cl T.nR (by show 0 < 1000; decide) fun l1 x1 H1 n1 e1 h1 d1 => ?_
    rw [ruF_1]
    have g1 : Dp K (cutH H1 o) (.ref l1) (.list ([(a, b), (c, d), (e, f')].map encRange)) := Dp_cut_new (fun z => by rw [z, hp] at n1; cases n1) h1 (no_tup_ins (e1 _ _ hp)) (noListAll_map nl_range _) d1
    have E1 : Ex (cutH H o) (cutH H1 o) := cutH_mono e1
    -- self.apart
    have hv1 : Dp K (upd H1 o (.ins C dx [(("ranges" : Str), .ref l1)])) v _ := Dp.mono (cutH_ex2 e1) _ hv0
    refine q_fldL (ds := [x, y, z].map .int) (dvl_sl (dv_var rfl hv1) (eo_some ev_c) (eo_some ev_c)) (ev_var rfl) upd_same T.cl T.nA (by show 1 < 1000; decide) fun l2 x2 H2 n2 e2 h2 d2 => ?_
    rw [ruF_2]
    have hp2 : H2 o = some (.ins C dx [(("ranges" : Str), .ref l1)]) := e2 _ _ upd_same
    have g2 : Dp K (cutH H2 o) (.ref l2) (.list ([x, y, z].map .int)) := Dp_cut_new (fun z => by rw [z, upd_same] at n2; cases n2) h2 (no_tup_ins hp2) (noListAll_map (fun _ => by simp [noList]) _) d2
    have E2 : Ex (cutH H1 o) (cutH H2 o) := by
      have := cutH_mono (p := o) e2
      rw [cutH_upd_eq] at this
      exact this
    -- self.leaps
    have hv2 : Dp K (upd H2 o (.ins C dx [(("ranges" : Str), .ref l1), ("apart", .ref l2)])) v _ := Dp.mono ((E1.trans E2).trans cutH_ex) _ hv0
    refine q_fldL (ds := [u, v', w'].map .int) (dvl_sl (dv_var rfl hv2) (eo_some ev_c) (eo_some ev_c)) (ev_var rfl) upd_same T.cl T.nL (by show 2 < 1000; decide) fun l3 x3 H3 n3 e3 h3 d3 => ?_
    rw [ruF_3]
    have hp3 : H3 o = some (.ins C dx [(("ranges" : Str), .ref l1), ("apart", .ref l2)]) := e3 _ _ upd_same
    have g3 : Dp K (cutH H3 o) (.ref l3) (.list ([u, v', w'].map .int)) := Dp_cut_new (fun z => by rw [z, upd_same] at n3; cases n3) h3 (no_tup_ins hp3) (noListAll_map (fun _ => by simp [noList]) _) d3
    have E3 : Ex (cutH H2 o) (cutH H3 o) := by
      have := cutH_mono (p := o) e3
      rw [cutH_upd_eq] at this
      exact this
    -- self.twice, left, move
    have hv3 : Dp K (upd H3 o (.ins C dx [(("ranges" : Str), .ref l1), ("apart", .ref l2), ("leaps", .ref l3)])) v _ := Dp.mono (((E1.trans E2).trans E3).trans cutH_ex) _ hv0
    refine q_fldD (d := .int p) (dv_ixL (j := 12) (dv_var rfl hv3) dv_int rfl rfl) (ev_var rfl) upd_same T.cl T.nT (by show 3 < 1000; decide) fun v4 H4 e4 d4 => ?_
    cases d4.int_inv
    rw [ruF_4]
    have E4 : Ex (cutH H3 o) (cutH H4 o) := by
      have := cutH_mono (p := o) e4
      rw [cutH_upd_eq] at this
      exact this
    have hv4 : Dp K (upd H4 o (.ins C dx [(("ranges" : Str), .ref l1), ("apart", .ref l2), ("leaps", .ref l3), ("twice", .int p)])) v _ := Dp.mono ((((E1.trans E2).trans E3).trans E4).trans cutH_ex) _ hv0
    refine q_fldD (d := .int q) (dv_ixL (j := 13) (dv_var rfl hv4) dv_int rfl rfl) (ev_var rfl) upd_same T.cl T.nF (by show 4 < 1000; decide) fun v5 H5 e5 d5 => ?_
    cases d5.int_inv
    rw [ruF_5]
    have E5 : Ex (cutH H4 o) (cutH H5 o) := by
      have := cutH_mono (p := o) e5
      rw [cutH_upd_eq] at this
      exact this
    have hv5 : Dp K (upd H5 o (.ins C dx [(("ranges" : Str), .ref l1), ("apart", .ref l2), ("leaps", .ref l3), ("twice", .int p), ("left", .int q)])) v _ := Dp.mono (((((E1.trans E2).trans E3).trans E4).trans E5).trans cutH_ex) _ hv0
    refine s_fldD (d := .int r) (dv_ixL (j := 14) (dv_var rfl hv5) dv_int rfl rfl) (ev_var rfl) upd_same T.cl T.nM (by show 5 < 1000; decide) fun v6 H6 e6 d6 => ?_
    cases d6.int_inv
    rw [ruF_6]
    have E6 : Ex (cutH H5 o) (cutH H6 o) := by
      have := cutH_mono (p := o) e6
      rw [cutH_upd_eq] at this
      exact this
    have E16 := (((((E2.trans E3).trans E4).trans E5).trans E6)).trans (cutH_ex (o := .ins C dx [(("ranges" : Str), .ref l1), ("apart", .ref l2), ("leaps", .ref l3), ("twice", .int p), ("left", .int q), ("move", .int r)]))
    have ne1 : l1 ≠ o := fun z => by rw [z, hp] at n1; cases n1
    have ne2 : l2 ≠ o := fun z => by rw [z, upd_same] at n2; cases n2
    have ne3 : l3 ≠ o := fun z => by rw [z, upd_same] at n3; cases n3
    have E26 := ((((E3.trans E4).trans E5).trans E6)).trans (cutH_ex (o := .ins C dx [(("ranges" : Str), .ref l1), ("apart", .ref l2), ("leaps", .ref l3), ("twice", .int p), ("left", .int q), ("move", .int r)]))
    have E36 := (((E4.trans E5).trans E6)).trans (cutH_ex (o := .ins C dx [(("ranges" : Str), .ref l1), ("apart", .ref l2), ("leaps", .ref l3), ("twice", .int p), ("left", .int q), ("move", .int r)]))
    refine k _ (fun S hS hSo => ?_) (E1.trans E16)
    have hS' := Av_cut hS hSo (E1.trans E16)
    have fr : ∀ b, cutH H o b = none → b ≠ o → S b = false := fun b hb hbp => hS.fresh (by rw [cutH_ne hbp] at hb; exact hb)
    have m1 : S l1 = false := hS.fresh n1
    have m2 : S l2 = false := fr l2 (fresh_back (cutH_ex2 e1) n2) ne2
    have m3 : S l3 = false := fr l3 (fresh_back ((E1.trans E2).trans cutH_ex) n3) ne3
    have f1 := E16 l1 _ (by rw [cutH_ne ne1]; exact h1)
    have f2 := E26 l2 _ (by rw [cutH_ne ne2]; exact h2)
    have f3 := E36 l3 _ (by rw [cutH_ne ne3]; exact h3)
    have b1 : DpAll K _ x1 _ := DpAll.mono E16 _ (DpAll.monoT (cutH_tsame (no_tup_ins (e1 _ _ hp))) _ (noListAll_map nl_range _) d1)
    have b2 : DpAll K _ x2 ([x, y, z].map .int) := DpAll.mono E26 _ (DpAll.monoT (cutH_tsame (no_tup_ins hp2)) _ (noListAll_map (fun _ => by simp [noList]) _) d2)
    have b3 : DpAll K _ x3 ([u, v', w'].map .int) := DpAll.mono E36 _ (DpAll.monoT (cutH_tsame (no_tup_ins hp3)) _ (noListAll_map (fun _ => by simp [noList]) _) d3)
    refine ⟨dx, .ref l1, .ref l2, .ref l3, ?_, Dp_cutS_list hS' m1 f1 (noListAll_map nl_range _) b1, Dp_cutS_list hS' m2 f2 (noListAll_map (fun _ => by simp [noList]) _) b2, Dp_cutS_list hS' m3 f3 (noListAll_map (fun _ => by simp [noList]) _) b3⟩
    rw [cutS_ne hSo, upd_same]
    have t1 : ((p.toNat : Nat) : Int) = p := by omega
    have t2 : ((q.toNat : Nat) : Int) = q := by omega
    have t3 : ((r.toNat : Nat) : Int) = r := by omega
    show some (HO.ins C dx [(("ranges" : Str), .ref l1), ("apart", .ref l2), ("leaps", .ref l3), ("twice", .int p), ("left", .int q), ("move", .int r)]) = some (HO.ins C dx [(("ranges" : Str), .ref l1), ("apart", .ref l2), ("leaps", .ref l3), ("twice", .int (p.toNat : Int)), ("left", .int (q.toNat : Int)), ("move", .int (r.toNat : Int))])
    rw [t1, t2, t3]
theorem scFirst : FnScope [] [] (defScope sFirst) := ⟨rfl, rfl, rfl, by decide +kernel, rfl, by decide +kernel, by decide +kernel⟩
theorem cal_first (D : Def K mg "first_rules" sFirst) (gl : mg "list" = none) (gF : FirstT K mg) (M : MkC P w K mg base "Rules" C 1 ["self", "numbers"] (spRuI K C)) : Cal P w K mg base "first_rules" 3 [] (spFirst K C) := by
  refine ok_S D scFirst (fun vs H Q E h => ?_) (fun _ _ _ _ _ _ us hl => match us, hl with | [], _ => rfl) (fun f cdv A outer s H vs Q E hr h => ?_)
  · obtain ⟨rfl, _⟩ := h
    rfl
  · obtain ⟨rfl, k⟩ := h
    obtain ⟨aF, hF, dF⟩ := gF
    refine ⟨_, pss_one (ps_ret (pe_mkC M hr (pa_cons (pe_callTy call_list_of (by rfl) gl (by decide +kernel) (pa_cons (pe_glob (v := .ref aF) (by rfl) hF rfl) pa_nil)) pa_nil))), ?_⟩
    obtain ⟨a, xs, ea, hs, hd⟩ := (dF H).tup_inv
    cases ea
    have ei := hd.ints
    subst ei
    refine ⟨aF, _, rfl, .inr hs, fun l nl => ?_⟩
    intro o dx no nd ne
    have hol : l ≠ o := fun z => by rw [← z, upd_same] at no; cases no
    refine ⟨o, dx, .ref l, firstNs, rfl, upd_same, ?_, first_ok, fun H' hR hE => ⟨rfl, ?_⟩⟩
    · refine .lst (sq_of (xs := firstNs.map V.int) ?_) (DpAll.ofInts _ _ _)
      rw [upd_ne hol, upd_ne (fun z => by rw [← z, upd_same] at nd; cases nd)]
      exact upd_same
    · have e2 : Ex (upd H l (.lst (firstNs.map V.int))) H' := Ex_made no nd hE
      refine k o H' (fresh_back (Ex.new nl) no) ((Ex.new nl).trans e2) fun S hS => ?_
      rw [← first_rules]
      refine hR S (Av.mono (Ex_make no nd) (hS.mono (Ex.new nl))) ((hS.mono (Ex.new nl)).fresh no)
end
end Bf

/-! # Further words: xs[i] += e, sums, lists joined, loops and comprehensions over ranges -/
namespace Bf
open PySem PySem.Spec PyProof.Rows L2 Evl
/-- xs[i] op= e, xs a list that stands in the heap, 0 ≤ i -/
def sLAug (to ti tv : TE) (rd : V → V → Hp → VK → Prop) : TS := fun D σ H => to σ H fun x H1 => ti σ H1 fun y H2 => ∃ (l : Addr) (xs : List V) (j : Nat) (v : V), x = .ref l ∧ y = .int (j : Int) ∧ H2 l = some (.lst xs) ∧ xs[j]? = some v ∧
  tv σ H2 fun y2 H3 => rd v y2 H3 fun z H4 => ∃ ys : List V, H4 l = some (.lst ys) ∧ j < ys.length ∧ D.nx σ (upd H4 l (.lst (ys.set j z)))
theorem ps_laug {X : Cx} {o i value : Expr} {tpos pos : Pos} {to ti tv : TE} {op : Operator} {rd : V → V → Hp → VK → Prop} (ho : PE X o to) (hi : PE X i ti) (hv : PE X value tv) (hop : InOp X op rd)
    (ha : ∀ ov iv new, augStore i ov iv new = (do holding [new, ov, iv] (setItem ov iv new); release [new, ov, iv] []; pure .next)) : PS X (.AugAssign (.Subscript o i tpos) op value pos) (sLAug to ti tv rd) := by
  refine ⟨fun pins s σ H D I h => ?_⟩
  refine wpAny_AugAssign_SubscriptAny (thn (ho.run pins s σ H _ I h) fun u s1 ⟨x, H1, I1, rx, q1⟩ => thn (hi.run pins s1 σ H1 _ I1 q1) fun iv s2 ⟨y, H2, I2, ry, l, xs, j, v, ex, ey, hl, hj, q2⟩ => ?_) ha
  subst ex ey
  obtain rfl : u = Value.ref l := rx
  obtain ⟨t, rfl⟩ := ry
  obtain ⟨its, r, pl, hz⟩ := I2.list (SqL.of (K := X.K) hl)
  obtain ⟨w', ew, rw'⟩ := r.get hj
  have hjl := (List.getElem?_eq_some_iff.mp hj).1
  have hn := line63
  refine wpAny_getItem_list pl.isList (by omega) (by omega) (x := w') (by simpa using ew) ?_
  refine thn (hv.run pins s2 σ H2 _ I2 q2) fun w2 s4 ⟨y2, H3, I4, ry2, q3⟩ => thn (hop pins s4 σ H3 v y2 w' w2 _ I4 rw' ry2 q3) fun w3 s5 ⟨z, H4, I5, rz, ys, hy, hjy, q4⟩ => ?_
  refine wpAny_mono (set_list pins s5 σ H4 (.ref l) (.int (j : Int)) z (.ref l) (.int (j : Int) t) w3 (fun H5 => D.nx σ H5) I5 rfl ⟨t, rfl⟩ rz ⟨l, ys, (j : Int), j, rfl, rfl, hy, ixN_nat hjy, q4⟩) (fun _ s6 ⟨H6, I6, q6⟩ => ⟨σ, H6, I6, q6⟩) fun _ _ z => z
section
variable {K : PySem.W.Frag} {H : Hp} {σ : L2.St} {ta tb te ti tl : TE} {t : TT} {D : Ends} {tu tz : TS} {ds es : List PyData}
/-- xs[j] += n -/
theorem s_laug {l : Addr} {xs : List V} {j : Nat} {a b i : Int} (hl : H l = some (.lst xs)) (ho : Ev ta σ H (.ref l)) (hi : Dv K ti σ H (.int i)) (ej : i = (j : Int)) (hj : xs[j]? = some (.int a)) (h : Dv K te σ H (.int b)) (k : ∀ H1, Ex H H1 → D.nx σ (upd H1 l (.lst (xs.set j (.int (a + b)))))) :
    sLAug ta ti te rAdd D σ H := ho H (Ex.refl H) _ fun H1 e1 => ev_int hi H1 e1 _ fun H2 e2 => ⟨l, xs, j, .int a, rfl, by rw [ej], (e1.trans e2) _ _ hl, hj, ev_int h H2 (e1.trans e2) _ fun H3 e3 => ⟨a, b, rfl, rfl, xs, ((e1.trans e2).trans e3) _ _ hl, (List.getElem?_eq_some_iff.mp hj).1, k H3 ((e1.trans e2).trans e3)⟩⟩
theorem dv_sum {ns : List Int} (ha : Dv K ta σ H (.list (ns.map .int))) : Dv K (tCB (rSum K) (tCons ta tNil)) σ H (.int ns.sum) := fun H1 e _ q =>
  ha H1 e _ fun x H2 e2 hx => by
    obtain ⟨a, xs, rfl, hs, hd⟩ := hx.lst_inv
    have e3 := hd.ints
    subst e3
    exact ⟨a, ns, rfl, hs, q _ H2 e2 (.int _)⟩
theorem dv_abs {i : Int} (ha : Dv K ta σ H (.int i)) : Dv K (tCB (fun xs H Q => ∃ i, xs = [.int i] ∧ Q (.int (if i < 0 then -i else i)) H) (tCons ta tNil)) σ H (.int (i.natAbs : Int)) := fun H1 e _ q =>
  ev_int ha H1 e _ fun H2 e2 => ⟨i, rfl, by
    have : (if i < 0 then -i else i) = (i.natAbs : Int) := by split <;> omega
    rw [this]
    exact q _ H2 e2 (.int _)⟩
/-- xs + ys, both new -/
theorem dvl_cat {ta tb : TE} (ha : DvL K ta σ H ds) (hb : DvL K tb σ H es) (hz : ds.length + es.length ≤ 100000) : DvL K (tOp rCat ta tb) σ H (ds ++ es) := fun H1 e _ q =>
  ha H1 e _ fun p xs H2 hp e2 h2 hx => hb H2 (e.trans e2) _ fun p' xs' H3 hp' e3 h3 hx' => ⟨p, p', xs, xs', rfl, rfl, e3 _ _ h2, h3, sz_of (by rw [hx.length, hx'.length]; exact hz), fun r hr => q r _ _ (fresh_back (e2.trans e3) hr) ((e2.trans e3).trans (Ex.new hr)) upd_same ((DpAll.mono (e3.trans (Ex.new hr)) _ hx).append (DpAll.mono (Ex.new hr) _ hx'))⟩
theorem dpAll_rep {H : Hp} {v : V} {d : PyData} (h : Dp K H v d) : ∀ n, DpAll K H (List.replicate n v) (List.replicate n d)
  | 0 => .nil
  | n + 1 => .cons h (dpAll_rep h n)
/-! ### ranges -/
theorem da_one {d : PyData} (h : Dv K te σ H d) : DvA K (tCons te tNil) σ H [d] := da_cons h da_nil
theorem s_forN {ta : TA} {j : Nat} {n : Int} (h : DvA K ta σ H [.int n]) (hn : -100000 ≤ n ∧ n ≤ 100000) (Pv : Nat → L2.St → Hp → Prop) (h0 : ∀ H1, Ex H H1 → Pv 0 σ H1)
    (hs : ∀ (i : Nat) σ' H', (i : Int) < n → Pv i σ' H' → tu { D with nx := Pv (i + 1), ct := Pv (i + 1), bk := D.nx } (σ'.set j (some (.int (i : Int)))) H') (hd : ∀ σ' H', Pv n.toNat σ' H' → D.nx σ' H') : tFor (iRng1 ta) (gName j) tu D σ H :=
  ea_ints (ns := [n]) h H (Ex.refl H) _ fun H1 e => ⟨n, rfl, by omega, by omega, for_range (lo := 0) (n := n.toNat) Pv (h0 H1 e) (fun i σ' H' hi p => by
    have e0 : (0 : Int) + (i : Int) = (i : Int) := Int.zero_add _
    show tu { D with nx := Pv (i + 1), ct := Pv (i + 1), bk := D.nx } (σ'.set j (some (.int ((0 : Int) + (i : Int))))) H'
    rw [e0]
    exact hs i σ' H' (by omega) p) hd⟩
theorem q_forN {ta : TA} {j : Nat} {n : Int} (h : DvA K ta σ H [.int n]) (hn : -100000 ≤ n ∧ n ≤ 100000) (Pv : Nat → L2.St → Hp → Prop) (h0 : ∀ H1, Ex H H1 → Pv 0 σ H1)
    (hs : ∀ (i : Nat) σ' H', (i : Int) < n → Pv i σ' H' → tu { D with nx := Pv (i + 1), ct := Pv (i + 1), bk := tz D } (σ'.set j (some (.int (i : Int)))) H') (hd : ∀ σ' H', Pv n.toNat σ' H' → tz D σ' H') : tSeq (tFor (iRng1 ta) (gName j) tu) tz D σ H :=
  s_forN (D := { D with nx := tz D }) h hn Pv h0 hs hd
theorem s_forN2 {ta : TA} {j : Nat} {lo n : Int} (h : DvA K ta σ H [.int lo, .int n]) (hn : -100000 ≤ lo ∧ lo ≤ 100000 ∧ -100000 ≤ n ∧ n ≤ 100000) (Pv : Nat → L2.St → Hp → Prop) (h0 : ∀ H1, Ex H H1 → Pv 0 σ H1)
    (hs : ∀ (i : Nat) σ' H', lo + (i : Int) < n → Pv i σ' H' → tu { D with nx := Pv (i + 1), ct := Pv (i + 1), bk := D.nx } (σ'.set j (some (.int (lo + (i : Int))))) H') (hd : ∀ σ' H', Pv (n - lo).toNat σ' H' → D.nx σ' H') : tFor (iRng2 ta) (gName j) tu D σ H :=
  ea_ints (ns := [lo, n]) h H (Ex.refl H) _ fun H1 e => ⟨lo, n, rfl, ⟨by omega, by omega, by omega, by omega⟩, for_range (lo := lo) (n := (n - lo).toNat) Pv (h0 H1 e) (fun i σ' H' hi p => hs i σ' H' (by omega) p) hd⟩
theorem q_forN2 {ta : TA} {j : Nat} {lo n : Int} (h : DvA K ta σ H [.int lo, .int n]) (hn : -100000 ≤ lo ∧ lo ≤ 100000 ∧ -100000 ≤ n ∧ n ≤ 100000) (Pv : Nat → L2.St → Hp → Prop) (h0 : ∀ H1, Ex H H1 → Pv 0 σ H1)
    (hs : ∀ (i : Nat) σ' H', lo + (i : Int) < n → Pv i σ' H' → tu { D with nx := Pv (i + 1), ct := Pv (i + 1), bk := tz D } (σ'.set j (some (.int (lo + (i : Int))))) H') (hd : ∀ σ' H', Pv (n - lo).toNat σ' H' → tz D σ' H') : tSeq (tFor (iRng2 ta) (gName j) tu) tz D σ H :=
  s_forN2 (D := { D with nx := tz D }) h hn Pv h0 hs hd
/-- [e for i in range(n) if t], e no list -/
theorem dvl_lcN {ta : TA} {j : Nat} {vs : List Nat} {n : Int} (p : Nat → Bool) (g : Nat → PyData) (h : DvA K ta σ H [.int n]) (hz : -40000 ≤ n ∧ n ≤ 40000) (hw : ∀ x, wipe ((wipe σ vs).set j (some x)) vs = wipe σ vs)
    (hg : ∀ i, noList (g i) = true) (ht : ∀ (i : Nat), (i : Int) < n → ∀ H1, Ex H H1 → EvT t ((wipe σ vs).set j (some (.int (i : Int)))) H1 (p i)) (he : ∀ (i : Nat), (i : Int) < n → p i = true → ∀ H1, Ex H H1 → Dv K te ((wipe σ vs).set j (some (.int (i : Int)))) H1 (g i)) :
    DvL K (tLc (iRng1 ta) (gName j) t te vs) σ H (((List.range n.toNat).filter p).map g) := fun H0 e Q q => ea_ints (ns := [n]) h H0 e _ fun H1 e1 => ⟨n, rfl, by omega, by omega, fun Dl hD =>
  lc_range (lo := 0) (n := n.toNat) (Cd K H1 (List.range n.toNat) p g Dl) ⟨hD, Ex.new hD, [], upd_same, .nil⟩ (fun i H' hi c => by
    have e0 : (0 : Int) + (i : Int) = (i : Int) := Int.zero_add _
    show wipe ((wipe σ vs).set j (some (.int ((0 : Int) + (i : Int))))) vs = wipe σ vs ∧ t ((wipe σ vs).set j (some (.int ((0 : Int) + (i : Int))))) H' fun b H3 => if b = true then te ((wipe σ vs).set j (some (.int ((0 : Int) + (i : Int))))) H3 fun y H4 => ∃ acc, H4 Dl = some (.lst acc) ∧ acc.length < sizeLine ∧ Cd K H1 (List.range n.toNat) p g Dl (i + 1) (upd H4 Dl (.lst (acc ++ [y]))) else Cd K H1 (List.range n.toNat) p g Dl (i + 1) H3
    rw [e0]
    have hx : (List.range n.toNat)[i]? = some i := by rw [List.getElem?_range hi]
    exact ⟨hw _, cd_turn c (by rw [List.length_range]; omega) hx (fun x _ => hg x) (ht i (by omega) H' ((e.trans e1).trans c.2.1)) fun hp => he i (by omega) hp H' ((e.trans e1).trans c.2.1)⟩) (fun H' c => by
    obtain ⟨c1, c2, acc, c3, c4⟩ := c
    rw [List.take_of_length_le (by rw [List.length_range]; exact Nat.le_refl _)] at c4
    exact q Dl acc H' (fresh_back e1 c1) (e1.trans c2) c3 c4)⟩
/-- .. without a test -/
theorem dvl_mapN {ta : TA} {j : Nat} {vs : List Nat} {n : Int} (g : Nat → PyData) (h : DvA K ta σ H [.int n]) (hz : -40000 ≤ n ∧ n ≤ 40000) (hw : ∀ x, wipe ((wipe σ vs).set j (some x)) vs = wipe σ vs)
    (hg : ∀ i, noList (g i) = true) (he : ∀ (i : Nat), (i : Int) < n → ∀ H1, Ex H H1 → Dv K te ((wipe σ vs).set j (some (.int (i : Int)))) H1 (g i)) :
    DvL K (tLc (iRng1 ta) (gName j) tYes te vs) σ H ((List.range n.toNat).map g) :=
  dvl_is (dvl_lcN (fun _ => true) g h hz hw hg (fun _ _ _ _ => et_yes) fun i hi _ H1 e => he i hi H1 e) (by rw [filter_true])
end
end Bf

namespace Bf
open PySem PySem.Spec PyProof.Rows L2 Evl
abbrev sApart : Stmt := top 29
abbrev sBarred : Stmt := top 30
abbrev sIsPar : Stmt := top 31
abbrev sNotBar : Stmt := top 32
abbrev sPars : Stmt := top 33
abbrev sLeaps : Stmt := top 34
abbrev sBeyond : Stmt := top 35
abbrev sWrong : Stmt := top 36
abbrev sMoved : Stmt := top 37
def encW (w : Nat × Nat × Nat) : PyData := .tuple [.int (w.1 : Int), .int (w.2.1 : Int), .int (w.2.2 : Int)]
theorem nl_W (w : Nat × Nat × Nat) : noList (encW w) = true := by simp [encW, noList, noListAll]
theorem nl_int (i : Int) : noList (.int i) = true := by simp [noList]
theorem nl_tupI (ns : List Int) : noList (tupI ns) = true := by
  unfold tupI
  rw [noList]
  exact noListAll_map nl_int ns
def RApart (ds : List PyData) (d : PyData) : Prop := ∃ a b : Int, ds = [.int a, .int b] ∧ d = .int ((a - b) % 12)
def RBarred (ds : List PyData) (d : PyData) : Prop := ∃ a b c : Int, ds = [.int a, .int b, .int c] ∧ d = .int (barF a b c)
def RIsPar (ds : List PyData) (d : PyData) : Prop := ∃ a b x y : Int, ds = [.int a, .int b, .int x, .int y] ∧ d = .bool (parS a b x y)
def RNotBar (ds : List PyData) (d : PyData) : Prop := ∃ (a b x : Int) (pl : List Int), ds = [.int (barF a b x), .int b, .int x, .list (pl.map .int)] ∧ pl.length ≤ 64000 ∧ d = .list ((notBar a b x pl).map .int)
/-- a tuple of the top: ints -/
def TupT (K : PySem.W.Frag) (mg : Str → Option Value) (x : Str) (ns : List Int) : Prop := ∃ a, mg x = some (.ref a) ∧ ∀ H, Dp K H (.ref a) (.tuple (ns.map .int))
section
variable {P : Program} {w : World} {K : PySem.W.Frag} {mg : Str → Option Value} {base : Heap}
theorem scApart : FnScope ["one", "other"] ["one", "other"] (defScope sApart) := ⟨rfl, rfl, rfl, by decide +kernel, rfl, by decide +kernel, by decide +kernel⟩
theorem cal_apart (D : Def K mg "apart_but_for_octaves" sApart) (g : Gi mg "OCTAVE_SEMITONES" 12) : Cal P w K mg base "apart_but_for_octaves" 1 ["one", "other"] (SpD K RApart) := by
  refine ok_D D scApart (fun ds d h => ?_) (fun _ _ _ _ _ _ us hl => match us, hl with | [_, _], _ => rfl) (fun f cdv A outer s H vs Q E ds d hr hv h k => ?_)
  · obtain ⟨a, b, rfl, _⟩ := h
    rfl
  · obtain ⟨a, b, rfl, rfl⟩ := h
    have e : vs = [.int a, .int b] := DpAll.ints (ns := [a, b]) hv
    subst e
    refine ⟨_, pss_one (ps_ret (pe_op op_mod (pe_op op_sub (pv 0) (pv 1)) (pe_gi g))), ?_⟩
    exact s_retD (dv_IC (dv_I (dv_vi rfl) (dv_vi rfl)) dv_int (by decide)) k
abbrev nmBa : List Str := ["one", "other", "next_one", "apart"]
theorem scBarred : FnScope nmBa ["one", "other", "next_one"] (defScope sBarred) := ⟨rfl, rfl, rfl, by decide +kernel, rfl, by decide +kernel, by decide +kernel⟩
theorem cal_barred (D : Def K mg "barred_apart" sBarred) (gP : TupT K mg "PERFECT" [0, 7]) (gN : Gi mg "NOT_BARRED" (-1)) (c : Cal P w K mg base "apart_but_for_octaves" 1 ["one", "other"] (SpD K RApart)) : Cal P w K mg base "barred_apart" 2 ["one", "other", "next_one"] (SpD K RBarred) := by
  refine ok_D D scBarred (fun ds d h => ?_) (fun _ _ _ _ _ _ us hl => match us, hl with | [_, _, _], _ => rfl) (fun f cdv A outer s H vs Q E ds d hr hv h k => ?_)
  · obtain ⟨a, b, c, rfl, _⟩ := h
    rfl
  · obtain ⟨a, b, x, rfl, rfl⟩ := h
    have e : vs = [.int a, .int b, .int x] := DpAll.ints (ns := [a, b, x]) hv
    subst e
    obtain ⟨aP, hP, dP⟩ := gP
    refine ⟨_, pss_cons (ps_set (i := 3) scBarred.nd rfl (Or.inl rfl) (pe_cal c hr (pa_cons (pv 0) (pa_cons (pv 1) pa_nil))))
      (pss_cons (ps_if (PW.pt (pw_or (pt_cmpR op_eq (pv 2) (pv 0) (nomark _)) (pw_or1 (pt_cmpR op_notIn_seq (pv 3) (pe_glob (v := .ref aP) (by rfl) hP rfl) (by rfl))))) (pss_one (ps_ret (pe_gi gN))) pss_nil)
      (pss_one (ps_ret (pv 3)))), ?_⟩
    refine q_asgD (dv_call (d := .int ((a - b) % 12)) (da_cons (dv_vi rfl) (da_cons (dv_vi rfl) da_nil)) ⟨a, b, rfl, rfl⟩) fun v H1 e1 hv1 => ?_
    cases hv1.int_inv
    obtain ⟨a', xs, ea, hs, hd⟩ := (dP H1).tup_inv
    cases ea
    have ei := hd.ints
    subst ei
    generalize hm : (a - b) % 12 = m
    have hin : (!inV (.int m) ([0, 7].map V.int)) = !decide (m = 0 ∨ m = 7) := by
      congr 1
      show ((0 : Int) == m || ((7 : Int) == m || false)) = _
      rw [Bool.or_false, Bool.eq_iff_iff]
      simp only [Bool.or_eq_true, beq_iff_eq, decide_eq_true_eq]
      exact ⟨fun h => h.elim (fun z => .inl z.symm) (fun z => .inr z.symm), fun h => h.elim (fun z => .inl z.symm) (fun z => .inr z.symm)⟩
    refine q_when (b := decide (x = a) || !decide (m = 0 ∨ m = 7)) (et_or (dt_test (dv_eqI (K := K) (dv_vi rfl) (dv_vi rfl))) fun _ => et_test (ev_is (ev_op (ev_var rfl) ev_c (rv_niT hs rfl rfl)) (by rw [hin]))) (fun hb H2 e2 => ?_) (fun hb H2 e2 => ?_)
    · refine s_retD (dv_is dv_int ?_) fun v H3 e3 hd => k v H3 ((e1.trans e2).trans e3) hd
      unfold barF
      rw [hm, if_pos]
      simpa using hb
    · refine s_retD (dv_is (dv_vi rfl) ?_) fun v H3 e3 hd => k v H3 ((e1.trans e2).trans e3) hd
      unfold barF
      rw [hm, if_neg]
      intro z
      have : (decide (x = a) || !decide (m = 0 ∨ m = 7)) = true := by
        rcases z with z | z
        · rw [decide_eq_true z]; rfl
        · rw [decide_eq_false z]; simp
      rw [this] at hb
      cases hb
abbrev nmIp : List Str := ["one", "other", "next_one", "next_other", "barred"]
theorem scIsPar : FnScope nmIp ["one", "other", "next_one", "next_other"] (defScope sIsPar) := ⟨rfl, rfl, rfl, by decide +kernel, rfl, by decide +kernel, by decide +kernel⟩
theorem cal_isPar (D : Def K mg "is_parallel" sIsPar) (c1 : Cal P w K mg base "barred_apart" 2 ["one", "other", "next_one"] (SpD K RBarred)) (c2 : Cal P w K mg base "apart_but_for_octaves" 1 ["one", "other"] (SpD K RApart)) :
    Cal P w K mg base "is_parallel" 3 ["one", "other", "next_one", "next_other"] (SpD K RIsPar) := by
  refine ok_D D scIsPar (fun ds d h => ?_) (fun _ _ _ _ _ _ us hl => match us, hl with | [_, _, _, _], _ => rfl) (fun f cdv A outer s H vs Q E ds d hr hv h k => ?_)
  · obtain ⟨a, b, c, d, rfl, _⟩ := h
    rfl
  · obtain ⟨a, b, x, y, rfl, rfl⟩ := h
    have e : vs = [.int a, .int b, .int x, .int y] := DpAll.ints (ns := [a, b, x, y]) hv
    subst e
    have hr1 : Room 1 _ := hr.mono (by decide : 1 ≤ 2)
    refine ⟨_, pss_cons (ps_set (i := 4) scIsPar.nd rfl (Or.inl rfl) (pe_cal c1 hr (pa_cons (pv 0) (pa_cons (pv 1) (pa_cons (pv 2) pa_nil)))))
      (pss_one (ps_ret (pe_and (pe_cmpR op_ne (pv 3) (pv 1) (nomark _)) (pe_one (pe_cmpR op_eq (pe_cal c2 hr1 (pa_cons (pv 2) (pa_cons (pv 3) pa_nil))) (pv 4) (nomark _)))))), ?_⟩
    refine q_asgD (dv_call (d := .int (barF a b x)) (da_cons (dv_vi rfl) (da_cons (dv_vi rfl) (da_cons (dv_vi rfl) da_nil))) ⟨a, b, x, rfl, rfl⟩) fun v H1 e1 hv1 => ?_
    cases hv1.int_inv
    refine s_retD (dv_is (dv_and (dv_neI (dv_vi rfl) (dv_vi rfl)) fun _ => dv_eqI (dv_call (d := .int ((x - y) % 12)) (da_cons (dv_vi rfl) (da_cons (dv_vi rfl) da_nil)) ⟨x, y, rfl, rfl⟩) (dv_vi rfl)) ?_) fun v H2 e2 hd => k v H2 (e1.trans e2) hd
    rw [par_bar]
abbrev nmNb : List Str := ["barred", "other", "next_one", "places", "place"]
theorem scNotBar : FnScope nmNb ["barred", "other", "next_one", "places"] (defScope sNotBar) := ⟨rfl, rfl, rfl, by decide +kernel, rfl, by decide +kernel, by decide +kernel⟩
theorem DpAll4 {H : Hp} {vs : List V} {d e f g : PyData} (h : DpAll K H vs [d, e, f, g]) : ∃ v u x y, vs = [v, u, x, y] ∧ Dp K H v d ∧ Dp K H u e ∧ Dp K H x f ∧ Dp K H y g := by
  cases h with | cons h1 h2 => obtain ⟨u, x, y, rfl, h3, h4, h5⟩ := DpAll3 h2; exact ⟨_, u, x, y, rfl, h1, h3, h4, h5⟩
theorem cal_notBar (D : Def K mg "places_not_barred" sNotBar) (gN : Gi mg "NOT_BARRED" (-1)) (c : Cal P w K mg base "apart_but_for_octaves" 1 ["one", "other"] (SpD K RApart)) : Cal P w K mg base "places_not_barred" 2 ["barred", "other", "next_one", "places"] (SpD K RNotBar) := by
  refine ok_D D scNotBar (fun ds d h => ?_) (fun _ _ _ _ _ _ us hl => match us, hl with | [_, _, _, _], _ => rfl) (fun f cdv A outer s H vs Q E ds d hr hv h k => ?_)
  · obtain ⟨a, b, c, d, rfl, _⟩ := h
    rfl
  · obtain ⟨a, b, x, pl, rfl, hpl, rfl⟩ := h
    obtain ⟨v0, v1, v2, v3, rfl, h0, h1, h2, h3⟩ := DpAll4 hv
    cases h0.int_inv
    cases h1.int_inv
    cases h2.int_inv
    refine ⟨_, pss_cons (ps_if (pt_cmpR op_eq (pv 0) (pe_gi gN) (nomark _)) (pss_one (ps_ret (pv 3))) pss_nil)
      (pss_one (ps_ret (pe_lc (own := [("place", 4)]) (g := gName 4) rfl scNotBar.nd (pi_list (pv 3)) (blkOk_by (own := [("place", 4)]) (N := nmNb) (sc := defScope sNotBar) (by decide +kernel)) (fun _ _ _ _ _ => pg_name (i := 4) scNotBar.nd rfl (Or.inl rfl))
        (fun _ _ _ _ _ => pts_one (PW.pt (pw_or (pt_cmpR op_eq (pv 4) (pv 1) (nomark _)) (pw_or1 (pt_cmpR op_ne (pe_cal c hr (pa_cons (pv 2) (pa_cons (pv 4) pa_nil))) (pv 0) (nomark _)))))) (fun _ _ _ _ _ => pv 4)))), ?_⟩
    refine q_when (b := decide (barF a b x = -1)) (dt_test (dv_eqI (K := K) (dv_vi rfl) dv_int)) (fun hb H1 e1 => ?_) (fun hb H1 e1 => ?_)
    · refine s_retD (dv_is (dv_var rfl (Dp.mono e1 _ h3)) ?_) fun v H2 e2 hd => k v H2 (e1.trans e2) hd
      rw [notBar_free (by simpa using hb)]
    · refine s_retD (dv_is (dvl_lc (l := pl) (enc := PyData.int) (fun p => decide (p = b) || !decide ((x - p) % 12 = barF a b x)) PyData.int (dv_var rfl (Dp.mono e1 _ h3)) hpl (fun _ => rfl) (fun p _ => nl_int p) (fun p _ u H2 e2 hp => ?_) (fun p _ _ u H2 e2 hp => dv_var rfl hp)).dv ?_) fun v H2 e2 hd => k v H2 (e1.trans e2) hd
      · cases hp.int_inv
        exact et_or (dt_test (dv_eqI (K := K) (dv_vi rfl) (dv_vi rfl))) fun _ => dt_test (dv_neI (K := K) (dv_call (d := .int ((x - p) % 12)) (da_cons (dv_vi rfl) (da_cons (dv_vi rfl) da_nil)) ⟨x, p, rfl, rfl⟩) (dv_vi rfl))
      · rw [notBar_bar]
end
end Bf

namespace Bf
open PySem PySem.Spec PyProof.Rows L2 Evl
/-! ### what is wrong from four sounds to the next four -/
def parAt (x y : List Int) (p : Nat × Nat) : Bool := parS (x.getD p.1 0) (x.getD p.2 0) (y.getD p.1 0) (y.getD p.2 0)
def parRow (x y : List Int) (v : Nat) (j : Nat) : List (Nat × Nat × Nat) := (((List.range j).map fun j => (v, v + 1 + j)).filter (parAt x y)).map fun p => (1, p.1, p.2)
def parsL (x y : List Int) : List (Nat × Nat × Nat) := (Cp05.pairs.filter (parAt x y)).map fun p => (1, p.1, p.2)
theorem parsL_eq (x y : List Int) : parsL x y = (List.range 3).flatMap fun v => parRow x y v (3 - v) := by
  have e : Cp05.pairs = (List.range 3).flatMap fun v => (List.range (3 - v)).map fun j => (v, v + 1 + j) := rfl
  unfold parsL parRow
  rw [e, List.filter_flatMap, List.map_flatMap]
theorem parRow_succ (x y : List Int) (v j : Nat) : parRow x y v (j + 1) = parRow x y v j ++ (if parAt x y (v, v + 1 + j) = true then [(1, v, v + 1 + j)] else []) := by
  unfold parRow
  rw [List.range_succ, List.map_append, List.filter_append, List.map_append]
  congr 1
  simp only [List.map_cons, List.map_nil, List.filter_cons, List.filter_nil]
  cases parAt x y (v, v + 1 + j) <;> rfl
theorem parRow_len (x y : List Int) (v j : Nat) : (parRow x y v j).length ≤ j := by
  unfold parRow
  rw [List.length_map]
  refine Nat.le_trans (List.length_filter_le _ _) ?_
  rw [List.length_map, List.length_range]
  exact Nat.le_refl _
def beyAt (x y : List Int) (i : Nat) : List (Nat × Nat × Nat) := (if decide (x.getD i 0 < y.getD (i + 1) 0) = true then [(3, i + 1, i)] else []) ++ if decide (y.getD i 0 < x.getD (i + 1) 0) = true then [(3, i, i + 1)] else []
theorem wrongsS_parts (leap x y : List Int) : wrongsS leap x y = parsL x y ++ (((List.range 3).filter fun i => decide (leap.getD i 0 < ((y.getD i 0 - x.getD i 0).natAbs : Int))).map fun i => (2, i, 9)) ++ (List.range 3).flatMap (beyAt x y) := rfl
theorem tup_get {x : List Int} (hx : x.length = 4) {i : Nat} (hi : i < 4) : (x.map PyData.int)[i]? = some (.int (x.getD i 0)) := int_at (getD_at (by omega))
def RPars (ds es : List PyData) : Prop := ∃ x y : List Int, ds = [tupI x, tupI y] ∧ x.length = 4 ∧ y.length = 4 ∧ es = (parsL x y).map encW
def RBeyond (ds es : List PyData) : Prop := ∃ x y : List Int, ds = [tupI x, tupI y] ∧ x.length = 4 ∧ y.length = 4 ∧ es = ((List.range 3).flatMap (beyAt x y)).map encW
def RMovedS (ds : List PyData) (d : PyData) : Prop := ∃ x y : List Int, ds = [tupI x, tupI y] ∧ x.length = 4 ∧ y.length = 4 ∧ d = .int (movS 1 x y : Int)
/-- a def of rules and two fours -/
def SpRH (K : PySem.W.Frag) (CR : Addr) (g : Cp05.Rules → List Int → List Int → List PyData) : Sp := fun vs H Q _ => ∃ (ar : Addr) (v u : V) (q : Cp05.Rules) (x y : List Int), vs = [.ref ar, v, u] ∧ RuAt K CR H ar q ∧ RuOk q ∧ Dp K H v (tupI x) ∧ Dp K H u (tupI y) ∧ x.length = 4 ∧ y.length = 4 ∧
  ∀ p xs H', H p = none → Ex H H' → H' p = some (.lst xs) → DpAll K H' xs (g q x y) → Q (.ref p) H'
def gLeaps (q : Cp05.Rules) (x y : List Int) : List PyData := (((List.range 3).filter fun i => decide (q.leap.getD i 0 < ((y.getD i 0 - x.getD i 0).natAbs : Int))).map fun i => (2, i, 9)).map encW
def gWrong (q : Cp05.Rules) (x y : List Int) : List PyData := (wrongsS q.leap x y).map encW
section
variable {P : Program} {w : World} {K : PySem.W.Frag} {mg : Str → Option Value} {base : Heap} {CR : Addr}
abbrev nmPs : List Str := ["here", "there", "found", "voice", "other"]
theorem scPars : FnScope nmPs ["here", "there"] (defScope sPars) := ⟨rfl, rfl, rfl, by decide +kernel, rfl, by decide +kernel, by decide +kernel⟩
theorem cal_pars (D : Def K mg "parallels" sPars) (gB : Gi mg "BASS" 3) (g1 : Gi mg "PARALLEL" 1) (gr : mg "range" = none) (c : Cal P w K mg base "is_parallel" 3 ["one", "other", "next_one", "next_other"] (SpD K RIsPar)) : Cal P w K mg base "parallels" 4 ["here", "there"] (SpDL K RPars) := by
  refine ok_DL D scPars (fun ds d h => ?_) (fun _ _ _ _ _ _ us hl => match us, hl with | [_, _], _ => rfl) (fun f cdv A outer s H vs Q E ds es hr hv h k => ?_)
  · obtain ⟨_, _, rfl, _⟩ := h
    rfl
  · obtain ⟨x, y, rfl, hx4, hy4, rfl⟩ := h
    obtain ⟨v0, v1, rfl, h0, h1⟩ := DpAll2 hv
    refine ⟨_, pss_cons (ps_set (i := 2) scPars.nd rfl (Or.inl rfl) (pe_lst pa_nil))
      (pss_cons (ps_for PassesOwn.never rfl (pi_range1 (by rfl) gr (pa_cons (pe_gi gB) pa_nil)) (pg_name (i := 3) scPars.nd rfl (Or.inl rfl))
        (pss_one (ps_for PassesOwn.never rfl (pi_range2 (by rfl) gr (pa_cons (pe_op op_add (pv 3) pe_int) (pa_cons (pe_op op_add (pe_gi gB) pe_int) pa_nil))) (pg_name (i := 4) scPars.nd rfl (Or.inl rfl))
          (pss_one (ps_if (pt_val (pe_cal c hr (pa_cons (pe_ix ix_tup (pv 0) (pv 3) (fun _ _ => rfl)) (pa_cons (pe_ix ix_tup (pv 0) (pv 4) (fun _ _ => rfl)) (pa_cons (pe_ix ix_tup (pv 1) (pv 3) (fun _ _ => rfl)) (pa_cons (pe_ix ix_tup (pv 1) (pv 4) (fun _ _ => rfl)) pa_nil))))))
            (pss_one (ps_expr (pe_bm PySem.F.plainAttrs_list PySem.F.slot_list_append PySem.F.type_list_append mt_append (pv 2) (pa_cons (pe_tup (pa_cons (pe_gi g1) (pa_cons (pv 3) (pa_cons (pv 4) pa_nil)))) pa_nil)))) pss_nil)))))
      (pss_one (ps_ret (pv 2)))), ?_⟩
    refine q_asgDL (K := K) (dvl_lst da_nil (by decide)) fun p ys H1 hp e1 h1' hy => ?_
    cases hy
    refine q_forN (K := K) (n := 3) (da_one dv_int) (by decide) (fun i σ' H' => ∃ o3 o4 acc, σ' = [some v0, some v1, some (.ref p), o3, o4] ∧ Ex H H' ∧ H' p = some (.lst acc) ∧ DpAll K H' acc (((List.range i).flatMap fun v => parRow x y v (3 - v)).map encW)) (fun H2 e2 => ⟨none, none, [], rfl, e1.trans e2, e2 _ _ h1', .nil⟩) (fun i σ' H' hi ⟨o3, o4, acc, eσ, e3, h3, hacc⟩ => ?_) (fun σ' H' ⟨o3, o4, acc, eσ, e3, h3, hacc⟩ => ?_)
    · subst eσ
      have hlen : ((List.range i).flatMap fun v => parRow x y v (3 - v)).length ≤ 9 := by
        refine Nat.le_trans (flatMap_le _ 3 _ fun v _ => ?_) ?_
        · exact Nat.le_trans (parRow_len x y v (3 - v)) (by omega)
        · rw [List.length_range]
          omega
      refine s_forN2 (K := K) (lo := (i : Int) + 1) (n := 4) (da_cons (dv_I (dv_vi rfl) dv_int) (da_cons (dv_is (dv_I dv_int dv_int) rfl) da_nil)) (by omega)
        (fun j σ' H' => ∃ o4 acc, σ' = [some v0, some v1, some (.ref p), some (.int (i : Int)), o4] ∧ Ex H H' ∧ H' p = some (.lst acc) ∧ DpAll K H' acc (((List.range i).flatMap (fun v => parRow x y v (3 - v)) ++ parRow x y i j).map encW)) (fun H2 e2 => ⟨o4, acc, rfl, e3.trans e2, e2 _ _ h3, ?_⟩) (fun j σ' H' hj ⟨o4, acc, eσ, e4, h4, hacc⟩ => ?_) (fun σ' H' ⟨o4, acc, eσ, e4, h4, hacc⟩ => ?_)
      · have : parRow x y i 0 = [] := rfl
        rw [this, List.append_nil]
        exact DpAll.mono e2 _ hacc
      · subst eσ
        have hp1 : ∀ G, Ex H G → Dp K G v0 (tupI x) := fun G e => Dp.mono e _ h0
        have hp2 : ∀ G, Ex H G → Dp K G v1 (tupI y) := fun G e => Dp.mono e _ h1
        have ej : (i : Int) + 1 + (j : Int) = ((i + 1 + j : Nat) : Int) := by push_cast; rfl
        refine s_when (b := parAt x y (i, i + 1 + j)) (dt_B (dv_call (d := .bool (parAt x y (i, i + 1 + j))) (da_cons (dv_ixT (j := i) (dv_var rfl (hp1 _ e4)) (dv_vi rfl) rfl (tup_get hx4 (by omega))) (da_cons (dv_ixT (j := i + 1 + j) (dv_var rfl (hp1 _ e4)) (dv_vi rfl) ej (tup_get hx4 (by omega))) (da_cons (dv_ixT (j := i) (dv_var rfl (hp2 _ e4)) (dv_vi rfl) rfl (tup_get hy4 (by omega))) (da_cons (dv_ixT (j := i + 1 + j) (dv_var rfl (hp2 _ e4)) (dv_vi rfl) ej (tup_get hy4 (by omega))) da_nil)))) ⟨_, _, _, _, rfl, rfl⟩)) (fun hb H3 e5 => ?_) (fun hb H3 e5 => ?_)
        · refine s_appD (K := K) (d := encW (1, i, i + 1 + j)) (e5 _ _ h4) (ev_var rfl) (dv_is (dv_tup (da_cons dv_int (da_cons (dv_vi rfl) (da_cons (dv_vi rfl) da_nil))) (by show 3 ≤ 100000; decide)) (by rw [ej]; rfl)) ?_ fun v' H4 e7 hv' => ?_
          · rw [hacc.length, List.length_map, List.length_append]
            have := parRow_len x y i j
            omega
          · have e8 := e5.trans e7
            refine ⟨_, acc ++ [v'], rfl, Ex.mut (e4.trans e8) (fresh_back (Ex.refl H) hp), upd_same, ?_⟩
            rw [parRow_succ, hb, if_pos rfl, ← List.append_assoc, List.map_append]
            exact DpAll.grow (e8 _ _ h4) (noListAll_map nl_W _) (nl_W _) (DpAll.mono e8 _ hacc) hv'
        · refine ⟨_, acc, rfl, e4.trans e5, e5 _ _ h4, ?_⟩
          rw [parRow_succ, hb, if_neg Bool.false_ne_true, List.append_nil]
          exact DpAll.mono e5 _ hacc
      · subst eσ
        have e0 : ((4 : Int) - ((i : Int) + 1)).toNat = 3 - i := by omega
        rw [e0] at hacc
        refine ⟨_, _, acc, rfl, e4, h4, ?_⟩
        rw [List.range_succ, List.flatMap_append]
        simpa using hacc
    · subst eσ
      refine s_ret (ev_var rfl) fun H4 e4 => k p acc H4 hp (e3.trans e4) (e4 _ _ h3) ?_
      rw [parsL_eq]
      exact DpAll.mono e4 _ hacc
abbrev nmBe : List Str := ["here", "there", "found", "upper", "lower"]
theorem scBeyond : FnScope nmBe ["here", "there"] (defScope sBeyond) := ⟨rfl, rfl, rfl, by decide +kernel, rfl, by decide +kernel, by decide +kernel⟩
theorem beyAt_len (x y : List Int) (i : Nat) : (beyAt x y i).length ≤ 2 := by
  unfold beyAt
  rw [List.length_append]
  split <;> split <;> simp
theorem cal_beyond (D : Def K mg "moves_beyond" sBeyond) (gB : Gi mg "BASS" 3) (g3 : Gi mg "BEYOND" 3) (gr : mg "range" = none) : Cal P w K mg base "moves_beyond" 1 ["here", "there"] (SpDL K RBeyond) := by
  refine ok_DL D scBeyond (fun ds d h => ?_) (fun _ _ _ _ _ _ us hl => match us, hl with | [_, _], _ => rfl) (fun f cdv A outer s H vs Q E ds es hr hv h k => ?_)
  · obtain ⟨_, _, rfl, _⟩ := h
    rfl
  · obtain ⟨x, y, rfl, hx4, hy4, rfl⟩ := h
    obtain ⟨v0, v1, rfl, h0, h1⟩ := DpAll2 hv
    refine ⟨_, pss_cons (ps_set (i := 2) scBeyond.nd rfl (Or.inl rfl) (pe_lst pa_nil))
      (pss_cons (ps_for PassesOwn.never rfl (pi_range1 (by rfl) gr (pa_cons (pe_gi gB) pa_nil)) (pg_name (i := 3) scBeyond.nd rfl (Or.inl rfl))
        (pss_cons (ps_set (i := 4) scBeyond.nd rfl (Or.inl rfl) (pe_op op_add (pv 3) pe_int))
        (pss_cons (ps_if (pt_cmpR op_gt (pe_ix ix_tup (pv 1) (pv 4) (fun _ _ => rfl)) (pe_ix ix_tup (pv 0) (pv 3) (fun _ _ => rfl)) (nomark _)) (pss_one (ps_expr (pe_bm PySem.F.plainAttrs_list PySem.F.slot_list_append PySem.F.type_list_append mt_append (pv 2) (pa_cons (pe_tup (pa_cons (pe_gi g3) (pa_cons (pv 4) (pa_cons (pv 3) pa_nil)))) pa_nil)))) pss_nil)
        (pss_one (ps_if (pt_cmpR op_lt (pe_ix ix_tup (pv 1) (pv 3) (fun _ _ => rfl)) (pe_ix ix_tup (pv 0) (pv 4) (fun _ _ => rfl)) (nomark _)) (pss_one (ps_expr (pe_bm PySem.F.plainAttrs_list PySem.F.slot_list_append PySem.F.type_list_append mt_append (pv 2) (pa_cons (pe_tup (pa_cons (pe_gi g3) (pa_cons (pv 3) (pa_cons (pv 4) pa_nil)))) pa_nil)))) pss_nil)))))
      (pss_one (ps_ret (pv 2)))), ?_⟩
    refine q_asgDL (K := K) (dvl_lst da_nil (by decide)) fun p ys H1 hp e1 h1' hy => ?_
    cases hy
    refine q_forN (K := K) (n := 3) (da_one dv_int) (by decide) (fun i σ' H' => ∃ o3 o4 acc, σ' = [some v0, some v1, some (.ref p), o3, o4] ∧ Ex H H' ∧ H' p = some (.lst acc) ∧ DpAll K H' acc (((List.range i).flatMap (beyAt x y)).map encW)) (fun H2 e2 => ⟨none, none, [], rfl, e1.trans e2, e2 _ _ h1', .nil⟩) (fun i σ' H' hi ⟨o3, o4, acc, eσ, e3, h3, hacc⟩ => ?_) (fun σ' H' ⟨o3, o4, acc, eσ, e3, h3, hacc⟩ => ?_)
    · subst eσ
      have hlen : ((List.range i).flatMap (beyAt x y)).length ≤ 6 := by
        refine Nat.le_trans (flatMap_le _ 2 _ fun v _ => beyAt_len x y v) ?_
        rw [List.length_range]
        omega
      have ej : (i : Int) + 1 = ((i + 1 : Nat) : Int) := by push_cast; rfl
      have hp1 : ∀ G, Ex H G → Dp K G v0 (tupI x) := fun G e => Dp.mono e _ h0
      have hp2 : ∀ G, Ex H G → Dp K G v1 (tupI y) := fun G e => Dp.mono e _ h1
      refine q_asg (ev_int (K := K) (dv_I (dv_vi rfl) dv_int)) fun H2 e4 => ?_
      -- the second if and what follows, from any list that has the first part
      have second : ∀ (acc' : List V) (H3 : Hp), Ex H H3 → H3 p = some (.lst acc') → DpAll K H3 acc' (((List.range i).flatMap (beyAt x y) ++ (if decide (x.getD i 0 < y.getD (i + 1) 0) = true then [(3, i + 1, i)] else [])).map encW) →
          tIfS (tTest (tOp (rI0 fun i j => .bl (decide (i < j))) (tOp (rIxT K) (tVar 1) (tVar 3)) (tOp (rIxT K) (tVar 0) (tVar 4)))) (tDrop (tBM K "list" rAppend (tVar 2) (tCons (tTup (tCons (tC (.int 3)) (tCons (tVar 3) (tCons (tVar 4) tNil)))) tNil))) tNext
            { nx := fun σ' H' => ∃ o3 o4 acc, σ' = [some v0, some v1, some (.ref p), o3, o4] ∧ Ex H H' ∧ H' p = some (.lst acc) ∧ DpAll K H' acc (((List.range (i + 1)).flatMap (beyAt x y)).map encW), ct := fun σ' H' => ∃ o3 o4 acc, σ' = [some v0, some v1, some (.ref p), o3, o4] ∧ Ex H H' ∧ H' p = some (.lst acc) ∧ DpAll K H' acc (((List.range (i + 1)).flatMap (beyAt x y)).map encW), bk := fun σ' H' => tRet (tVar 2) { nx := fun _ H' => Q .non H', rt := Q } σ' H', rt := Q } [some v0, some v1, some (.ref p), some (.int (i : Int)), some (.int ((i : Int) + 1))] H3 := by
        intro acc' H3 e5 h5 ha
        have hl' : acc'.length ≤ 7 := by
          rw [ha.length, List.length_map, List.length_append]
          split <;> simp only [List.length_cons, List.length_nil] <;> omega
        have hset : (List.range (i + 1)).flatMap (beyAt x y) = ((List.range i).flatMap (beyAt x y) ++ (if decide (x.getD i 0 < y.getD (i + 1) 0) = true then [(3, i + 1, i)] else [])) ++ (if decide (y.getD i 0 < x.getD (i + 1) 0) = true then [(3, i, i + 1)] else []) := by
          rw [List.range_succ, List.flatMap_append, List.flatMap_cons, List.flatMap_nil, List.append_nil, List.append_assoc]
          rfl
        refine s_when (b := decide (y.getD i 0 < x.getD (i + 1) 0)) (dt_test (dv_B (K := K) (dv_ixT (j := i) (dv_var rfl (hp2 _ e5)) (dv_vi rfl) rfl (tup_get hy4 (by omega))) (dv_ixT (j := i + 1) (dv_var rfl (hp1 _ e5)) (dv_vi rfl) ej (tup_get hx4 (by omega))))) (fun hb H4 e6 => ?_) (fun hb H4 e6 => ?_)
        · refine s_appD (K := K) (d := encW (3, i, i + 1)) (e6 _ _ h5) (ev_var rfl) (dv_is (dv_tup (da_cons dv_int (da_cons (dv_vi rfl) (da_cons (dv_vi rfl) da_nil))) (by show 3 ≤ 100000; decide)) (by rw [ej]; rfl)) (by omega) fun v' H5 e7 hv' => ?_
          have e8 := e6.trans e7
          refine ⟨_, _, acc' ++ [v'], rfl, Ex.mut (e5.trans e8) hp, upd_same, ?_⟩
          rw [hset, hb, if_pos rfl, List.map_append]
          exact DpAll.grow (e8 _ _ h5) (noListAll_map nl_W _) (nl_W _) (DpAll.mono e8 _ ha) hv'
        · refine ⟨_, _, acc', rfl, e5.trans e6, e6 _ _ h5, ?_⟩
          rw [hset, hb, if_neg Bool.false_ne_true, List.append_nil]
          exact DpAll.mono e6 _ ha
      refine q_when (b := decide (x.getD i 0 < y.getD (i + 1) 0)) (dt_test (dv_B (K := K) (dv_ixT (j := i + 1) (dv_var rfl (hp2 _ (e3.trans e4))) (dv_vi rfl) ej (tup_get hy4 (by omega))) (dv_ixT (j := i) (dv_var rfl (hp1 _ (e3.trans e4))) (dv_vi rfl) rfl (tup_get hx4 (by omega))))) (fun hb H3 e5 => ?_) (fun hb H3 e5 => ?_)
      · have e6 := e4.trans e5
        refine s_appD (K := K) (d := encW (3, i + 1, i)) (e6 _ _ h3) (ev_var rfl) (dv_is (dv_tup (da_cons dv_int (da_cons (dv_vi rfl) (da_cons (dv_vi rfl) da_nil))) (by show 3 ≤ 100000; decide)) (by rw [ej]; rfl)) ?_ fun v' H4 e7 hv' => ?_
        · rw [hacc.length, List.length_map]
          omega
        · have e8 := e6.trans e7
          refine second _ _ (Ex.mut (e3.trans e8) hp) upd_same ?_
          rw [hb, if_pos rfl, List.map_append]
          exact DpAll.grow (e8 _ _ h3) (noListAll_map nl_W _) (nl_W _) (DpAll.mono e8 _ hacc) hv'
      · have e6 := e4.trans e5
        refine second _ _ (e3.trans e6) (e6 _ _ h3) ?_
        rw [hb, if_neg Bool.false_ne_true, List.append_nil]
        exact DpAll.mono e6 _ hacc
    · subst eσ
      exact s_ret (ev_var rfl) fun H4 e4 => k p acc H4 hp (e3.trans e4) (e4 _ _ h3) (DpAll.mono e4 _ hacc)
abbrev nmLe : List Str := ["rules", "here", "there", "voice"]
theorem scLeaps : FnScope nmLe ["rules", "here", "there"] (defScope sLeaps) := ⟨rfl, rfl, rfl, by decide +kernel, rfl, by decide +kernel, by decide +kernel⟩
theorem cal_leaps (D : Def K mg "leaps_too_far" sLeaps) (TR : RuTxt K CR) (gB : Gi mg "BASS" 3) (g2 : Gi mg "LEAP" 2) (g9 : Gi mg "NOBODY" 9) (gr : mg "range" = none) (ga : mg "abs" = none) : Cal P w K mg base "leaps_too_far" 1 ["rules", "here", "there"] (SpRH K CR gLeaps) := by
  refine ok_S D scLeaps (fun vs H Q E h => ?_) (fun _ _ _ _ _ _ us hl => match us, hl with | [_, _, _], _ => rfl) (fun f cdv A outer s H vs Q E hr h => ?_)
  · obtain ⟨_, _, _, _, _, _, rfl, _⟩ := h
    rfl
  · obtain ⟨ar, v, u, q, x, y, rfl, hR, okR, hx, hy, hx4, hy4, k⟩ := h
    obtain ⟨l0, l1, l2, hl3⟩ := okR.l3
    obtain ⟨dx, vr, va, vl, R1, R2, R3, R4⟩ := hR
    refine ⟨_, pss_one (ps_ret (pe_lc (own := [("voice", 3)]) (g := gName 3) (tt := tTest (tOp (rI0 fun i j => .bl (decide (j < i))) (tCB (fun xs H Q => ∃ i, xs = [.int i] ∧ Q (.int (if i < 0 then -i else i)) H) (tCons (tOp (rI0 fun i j => .int (i - j)) (tOp (rIxT K) (tVar 2) (tVar 3)) (tOp (rIxT K) (tVar 1) (tVar 3))) tNil)) (tOp (rIxL K) (tFld K (tVar 0) "leaps") (tVar 3)))) rfl scLeaps.nd (pi_range1 (by rfl) gr (pa_cons (pe_gi gB) pa_nil)) (blkOk_by (own := [("voice", 3)]) (N := nmLe) (sc := defScope sLeaps) (by decide +kernel)) (fun _ _ _ _ _ => pg_name (i := 3) scLeaps.nd rfl (Or.inl rfl))
      (fun _ _ _ _ _ => pts_one (pt_cmpR op_gt (pe_callB call_abs (by rfl) ga (by decide +kernel) (pa_cons (pe_op op_sub (pe_ix ix_tup (pv 2) (pv 3) (fun _ _ => rfl)) (pe_ix ix_tup (pv 1) (pv 3) (fun _ _ => rfl))) pa_nil)) (pe_ix ix_list (pe_fld (pv 0) rfl) (pv 3) (fun _ _ => rfl)) (nomark _))) (fun _ _ _ _ _ => pe_tup (pa_cons (pe_gi g2) (pa_cons (pv 3) (pa_cons (pe_gi g9) pa_nil)))))), ?_⟩
    refine s_retDL (dvl_is (dvl_lcN (K := K) (n := 3) (fun i => decide (q.leap.getD i 0 < ((y.getD i 0 - x.getD i 0).natAbs : Int))) (fun i => encW (2, i, 9)) (da_one dv_int) (by decide) (fun _ => rfl) (fun i => nl_W _) (fun i hi H1 e1 => ?_) (fun i hi _ H1 e1 => ?_)) ?_) k
    · have hlp : Dv K (tOp (rIxL K) (tFld K (tVar 0) "leaps") (tVar 3)) [some (.ref ar), some v, some u, some (.int (i : Int))] H1 (.int (q.leap.getD i 0)) := by
        refine dv_ixL (j := i) (dv_fld (ev_var rfl) (e1 _ _ R1) TR.cl TR.nL (ruF_leaps _ _ _ _) (Dp.mono e1 _ R4)) (dv_vi rfl) rfl (int_at (getD_at ?_))
        rw [hl3]
        show i < 3
        omega
      exact dt_test (dv_B (K := K) (dv_abs (dv_I (dv_ixT (j := i) (dv_var rfl (Dp.mono e1 _ hy)) (dv_vi rfl) rfl (tup_get hy4 (by omega))) (dv_ixT (j := i) (dv_var rfl (Dp.mono e1 _ hx)) (dv_vi rfl) rfl (tup_get hx4 (by omega))))) hlp)
    · exact dv_tup (da_cons dv_int (da_cons (dv_vi rfl) (da_cons dv_int da_nil))) (by show 3 ≤ 100000; decide)
    · unfold gLeaps
      rw [List.map_map]
      rfl
theorem scWrong : FnScope ["rules", "here", "there"] ["rules", "here", "there"] (defScope sWrong) := ⟨rfl, rfl, rfl, by decide +kernel, rfl, by decide +kernel, by decide +kernel⟩
theorem parsL_len (x y : List Int) : (parsL x y).length ≤ 6 := by
  unfold parsL
  rw [List.length_map]
  exact Nat.le_trans (List.length_filter_le _ _) (by decide)
theorem beys_len (x y : List Int) : ((List.range 3).flatMap (beyAt x y)).length ≤ 6 := flatMap_le _ 2 _ fun v _ => beyAt_len x y v
theorem leapsL_len (q : Cp05.Rules) (x y : List Int) : (gLeaps q x y).length ≤ 3 := by
  unfold gLeaps
  rw [List.length_map, List.length_map]
  exact Nat.le_trans (List.length_filter_le _ _) (by decide)
theorem wrongsS_len (q : Cp05.Rules) (x y : List Int) : (wrongsS q.leap x y).length ≤ 15 := by
  rw [wrongsS_parts, List.length_append, List.length_append]
  have h1 := parsL_len x y
  have h2 := beys_len x y
  have h3 := leapsL_len q x y
  unfold gLeaps at h3
  rw [List.length_map] at h3
  omega
theorem cal_wrong (D : Def K mg "wrong_moves" sWrong) (c1 : Cal P w K mg base "parallels" 4 ["here", "there"] (SpDL K RPars)) (c2 : Cal P w K mg base "leaps_too_far" 1 ["rules", "here", "there"] (SpRH K CR gLeaps)) (c3 : Cal P w K mg base "moves_beyond" 1 ["here", "there"] (SpDL K RBeyond)) :
    Cal P w K mg base "wrong_moves" 5 ["rules", "here", "there"] (SpRH K CR gWrong) := by
  refine ok_S D scWrong (fun vs H Q E h => ?_) (fun _ _ _ _ _ _ us hl => match us, hl with | [_, _, _], _ => rfl) (fun f cdv A outer s H vs Q E hr h => ?_)
  · obtain ⟨_, _, _, _, _, _, rfl, _⟩ := h
    rfl
  · obtain ⟨ar, v, u, q, x, y, rfl, hR, okR, hx, hy, hx4, hy4, k⟩ := h
    have hr1 : Room 1 _ := hr.mono (by decide : 1 ≤ 4)
    refine ⟨_, pss_one (ps_ret (pe_op op_cat (pe_op op_cat (pe_cal c1 hr (pa_cons (pv 1) (pa_cons (pv 2) pa_nil))) (pe_cal c2 hr1 (pa_cons (pv 0) (pa_cons (pv 1) (pa_cons (pv 2) pa_nil))))) (pe_cal c3 hr1 (pa_cons (pv 1) (pa_cons (pv 2) pa_nil))))), ?_⟩
    refine s_retDL (dvl_is (dvl_cat (dvl_cat (dvl_call (es := (parsL x y).map encW) (da_cons (dv_var rfl hx) (da_cons (dv_var rfl hy) da_nil)) ⟨x, y, rfl, hx4, hy4, rfl⟩) (dvl_callS (es := gLeaps q x y) (ea_cons (ev_var rfl) (ea_cons (ev_var rfl) (ea_cons (ev_var rfl) ea_nil))) fun H1 e1 Q1 q1 => ⟨ar, v, u, q, x, y, rfl, hR.mono e1, okR, Dp.mono e1 _ hx, Dp.mono e1 _ hy, hx4, hy4, q1⟩) ?_)
      (dvl_call (es := ((List.range 3).flatMap (beyAt x y)).map encW) (da_cons (dv_var rfl hx) (da_cons (dv_var rfl hy) da_nil)) ⟨x, y, rfl, hx4, hy4, rfl⟩) ?_) ?_) k
    · have h1 := parsL_len x y
      have h3 := leapsL_len q x y
      rw [List.length_map]
      omega
    · have h1 := parsL_len x y
      have h2 := beys_len x y
      have h3 := leapsL_len q x y
      rw [List.length_append, List.length_map, List.length_map]
      omega
    · unfold gWrong gLeaps
      rw [wrongsS_parts, List.map_append, List.map_append]
abbrev nmSm : List Str := ["here", "there", "voice"]
theorem scMoved : FnScope nmSm ["here", "there"] (defScope sMoved) := ⟨rfl, rfl, rfl, by decide +kernel, rfl, by decide +kernel, by decide +kernel⟩
theorem cal_moved (D : Def K mg "semitones_moved" sMoved) (gB : Gi mg "BASS" 3) (gr : mg "range" = none) (ga : mg "abs" = none) (gs : mg "sum" = none) : Cal P w K mg base "semitones_moved" 1 ["here", "there"] (SpD K RMovedS) := by
  refine ok_D D scMoved (fun ds d h => ?_) (fun _ _ _ _ _ _ us hl => match us, hl with | [_, _], _ => rfl) (fun f cdv A outer s H vs Q E ds d hr hv h k => ?_)
  · obtain ⟨_, _, rfl, _⟩ := h
    rfl
  · obtain ⟨x, y, rfl, hx4, hy4, rfl⟩ := h
    obtain ⟨v, u, rfl, hx, hy⟩ := DpAll2 hv
    refine ⟨_, pss_one (ps_ret (pe_callB (cr_sum rfl) (by rfl) gs (by decide +kernel) (pa_cons (pe_lc (own := [("voice", 2)]) (g := gName 2) (te := tCB (fun xs H Q => ∃ i, xs = [.int i] ∧ Q (.int (if i < 0 then -i else i)) H) (tCons (tOp (rI0 fun i j => .int (i - j)) (tOp (rIxT K) (tVar 1) (tVar 2)) (tOp (rIxT K) (tVar 0) (tVar 2))) tNil)) rfl scMoved.nd (pi_range1 (by rfl) gr (pa_cons (pe_gi gB) pa_nil)) (blkOk_by (own := [("voice", 2)]) (N := nmSm) (sc := defScope sMoved) (by decide +kernel)) (fun _ _ _ _ _ => pg_name (i := 2) scMoved.nd rfl (Or.inl rfl)) (fun _ _ _ _ _ => pts_nil)
      (fun _ _ _ _ _ => pe_callB call_abs (by rfl) ga (by decide +kernel) (pa_cons (pe_op op_sub (pe_ix ix_tup (pv 1) (pv 2) (fun _ _ => rfl)) (pe_ix ix_tup (pv 0) (pv 2) (fun _ _ => rfl))) pa_nil))) pa_nil))), ?_⟩
    refine s_retD (dv_is (dv_sum (ns := (List.range 3).map fun i => ((y.getD i 0 - x.getD i 0).natAbs : Int)) (dv_is (dvl_mapN (K := K) (n := 3) (fun i => .int ((y.getD i 0 - x.getD i 0).natAbs : Int)) (da_one dv_int) (by decide) (fun _ => rfl) (fun i => nl_int _) (fun i hi H1 e1 => ?_)).dv (by rw [List.map_map]; rfl))) ?_) k
    · exact dv_abs (dv_I (dv_ixT (j := i) (dv_var rfl (Dp.mono e1 _ hy)) (dv_vi rfl) rfl (tup_get hy4 (by omega))) (dv_ixT (j := i) (dv_var rfl (Dp.mono e1 _ hx)) (dv_vi rfl) rfl (tup_get hx4 (by omega))))
    · have r3 : List.range 3 = [0, 1, 2] := rfl
      rw [r3]
      unfold movS
      congr 1
      simp only [List.map_cons, List.map_nil, List.sum_cons, List.sum_nil, Nat.one_mul]
      omega
end
end Bf

namespace Bf
open PySem PySem.Spec PyProof.Rows L2 Evl
abbrev sWidth : Stmt := top 72
abbrev sFree : Stmt := top 73
abbrev sDear : Stmt := top 74
abbrev sHowMany : Stmt := top 75
abbrev sByCost : Stmt := top 76
/-! ### products, and how many bits they have -/
def prodL : List Nat → Nat
  | [] => 1
  | n :: l => max 1 n * prodL l
theorem prodL_pos : ∀ l : List Nat, 1 ≤ prodL l
  | [] => Nat.le_refl _
  | n :: l => Nat.mul_le_mul (Nat.le_max_left 1 n) (prodL_pos l)
theorem prodL_snoc (n : Nat) : ∀ l : List Nat, prodL (l ++ [n]) = prodL l * max 1 n
  | [] => by show max 1 n * 1 = 1 * max 1 n; omega
  | m :: l => by
    show max 1 m * prodL (l ++ [n]) = max 1 m * prodL l * max 1 n
    rw [prodL_snoc n l, Nat.mul_assoc]
theorem prodS_L (q : Cp05.Rules) : ∀ l : List Cp05.Chord, prodS q l = prodL (l.map fun c => (Cp05.settings q c).length)
  | [] => rfl
  | c :: l => by
    show max 1 _ * prodS q l = max 1 _ * prodL _
    rw [prodS_L q l]
theorem prodL_lt : ∀ l : List Nat, (∀ n ∈ l, n ≤ 64000) → prodL l ≤ 2 ^ (16 * l.length)
  | [], _ => Nat.le_refl _
  | n :: l, h => by
    have h1 := prodL_lt l fun m hm => h m (List.mem_cons_of_mem _ hm)
    have h2 := h n List.mem_cons_self
    have e : 2 ^ (16 * (n :: l).length) = 2 ^ 16 * 2 ^ (16 * l.length) := by
      rw [← Nat.pow_add]
      congr 1
      rw [List.length_cons]
      omega
    rw [e]
    exact Nat.mul_le_mul (by omega) h1
def wid (n : Nat) : Nat := n.log2 + 1
theorem wid_lt (n : Nat) : n < 2 ^ wid n := Nat.lt_log2_self
theorem wid_le {n k : Nat} (h1 : 1 ≤ n) (h : n ≤ 2 ^ k) : wid n ≤ k + 1 := by
  unfold wid
  have : n.log2 < k + 1 := (Nat.log2_lt (by omega)).mpr (Nat.lt_of_le_of_lt h (Nat.pow_lt_pow_right (by decide) (by omega)))
  omega
theorem wid_bits {n : Nat} (h : 1 ≤ n) : Builtin.Int.intBits (n : Int) = wid n := by
  unfold Builtin.Int.intBits wid
  rw [if_neg (by simp; omega)]
  rfl
section
variable {K : PySem.W.Frag} {H : Hp} {σ : L2.St} {ta tb te : TE} {D : Ends} {tz : TS}
theorem dv_max {i j : Int} (ha : Dv K ta σ H (.int i)) (hb : Dv K tb σ H (.int j)) : Dv K (tCB rMax2 (tCons ta (tCons tb tNil))) σ H (.int (max i j)) := dv_is (dv_i (ev_max2 (ev_int ha) (ev_int hb))) (by congr 1; split <;> omega)
def rMin2 : List V → Hp → VK → Prop := fun xs H Q => ∃ i j, xs = [.int i, .int j] ∧ Q (.int (if j < i then j else i)) H
theorem dv_min {i j : Int} (ha : Dv K ta σ H (.int i)) (hb : Dv K tb σ H (.int j)) : Dv K (tCB rMin2 (tCons ta (tCons tb tNil))) σ H (.int (min i j)) := fun H1 e _ q =>
  ev_int ha H1 e _ fun H2 e2 => ev_int hb H2 (e.trans e2) _ fun H3 e3 => ⟨i, j, rfl, by
    have : (if j < i then j else i) = min i j := by split <;> omega
    rw [this]
    exact q _ H3 (e2.trans e3) (.int _)⟩
theorem dv_bits {i : Int} (ha : Dv K ta σ H (.int i)) : Dv K (tBits ta) σ H (.int (Builtin.Int.intBits i : Nat)) := fun H1 e _ q => ev_int ha H1 e _ fun H2 e2 => ⟨i, rfl, q _ H2 e2 (.int _)⟩
theorem s_augC {C : Int → Int → Prop} {i : Nat} {f : Int → Int → Int} {a b : Int} (hx : σ[i]? = some (some (.int a))) (h : Dv K te σ H (.int b)) (hc : C a b) (k : ∀ H1, Ex H H1 → D.nx (σ.set i (some (.int (f a b)))) H1) : tAug i te (rI C fun i j => .int (f i j)) D σ H :=
  ⟨.int a, hx, ev_int h H (Ex.refl H) _ fun H1 e => ⟨a, b, rfl, rfl, hc, k H1 e⟩⟩
end
def natD (n : Nat) : PyData := .int (n : Int)
def RWidth (ds : List PyData) (d : PyData) : Prop := ∃ ns : List Nat, ds = [.list (ns.map natD)] ∧ ns.length ≤ 8 ∧ (∀ n ∈ ns, n ≤ 64000) ∧ d = natD (wid (prodL ns))
def RFree (ds : List PyData) (d : PyData) : Prop := ∃ w : Nat, ds = [natD w] ∧ w ≤ 200 ∧ d = natD (2 ^ (119 * w))
def RDear (ds : List PyData) (d : PyData) : Prop := ∃ n k w : Nat, ds = [natD n, natD k, natD w] ∧ w ≤ 200 ∧ d = natD (n / 2 ^ (k * w))
def RHowMany (ds : List PyData) (d : PyData) : Prop := ∃ (w : Nat) (l : List Nat) (c : Int), ds = [natD (tal w l), .int c, natD w] ∧ w ≤ 200 ∧ l.length < 2 ^ w ∧ c ≤ 119 ∧ d = natD (if c < 0 then 0 else l.count c.toNat)
def RByCost (ds : List PyData) (es : List PyData) : Prop := ∃ (w : Nat) (l : List Nat), ds = [natD (tal w l), natD w] ∧ w ≤ 200 ∧ l.length < 2 ^ w ∧ es = (List.range 120).map fun p => natD (l.count p)
theorem mul_small {i j : Int} (h : 0 ≤ j) (h' : j ≤ 1000000) : CMul i j := by
  have h1 : -(2 ^ 64 : Int) < 0 := by decide
  have h2 : (1000000 : Int) < 2 ^ 64 := by decide
  exact .inr ⟨by omega, by omega⟩
theorem mul_smallL {i j : Int} (h : 0 ≤ i) (h' : i ≤ 1000000) : CMul i j := by
  have h1 : -(2 ^ 64 : Int) < 0 := by decide
  have h2 : (1000000 : Int) < 2 ^ 64 := by decide
  exact .inl ⟨by omega, by omega⟩
section
variable {P : Program} {w : World} {K : PySem.W.Frag} {mg : Str → Option Value} {base : Heap}
abbrev nmWi : List Str := ["how_many", "product", "number"]
theorem scWi : FnScope nmWi ["how_many"] (defScope sWidth) := ⟨rfl, rfl, rfl, by decide +kernel, rfl, by decide +kernel, by decide +kernel⟩
theorem cal_width (D : Def K mg "width_for" sWidth) (gm : mg "max" = none) : Cal P w K mg base "width_for" 1 ["how_many"] (SpD K RWidth) := by
  refine ok_D D scWi (fun ds d h => ?_) (fun _ _ _ _ _ _ us hl => match us, hl with | [_], _ => rfl) (fun f cdv A outer s H vs Q E ds d hr hv h k => ?_)
  · obtain ⟨_, rfl, _⟩ := h
    rfl
  · obtain ⟨ns, rfl, hl8, hn, rfl⟩ := h
    obtain ⟨v, rfl, hv'⟩ := DpAll1 hv
    obtain ⟨a, xs, rfl, hs, hx⟩ := hv'.lst_inv
    refine ⟨_, pss_cons (ps_set (i := 1) scWi.nd rfl (Or.inl rfl) pe_int)
      (pss_cons (ps_for PassesOwn.never rfl (pi_list (pv 0)) (pg_name (i := 2) scWi.nd rfl (Or.inl rfl))
        (pss_one (ps_aug (i := 1) scWi.nd rfl (Or.inl rfl) (pe_callB (call_max2 rfl) (by rfl) gm (by decide +kernel) (pa_cons pe_int (pa_cons (pv 2) pa_nil))) iop_mul)))
      (pss_one (ps_ret (pe_bits (pv 1))))), ?_⟩
    have hxl : xs.length = ns.length := by rw [hx.length, List.length_map]
    refine q_asg ev_c fun H1 e1 => ?_
    refine q_forLn (a := a) (xs := xs) (ev_var rfl) (ex_l e1 hs) (fun i σ' H' => ∃ o2, σ' = [some (.ref a), some (.int (prodL (ns.take i) : Int)), o2] ∧ Ex H H') (fun H2 e2 => ⟨none, rfl, e1.trans e2⟩) (fun i σ' H' _ ⟨_, _, e⟩ => ex_l e hs) (fun i x σ' H' hix ⟨o2, eσ, e⟩ => ?_) (fun σ' H' ⟨o2, eσ, e⟩ => ?_)
    · subst eσ
      obtain ⟨n, hni, hxn⟩ := at_map hx hix
      have hx' : x = .int (n : Int) := Dp.int_inv hxn
      subst hx'
      have hn' := hn n (List.mem_of_getElem? hni)
      refine s_augC (K := K) rfl (dv_max dv_int (dv_vi rfl)) (mul_small (by omega) (by omega)) fun H2 e2 => ⟨some (.int (n : Int)), ?_, e.trans e2⟩
      have : (prodL (ns.take (i + 1)) : Int) = (prodL (ns.take i) : Int) * max 1 (n : Int) := by
        rw [List.take_add_one, hni]
        show ((prodL (ns.take i ++ [n]) : Nat) : Int) = _
        rw [prodL_snoc]
        push_cast
        congr 1; omega
      rw [this]
      rfl
    · subst eσ
      rw [hxl, List.take_length]
      refine s_retD (dv_is (dv_bits (dv_vi rfl)) ?_) fun v H2 e2 hd => k v H2 (e.trans e2) hd
      rw [wid_bits (prodL_pos ns)]
      rfl
theorem scFr : FnScope ["width"] ["width"] (defScope sFree) := ⟨rfl, rfl, rfl, by decide +kernel, rfl, by decide +kernel, by decide +kernel⟩
theorem cal_free (D : Def K mg "one_free_way" sFree) (gC : Gi mg "COSTS" 120) : Cal P w K mg base "one_free_way" 1 ["width"] (SpD K RFree) := by
  refine ok_D D scFr (fun ds d h => ?_) (fun _ _ _ _ _ _ us hl => match us, hl with | [_], _ => rfl) (fun f cdv A outer s H vs Q E ds d hr hv h k => ?_)
  · obtain ⟨_, rfl, _⟩ := h
    rfl
  · obtain ⟨n, rfl, hn, rfl⟩ := h
    have e : vs = [.int (n : Int)] := DpAll.ints (ns := [(n : Int)]) hv
    subst e
    refine ⟨_, pss_one (ps_ret (pe_op op_shl pe_int (pe_op op_mul (pe_op op_sub (pe_gi gC) pe_int) (pv 0)))), ?_⟩
    refine s_retD (dv_is (dv_IC dv_int (dv_IC (dv_I dv_int dv_int) (dv_vi rfl) (mul_small (by omega) (by omega))) ⟨by omega, by omega, by decide⟩) ?_) k
    unfold natD
    have : (((120 : Int) - 1) * (n : Int)).toNat = 119 * n := by omega
    rw [this, Int.one_mul]
    push_cast
    rfl
theorem scDe : FnScope ["tally", "cost", "width"] ["tally", "cost", "width"] (defScope sDear) := ⟨rfl, rfl, rfl, by decide +kernel, rfl, by decide +kernel, by decide +kernel⟩
theorem cal_dear (D : Def K mg "made_dearer" sDear) : Cal P w K mg base "made_dearer" 1 ["tally", "cost", "width"] (SpD K RDear) := by
  refine ok_D D scDe (fun ds d h => ?_) (fun _ _ _ _ _ _ us hl => match us, hl with | [_, _, _], _ => rfl) (fun f cdv A outer s H vs Q E ds d hr hv h k => ?_)
  · obtain ⟨_, _, _, rfl, _⟩ := h
    rfl
  · obtain ⟨n, c, wd, rfl, hn, rfl⟩ := h
    have e : vs = [.int (n : Int), .int (c : Int), .int (wd : Int)] := DpAll.ints (ns := [(n : Int), (c : Int), (wd : Int)]) hv
    subst e
    refine ⟨_, pss_one (ps_ret (pe_op op_shr (pv 0) (pe_op op_mul (pv 1) (pv 2)))), ?_⟩
    refine s_retD (dv_is (dv_IC (dv_vi rfl) (dv_IC (dv_vi rfl) (dv_vi rfl) (mul_small (by omega) (by omega))) (by exact_mod_cast Nat.zero_le (c * wd))) ?_) k
    unfold natD
    have : ((c : Int) * (wd : Int)).toNat = c * wd := by exact_mod_cast Int.toNat_natCast (c * wd)
    rw [this]
    push_cast
    rfl
theorem scHm : FnScope ["tally", "cost", "width"] ["tally", "cost", "width"] (defScope sHowMany) := ⟨rfl, rfl, rfl, by decide +kernel, rfl, by decide +kernel, by decide +kernel⟩
theorem cal_howMany (D : Def K mg "how_many_at" sHowMany) (gC : Gi mg "COSTS" 120) : Cal P w K mg base "how_many_at" 1 ["tally", "cost", "width"] (SpD K RHowMany) := by
  refine ok_D D scHm (fun ds d h => ?_) (fun _ _ _ _ _ _ us hl => match us, hl with | [_, _, _], _ => rfl) (fun f cdv A outer s H vs Q E ds d hr hv h k => ?_)
  · obtain ⟨_, _, _, rfl, _⟩ := h
    rfl
  · obtain ⟨wd, l, c, rfl, hn, hl, hc, rfl⟩ := h
    have e : vs = [.int (tal wd l : Int), .int c, .int (wd : Int)] := DpAll.ints (ns := [(tal wd l : Int), c, (wd : Int)]) hv
    subst e
    refine ⟨_, pss_one (ps_ret (pe_op op_and (pe_op op_shr (pv 0) (pe_op op_mul (pe_op op_sub (pe_op op_sub (pe_gi gC) pe_int) (pv 1)) (pv 2))) (pe_op op_sub (pe_op op_shl pe_int (pv 2)) pe_int))), ?_⟩
    have hpos : (0 : Int) ≤ (120 - 1 - c) * (wd : Int) := Int.mul_nonneg (by omega) (by omega)
    refine s_retD (dv_is (dv_I (dv_IC (dv_vi rfl) (dv_IC (dv_I (dv_I dv_int dv_int) (dv_vi rfl)) (dv_vi rfl) (mul_small (by omega) (by omega))) hpos) (dv_I (dv_IC dv_int (dv_vi rfl) ⟨by omega, by omega, by decide⟩) dv_int)) ?_) k
    unfold natD
    obtain ⟨m, hm⟩ : ∃ m : Nat, (120 - 1 - c : Int) = (m : Int) := ⟨(120 - 1 - c).toNat, by omega⟩
    have h1 : ((120 - 1 - c) * (wd : Int)).toNat = m * wd := by
      rw [hm]
      exact_mod_cast Int.toNat_natCast (m * wd)
    rw [h1, Int.toNat_natCast, Int.one_mul]
    have h2 : (tal wd l : Int) / 2 ^ (m * wd) = ((tal wd l / 2 ^ (m * wd) : Nat) : Int) := by push_cast; rfl
    rw [h2, Bits.bitAnd_mask wd (Int.natCast_nonneg _)]
    congr 1
    by_cases h0 : c < 0
    · rw [if_pos h0, tal_above hl (by omega)]
      simp
    · rw [if_neg h0]
      have e2 : m = 119 - c.toNat := by omega
      have := tal_field hl (p := c.toNat) (by omega)
      rw [← e2] at this
      rw [← this]
      push_cast
      rfl
abbrev nmBc : List Str := ["tally", "width", "cost"]
theorem scBc : FnScope nmBc ["tally", "width"] (defScope sByCost) := ⟨rfl, rfl, rfl, by decide +kernel, rfl, by decide +kernel, by decide +kernel⟩
theorem cal_byCost (D : Def K mg "by_cost" sByCost) (gC : Gi mg "COSTS" 120) (gr : mg "range" = none) (c : Cal P w K mg base "how_many_at" 1 ["tally", "cost", "width"] (SpD K RHowMany)) : Cal P w K mg base "by_cost" 2 ["tally", "width"] (SpDL K RByCost) := by
  refine ok_DL D scBc (fun ds d h => ?_) (fun _ _ _ _ _ _ us hl => match us, hl with | [_, _], _ => rfl) (fun f cdv A outer s H vs Q E ds es hr hv h k => ?_)
  · obtain ⟨_, _, rfl, _⟩ := h
    rfl
  · obtain ⟨wd, l, rfl, hn, hl, rfl⟩ := h
    have e : vs = [.int (tal wd l : Int), .int (wd : Int)] := DpAll.ints (ns := [(tal wd l : Int), (wd : Int)]) hv
    subst e
    refine ⟨_, pss_one (ps_ret (pe_lc (own := [("cost", 2)]) (g := gName 2) rfl scBc.nd (pi_range1 (by rfl) gr (pa_cons (pe_gi gC) pa_nil)) (blkOk_by (own := [("cost", 2)]) (N := nmBc) (sc := defScope sByCost) (by decide +kernel)) (fun _ _ _ _ _ => pg_name (i := 2) scBc.nd rfl (Or.inl rfl)) (fun _ _ _ _ _ => pts_nil)
      (fun _ _ _ _ _ => pe_cal c hr (pa_cons (pv 0) (pa_cons (pv 2) (pa_cons (pv 1) pa_nil)))))), ?_⟩
    refine s_retDL (dvl_mapN (K := K) (n := 120) (fun p => natD (l.count p)) (da_one dv_int) (by decide) (fun _ => rfl) (fun i => nl_int _) (fun i hi H1 e1 => ?_)) k
    exact dv_call (da_cons (dv_vi rfl) (da_cons (dv_vi rfl) (da_cons (dv_vi rfl) da_nil))) ⟨wd, l, (i : Int), rfl, hn, hl, by omega, by rw [if_neg (by omega), Int.toNat_natCast]⟩
end
end Bf

namespace Bf
open PySem PySem.Spec PyProof.Rows L2 Evl
abbrev sAreNotes : Stmt := top 8
abbrev sFits : Stmt := top 46
abbrev sIsSet : Stmt := top 47
abbrev sFour : Stmt := top 50
abbrev sNums : Stmt := top 51
abbrev sSetFrom : Stmt := top 55
/-! ### notes by twos -/
def twosN : List Int → List Cp05.Note
  | d :: a :: l => ⟨d, a⟩ :: twosN l
  | _ => []
theorem twosN_len : ∀ l : List Int, (twosN l).length = l.length / 2
  | [] => rfl
  | [_] => by simp [twosN]
  | d :: a :: l => by
    show (twosN l).length + 1 = (l.length + 1 + 1) / 2
    rw [twosN_len l]
    omega
theorem twosN_at : ∀ (l : List Int) (k : Nat), k < (twosN l).length → (twosN l)[k]? = some ⟨l.getD (2 * k) 0, l.getD (2 * k + 1) 0⟩
  | [], k, h => absurd h (by simp [twosN])
  | [_], k, h => absurd h (by simp [twosN])
  | d :: a :: l, 0, _ => rfl
  | d :: a :: l, k + 1, h => by
    have ih := twosN_at l k (by simpa [twosN] using h)
    show (twosN l)[k]? = _
    rw [ih]
    have e1 : 2 * (k + 1) = 2 * k + 2 := by omega
    have e2 : 2 * k + 2 + 1 = (2 * k + 1) + 2 := by omega
    rw [e1, e2]
    rfl
theorem notes_eq : ∀ l : List Int, Cp05.notes l = if l.length % 2 = 0 ∧ ((twosN l).all Cp05.isNote) = true then some (twosN l) else none
  | [] => rfl
  | [_] => rfl
  | d :: a :: l => by
    have ih := notes_eq l
    show (if Cp05.isNote ⟨d, a⟩ = true then (Cp05.notes l).map fun r => ⟨d, a⟩ :: r else none) = _
    rw [ih]
    have e : (d :: a :: l).length % 2 = l.length % 2 := by
      show (l.length + 1 + 1) % 2 = _
      omega
    have e3 : (twosN (d :: a :: l)).all Cp05.isNote = (Cp05.isNote ⟨d, a⟩ && (twosN l).all Cp05.isNote) := rfl
    rw [e, e3]
    by_cases h1 : Cp05.isNote ⟨d, a⟩ = true
    · rw [if_pos h1, h1, Bool.true_and]
      by_cases h2 : l.length % 2 = 0 ∧ (twosN l).all Cp05.isNote = true
      · rw [if_pos h2, if_pos h2]
        rfl
      · rw [if_neg h2, if_neg h2]
        rfl
    · rw [if_neg h1, if_neg]
      rw [Bool.not_eq_true] at h1
      rw [h1]
      simp
theorem threes_at : ∀ (l : List Cp05.Note) (k : Nat), 3 * k + 2 < l.length → (Cp05.threes l)[k]? = some [l.getD (3 * k) ⟨0, 0⟩, l.getD (3 * k + 1) ⟨0, 0⟩, l.getD (3 * k + 2) ⟨0, 0⟩]
  | [], k, h => absurd h (by simp)
  | [_], k, h => absurd h (by simp)
  | [_, _], k, h => absurd h (by simp)
  | x :: y :: z :: l, 0, _ => rfl
  | x :: y :: z :: l, k + 1, h => by
    have ih := threes_at l k (by simp only [List.length_cons] at h; omega)
    show (Cp05.threes l)[k]? = _
    rw [ih]
    have e1 : 3 * (k + 1) = 3 * k + 3 := by omega
    have e2 : 3 * k + 3 + 1 = (3 * k + 1) + 3 := by omega
    have e3 : 3 * k + 3 + 2 = (3 * k + 2) + 3 := by omega
    rw [e1, e2, e3]
    rfl
theorem threes_len : ∀ (l : List Cp05.Note), (Cp05.threes l).length = l.length / 3
  | [] => rfl
  | [_] => by simp [Cp05.threes]
  | [_, _] => by simp [Cp05.threes]
  | x :: y :: z :: l => by
    show (Cp05.threes l).length + 1 = (l.length + 1 + 1 + 1) / 3
    rw [threes_len l]
    omega
/-! ### what is a setting -/
def fitsV (r : Int × Int) (c : Cp05.Chord) (m : Cp05.Note) : Bool := c.names.contains (Cp05.nameOf m) && (decide (r.1 ≤ m.sound) && decide (m.sound ≤ r.2))
theorem mem_options {r : Int × Int} {c : Cp05.Chord} (hc : ∀ n ∈ c.names, okName n) {m : Cp05.Note} (hm : Cp05.isNote m = true) : m ∈ Cp05.options r c ↔ fitsV r c m = true := by
  constructor
  · intro h
    obtain ⟨h1, _, h3, h4⟩ := notes_named hc h
    unfold fitsV
    simp only [Bool.and_eq_true, List.contains_iff_mem, decide_eq_true_eq]
    exact ⟨h1, h3, h4⟩
  · intro h
    unfold fitsV at h
    simp only [Bool.and_eq_true, List.contains_iff_mem, decide_eq_true_eq] at h
    obtain ⟨h1, h3, h4⟩ := h
    unfold Cp05.options
    rw [List.mem_mergeSort]
    refine List.mem_flatMap.mpr ⟨Cp05.nameOf m, h1, ?_⟩
    unfold Cp05.notesIn
    refine List.mem_filter.mpr ⟨List.mem_map.mpr ⟨(m.d / 7).toNat, ?_, ?_⟩, ?_⟩
    · rw [List.mem_range]
      unfold Cp05.isNote Cp05.STEPS at hm
      simp only [Bool.and_eq_true, decide_eq_true_eq] at hm
      omega
    · unfold Cp05.isNote Cp05.STEPS at hm
      simp only [Bool.and_eq_true, decide_eq_true_eq] at hm
      obtain ⟨d, a⟩ := m
      show (⟨7 * ((d / 7).toNat : Int) + d % 7, a⟩ : Cp05.Note) = ⟨d, a⟩
      congr 1
      simp only at hm
      omega
    · rw [hm]
      simp [h3, h4]
def fourN (c : Cp05.Chord) (x y z : Cp05.Note) (i : Nat) : Cp05.Note := [x, y, z, c.bass].getD i ⟨0, 0⟩
def condS (q : Cp05.Rules) (c : Cp05.Chord) (x y z : Cp05.Note) (i : Nat) : Bool := fitsV (q.ranges.getD i (0, 0)) c (fourN c x y z i) && near (q.apart.getD i 0) (fourN c x y z i) (fourN c x y z (i + 1))
theorem contains_set {q : Cp05.Rules} {c : Cp05.Chord} (hc : ∀ n ∈ c.names, okName n) {x y z : Cp05.Note} (hx : Cp05.isNote x = true) (hy : Cp05.isNote y = true) (hz : Cp05.isNote z = true) :
    (Cp05.settings q c).contains [x, y, z] = (condS q c x y z 0 && (condS q c x y z 1 && (condS q c x y z 2 && complete c [x, y, z]))) := by
  have e0 : condS q c x y z 0 = (fitsV (q.ranges.getD 0 (0, 0)) c x && near (q.apart.getD 0 0) x y) := rfl
  have e1 : condS q c x y z 1 = (fitsV (q.ranges.getD 1 (0, 0)) c y && near (q.apart.getD 1 0) y z) := rfl
  have e2 : condS q c x y z 2 = (fitsV (q.ranges.getD 2 (0, 0)) c z && near (q.apart.getD 2 0) z c.bass) := rfl
  rw [e0, e1, e2, Bool.eq_iff_iff]
  simp only [Bool.and_eq_true, List.contains_iff_mem]
  constructor
  · intro h
    obtain ⟨a, b, t, e, ha, hb, ht, hf⟩ := mem_settings h
    simp only [List.cons.injEq, and_true] at e
    obtain ⟨rfl, rfl, rfl⟩ := e
    rw [fits_eq] at hf
    simp only [Bool.and_eq_true] at hf
    exact ⟨⟨(mem_options hc hx).mp ha, hf.1⟩, ⟨(mem_options hc hy).mp hb, hf.2.1⟩, ⟨(mem_options hc hz).mp ht, hf.2.2.1⟩, hf.2.2.2⟩
  · rintro ⟨⟨a1, a2⟩, ⟨b1, b2⟩, ⟨t1, t2⟩, k⟩
    unfold Cp05.settings
    refine List.mem_flatMap.mpr ⟨x, (mem_options hc hx).mpr a1, List.mem_flatMap.mpr ⟨y, (mem_options hc hy).mpr b1, List.mem_filterMap.mpr ⟨z, (mem_options hc hz).mpr t1, ?_⟩⟩⟩
    rw [if_pos]
    rw [fits_eq, a2, b2, t2, k]
    rfl
def RAreNotes (ds : List PyData) (d : PyData) : Prop := ∃ ns : List Int, ds = [.list (ns.map .int)] ∧ ns.length ≤ 100 ∧ d = .bool (Cp05.notes ns).isSome
def RNums (ds es : List PyData) : Prop := ∃ s : Cp05.Setting, ds = [encSet s] ∧ s.length ≤ 3 ∧ es = (Cp05.told s).map .int
def RSetFrom (ds es : List PyData) : Prop := ∃ (ns : List Int) (nts : List Cp05.Note), ds = [.list (ns.map .int)] ∧ ns.length ≤ 100 ∧ Cp05.notes ns = some nts ∧ nts.length % 3 = 0 ∧ es = (Cp05.threes nts).map encSet
def SpFits (K : PySem.W.Frag) (CR C : Addr) : Sp := fun vs H Q _ => ∃ (ar a : Addr) (i : Nat) (v : V) (q : Cp05.Rules) (c : Cp05.Chord) (m : Cp05.Note), vs = [.ref ar, .ref a, .int (i : Int), v] ∧ RuAt K CR H ar q ∧ RuOk q ∧ ChAt K C H a c ∧ i < 3 ∧ Dp K H v (encNote m) ∧
  ∀ H', Ex H H' → Q (.bl (fitsV (q.ranges.getD i (0, 0)) c m)) H'
def SpIs (K : PySem.W.Frag) (CR C : Addr) : Sp := fun vs H Q _ => ∃ (ar a : Addr) (v : V) (q : Cp05.Rules) (c : Cp05.Chord) (x y z : Cp05.Note), vs = [.ref ar, .ref a, v] ∧ RuAt K CR H ar q ∧ RuOk q ∧ ChAt K C H a c ∧ ChOk c ∧ Dp K H v (encSet [x, y, z]) ∧ Cp05.isNote x = true ∧ Cp05.isNote y = true ∧ Cp05.isNote z = true ∧
  ∀ H', Ex H H' → Q (.bl ((Cp05.settings q c).contains [x, y, z])) H'
/-- a new tuple of four sounds -/
def SpFour (K : PySem.W.Frag) (C : Addr) : Sp := fun vs H Q _ => ∃ (a : Addr) (v : V) (c : Cp05.Chord) (x y z : Cp05.Note), vs = [.ref a, v] ∧ ChAt K C H a c ∧ Dp K H v (encSet [x, y, z]) ∧
  ∀ p H', H p = none → Ex H H' → H' p = some (.tup ((sndC c [x, y, z]).map V.int)) → Q (.ref p) H'
section
variable {K : PySem.W.Frag} {H : Hp} {σ : L2.St} {ta tb te ti tl : TE} {t : TT}
/-- [e for i in range(lo, hi, c)], e no list -/
theorem dvl_mapC {ta : TA} {j : Nat} {vs : List Nat} {lo hi c : Int} {n : Nat} (g : Nat → PyData) (h : DvA K ta σ H [.int lo, .int hi, .int c]) (hr : RgC lo hi c n) (hz : n ≤ 40000) (hw : ∀ x, wipe ((wipe σ vs).set j (some x)) vs = wipe σ vs)
    (hg : ∀ i, noList (g i) = true) (he : ∀ (i : Nat), i < n → ∀ H1, Ex H H1 → Dv K te ((wipe σ vs).set j (some (.int (lo + (i : Int) * c)))) H1 (g i)) :
    DvL K (tLc (iRng3 ta) (gName j) tYes te vs) σ H ((List.range n).map g) := fun H0 e Q q => ea_ints (ns := [lo, hi, c]) h H0 e _ fun H1 e1 => ⟨lo, hi, c, n, rfl, hr, fun Dl hD =>
  lc_it walk_rangeC (Cd K H1 (List.range n) (fun _ => true) g Dl) ⟨hD, Ex.new hD, [], upd_same, .nil⟩ (fun _ _ _ _ => trivial) (fun i x H' H'' hi cd hy => by
    obtain ⟨rfl, rfl⟩ := hy
    have hx : (List.range n)[i]? = some i := by rw [List.getElem?_range hi]
    exact ⟨hw _, cd_turn cd (by rw [List.length_range]; omega) hx (fun x _ => hg x) et_yes fun _ => he i hi H'' ((e.trans e1).trans cd.2.1)⟩) (fun H' cd => by
    obtain ⟨c1, c2, acc, c3, c4⟩ := cd
    rw [List.take_of_length_le (by rw [List.length_range]; exact Nat.le_refl _), filter_true] at c4
    exact q Dl acc H' (fresh_back e1 c1) (e1.trans c2) c3 c4)⟩
end
theorem fits_long {x : Int} (h1 : -1000000 ≤ x) (h2 : x ≤ 1000000) : Builtin.Range.rangeFitsLong x = true := by
  unfold Builtin.Range.rangeFitsLong
  have e63 : (2 : Int) ^ 63 = 9223372036854775808 := by decide
  simp
  omega
theorem rgc_pos {m : Nat} {c : Int} (hm : m ≤ 200) (hc : c = 2 ∨ c = 3) : RgC 0 (c * (m : Int)) c m := by
  have hs : Builtin.Range.rangeSize 0 (c * (m : Int)) c = (m : Int) := by
    unfold Builtin.Range.rangeSize
    rcases hc with rfl | rfl
    · rw [if_pos (by decide)]
      split <;> omega
    · rw [if_pos (by decide)]
      split <;> omega
  have hb : 0 ≤ c * (m : Int) ∧ c * (m : Int) ≤ 600 := by rcases hc with rfl | rfl <;> omega
  refine ⟨by omega, by omega, ?_, hs⟩
  unfold Builtin.Range.small
  rw [hs, fits_long (by omega) (by omega), fits_long (by omega) (by omega), fits_long (by omega) (by omega), fits_long (by omega) (by omega), if_pos (by omega), fits_long (by omega) (by omega)]
  simp
section
variable {P : Program} {w : World} {K : PySem.W.Frag} {mg : Str → Option Value} {base : Heap} {CR C : Addr}
abbrev nmAr : List Str := ["numbers", "k"]
theorem scAr : FnScope nmAr ["numbers"] (defScope sAreNotes) := ⟨rfl, rfl, rfl, by decide +kernel, rfl, by decide +kernel, by decide +kernel⟩
theorem cal_areNotes (D : Def K mg "are_notes" sAreNotes) (gl : mg "len" = none) (gr : mg "range" = none) (ga : mg "all" = none) (c : Cal P w K mg base "is_note" 2 ["step", "alteration"] (SpD K RIsNote)) : Cal P w K mg base "are_notes" 3 ["numbers"] (SpD K RAreNotes) := by
  refine ok_D D scAr (fun ds d h => ?_) (fun _ _ _ _ _ _ us hl => match us, hl with | [_], _ => rfl) (fun f cdv A outer s H vs Q E ds d hr hv h k => ?_)
  · obtain ⟨_, rfl, _⟩ := h
    rfl
  · obtain ⟨ns, rfl, hl, rfl⟩ := h
    obtain ⟨v, rfl, hn⟩ := DpAll1 hv
    refine ⟨_, pss_cons (ps_if (pt_cmpR op_ne (pe_op op_mod (pe_callB call_len_seq (by rfl) gl PySem.boot_len (pa_cons (pv 0) pa_nil)) pe_int) pe_int (nomark _)) (pss_one (ps_ret pe_bl)) pss_nil)
      (pss_one (ps_ret (pe_callB (cr_all rfl) (by rfl) ga (by decide +kernel) (pa_cons (pe_lc (own := [("k", 1)]) (g := gName 1) (te := tCall (SpD K RIsNote) [] E0 (tCons (tOp (rIxL K) (tVar 0) (tVar 1)) (tCons (tOp (rIxL K) (tVar 0) (tOp (rI0 fun i j => .int (i + j)) (tVar 1) (tC (.int 1)))) tNil))) rfl scAr.nd (pi_range3 (by rfl) gr (pa_cons pe_int (pa_cons (pe_callB call_len_seq (by rfl) gl PySem.boot_len (pa_cons (pv 0) pa_nil)) (pa_cons pe_int pa_nil)))) (blkOk_by (own := [("k", 1)]) (N := nmAr) (sc := defScope sAreNotes) (by decide +kernel)) (fun _ _ _ _ _ => pg_name (i := 1) scAr.nd rfl (Or.inl rfl))
        (fun _ _ _ _ _ => pts_nil) (fun _ _ _ _ _ => pe_cal c hr (pa_cons (pe_ix ix_list (pv 0) (pv 1) (fun _ _ => rfl)) (pa_cons (pe_ix ix_list (pv 0) (pe_op op_add (pv 1) pe_int) (fun _ _ => rfl)) pa_nil)))) pa_nil)))), ?_⟩
    have hlen : ((ns.map PyData.int).length : Int) = (ns.length : Int) := by rw [List.length_map]
    refine q_when (b := !decide ((ns.length : Int) % 2 = 0)) (dt_test (dv_is (dv_neI (dv_IC (dv_len (dv_var rfl hn)) dv_int (by decide)) dv_int) (by rw [hlen]))) (fun hb H1 e1 => ?_) (fun hb H1 e1 => ?_)
    · refine s_retD (dv_is dv_bl ?_) fun v' H2 e2 hd => k v' H2 (e1.trans e2) hd
      rw [Bool.not_eq_true', decide_eq_false_iff_not] at hb
      rw [notes_eq, if_neg (by omega)]
      rfl
    · rw [Bool.not_eq_false', decide_eq_true_eq] at hb
      have e2m : (ns.length : Int) = 2 * ((ns.length / 2 : Nat) : Int) := by omega
      refine s_retD (dv_is (dv_all (bs := (List.range (ns.length / 2)).map fun i => Cp05.isNote ⟨ns.getD (2 * i) 0, ns.getD (2 * i + 1) 0⟩) (dv_is (dvl_mapC (K := K) (lo := 0) (hi := 2 * ((ns.length / 2 : Nat) : Int)) (c := 2) (n := ns.length / 2) (fun i => .bool (Cp05.isNote ⟨ns.getD (2 * i) 0, ns.getD (2 * i + 1) 0⟩)) (da_cons dv_int (da_cons (dv_is (dv_len (dv_var rfl (Dp.mono e1 _ hn))) (by rw [hlen, ← e2m])) (da_cons dv_int da_nil))) (rgc_pos (by omega) (.inl rfl)) (by omega) (fun _ => rfl) (fun i => by simp [noList]) (fun i hi H2 e2 => ?_)).dv (by rw [List.map_map]; rfl))) ?_) fun v' H2 e2 hd => k v' H2 (e1.trans e2) hd
      · exact dv_call (da_cons (dv_ixL (j := 2 * i) (dv_var rfl (Dp.mono (e1.trans e2) _ hn)) (dv_vi rfl) (by omega) (int_at (getD_at (by omega)))) (da_cons (dv_ixL (j := 2 * i + 1) (dv_var rfl (Dp.mono (e1.trans e2) _ hn)) (dv_I (dv_vi rfl) dv_int) (by omega) (int_at (getD_at (by omega)))) da_nil)) ⟨_, _, rfl, rfl⟩
      · have e3 : (List.range (ns.length / 2)).map (fun i => Cp05.isNote ⟨ns.getD (2 * i) 0, ns.getD (2 * i + 1) 0⟩) = (twosN ns).map Cp05.isNote := by
          apply List.ext_getElem?
          intro i
          rw [List.getElem?_map, List.getElem?_map]
          by_cases hi : i < ns.length / 2
          · rw [List.getElem?_range hi, twosN_at ns i (by rw [twosN_len]; exact hi)]
            rfl
          · rw [List.getElem?_eq_none (by rw [List.length_range]; omega), List.getElem?_eq_none (by rw [twosN_len]; omega)]
            rfl
        rw [e3, List.all_map, notes_eq]
        congr 1
        by_cases h2 : (twosN ns).all Cp05.isNote = true
        · rw [if_pos ⟨by omega, h2⟩]
          exact h2
        · rw [if_neg fun z => h2 z.2]
          rw [Bool.not_eq_true] at h2
          exact h2
abbrev nmFv : List Str := ["rules", "chord", "voice", "note", "reach"]
theorem scFv : FnScope nmFv ["rules", "chord", "voice", "note"] (defScope sFits) := ⟨rfl, rfl, rfl, by decide +kernel, rfl, by decide +kernel, by decide +kernel⟩
theorem range_at {q : Cp05.Rules} (ok : RuOk q) {i : Nat} (hi : i < 3) : (q.ranges.map encRange)[i]? = some (encRange (q.ranges.getD i (0, 0))) := by
  obtain ⟨x, y, z, e⟩ := ok.r3
  rw [e]
  match i, hi with
  | 0, _ => rfl
  | 1, _ => rfl
  | 2, _ => rfl
theorem cal_fits (D : Def K mg "fits_voice" sFits) (TC : ChTxt K C) (TR : RuTxt K CR) (c : Cal P w K mg base "name_of" 1 ["note"] (SpD K RName)) : Cal P w K mg base "fits_voice" 2 ["rules", "chord", "voice", "note"] (SpFits K CR C) := by
  refine ok_S D scFv (fun vs H Q E h => ?_) (fun _ _ _ _ _ _ us hl => match us, hl with | [_, _, _, _], _ => rfl) (fun f cdv A outer s H vs Q E hr h => ?_)
  · obtain ⟨_, _, _, _, _, _, _, rfl, _⟩ := h
    rfl
  · obtain ⟨ar, a, i, v, q, ch, m, rfl, hR, okR, hC, hi, hv, k⟩ := h
    refine ⟨_, pss_cons (ps_set (i := 4) scFv.nd rfl (Or.inl rfl) (pe_ix ix_list (pe_fld (pv 0) rfl) (pv 2) (fun _ _ => rfl)))
      (pss_one (ps_ret (pe_and (pe_cmpR (op_inD (hu65 hr)) (pe_cal c hr (pa_cons (pv 3) pa_nil)) (pe_fld (pv 1) rfl) (by rfl)) (pe_one (pe_chain op_le op_le (pe_ix ix_tup (pv 4) pe_int (fun _ _ => rfl)) (pe_ix ix_tup (pv 3) pe_int (fun _ _ => rfl)) (pe_ix ix_tup (pv 4) pe_int (fun _ _ => rfl))))))), ?_⟩
    obtain ⟨dx, vr, va, vl, R1, R2, R3, R4⟩ := hR
    refine q_asgD (K := K) (dv_ixL (j := i) (dv_fld (ev_var rfl) R1 TR.cl TR.nR (ruF_ranges _ _ _ _) R2) (dv_vi rfl) rfl (range_at okR hi)) fun u H1 e1 hu => ?_
    obtain ⟨dc, vb, ln, ld, ns, C1, C2, C3, C4, C5⟩ := hC.mono e1
    generalize q.ranges.getD i (0, 0) = r at *
    refine s_retD (K := K) (d := .bool (fitsV r ch m)) (dv_is (dv_and (dv_is (dv_inD (dv_call (d := encName (Cp05.nameOf m)) (da_cons (dv_var rfl (Dp.mono e1 _ hv)) da_nil) ⟨m, rfl, rfl⟩) (dv_fld (ev_var rfl) C1 TC.cl TC.nN (chF_names _ _ _) (.lst (sq_of C3) C4)) (shaped_name _) (shaped_names _)) (by rw [any_name])) fun _ => dv_chain (dv_ixT (j := 0) (dv_var rfl hu) dv_int rfl rfl) (dv_ixT (j := 0) (dv_var rfl (Dp.mono e1 _ hv)) dv_int rfl rfl) (dv_ixT (j := 1) (dv_var rfl hu) dv_int rfl rfl)) rfl) fun w' H2 e2 hd => ?_
    rw [hd.bool_inv]
    exact k H2 (e1.trans e2)
abbrev nmIs : List Str := ["rules", "chord", "setting", "four", "voice"]
theorem scIs : FnScope nmIs ["rules", "chord", "setting"] (defScope sIsSet) := ⟨rfl, rfl, rfl, by decide +kernel, rfl, by decide +kernel, by decide +kernel⟩
theorem cal_isSet (D : Def K mg "is_setting" sIsSet) (TC : ChTxt K C) (TR : RuTxt K CR) (gl : mg "len" = none) (gr : mg "range" = none) (c1 : Cal P w K mg base "fits_voice" 2 ["rules", "chord", "voice", "note"] (SpFits K CR C)) (c2 : Cal P w K mg base "is_near_above" 1 ["upper", "lower", "apart"] (SpD K RNear)) (c3 : Cal P w K mg base "is_complete" 3 ["chord", "setting"] (SpC K C gComplete)) :
    Cal P w K mg base "is_setting" 4 ["rules", "chord", "setting"] (SpIs K CR C) := by
  refine ok_S D scIs (fun vs H Q E h => ?_) (fun _ _ _ _ _ _ us hl => match us, hl with | [_, _, _], _ => rfl) (fun f cdv A outer s H vs Q E hr h => ?_)
  · obtain ⟨_, _, _, _, _, _, _, _, rfl, _⟩ := h
    rfl
  · obtain ⟨ar, a, v, q, ch, x, y, z, rfl, hR, okR, hC, okC, hv, nx, ny, nz, k⟩ := h
    have hr2 : Room 2 _ := hr.mono (by decide : 2 ≤ 3)
    have hr1 : Room 1 _ := hr.mono (by decide : 1 ≤ 3)
    refine ⟨_, pss_cons (ps_set (i := 3) scIs.nd rfl (Or.inl rfl) (pe_lst (pa_cons (pe_ix ix_tup (pv 2) pe_int (fun _ _ => rfl)) (pa_cons (pe_ix ix_tup (pv 2) pe_int (fun _ _ => rfl)) (pa_cons (pe_ix ix_tup (pv 2) pe_int (fun _ _ => rfl)) (pa_cons (pe_fld (pv 1) rfl) pa_nil))))))
      (pss_cons (ps_for PassesOwn.never rfl (pi_range1 (by rfl) gr (pa_cons (pe_callB call_len_seq (by rfl) gl PySem.boot_len (pa_cons (pv 2) pa_nil)) pa_nil)) (pg_name (i := 4) scIs.nd rfl (Or.inl rfl))
        (pss_cons (ps_if (pt_not (pt_val (pe_cal c1 hr2 (pa_cons (pv 0) (pa_cons (pv 1) (pa_cons (pv 4) (pa_cons (pe_ix ix_list (pv 3) (pv 4) (fun _ _ => rfl)) pa_nil))))))) (pss_one (ps_ret pe_bl)) pss_nil)
        (pss_one (ps_if (pt_not (pt_val (pe_cal c2 hr1 (pa_cons (pe_ix ix_list (pv 3) (pv 4) (fun _ _ => rfl)) (pa_cons (pe_ix ix_list (pv 3) (pe_op op_add (pv 4) pe_int) (fun _ _ => rfl)) (pa_cons (pe_ix ix_list (pe_fld (pv 0) rfl) (pv 4) (fun _ _ => rfl)) pa_nil)))))) (pss_one (ps_ret pe_bl)) pss_nil))))
      (pss_one (ps_ret (pe_cal c3 hr (pa_cons (pv 1) (pa_cons (pv 2) pa_nil)))))), ?_⟩
    have hcont := contains_set (q := q) okC.ok nx ny nz
    obtain ⟨dx, vr, va, vl, R1, R2, R3, R4⟩ := id hR
    obtain ⟨dc, vb, ln, ld, ns, C1, C2, C3, C4, C5⟩ := id hC
    have hvs : ∀ G, Ex H G → Dp K G v (.tuple ([x, y, z].map encNote)) := fun G e => Dp.mono e _ hv
    refine q_asgDL (K := K) (ds := [x, y, z, ch.bass].map encNote) (dvl_lst (da_cons (dv_ixT (j := 0) (dv_var rfl (hvs _ (Ex.refl _))) dv_int rfl rfl) (da_cons (dv_ixT (j := 1) (dv_var rfl (hvs _ (Ex.refl _))) dv_int rfl rfl) (da_cons (dv_ixT (j := 2) (dv_var rfl (hvs _ (Ex.refl _))) dv_int rfl rfl) (da_cons (dv_fld (ev_var rfl) C1 TC.cl TC.nB (chF_bass _ _ _) C2) da_nil)))) (by show 4 ≤ 100000; decide)) fun p xs H1 hp e1 h1 hx => ?_
    have hf : ∀ G, Ex H1 G → Dp K G (.ref p) (.list ([x, y, z, ch.bass].map encNote)) := fun G e => .lst (sq_of (e _ _ h1)) (DpAll.mono e _ hx)
    have fat : ∀ i, i < 4 → ([x, y, z, ch.bass].map encNote)[i]? = some (encNote (fourN ch x y z i)) := fun i hi => by
      match i, hi with
      | 0, _ => rfl
      | 1, _ => rfl
      | 2, _ => rfl
      | 3, _ => rfl
    have aat : ∀ i, i < 3 → (q.apart.map PyData.int)[i]? = some (.int (q.apart.getD i 0)) := fun i hi => by
      obtain ⟨a0, a1, a2, ea⟩ := okR.a3
      refine int_at (getD_at ?_)
      rw [ea]
      exact hi
    refine q_forN (K := K) (n := 3) (da_one (dv_lenT (dv_var rfl (hvs _ e1)))) (by decide) (fun i σ' H' => ∃ o4, σ' = [some (.ref ar), some (.ref a), some v, some (.ref p), o4] ∧ Ex H1 H' ∧ ∀ j, j < i → condS q ch x y z j = true) (fun H2 e2 => ⟨none, rfl, e2, fun j hj => absurd hj (by omega)⟩) (fun i σ' H' hi ⟨o4, eσ, e3, hall⟩ => ?_) (fun σ' H' ⟨o4, eσ, e3, hall⟩ => ?_)
    · subst eσ
      have hi3 : i < 3 := by omega
      have bad : condS q ch x y z i = false → (Cp05.settings q ch).contains [x, y, z] = false := fun hb => by
        rw [hcont]
        match i, hi3 with
        | 0, _ => rw [hb]; rfl
        | 1, _ => rw [hb]; simp
        | 2, _ => rw [hb]; simp
      have hfour : ∀ G, Ex H1 G → Dv K (tOp (rIxL K) (tVar 3) (tVar 4)) [some (.ref ar), some (.ref a), some v, some (.ref p), some (.int (i : Int))] G (encNote (fourN ch x y z i)) := fun G e => dv_ixL (j := i) (dv_var rfl (hf _ e)) (dv_vi rfl) rfl (fat i (by omega))
      refine q_when (b := !fitsV (q.ranges.getD i (0, 0)) ch (fourN ch x y z i)) (et_not (dt_B (K := K) (fun H2 e2 Q2 q2 => ⟨_, rfl, ⟨_, rfl, ⟨_, rfl, hfour _ e3 H2 e2 _ fun u H3 e4 hu => ⟨ar, a, i, u, q, ch, fourN ch x y z i, rfl, hR.mono ((e1.trans e3).trans (e2.trans e4)), okR, hC.mono ((e1.trans e3).trans (e2.trans e4)), hi3, hu, fun H5 e5 => q2 _ H5 (e4.trans e5) (.bl _)⟩⟩⟩⟩))) (fun hb H2 e2 => ?_) (fun hb H2 e2 => ?_)
      · rw [Bool.not_eq_true'] at hb
        refine s_ret ev_c fun H3 e4 => ?_
        have := k H3 (((e1.trans e3).trans e2).trans e4)
        rw [bad (by unfold condS; rw [hb]; rfl)] at this
        exact this
      · rw [Bool.not_eq_false'] at hb
        have e32 := e3.trans e2
        refine s_when (b := !near (q.apart.getD i 0) (fourN ch x y z i) (fourN ch x y z (i + 1))) (et_not (dt_B (dv_call (K := K) (da_cons (hfour _ e32) (da_cons (dv_ixL (j := i + 1) (dv_var rfl (hf _ e32)) (dv_I (dv_vi rfl) dv_int) (by omega) (fat (i + 1) (by omega))) (da_cons (dv_ixL (j := i) (dv_fld (ev_var rfl) ((e1.trans e32) _ _ R1) TR.cl TR.nA (ruF_apart _ _ _ _) (Dp.mono (e1.trans e32) _ R3)) (dv_vi rfl) rfl (aat i hi3)) da_nil))) ⟨_, _, _, rfl, rfl⟩))) (fun hb2 H3 e4 => ?_) (fun hb2 H3 e4 => ?_)
        · rw [Bool.not_eq_true'] at hb2
          refine s_ret ev_c fun H4 e5 => ?_
          have := k H4 (((e1.trans e32).trans e4).trans e5)
          rw [bad (by unfold condS; rw [hb2, Bool.and_false])] at this
          exact this
        · rw [Bool.not_eq_false'] at hb2
          refine ⟨_, rfl, e32.trans e4, fun j hj => ?_⟩
          by_cases hji : j = i
          · subst hji
            unfold condS
            rw [hb, hb2]
            rfl
          · exact hall j (by omega)
    · subst eσ
      have e0 := hall 0 (by decide)
      have e1' := hall 1 (by decide)
      have e2' := hall 2 (by decide)
      refine s_retD (K := K) (d := .bool (complete ch [x, y, z])) (dv_callS (ea_cons (ev_var rfl) (ea_cons (ev_var rfl) ea_nil)) fun H2 e2 Q2 q2 => ⟨a, v, ch, [x, y, z], rfl, hC.mono ((e1.trans e3).trans e2), okC, hvs _ ((e1.trans e3).trans e2), Nat.le_refl 3, q2⟩) fun u H2 e2 hu => ?_
      rw [hu.bool_inv]
      have := k H2 ((e1.trans e3).trans e2)
      rw [hcont, e0, e1', e2'] at this
      exact this
theorem scFo : FnScope ["chord", "setting"] ["chord", "setting"] (defScope sFour) := ⟨rfl, rfl, rfl, by decide +kernel, rfl, by decide +kernel, by decide +kernel⟩
theorem cal_four (D : Def K mg "four_sounds" sFour) (TC : ChTxt K C) : Cal P w K mg base "four_sounds" 1 ["chord", "setting"] (SpFour K C) := by
  refine ok_S D scFo (fun vs H Q E h => ?_) (fun _ _ _ _ _ _ us hl => match us, hl with | [_, _], _ => rfl) (fun f cdv A outer s H vs Q E hr h => ?_)
  · obtain ⟨_, _, _, _, _, _, rfl, _⟩ := h
    rfl
  · obtain ⟨a, v, ch, x, y, z, rfl, hC, hv, k⟩ := h
    refine ⟨_, pss_one (ps_ret (pe_tup (pa_cons (pe_ix ix_tup (pe_ix ix_tup (pv 1) pe_int (fun _ _ => rfl)) pe_int (fun _ _ => rfl)) (pa_cons (pe_ix ix_tup (pe_ix ix_tup (pv 1) pe_int (fun _ _ => rfl)) pe_int (fun _ _ => rfl)) (pa_cons (pe_ix ix_tup (pe_ix ix_tup (pv 1) pe_int (fun _ _ => rfl)) pe_int (fun _ _ => rfl)) (pa_cons (pe_ix ix_tup (pe_fld (pv 0) rfl) pe_int (fun _ _ => rfl)) pa_nil)))))), ?_⟩
    obtain ⟨dc, vb, ln, ld, ns, C1, C2, C3, C4, C5⟩ := id hC
    have hvs : Dp K H v (.tuple ([x, y, z].map encNote)) := hv
    refine s_retU (xs := (sndC ch [x, y, z]).map V.int) (eu_tup (ea_cons (ev_int (K := K) (dv_ixT (j := 0) (dv_ixT (j := 0) (dv_var rfl hvs) dv_int rfl rfl) dv_int rfl rfl)) (ea_cons (ev_int (K := K) (dv_ixT (j := 0) (dv_ixT (j := 1) (dv_var rfl hvs) dv_int rfl rfl) dv_int rfl rfl)) (ea_cons (ev_int (K := K) (dv_ixT (j := 0) (dv_ixT (j := 2) (dv_var rfl hvs) dv_int rfl rfl) dv_int rfl rfl)) (ea_cons (ev_int (K := K) (dv_ixT (j := 0) (dv_fld (ev_var rfl) C1 TC.cl TC.nB (chF_bass _ _ _) C2) dv_int rfl rfl)) ea_nil)))) (by show 4 ≤ 100000; decide)) k
abbrev nmNu : List Str := ["setting", "numbers", "note"]
theorem scNu : FnScope nmNu ["setting"] (defScope sNums) := ⟨rfl, rfl, rfl, by decide +kernel, rfl, by decide +kernel, by decide +kernel⟩
theorem s_extI {K' : PySem.W.Frag} {σ : L2.St} {H : Hp} {D : Ends} {ta te : TE} {ds : List PyData} {l : Addr} {xs : List V} (hl : H l = some (.lst xs)) (ha : Ev ta σ H (.ref l)) (h : DvL K te σ H ds) (hz : xs.length + ds.length ≤ 10000000) (k : ∀ p zs H1, H p = none → Ex H H1 → H1 p = some (.lst zs) → DpAll K H1 zs ds → D.nx σ (upd H1 l (.lst (xs ++ zs)))) :
    tDrop (tBM K' "list" rExtend ta (tCons te tNil)) D σ H := ha H (Ex.refl H) _ fun H1 e1 =>
  ⟨Or.inl ⟨rfl, xs, sq_of (e1 l _ hl)⟩, h H1 e1 _ fun p zs H2 hp e2 h2 hd => ⟨l, p, xs, zs, rfl, rfl, e2 l _ (e1 l _ hl), h2, Nat.le_trans (by rw [hd.length]; exact hz) (by decide), k p zs H2 (fresh_back e1 hp) (e1.trans e2) h2 hd⟩⟩
theorem cal_nums (D : Def K mg "numbers_of" sNums) : Cal P w K mg base "numbers_of" 1 ["setting"] (SpDL K RNums) := by
  refine ok_DL D scNu (fun ds d h => ?_) (fun _ _ _ _ _ _ us hl => match us, hl with | [_], _ => rfl) (fun f cdv A outer s H vs Q E ds es hr hv h k => ?_)
  · obtain ⟨_, rfl, _⟩ := h
    rfl
  · obtain ⟨st, rfl, h3, rfl⟩ := h
    obtain ⟨v, rfl, hs⟩ := DpAll1 hv
    obtain ⟨tx, xt, rfl, htx, hxt⟩ := Dp.tup_inv (ds := st.map encNote) hs
    refine ⟨_, pss_cons (ps_set (i := 1) scNu.nd rfl (Or.inl rfl) (pe_lst pa_nil))
      (pss_cons (ps_for PassesOwn.never rfl (pi_tup (pv 0)) (pg_name (i := 2) scNu.nd rfl (Or.inl rfl))
        (pss_one (ps_expr (pe_bm PySem.F.plainAttrs_list PySem.F.slot_list_extend PySem.F.type_list_extend mt_extend (pv 1) (pa_cons (pe_lst (pa_cons (pe_ix ix_tup (pv 2) pe_int (fun _ _ => rfl)) (pa_cons (pe_ix ix_tup (pv 2) pe_int (fun _ _ => rfl)) pa_nil))) pa_nil)))))
      (pss_one (ps_ret (pv 1)))), ?_⟩
    have hxtl : xt.length = st.length := by rw [hxt.length, List.length_map]
    refine q_asgDL (K := K) (dvl_lst da_nil (by decide)) fun p ys H1 hp e1 h1 hy => ?_
    cases hy
    refine q_forT (a := tx) (xs := xt) (ev_var rfl) (ex_t e1 htx) (fun j σ' H' => ∃ o2, σ' = [some (.ref tx), some (.ref p), o2] ∧ Ex H H' ∧ H' p = some (.lst ((Cp05.told (st.take j)).map V.int))) (fun H2 e2 => ⟨none, rfl, e1.trans e2, e2 _ _ h1⟩) (fun j σ' H' _ ⟨_, _, e, _⟩ => ex_t e htx) (fun j y σ' H' hj ⟨o2, eσ, e5, h5⟩ => ?_) (fun σ' H' ⟨o2, eσ, e5, h5⟩ => ?_)
    · subst eσ
      obtain ⟨n, hn, hy⟩ := at_map hxt hj
      have hy' := Dp.mono e5 _ hy
      have htl : (Cp05.told (st.take j)).length ≤ 3 * 2 := by
        unfold Cp05.told
        refine Nat.le_trans (flatMap_le _ 2 _ fun x _ => Nat.le_refl 2) (Nat.mul_le_mul_right _ ?_)
        rw [List.length_take]
        omega
      refine s_extI (K := K) (ds := [n.d, n.a].map .int) h5 (ev_var rfl) (dvl_lst (da_cons (dv_ixT (j := 1) (dv_var rfl hy') dv_int rfl rfl) (da_cons (dv_ixT (j := 2) (dv_var rfl hy') dv_int rfl rfl) da_nil)) (by show 2 ≤ 100000; decide)) ?_ fun pb yb H7 hpb e7 h7 hyb => ?_
      · simp only [List.length_map, List.length_cons, List.length_nil]
        omega
      rw [hyb.ints] at h7 ⊢
      refine ⟨_, rfl, Ex.mut (e5.trans e7) hp, ?_⟩
      rw [upd_same, List.take_add_one, hn]
      congr 2
      unfold Cp05.told
      rw [List.flatMap_append, ← List.map_append]
      rfl
    · subst eσ
      rw [hxtl, List.take_length] at h5
      exact s_ret (ev_var rfl) fun H4 e4 => k p _ H4 hp (e5.trans e4) (e4 _ _ h5) (DpAll.ofInts _ _ _)
abbrev nmSf : List Str := ["numbers", "notes", "k"]
theorem scSf : FnScope nmSf ["numbers"] (defScope sSetFrom) := ⟨rfl, rfl, rfl, by decide +kernel, rfl, by decide +kernel, by decide +kernel⟩
theorem note_at {l : List Cp05.Note} {j : Nat} (h : j < l.length) : (l.map encNote)[j]? = some (encNote (l.getD j ⟨0, 0⟩)) := by
  rw [List.getElem?_map, List.getD_eq_getElem?_getD, List.getElem?_eq_getElem h] <;> rfl
theorem cal_setFrom (D : Def K mg "settings_from" sSetFrom) (gl : mg "len" = none) (gr : mg "range" = none) (c : Cal P w K mg base "make_note" 2 ["step", "alteration"] (SpD K RMake)) : Cal P w K mg base "settings_from" 3 ["numbers"] (SpDL K RSetFrom) := by
  refine ok_DL D scSf (fun ds d h => ?_) (fun _ _ _ _ _ _ us hl => match us, hl with | [_], _ => rfl) (fun f cdv A outer s H vs Q E ds es hr hv h k => ?_)
  · obtain ⟨_, _, rfl, _⟩ := h
    rfl
  · obtain ⟨ns, nts, rfl, hl, hnt, h3, rfl⟩ := h
    obtain ⟨v, rfl, hn⟩ := DpAll1 hv
    refine ⟨_, pss_cons (ps_set (i := 1) scSf.nd rfl (Or.inr rfl) (pe_lc (own := [("k", 2)]) (g := gName 2) (te := tCall (SpD K RMake) [] E0 (tCons (tOp (rIxL K) (tVar 0) (tVar 2)) (tCons (tOp (rIxL K) (tVar 0) (tOp (rI0 fun i j => .int (i + j)) (tVar 2) (tC (.int 1)))) tNil))) rfl scSf.nd (pi_range3 (by rfl) gr (pa_cons pe_int (pa_cons (pe_callB call_len_seq (by rfl) gl PySem.boot_len (pa_cons (pv 0) pa_nil)) (pa_cons pe_int pa_nil)))) (blkOk_by (own := [("k", 2)]) (N := nmSf) (sc := defScope sSetFrom) (by decide +kernel)) (fun _ _ _ _ _ => pg_name (i := 2) scSf.nd rfl (Or.inl rfl))
        (fun _ _ _ _ _ => pts_nil) (fun _ _ _ _ _ => pe_cal c hr (pa_cons (pe_ix ix_list (pv 0) (pv 2) (fun _ _ => rfl)) (pa_cons (pe_ix ix_list (pv 0) (pe_op op_add (pv 2) pe_int) (fun _ _ => rfl)) pa_nil)))))
      (pss_one (ps_ret (pe_lc (own := [("k", 2)]) (g := gName 2) (te := tTup (tCons (tOp (rIxL K) (tVar 1) (tVar 2)) (tCons (tOp (rIxL K) (tVar 1) (tOp (rI0 fun i j => .int (i + j)) (tVar 2) (tC (.int 1)))) (tCons (tOp (rIxL K) (tVar 1) (tOp (rI0 fun i j => .int (i + j)) (tVar 2) (tC (.int 2)))) tNil)))) rfl scSf.nd (pi_range3 (by rfl) gr (pa_cons pe_int (pa_cons (pe_callB call_len_seq (by rfl) gl PySem.boot_len (pa_cons (pv 1) pa_nil)) (pa_cons pe_int pa_nil)))) (blkOk_by (own := [("k", 2)]) (N := nmSf) (sc := defScope sSetFrom) (by decide +kernel)) (fun _ _ _ _ _ => pg_name (i := 2) scSf.nd rfl (Or.inl rfl))
        (fun _ _ _ _ _ => pts_nil) (fun _ _ _ _ _ => pe_tup (pa_cons (pe_ix ix_list (pv 1) (pv 2) (fun _ _ => rfl)) (pa_cons (pe_ix ix_list (pv 1) (pe_op op_add (pv 2) pe_int) (fun _ _ => rfl)) (pa_cons (pe_ix ix_list (pv 1) (pe_op op_add (pv 2) pe_int) (fun _ _ => rfl)) pa_nil))))))), ?_⟩
    have hlen : ((ns.map PyData.int).length : Int) = (ns.length : Int) := by rw [List.length_map]
    rw [notes_eq] at hnt
    by_cases hc : ns.length % 2 = 0 ∧ (twosN ns).all Cp05.isNote = true
    · rw [if_pos hc] at hnt
      obtain rfl := Option.some.inj hnt
      have e2m : (ns.length : Int) = 2 * ((ns.length / 2 : Nat) : Int) := by omega
      have t2 := twosN_len ns
      refine q_asgDL (K := K) (ds := (twosN ns).map encNote) (dvl_is (dvl_mapC (K := K) (lo := 0) (hi := 2 * ((ns.length / 2 : Nat) : Int)) (c := 2) (n := ns.length / 2) (fun i => encNote ⟨ns.getD (2 * i) 0, ns.getD (2 * i + 1) 0⟩) (da_cons dv_int (da_cons (dv_is (dv_len (dv_var rfl hn)) (by rw [hlen, ← e2m])) (da_cons dv_int da_nil))) (rgc_pos (by omega) (.inl rfl)) (by omega) (fun _ => rfl) (fun i => nl_note _) (fun i hi H2 e2 => ?_)) ?_) fun p xs H1 hp e1 h1 hx => ?_
      · have hm : (⟨ns.getD (2 * i) 0, ns.getD (2 * i + 1) 0⟩ : Cp05.Note) ∈ twosN ns := List.mem_of_getElem? (twosN_at ns i (by omega))
        have hnote := List.all_eq_true.mp hc.2 _ hm
        unfold Cp05.isNote Cp05.STEPS at hnote
        simp only [Bool.and_eq_true, decide_eq_true_eq] at hnote
        exact dv_call (da_cons (dv_ixL (j := 2 * i) (dv_var rfl (Dp.mono e2 _ hn)) (dv_vi rfl) (by omega) (int_at (getD_at (by omega)))) (da_cons (dv_ixL (j := 2 * i + 1) (dv_var rfl (Dp.mono e2 _ hn)) (dv_I (dv_vi rfl) dv_int) (by omega) (int_at (getD_at (by omega)))) da_nil)) ⟨_, _, rfl, by omega, by omega, rfl⟩
      · apply List.ext_getElem?
        intro i
        rw [List.getElem?_map, List.getElem?_map]
        by_cases hi : i < ns.length / 2
        · rw [List.getElem?_range hi, twosN_at ns i (by omega)]
          rfl
        · rw [List.getElem?_eq_none (by rw [List.length_range]; omega), List.getElem?_eq_none (by omega)]
          rfl
      · generalize hts : twosN ns = ts at *
        have e3m : (ts.length : Int) = 3 * ((ts.length / 3 : Nat) : Int) := by omega
        have hD : ∀ G, Ex H1 G → Dp K G (.ref p) (.list (ts.map encNote)) := fun G e => .lst (sq_of (e _ _ h1)) (DpAll.mono e _ hx)
        refine s_retDL (dvl_is (dvl_mapC (K := K) (lo := 0) (hi := 3 * ((ts.length / 3 : Nat) : Int)) (c := 3) (n := ts.length / 3) (fun i => encSet [ts.getD (3 * i) ⟨0, 0⟩, ts.getD (3 * i + 1) ⟨0, 0⟩, ts.getD (3 * i + 2) ⟨0, 0⟩]) (da_cons dv_int (da_cons (dv_is (dv_len (dv_var rfl (hD _ (Ex.refl _)))) (by rw [List.length_map, ← e3m])) (da_cons dv_int da_nil))) (rgc_pos (by omega) (.inr rfl)) (by omega) (fun _ => rfl) (fun i => nl_set _) (fun i hi H2 e2 => ?_)) ?_) fun q zs H3 hq e3 h3 hz => k q zs H3 (fresh_back e1 hq) (e1.trans e3) h3 hz
        · exact dv_tup (da_cons (dv_ixL (j := 3 * i) (dv_var rfl (hD _ e2)) (dv_vi rfl) (by omega) (note_at (by omega))) (da_cons (dv_ixL (j := 3 * i + 1) (dv_var rfl (hD _ e2)) (dv_I (dv_vi rfl) dv_int) (by omega) (note_at (by omega))) (da_cons (dv_ixL (j := 3 * i + 2) (dv_var rfl (hD _ e2)) (dv_I (dv_vi rfl) dv_int) (by omega) (note_at (by omega))) da_nil))) (by show 3 ≤ 100000; decide)
        · apply List.ext_getElem?
          intro i
          rw [List.getElem?_map, List.getElem?_map]
          have t3 := threes_len ts
          by_cases hi : i < ts.length / 3
          · rw [List.getElem?_range hi, threes_at ts i (by omega)]
            rfl
          · rw [List.getElem?_eq_none (by rw [List.length_range]; omega), List.getElem?_eq_none (by omega)]
            rfl
    · rw [if_neg hc] at hnt
      cases hnt
end
end Bf

/-! # Further tools: mixed arguments, lists of objects, what lists and tuples keep -/
namespace Bf
open PySem PySem.Spec PyProof.Rows L2 Evl
/-- an argument: a value that is known, or one that is read as data -/
inductive AS where
  | v (x : V)
  | d (x : PyData)
def AsOk1 (K : PySem.W.Frag) (H : Hp) : AS → V → Prop
  | .v x, u => u = x
  | .d x, u => Dp K H u x
inductive AsOk (K : PySem.W.Frag) (H : Hp) : List AS → List V → Prop
  | nil : AsOk K H [] []
  | cons {a : AS} {as : List AS} {u : V} {us : List V} : AsOk1 K H a u → AsOk K H as us → AsOk K H (a :: as) (u :: us)
def MxA (K : PySem.W.Frag) (ta : TA) (σ : L2.St) (H : Hp) (as : List AS) : Prop := ∀ H1, Ex H H1 → ∀ Q : List V → Hp → Prop, (∀ vs H2, Ex H1 H2 → AsOk K H2 as vs → Q vs H2) → ta σ H1 Q
section
variable {K : PySem.W.Frag} {H H' : Hp} {σ : L2.St} {te ta tb : TE} {tr : TA} {as : List AS} {d : PyData} {ds es : List PyData} {x : V} {sp : Sp} {D : Ends} {tz : TS}
theorem AsOk1.mono (e : Ex H H') {a : AS} {u : V} (h : AsOk1 K H a u) : AsOk1 K H' a u := by
  cases a with
  | v x => exact h
  | d x => exact Dp.mono e _ h
theorem AsOk.mono (e : Ex H H') : ∀ {as : List AS} {us : List V}, AsOk K H as us → AsOk K H' as us
  | _, _, .nil => .nil
  | _, _, .cons h t => .cons (h.mono e) (AsOk.mono e t)
theorem mx_nil : MxA K tNil σ H [] := fun H1 _ _ q => q [] H1 (Ex.refl H1) .nil
theorem mx_v (h : Ev te σ H x) (hr : MxA K tr σ H as) : MxA K (tCons te tr) σ H (.v x :: as) := fun H1 e _ q =>
  h H1 e _ fun H2 e2 => hr H2 (e.trans e2) _ fun vs H3 e3 hs => q _ H3 (e2.trans e3) (.cons rfl hs)
theorem mx_d (h : Dv K te σ H d) (hr : MxA K tr σ H as) : MxA K (tCons te tr) σ H (.d d :: as) := fun H1 e _ q =>
  h H1 e _ fun v H2 e2 hd => hr H2 (e.trans e2) _ fun vs H3 e3 hs => q _ H3 (e2.trans e3) (.cons (Dp.mono e3 _ hd) hs)
theorem asv1 {a : AS} {us : List V} (h : AsOk K H [a] us) : ∃ u, us = [u] ∧ AsOk1 K H a u := by
  cases h with | cons h1 h2 => cases h2; exact ⟨_, rfl, h1⟩
theorem asv2 {a b : AS} {us : List V} (h : AsOk K H [a, b] us) : ∃ u v, us = [u, v] ∧ AsOk1 K H a u ∧ AsOk1 K H b v := by
  cases h with | cons h1 h2 => obtain ⟨v, rfl, h3⟩ := asv1 h2; exact ⟨_, v, rfl, h1, h3⟩
theorem asv3 {a b c : AS} {us : List V} (h : AsOk K H [a, b, c] us) : ∃ u v w, us = [u, v, w] ∧ AsOk1 K H a u ∧ AsOk1 K H b v ∧ AsOk1 K H c w := by
  cases h with | cons h1 h2 => obtain ⟨v, w, rfl, h3, h4⟩ := asv2 h2; exact ⟨_, v, w, rfl, h1, h3, h4⟩
theorem asv4 {a b c d : AS} {us : List V} (h : AsOk K H [a, b, c, d] us) : ∃ u v w x, us = [u, v, w, x] ∧ AsOk1 K H a u ∧ AsOk1 K H b v ∧ AsOk1 K H c w ∧ AsOk1 K H d x := by
  cases h with | cons h1 h2 => obtain ⟨v, w, x, rfl, h3, h4, h5⟩ := asv3 h2; exact ⟨_, v, w, x, rfl, h1, h3, h4, h5⟩
/-- calls with such arguments: a new list | data | a value | a new tuple -/
theorem dvl_callX (h : MxA K tr σ H as) (hs : ∀ vs H1, Ex H H1 → AsOk K H1 as vs → ∀ Q : VK, (∀ p xs H2, H1 p = none → Ex H1 H2 → H2 p = some (.lst xs) → DpAll K H2 xs es → Q (.ref p) H2) → sp vs H1 Q E0) : DvL K (tCall sp [] E0 tr) σ H es := fun H1 e Q q => h H1 e _ fun vs H2 e2 ha => by
  show sp (vs ++ []) H2 Q E0
  rw [List.append_nil]
  exact hs vs H2 (e.trans e2) ha Q fun p xs H3 hp e3 h3 hx => q p xs H3 (fresh_back e2 hp) (e2.trans e3) h3 hx
theorem dv_callX (h : MxA K tr σ H as) (hs : ∀ vs H1, Ex H H1 → AsOk K H1 as vs → ∀ Q : VK, (∀ v H2, Ex H1 H2 → Dp K H2 v d → Q v H2) → sp vs H1 Q E0) : Dv K (tCall sp [] E0 tr) σ H d := fun H1 e Q q => h H1 e _ fun vs H2 e2 ha => by
  show sp (vs ++ []) H2 Q E0
  rw [List.append_nil]
  exact hs vs H2 (e.trans e2) ha Q fun v H3 e3 hx => q v H3 (e2.trans e3) hx
theorem eu_callX {xs : List V} (h : MxA K tr σ H as) (hs : ∀ vs H1, Ex H H1 → AsOk K H1 as vs → ∀ Q : VK, (∀ p H2, H1 p = none → Ex H1 H2 → H2 p = some (.tup xs) → Q (.ref p) H2) → sp vs H1 Q E0) : EvU (tCall sp [] E0 tr) σ H xs := fun H1 e Q q => h H1 e _ fun vs H2 e2 ha => by
  show sp (vs ++ []) H2 Q E0
  rw [List.append_nil]
  exact hs vs H2 (e.trans e2) ha Q fun p H3 hp e3 hx => q p H3 (fresh_back e2 hp) (e2.trans e3) hx
/-- a new tuple of ints read as data -/
theorem eu_dv {ns : List Int} (h : EvU te σ H (ns.map V.int)) : Dv K te σ H (tupI ns) := fun H1 e _ q => h H1 e _ fun p H2 _ e2 hp => q _ H2 e2 (.tup (st_of hp) (DpAll.ofInts _ _ _))
/-- o.m(..) of the object at a -/
theorem dv_methX {C a dx : Addr} {m : Str} {fs : List (Str × V)} (ha : Ev ta σ H (.ref a)) (ho : H a = some (.ins C dx fs)) (hl : fs.lookup m = none) (h : MxA K tr σ H as) (hs : ∀ vs H1, Ex H H1 → AsOk K H1 as vs → ∀ Q : VK, (∀ v H2, Ex H1 H2 → Dp K H2 v d → Q v H2) → sp (.ref a :: vs) H1 Q E0) : Dv K (tMeth C m sp [] E0 ta tr) σ H d := fun H1 e Q q => ha H1 e _ fun H2 e2 => ⟨a, dx, fs, rfl, (e.trans e2) _ _ ho, hl, h H2 (e.trans e2) _ fun vs H3 e3 hv => by
  show sp (.ref a :: (vs ++ [])) H3 Q E0
  rw [List.append_nil]
  exact hs vs H3 ((e.trans e2).trans e3) hv Q fun v H4 e4 hx => q v H4 ((e2.trans e3).trans e4) hx⟩
/-! ### data alike -/
theorem dv_eqD {d d' : PyData} (ha : Dv K ta σ H d) (hb : Dv K tb σ H d') (h1 : SeqAt.shaped d = true) (h2 : SeqAt.shaped d' = true) : Dv K (tOp (rEqD K) ta tb) σ H (.bool (PyData.eqv d d')) := fun H1 e _ q =>
  ha H1 e _ fun x H2 e2 hx => hb H2 (e.trans e2) _ fun y H3 e3 hy => ⟨d, d', Dp.mono e3 d hx, hy, h1, h2, q _ H3 (e2.trans e3) (.bl _)⟩
theorem dv_neD {d d' : PyData} (ha : Dv K ta σ H d) (hb : Dv K tb σ H d') (h1 : SeqAt.shaped d = true) (h2 : SeqAt.shaped d' = true) : Dv K (tOp (rNeD K) ta tb) σ H (.bool (!PyData.eqv d d')) := fun H1 e _ q =>
  ha H1 e _ fun x H2 e2 hx => hb H2 (e.trans e2) _ fun y H3 e3 hy => ⟨d, d', Dp.mono e3 d hx, hy, h1, h2, q _ H3 (e2.trans e3) (.bl _)⟩
/-- if xs: of a list -/
def tTruth (K : PySem.W.Frag) (te : TE) : TT := fun σ H Q => te σ H fun x H' => ∃ k, TruV K x H' k ∧ Q k H'
theorem et_truthL {a : Addr} {xs : List V} (h : Ev te σ H (.ref a)) (hs : SqL K H a xs) : EvT (tTruth K te) σ H (!xs.isEmpty) := fun H1 e _ q => h H1 e _ fun H2 e2 => ⟨_, .inl ⟨xs, ex_l (e.trans e2) hs, rfl⟩, q H2 e2⟩
/-! ### comprehensions over range(lo, hi) -/
theorem dvl_mapN2 {ta : TA} {j : Nat} {vs : List Nat} {lo n : Int} (g : Nat → PyData) (h : DvA K ta σ H [.int lo, .int n]) (hz : 0 ≤ lo ∧ lo ≤ 40000 ∧ -40000 ≤ n ∧ n ≤ 40000) (hw : ∀ x, wipe ((wipe σ vs).set j (some x)) vs = wipe σ vs)
    (hg : ∀ i, noList (g i) = true) (he : ∀ (i : Nat), lo + (i : Int) < n → ∀ H1, Ex H H1 → Dv K te ((wipe σ vs).set j (some (.int (lo + (i : Int))))) H1 (g i)) :
    DvL K (tLc (iRng2 ta) (gName j) tYes te vs) σ H ((List.range (n - lo).toNat).map g) := fun H0 e Q q => ea_ints (ns := [lo, n]) h H0 e _ fun H1 e1 => ⟨lo, n, rfl, ⟨by omega, by omega, by omega, by omega⟩, fun Dl hD =>
  lc_range (lo := lo) (n := (n - lo).toNat) (Cd K H1 (List.range (n - lo).toNat) (fun _ => true) g Dl) ⟨hD, Ex.new hD, [], upd_same, .nil⟩ (fun i H' hi c => by
    have hx : (List.range (n - lo).toNat)[i]? = some i := by rw [List.getElem?_range hi]
    exact ⟨hw _, cd_turn c (by rw [List.length_range]; omega) hx (fun x _ => hg x) et_yes fun hp => he i (by omega) H' ((e.trans e1).trans c.2.1)⟩) (fun H' c => by
    obtain ⟨c1, c2, acc, c3, c4⟩ := c
    rw [List.take_of_length_le (by rw [List.length_range]; exact Nat.le_refl _), filter_true] at c4
    exact q Dl acc H' (fresh_back e1 c1) (e1.trans c2) c3 c4)⟩
end
/-! ### lists and tuples stand -/
def LSame (H H' : Hp) : Prop := (∀ b xs, Rd H b (.tup xs) → Rd H' b (.tup xs)) ∧ ∀ b xs, Rd H b (.lst xs) → Rd H' b (.lst xs)
section
variable {K : PySem.W.Frag} {H H' : Hp}
theorem LSame.of (e : Ex H H') : LSame H H' := ⟨fun _ _ h => ex_rd e h, fun _ _ h => ex_rd e h⟩
theorem LSame.refl (H : Hp) : LSame H H := ⟨fun _ _ h => h, fun _ _ h => h⟩
theorem LSame.trans {H1 H2 H3 : Hp} (a : LSame H1 H2) (b : LSame H2 H3) : LSame H1 H3 := ⟨fun c xs h => b.1 c xs (a.1 c xs h), fun c xs h => b.2 c xs (a.2 c xs h)⟩
/-- no list and no tuple at p -/
def NoSeq (H : Hp) (p : Addr) : Prop := (∀ xs, ¬ Rd H p (.tup xs)) ∧ ∀ xs, ¬ Rd H p (.lst xs)
theorem noSeq_dT {p : Addr} {kvs : List (List Key × V)} (h : H p = some (.dT kvs)) : NoSeq H p := ⟨fun xs r => (by rcases r with r | ⟨o, r⟩ <;> rw [h] at r <;> cases r), fun xs r => (by rcases r with r | ⟨o, r⟩ <;> rw [h] at r <;> cases r)⟩
theorem noSeq_dK {p : Addr} {kvs : List (Key × V)} (h : H p = some (.dK kvs)) : NoSeq H p := ⟨fun xs r => (by rcases r with r | ⟨o, r⟩ <;> rw [h] at r <;> cases r), fun xs r => (by rcases r with r | ⟨o, r⟩ <;> rw [h] at r <;> cases r)⟩
theorem noSeq_ins {p C dx : Addr} {fs : List (Str × V)} (h : H p = some (.ins C dx fs)) : NoSeq H p := ⟨fun xs r => (by rcases r with r | ⟨o, r⟩ <;> rw [h] at r <;> cases r), fun xs r => (by rcases r with r | ⟨o, r⟩ <;> rw [h] at r <;> cases r)⟩
theorem noSeq_none {p : Addr} (h : H p = none) : NoSeq H p := ⟨fun xs r => (by rcases r with r | ⟨o, r⟩ <;> rw [h] at r <;> cases r), fun xs r => (by rcases r with r | ⟨o, r⟩ <;> rw [h] at r <;> cases r)⟩
theorem LSame.upd {p : Addr} {o : HO} (h : NoSeq H p) : LSame H (upd H p o) := by
  constructor
  · intro b xs hb
    have hne : b ≠ p := fun e => h.1 xs (e ▸ hb)
    unfold Rd at hb ⊢
    rw [upd_ne hne]
    exact hb
  · intro b xs hb
    have hne : b ≠ p := fun e => h.2 xs (e ▸ hb)
    unfold Rd at hb ⊢
    rw [upd_ne hne]
    exact hb
theorem LSame.cut {p : Addr} (h : NoSeq H p) : LSame H (cutH H p) := by
  constructor
  · intro b xs hb
    have hne : b ≠ p := fun e => h.1 xs (e ▸ hb)
    unfold Rd at hb ⊢
    rw [cutH_ne hne]
    exact hb
  · intro b xs hb
    have hne : b ≠ p := fun e => h.2 xs (e ▸ hb)
    unfold Rd at hb ⊢
    rw [cutH_ne hne]
    exact hb
end
end Bf
namespace L2
open PySem PySem.Spec PyProof.Rows Evl Bf
section
variable {K : PySem.W.Frag} {H H' : Hp}
mutual
theorem Dp.monoL (e : LSame H H') : ∀ (d : PyData) {v : V}, Dp K H v d → Dp K H' v d
  | .none, _, h => by cases h; exact .non
  | .bool b, _, h => by cases h; exact .bl b
  | .int i, _, h => by cases h; exact .int i
  | .str x, _, h => by cases h; exact .str x
  | .list ds, _, h => by
    cases h with | lst hs ha =>
      refine .lst ?_ (DpAll.monoL e ds ha)
      rcases hs with hs | hs
      · exact .inl (e.2 _ _ hs)
      · exact .inr hs
  | .tuple ds, _, h => by
    cases h with | tup hs ha =>
      refine .tup ?_ (DpAll.monoL e ds ha)
      rcases hs with hs | hs
      · exact .inl (e.1 _ _ hs)
      · exact .inr hs
  | .dict _, _, h => by cases h
theorem DpAll.monoL (e : LSame H H') : ∀ (ds : List PyData) {vs : List V}, DpAll K H vs ds → DpAll K H' vs ds
  | [], _, h => by cases h; exact .nil
  | d :: ds, _, h => by cases h with | cons h1 h2 => exact .cons (Dp.monoL e d h1) (DpAll.monoL e ds h2)
end
end
end L2
namespace Bf
open PySem PySem.Spec PyProof.Rows L2 Evl
/-! ### a list of chords -/
abbrev ChAll (K : PySem.W.Frag) (C : Addr) (G : Hp) : List V → List Cp05.Chord → Prop := Paired fun v c => ∃ a, v = .ref a ∧ ChAt K C G a c
theorem ChAll.mono {K : PySem.W.Frag} {C : Addr} {G G' : Hp} (e : Ex G G') {cs : List V} {l : List Cp05.Chord} (h : ChAll K C G cs l) : ChAll K C G' cs l := Paired.mono (fun v c ⟨a, h1, h2⟩ => ⟨a, h1, h2.mono e⟩) h
theorem ChAll.get {K : PySem.W.Frag} {C : Addr} {G : Hp} : ∀ {cs : List V} {l : List Cp05.Chord} {i : Nat} {c : Cp05.Chord}, ChAll K C G cs l → l[i]? = some c → ∃ a, cs[i]? = some (.ref a) ∧ ChAt K C G a c
  | _, _, _, _, .nil, e => by simp at e
  | _, _, 0, _, .cons ⟨a, h1, h2⟩ _, e => by simp at e; subst e; exact ⟨a, by simp [h1], h2⟩
  | _, _, i + 1, c, .cons _ t, e => by
    obtain ⟨a, h1, h2⟩ := ChAll.get (i := i) (c := c) t (by simpa using e)
    exact ⟨a, by simpa using h1, h2⟩
theorem ChAll.dropLast {K : PySem.W.Frag} {C : Addr} {G : Hp} : ∀ {cs : List V} {l : List Cp05.Chord}, ChAll K C G cs l → ChAll K C G cs.dropLast l.dropLast
  | _, _, .nil => .nil
  | _, _, .cons h .nil => .nil
  | _, _, .cons h (.cons h' t) => .cons h (ChAll.dropLast (.cons h' t))
end Bf

namespace Bf
open PySem PySem.Spec PyProof.Rows L2 Evl
abbrev sWrongsAt : Stmt := top 56
abbrev sWayCost : Stmt := top 57
abbrev sJudgement : Stmt := top 58
def chD (l : List Cp05.Chord) (i : Nat) : Cp05.Chord := l.getD i ⟨⟨0, 0⟩, [], []⟩
def stD (ss : List Cp05.Setting) (i : Nat) : Cp05.Setting := ss.getD i []
def sndAt (l : List Cp05.Chord) (ss : List Cp05.Setting) (i : Nat) : List Int := sndC (chD l i) (stD ss i)
theorem chD_at {l : List Cp05.Chord} {i : Nat} (h : i < l.length) : l[i]? = some (chD l i) := by
  unfold chD
  rw [List.getD_eq_getElem?_getD, List.getElem?_eq_getElem h] <;> rfl
theorem stD_at {l : List Cp05.Setting} {i : Nat} (h : i < l.length) : l[i]? = some (stD l i) := by
  unfold stD
  rw [List.getD_eq_getElem?_getD, List.getElem?_eq_getElem h] <;> rfl
def Is3 (s : Cp05.Setting) : Prop := ∃ x y z, s = [x, y, z] ∧ Cp05.isNote x = true ∧ Cp05.isNote y = true ∧ Cp05.isNote z = true
def wrongsAt (q : Cp05.Rules) (l : List Cp05.Chord) (ss : List Cp05.Setting) (i : Nat) : List (Nat × Nat × Nat) :=
  (if (Cp05.settings q (chD l i)).contains (stD ss i) = true then [] else [(4, 9, 9)]) ++ (if i = 0 then [] else wrongsS q.leap (sndAt l ss (i - 1)) (sndAt l ss i))
def rowW (i : Nat) (w : Nat × Nat × Nat) : List Int := [(i : Int), (w.1 : Int), (w.2.1 : Int), (w.2.2 : Int)]
def prevAt (l : List Cp05.Chord) (ss : List Cp05.Setting) (i : Nat) : Option (Cp05.Chord × Cp05.Setting) := if i = 0 then none else some (chD l (i - 1), stD ss (i - 1))
theorem drop_at' {α : Type} {l : List α} {i : Nat} {x : α} (h : l[i]? = some x) : l.drop i = x :: l.drop (i + 1) := by
  have hi := (List.getElem?_eq_some_iff.mp h).1
  rw [List.drop_eq_getElem_cons hi]
  congr 1
  rw [List.getElem?_eq_getElem hi] at h
  exact Option.some.inj h
theorem judged_at (q : Cp05.Rules) (l : List Cp05.Chord) (ss : List Cp05.Setting) (hl : ss.length = l.length) (h3 : ∀ s ∈ ss, Is3 s) : ∀ (k i : Nat), l.length - i = k → i ≤ l.length →
    Cp05.judged q i (prevAt l ss i) (l.drop i) (ss.drop i) = ((List.range k).map (· + i)).flatMap fun j => (wrongsAt q l ss j).map (rowW j)
  | 0, i, hk, hi => by
    rw [List.drop_eq_nil_of_le (by omega), List.drop_eq_nil_of_le (as := ss) (by omega)]
    rfl
  | k + 1, i, hk, hi => by
    have hil : i < l.length := by omega
    have hc := chD_at hil
    have hs := stD_at (l := ss) (i := i) (by omega)
    have ih := judged_at q l ss hl h3 k (i + 1) (by omega) (by omega)
    rw [drop_at' hc, drop_at' hs, judged_nil]
    have hp : prevAt l ss (i + 1) = some (chD l i, stD ss i) := rfl
    rw [← hp, ih, List.range_succ_eq_map, List.map_cons, List.flatMap_cons, Nat.zero_add, List.map_map]
    have e : (List.range k).map ((· + i) ∘ Nat.succ) = (List.range k).map (· + (i + 1)) := by
      apply List.map_congr_left
      intro j _
      show j + 1 + i = j + (i + 1)
      omega
    rw [e]
    congr 1
    unfold wrongsAt
    rw [List.map_append]
    congr 1
    · split <;> rfl
    · unfold prevAt
      by_cases h0 : i = 0
      · rw [if_pos h0, if_pos h0]
        rfl
      · rw [if_neg h0, if_neg h0]
        show (Cp05.wrongs q (chD l (i - 1)) (chD l i) (stD ss (i - 1)) (stD ss i)).map _ = _
        obtain ⟨a, b, t, e1, _⟩ := h3 _ (List.mem_of_getElem? hs)
        obtain ⟨x, y, z, e2, _⟩ := h3 _ (List.mem_of_getElem? (stD_at (l := ss) (i := i - 1) (by omega)))
        unfold sndAt
        rw [e1, e2, wrongs_snd]
        rfl
theorem judged_eq (q : Cp05.Rules) (l : List Cp05.Chord) (ss : List Cp05.Setting) (hl : ss.length = l.length) (h3 : ∀ s ∈ ss, Is3 s) : Cp05.judged q 0 none l ss = (List.range l.length).flatMap fun j => (wrongsAt q l ss j).map (rowW j) := by
  have h := judged_at q l ss hl h3 l.length 0 (by omega) (by omega)
  rw [List.drop_zero, List.drop_zero] at h
  have e : (List.range l.length).map (· + 0) = List.range l.length := by simp
  rw [e] at h
  exact h
theorem wrongsAt_len (q : Cp05.Rules) (l : List Cp05.Chord) (ss : List Cp05.Setting) (i : Nat) : (wrongsAt q l ss i).length ≤ 16 := by
  unfold wrongsAt
  rw [List.length_append]
  have h := wrongsS_len q (sndAt l ss (i - 1)) (sndAt l ss i)
  split <;> split <;> simp only [List.length_nil, List.length_cons] <;> omega
/-! ### sums -/
def ownSum (q : Cp05.Rules) : List Cp05.Chord → List Cp05.Setting → Nat
  | c :: l, s :: m => Cp05.own q c s + ownSum q l m
  | _, _ => 0
def movSum : List Cp05.Chord → List Cp05.Setting → Nat
  | c :: e :: l, s :: t :: m => movS 1 (sndC c s) (sndC e t) + movSum (e :: l) (t :: m)
  | _, _ => 0
theorem ownSum_eq (q : Cp05.Rules) : ∀ (l : List Cp05.Chord) (ss : List Cp05.Setting), ss.length = l.length → ((List.range l.length).map fun i => Cp05.own q (chD l i) (stD ss i)).sum = ownSum q l ss
  | [], [], _ => rfl
  | c :: l, s :: m, h => by
    rw [List.length_cons, List.range_succ_eq_map, List.map_cons, List.sum_cons, List.map_map]
    show Cp05.own q c s + _ = Cp05.own q c s + _
    congr 1
    exact ownSum_eq q l m (by simpa using h)
theorem movSum_eq : ∀ (l : List Cp05.Chord) (ss : List Cp05.Setting), ss.length = l.length → ((List.range (l.length - 1)).map fun i => movS 1 (sndAt l ss i) (sndAt l ss (i + 1))).sum = movSum l ss
  | [], [], _ => rfl
  | [c], [s], _ => rfl
  | c :: e :: l, s :: t :: m, h => by
    have ih := movSum_eq (e :: l) (t :: m) (by simpa using h)
    show ((List.range (l.length + 1)).map _).sum = _
    rw [List.range_succ_eq_map, List.map_cons, List.sum_cons, List.map_map]
    show movS 1 (sndC c s) (sndC e t) + _ = movS 1 (sndC c s) (sndC e t) + movSum (e :: l) (t :: m)
    congr 1
theorem movS_mul (k : Nat) (x y : List Int) : movS k x y = k * movS 1 x y := by
  unfold movS
  rw [Nat.one_mul]
theorem total_eq (q : Cp05.Rules) : ∀ (l : List Cp05.Chord) (c : Cp05.Chord) (ss : List Cp05.Setting) (s : Cp05.Setting), ss.length = l.length → (∀ x ∈ s :: ss, Is3 x) → total q (c :: l) (s :: ss) = ownSum q (c :: l) (s :: ss) + q.move * movSum (c :: l) (s :: ss)
  | [], c, [], s, _, _ => by
    show Cp05.own q c s = Cp05.own q c s + 0 + q.move * 0
    omega
  | e :: l, c, t :: m, s, h, h3 => by
    have ih := total_eq q l e m t (by simpa using h) fun x hx => h3 x (List.mem_cons_of_mem _ hx)
    show Cp05.own q c s + Cp05.moved q s t + total q (e :: l) (t :: m) = (Cp05.own q c s + ownSum q (e :: l) (t :: m)) + q.move * (movS 1 (sndC c s) (sndC e t) + movSum (e :: l) (t :: m))
    obtain ⟨a, b, d, e1, _⟩ := h3 s (by simp)
    obtain ⟨x, y, z, e2, _⟩ := h3 t (by simp)
    rw [ih, e1, e2, moved_snd q c e, movS_mul q.move, Nat.mul_add]
    omega
/-! ### what is handed to them -/
structure JgAt (K : PySem.W.Frag) (CR C : Addr) (H : Hp) (ar lc : Addr) (v : V) (q : Cp05.Rules) (l : List Cp05.Chord) (ss : List Cp05.Setting) : Prop where
  ru : RuAt K CR H ar q
  ok : RuOk q
  cs : ∃ xs, H lc = some (.lst xs) ∧ ChAll K C H xs l
  chs : ∀ c ∈ l, ChOk c
  few : l.length ≤ 8
  st : Dp K H v (.list (ss.map encSet))
  len : ss.length = l.length
  i3 : ∀ s ∈ ss, Is3 s
theorem JgAt.mono {K : PySem.W.Frag} {CR C : Addr} {H H' : Hp} {ar lc : Addr} {v : V} {q : Cp05.Rules} {l : List Cp05.Chord} {ss : List Cp05.Setting} (e : Ex H H') (h : JgAt K CR C H ar lc v q l ss) : JgAt K CR C H' ar lc v q l ss := by
  obtain ⟨xs, h1, h2⟩ := h.cs
  exact ⟨h.ru.mono e, h.ok, ⟨xs, e _ _ h1, h2.mono e⟩, h.chs, h.few, Dp.mono e _ h.st, h.len, h.i3⟩
def SpWA (K : PySem.W.Frag) (CR C : Addr) : Sp := fun vs H Q _ => ∃ (ar lc : Addr) (v : V) (i : Nat) (q : Cp05.Rules) (l : List Cp05.Chord) (ss : List Cp05.Setting), vs = [.ref ar, .ref lc, v, .int (i : Int)] ∧ JgAt K CR C H ar lc v q l ss ∧ i < l.length ∧
  ∀ p xs H', H p = none → Ex H H' → H' p = some (.lst xs) → DpAll K H' xs ((wrongsAt q l ss i).map encW) → Q (.ref p) H'
def SpWC (K : PySem.W.Frag) (CR C : Addr) : Sp := fun vs H Q _ => ∃ (ar lc : Addr) (v : V) (q : Cp05.Rules) (l : List Cp05.Chord) (ss : List Cp05.Setting), vs = [.ref ar, .ref lc, v] ∧ JgAt K CR C H ar lc v q l ss ∧ (∀ i, i < l.length → stD ss i ∈ Cp05.settings q (chD l i)) ∧
  ∀ H', Ex H H' → Q (.int ((ownSum q l ss + q.move * movSum l ss : Nat) : Int)) H'
def costI : Option Nat → Int
  | none => -1
  | some k => (k : Int)
def judgeAns (q : Cp05.Rules) (l : List Cp05.Chord) (ss : List Cp05.Setting) : List Int := ((Cp05.judged q 0 none l ss).length : Int) :: costI (Cp05.cost q l ss) :: (Cp05.judged q 0 none l ss).flatten
def SpJg (K : PySem.W.Frag) (CR C : Addr) : Sp := fun vs H Q _ => ∃ (ar lc : Addr) (v : V) (q : Cp05.Rules) (l : List Cp05.Chord) (ss : List Cp05.Setting), vs = [.ref ar, .ref lc, v] ∧ JgAt K CR C H ar lc v q l ss ∧ l ≠ [] ∧
  ∀ p H', H p = none → Ex H H' → H' p = some (.lst ((judgeAns q l ss).map V.int)) → Q (.ref p) H'
section
variable {P : Program} {w : World} {K : PySem.W.Frag} {mg : Str → Option Value} {base : Heap} {CR C : Addr}
/-- chords[i], settings[i] -/
theorem JgAt.chord {H : Hp} {ar lc : Addr} {v : V} {q : Cp05.Rules} {l : List Cp05.Chord} {ss : List Cp05.Setting} (h : JgAt K CR C H ar lc v q l ss) {σ : L2.St} {tb tc : TE} {i : Nat} (hc : Ev tc σ H (.ref lc)) (hb : Ev tb σ H (.int (i : Int))) (hi : i < l.length) : ∃ ac, Ev (tOp (rIxL K) tc tb) σ H (.ref ac) ∧ ChAt K C H ac (chD l i) ∧ ChOk (chD l i) := by
  obtain ⟨xs, h1, h2⟩ := h.cs
  obtain ⟨ac, h3, h4⟩ := h2.get (chD_at hi)
  exact ⟨ac, ev_ixL hc (sq_of h1) hb rfl h3, h4, h.chs _ (List.mem_of_getElem? (chD_at hi))⟩
theorem JgAt.setting {H : Hp} {ar lc : Addr} {v : V} {q : Cp05.Rules} {l : List Cp05.Chord} {ss : List Cp05.Setting} (h : JgAt K CR C H ar lc v q l ss) {σ : L2.St} {tb tc : TE} {i : Nat} (hc : Ev tc σ H v) (hb : Dv K tb σ H (.int (i : Int))) (hi : i < l.length) : Dv K (tOp (rIxL K) tc tb) σ H (encSet (stD ss i)) :=
  dv_ixL (j := i) (dv_ev hc h.st) hb rfl (by rw [List.getElem?_map, stD_at (by rw [h.len]; exact hi)]; rfl)
theorem JgAt.is3 {H : Hp} {ar lc : Addr} {v : V} {q : Cp05.Rules} {l : List Cp05.Chord} {ss : List Cp05.Setting} (h : JgAt K CR C H ar lc v q l ss) {i : Nat} (hi : i < l.length) : Is3 (stD ss i) := h.i3 _ (List.mem_of_getElem? (stD_at (by rw [h.len]; exact hi)))
/-- four_sounds(chords[i], settings[i]): a new tuple -/
theorem JgAt.four {H : Hp} {ar lc : Addr} {v : V} {q : Cp05.Rules} {l : List Cp05.Chord} {ss : List Cp05.Setting} (h : JgAt K CR C H ar lc v q l ss) {σ : L2.St} {tb tc ts : TE} {i : Nat} (hc : Ev tc σ H (.ref lc)) (hs : Ev ts σ H v) (hb : Dv K tb σ H (.int (i : Int))) (hi : i < l.length) :
    EvU (tCall (SpFour K C) [] E0 (tCons (tOp (rIxL K) tc tb) (tCons (tOp (rIxL K) ts tb) tNil))) σ H ((sndAt l ss i).map V.int) := by
  obtain ⟨ac, e1, h1, _⟩ := h.chord hc (ev_int hb) hi
  obtain ⟨x, y, z, e, _⟩ := h.is3 hi
  refine eu_callX (mx_v e1 (mx_d (h.setting hs hb hi) mx_nil)) fun vs H1 ex ha Q q => ?_
  obtain ⟨u, u', rfl, rfl, hu⟩ := asv2 ha
  unfold sndAt at q
  have hu' : Dp K H1 u' (encSet (stD ss i)) := hu
  rw [e] at hu' q
  exact ⟨ac, u', chD l i, x, y, z, rfl, h1.mono ex, hu', q⟩
theorem sndAt_len {l : List Cp05.Chord} {ss : List Cp05.Setting} {i : Nat} (h : Is3 (stD ss i)) : (sndAt l ss i).length = 4 := by
  obtain ⟨x, y, z, e, _⟩ := h
  unfold sndAt
  rw [e]
  rfl
abbrev nmWa : List Str := ["rules", "chords", "settings", "at", "found", "here"]
theorem scWa : FnScope nmWa ["rules", "chords", "settings", "at"] (defScope sWrongsAt) := ⟨rfl, rfl, rfl, by decide +kernel, rfl, by decide +kernel, by decide +kernel⟩
theorem cal_wrongsAt (D : Def K mg "wrongs_at" sWrongsAt) (g4 : Gi mg "NO_SETTING" 4) (g9 : Gi mg "NOBODY" 9) (c1 : Cal P w K mg base "is_setting" 4 ["rules", "chord", "setting"] (SpIs K CR C)) (c2 : Cal P w K mg base "four_sounds" 1 ["chord", "setting"] (SpFour K C)) (c3 : Cal P w K mg base "wrong_moves" 5 ["rules", "here", "there"] (SpRH K CR gWrong)) :
    Cal P w K mg base "wrongs_at" 6 ["rules", "chords", "settings", "at"] (SpWA K CR C) := by
  refine ok_S D scWa (fun vs H Q E h => ?_) (fun _ _ _ _ _ _ us hl => match us, hl with | [_, _, _, _], _ => rfl) (fun f cdv A outer s H vs Q E hr h => ?_)
  · obtain ⟨_, _, _, _, _, _, _, rfl, _⟩ := h
    rfl
  · obtain ⟨ar, lc, v, i, q, l, ss, rfl, hJ, hi, k⟩ := h
    have hr4 : Room 4 _ := hr.mono (by decide : 4 ≤ 5)
    have hr1 : Room 1 _ := hr.mono (by decide : 1 ≤ 5)
    refine ⟨_, pss_cons (ps_set (i := 4) scWa.nd rfl (Or.inl rfl) (pe_lst pa_nil))
      (pss_cons (ps_if (pt_not (pt_val (pe_cal c1 hr4 (pa_cons (pv 0) (pa_cons (pe_ix ix_list (pv 1) (pv 3) (fun _ _ => rfl)) (pa_cons (pe_ix ix_list (pv 2) (pv 3) (fun _ _ => rfl)) pa_nil)))))) (pss_one (ps_expr (pe_bm PySem.F.plainAttrs_list PySem.F.slot_list_append PySem.F.type_list_append mt_append (pv 4) (pa_cons (pe_tup (pa_cons (pe_gi g4) (pa_cons (pe_gi g9) (pa_cons (pe_gi g9) pa_nil)))) pa_nil)))) pss_nil)
      (pss_cons (ps_if (pt_cmpR op_gt (pv 3) pe_int (nomark _))
        (pss_cons (ps_set (i := 5) scWa.nd rfl (Or.inl rfl) (pe_cal c2 hr1 (pa_cons (pe_ix ix_list (pv 1) (pe_op op_sub (pv 3) pe_int) (fun _ _ => rfl)) (pa_cons (pe_ix ix_list (pv 2) (pe_op op_sub (pv 3) pe_int) (fun _ _ => rfl)) pa_nil))))
        (pss_one (ps_expr (pe_bm PySem.F.plainAttrs_list PySem.F.slot_list_extend PySem.F.type_list_extend mt_extend (pv 4) (pa_cons (pe_cal c3 hr (pa_cons (pv 0) (pa_cons (pv 5) (pa_cons (pe_cal c2 hr1 (pa_cons (pe_ix ix_list (pv 1) (pv 3) (fun _ _ => rfl)) (pa_cons (pe_ix ix_list (pv 2) (pv 3) (fun _ _ => rfl)) pa_nil))) pa_nil)))) pa_nil))))) pss_nil)
      (pss_one (ps_ret (pv 4))))), ?_⟩
    refine q_asgDL (K := K) (dvl_lst da_nil (by decide)) fun p ys H1 hp e1 h1 hy => ?_
    cases hy
    -- what follows the first if
    have rest : ∀ (acc : List V) (H2 : Hp) (o5 : Option V), Ex H H2 → H2 p = some (.lst acc) → DpAll K H2 acc ((if (Cp05.settings q (chD l i)).contains (stD ss i) = true then [] else [(4, 9, 9)]).map encW) →
        tSeq (tIfS (tTest (tOp (rI0 fun i j => .bl (decide (j < i))) (tVar 3) (tC (.int 0))))
          (tSeq (tAsg (tCall (SpFour K C) [] E0 (tCons (tOp (rIxL K) (tVar 1) (tOp (rI0 fun i j => .int (i - j)) (tVar 3) (tC (.int 1)))) (tCons (tOp (rIxL K) (tVar 2) (tOp (rI0 fun i j => .int (i - j)) (tVar 3) (tC (.int 1)))) tNil))) (gName 5))
            (tDrop (tBM K "list" rExtend (tVar 4) (tCons (tCall (SpRH K CR gWrong) [] E0 (tCons (tVar 0) (tCons (tVar 5) (tCons (tCall (SpFour K C) [] E0 (tCons (tOp (rIxL K) (tVar 1) (tVar 3)) (tCons (tOp (rIxL K) (tVar 2) (tVar 3)) tNil))) tNil)))) tNil)))) tNext)
          (tRet (tVar 4)) { nx := fun _ H' => Q .non H', rt := Q } [some (.ref ar), some (.ref lc), some v, some (.int (i : Int)), some (.ref p), o5] H2 := by
      intro acc H2 o5 e2 h2 ha
      refine q_when (b := decide ((0 : Int) < (i : Int))) (dt_test (dv_B (K := K) (dv_vi rfl) dv_int)) (fun hb H3 e3 => ?_) (fun hb H3 e3 => ?_)
      · rw [decide_eq_true_eq] at hb
        have hJ3 := hJ.mono (e2.trans e3)
        have ei : (i : Int) - 1 = ((i - 1 : Nat) : Int) := by omega
        refine q_asgU (hJ3.four (i := i - 1) (ev_var rfl) (ev_var rfl) (dv_is (dv_I (dv_vi rfl) dv_int) (by rw [ei])) (by omega)) fun b H4 hb4 e4 h4 => ?_
        have hJ4 := hJ3.mono e4
        have h4D : Dp K H4 (.ref b) (tupI (sndAt l ss (i - 1))) := .tup (st_of h4) (DpAll.ofInts _ _ _)
        refine s_extI (K := K) (ds := gWrong q (sndAt l ss (i - 1)) (sndAt l ss i)) ((e3.trans e4) _ _ h2) (ev_var rfl) (dvl_callX (mx_v (ev_var rfl) (mx_v (ev_var rfl) (mx_d (eu_dv (hJ4.four (i := i) (ev_var rfl) (ev_var rfl) (dv_vi rfl) hi)) mx_nil))) fun vs H5 e5 hv Q5 q5 => ?_) ?_ fun pb yb H5 hpb e5 h5 hyb => ?_
        · obtain ⟨u, u', u'', rfl, rfl, rfl, hu⟩ := asv3 hv
          exact ⟨ar, .ref b, u'', q, _, _, rfl, (hJ4.ru).mono e5, hJ.ok, Dp.mono e5 _ h4D, hu, sndAt_len (hJ.is3 (by omega)), sndAt_len (hJ.is3 hi), q5⟩
        · rw [ha.length]
          unfold gWrong
          have hw := wrongsS_len q (sndAt l ss (i - 1)) (sndAt l ss i)
          rw [List.length_map, List.length_map]
          split <;> simp only [List.length_nil, List.length_cons] <;> omega
        · have e25 := (e3.trans e4).trans e5
          have hp2 : H p = none := hp
          refine s_ret (ev_var rfl) fun H6 e6 => k p (acc ++ yb) H6 hp ((Ex.mut (e2.trans e25) hp).trans e6) (e6 _ _ upd_same) ?_
          unfold wrongsAt
          rw [if_neg (show ¬ i = 0 by omega), List.map_append]
          refine DpAll.mono e6 _ ?_
          have tS : TSame H5 (upd H5 p (.lst (acc ++ yb))) := TSame.upd (no_tup_lst (e25 _ _ h2))
          exact (DpAll.monoT tS _ (noListAll_map nl_W _) (DpAll.mono e25 _ ha)).append (DpAll.monoT tS _ (noListAll_map nl_W _) hyb)
      · rw [decide_eq_false_iff_not] at hb
        refine s_ret (ev_var rfl) fun H4 e4 => k p acc H4 hp ((e2.trans e3).trans e4) ((e3.trans e4) _ _ h2) ?_
        unfold wrongsAt
        rw [if_pos (show i = 0 by omega), List.append_nil]
        exact DpAll.mono (e3.trans e4) _ ha
    have hJ1 := hJ.mono e1
    obtain ⟨ac, eC, hC, okC⟩ := hJ1.chord (σ := [some (.ref ar), some (.ref lc), some v, some (.int (i : Int)), some (.ref p), none]) (tc := tVar 1) (tb := tVar 3) (ev_var rfl) (ev_var rfl) hi
    obtain ⟨x, y, z, e3s, nx, ny, nz⟩ := hJ.is3 hi
    refine q_when (b := !(Cp05.settings q (chD l i)).contains (stD ss i)) (et_not (dt_B (dv_callX (K := K) (d := .bool ((Cp05.settings q (chD l i)).contains (stD ss i))) (mx_v (ev_var rfl) (mx_v eC (mx_d (hJ1.setting (i := i) (ev_var rfl) (dv_vi rfl) hi) mx_nil))) fun vs H2 e2 hv Q2 q2 => ?_))) (fun hb H2 e2 => ?_) (fun hb H2 e2 => ?_)
    · obtain ⟨u, u', u'', rfl, rfl, rfl, hu⟩ := asv3 hv
      have hu' : Dp K H2 u'' (encSet (stD ss i)) := hu
      rw [e3s] at hu' q2
      exact ⟨ar, ac, u'', q, chD l i, x, y, z, rfl, hJ1.ru.mono e2, hJ.ok, hC.mono e2, okC, hu', nx, ny, nz, fun H3 e3 => q2 _ H3 e3 (.bl _)⟩
    · rw [Bool.not_eq_true'] at hb
      refine s_appD (K := K) (d := encW (4, 9, 9)) (e2 _ _ h1) (ev_var rfl) (dv_tup (da_cons dv_int (da_cons dv_int (da_cons dv_int da_nil))) (by show 3 ≤ 100000; decide)) (by show 0 < 100000; decide) fun v' H3 e3 hv' => ?_
      refine rest _ _ _ (Ex.mut ((e1.trans e2).trans e3) hp) upd_same ?_
      rw [hb, if_neg Bool.false_ne_true]
      exact .cons (Dp.monoT (TSame.upd (no_tup_lst ((e2.trans e3) _ _ h1))) _ (nl_W _) hv') .nil
    · rw [Bool.not_eq_false'] at hb
      refine rest [] _ _ (e1.trans e2) (e2 _ _ h1) ?_
      rw [hb, if_pos rfl]
      exact .nil
abbrev nmWc : List Str := ["rules", "chords", "settings", "sounds", "cost", "moved", "at"]
theorem scWc : FnScope nmWc ["rules", "chords", "settings"] (defScope sWayCost) := ⟨rfl, rfl, rfl, by decide +kernel, rfl, by decide +kernel, by decide +kernel⟩
theorem sum_nat (f : Nat → Nat) : ∀ l : List Nat, (l.map fun i => (f i : Int)).sum = (((l.map f).sum : Nat) : Int)
  | [] => rfl
  | x :: l => by
    rw [List.map_cons, List.map_cons, List.sum_cons, List.sum_cons, sum_nat f l]
    push_cast
    rfl
theorem JgAt.len_ {H : Hp} {ar lc : Addr} {v : V} {q : Cp05.Rules} {l : List Cp05.Chord} {ss : List Cp05.Setting} (h : JgAt K CR C H ar lc v q l ss) {σ : L2.St} {tc : TE} (hc : Ev tc σ H (.ref lc)) : Dv K (tCB (rLenS K) (tCons tc tNil)) σ H (.int (l.length : Int)) := by
  obtain ⟨xs, h1, h2⟩ := h.cs
  have e : xs.length = l.length := h2.length
  rw [← e]
  exact dv_i (ev_len hc (sq_of h1))
theorem cal_wayCost (D : Def K mg "way_cost" sWayCost) (TR : RuTxt K CR) (gl : mg "len" = none) (gr : mg "range" = none) (gs : mg "sum" = none) (c1 : Cal P w K mg base "four_sounds" 1 ["chord", "setting"] (SpFour K C)) (c2 : Cal P w K mg base "setting_cost" 3 ["rules", "chord", "setting"] (SpCost K CR C)) (c3 : Cal P w K mg base "semitones_moved" 1 ["here", "there"] (SpD K RMovedS)) :
    Cal P w K mg base "way_cost" 4 ["rules", "chords", "settings"] (SpWC K CR C) := by
  refine ok_S D scWc (fun vs H Q E h => ?_) (fun _ _ _ _ _ _ us hl => match us, hl with | [_, _, _], _ => rfl) (fun f cdv A outer s H vs Q E hr h => ?_)
  · obtain ⟨_, _, _, _, _, _, rfl, _⟩ := h
    rfl
  · obtain ⟨ar, lc, v, q, l, ss, rfl, hJ, hin, k⟩ := h
    have hr1 : Room 1 _ := hr.mono (by decide : 1 ≤ 3)
    refine ⟨_, pss_cons (ps_set (i := 3) scWc.nd rfl (Or.inr rfl) (pe_lc (own := [("at", 6)]) (g := gName 6) (te := tCall (SpFour K C) [] E0 (tCons (tOp (rIxL K) (tVar 1) (tVar 6)) (tCons (tOp (rIxL K) (tVar 2) (tVar 6)) tNil))) rfl scWc.nd (pi_range1 (by rfl) gr (pa_cons (pe_callB call_len_seq (by rfl) gl PySem.boot_len (pa_cons (pv 1) pa_nil)) pa_nil)) (blkOk_by (own := [("at", 6)]) (N := nmWc) (sc := defScope sWayCost) (by decide +kernel)) (fun _ _ _ _ _ => pg_name (i := 6) scWc.nd rfl (Or.inl rfl)) (fun _ _ _ _ _ => pts_nil)
        (fun _ _ _ _ _ => pe_cal c1 hr1 (pa_cons (pe_ix ix_list (pv 1) (pv 6) (fun _ _ => rfl)) (pa_cons (pe_ix ix_list (pv 2) (pv 6) (fun _ _ => rfl)) pa_nil)))))
      (pss_cons (ps_set (i := 4) scWc.nd rfl (Or.inl rfl) (pe_callB (cr_sum rfl) (by rfl) gs (by decide +kernel) (pa_cons (pe_lc (own := [("at", 6)]) (g := gName 6) (te := tCall (SpCost K CR C) [] E0 (tCons (tVar 0) (tCons (tOp (rIxL K) (tVar 1) (tVar 6)) (tCons (tOp (rIxL K) (tVar 2) (tVar 6)) tNil)))) rfl scWc.nd (pi_range1 (by rfl) gr (pa_cons (pe_callB call_len_seq (by rfl) gl PySem.boot_len (pa_cons (pv 1) pa_nil)) pa_nil)) (blkOk_by (own := [("at", 6)]) (N := nmWc) (sc := defScope sWayCost) (by decide +kernel)) (fun _ _ _ _ _ => pg_name (i := 6) scWc.nd rfl (Or.inl rfl)) (fun _ _ _ _ _ => pts_nil)
        (fun _ _ _ _ _ => pe_cal c2 hr (pa_cons (pv 0) (pa_cons (pe_ix ix_list (pv 1) (pv 6) (fun _ _ => rfl)) (pa_cons (pe_ix ix_list (pv 2) (pv 6) (fun _ _ => rfl)) pa_nil))))) pa_nil)))
      (pss_cons (ps_set (i := 5) scWc.nd rfl (Or.inl rfl) (pe_callB (cr_sum rfl) (by rfl) gs (by decide +kernel) (pa_cons (pe_lc (own := [("at", 6)]) (g := gName 6) (te := tCall (SpD K RMovedS) [] E0 (tCons (tOp (rIxL K) (tVar 3) (tOp (rI0 fun i j => .int (i - j)) (tVar 6) (tC (.int 1)))) (tCons (tOp (rIxL K) (tVar 3) (tVar 6)) tNil))) rfl scWc.nd (pi_range2 (by rfl) gr (pa_cons pe_int (pa_cons (pe_callB call_len_seq (by rfl) gl PySem.boot_len (pa_cons (pv 1) pa_nil)) pa_nil))) (blkOk_by (own := [("at", 6)]) (N := nmWc) (sc := defScope sWayCost) (by decide +kernel)) (fun _ _ _ _ _ => pg_name (i := 6) scWc.nd rfl (Or.inl rfl)) (fun _ _ _ _ _ => pts_nil)
        (fun _ _ _ _ _ => pe_cal c3 hr1 (pa_cons (pe_ix ix_list (pv 3) (pe_op op_sub (pv 6) pe_int) (fun _ _ => rfl)) (pa_cons (pe_ix ix_list (pv 3) (pv 6) (fun _ _ => rfl)) pa_nil)))) pa_nil)))
      (pss_one (ps_ret (pe_op op_add (pv 4) (pe_op op_mul (pe_fld (pv 0) rfl) (pv 5))))))), ?_⟩
    have few := hJ.few
    refine q_asgDL (K := K) (dvl_mapN (K := K) (n := (l.length : Int)) (fun i => tupI (sndAt l ss i)) (da_one (hJ.len_ (ev_var rfl))) (by omega) (fun _ => rfl) (fun i => nl_tupI _) (fun i hi H1 e1 => eu_dv ((hJ.mono e1).four (i := i) (ev_var rfl) (ev_var rfl) (dv_vi rfl) (by omega)))) fun p xs H1 hp e1 h1 hx => ?_
    have hJ1 := hJ.mono e1
    rw [Int.toNat_natCast] at hx
    have hS : ∀ G, Ex H1 G → Dp K G (.ref p) (.list ((List.range l.length).map fun i => tupI (sndAt l ss i))) := fun G e => .lst (sq_of (e _ _ h1)) (DpAll.mono e _ hx)
    have sat : ∀ i, i < l.length → ((List.range l.length).map fun i => tupI (sndAt l ss i))[i]? = some (tupI (sndAt l ss i)) := fun i hi => by rw [List.getElem?_map, List.getElem?_range hi]; rfl
    refine q_asgD (K := K) (dv_sum (ns := (List.range l.length).map fun i => (Cp05.own q (chD l i) (stD ss i) : Int)) (dv_is (dvl_mapN (K := K) (n := (l.length : Int)) (fun i => .int (Cp05.own q (chD l i) (stD ss i) : Int)) (da_one (hJ1.len_ (ev_var rfl))) (by omega) (fun _ => rfl) (fun i => nl_int _) (fun i hi H2 e2 => ?_)).dv (by rw [Int.toNat_natCast, List.map_map]; rfl))) fun v4 H2 e2 hv4 => ?_
    · have hil : i < l.length := by omega
      have hJ2 := hJ1.mono e2
      obtain ⟨ac, eC, hC, okC⟩ := hJ2.chord (σ := [some (.ref ar), some (.ref lc), some v, some (.ref p), none, none, some (.int (i : Int))]) (tc := tVar 1) (tb := tVar 6) (ev_var rfl) (ev_var rfl) hil
      refine dv_callX (K := K) (mx_v (ev_var rfl) (mx_v eC (mx_d (hJ2.setting (i := i) (ev_var rfl) (dv_vi rfl) hil) mx_nil))) fun vs H3 e3 hv Q3 q3 => ?_
      obtain ⟨u, u', u'', rfl, rfl, rfl, hu⟩ := asv3 hv
      exact ⟨ar, ac, u'', q, chD l i, stD ss i, rfl, hJ2.ru.mono e3, hJ.ok, hC.mono e3, okC, hu, hin i hil, fun H4 e4 => q3 _ H4 e4 (.int _)⟩
    · rw [hv4.int_inv, sum_nat, ownSum_eq q l ss hJ.len]
      have hJ2 := hJ1.mono e2
      refine q_asgD (K := K) (dv_sum (ns := (List.range (l.length - 1)).map fun i => (movS 1 (sndAt l ss i) (sndAt l ss (i + 1)) : Int)) (dv_is (dvl_mapN2 (K := K) (lo := 1) (n := (l.length : Int)) (fun i => .int (movS 1 (sndAt l ss i) (sndAt l ss (i + 1)) : Int)) (da_cons dv_int (da_one (hJ2.len_ (ev_var rfl)))) (by omega) (fun _ => rfl) (fun i => nl_int _) (fun i hi H3 e3 => ?_)).dv (by
        have : ((l.length : Int) - 1).toNat = l.length - 1 := by omega
        rw [this, List.map_map]; rfl))) fun v5 H3 e3 hv5 => ?_
      · exact dv_call (da_cons (dv_ixL (j := i) (dv_var rfl (hS _ (e2.trans e3))) (dv_I (dv_vi rfl) dv_int) (by omega) (sat i (by omega))) (da_cons (dv_ixL (j := i + 1) (dv_var rfl (hS _ (e2.trans e3))) (dv_vi rfl) (by push_cast; omega) (sat (i + 1) (by omega))) da_nil)) ⟨_, _, rfl, sndAt_len (hJ.is3 (by omega)), sndAt_len (hJ.is3 (by omega)), rfl⟩
      · rw [hv5.int_inv, sum_nat, movSum_eq l ss hJ.len]
        obtain ⟨dx, vr, va, vl, r1, r2, r3, r4⟩ := (hJ2.mono e3).ru
        have hm := hJ.ok.m20
        refine s_retD (K := K) (dv_I (dv_vi rfl) (dv_IC (dv_fld (ev_var rfl) r1 TR.cl TR.nM (ruF_move _ _ _ _) (.int _)) (dv_vi rfl) (mul_smallL (by omega) (by omega)))) fun u H4 e4 hu => ?_
        rw [hu.int_inv]
        have := k H4 (((e1.trans e2).trans e3).trans e4)
        push_cast at this
        exact this
end
end Bf

namespace Bf
open PySem PySem.Spec PyProof.Rows L2 Evl
section
variable {P : Program} {w : World} {K : PySem.W.Frag} {mg : Str → Option Value} {base : Heap} {CR C : Addr}
theorem asV {H : Hp} : ∀ {xs us : List V}, AsOk K H (xs.map .v) us → us = xs
  | [], _, h => by
    have h' : AsOk K H [] _ := h
    cases h'
    rfl
  | x :: xs, _, h => by
    have h' : AsOk K H (.v x :: xs.map .v) _ := h
    cases h' with
    | cons h1 h2 =>
      have h1' : _ = x := h1
      rw [h1', asV h2]
abbrev nmJg : List Str := ["rules", "chords", "settings", "told", "at", "wrong", "cost", "answer", "row"]
theorem scJg : FnScope nmJg ["rules", "chords", "settings"] (defScope sJudgement) := ⟨rfl, rfl, rfl, by decide +kernel, rfl, by decide +kernel, by decide +kernel⟩
abbrev RowsAt (G : Hp) : List V → List (List Int) → Prop := Paired fun v r => ∃ b, v = .ref b ∧ G b = some (.lst (r.map V.int))
theorem RowsAt.mono {G G' : Hp} (e : Ex G G') {vs : List V} {rs : List (List Int)} (h : RowsAt G vs rs) : RowsAt G' vs rs := Paired.mono (fun v r ⟨b, h1, h2⟩ => ⟨b, h1, e _ _ h2⟩) h
theorem RowsAt.get {G : Hp} : ∀ {vs : List V} {rs : List (List Int)} {i : Nat} {v : V}, RowsAt G vs rs → vs[i]? = some v → ∃ b r, v = .ref b ∧ rs[i]? = some r ∧ G b = some (.lst (r.map V.int))
  | _, _, _, _, .nil, e => by simp at e
  | _, _, 0, _, .cons ⟨b, h1, h2⟩ _, e => by simp at e; subst e; exact ⟨b, _, h1, rfl, h2⟩
  | _, _, i + 1, v, .cons _ t, e => by
    obtain ⟨b, r, h1, h2, h3⟩ := RowsAt.get (i := i) (v := v) t (by simpa using e)
    exact ⟨b, r, h1, by simpa using h2, h3⟩
theorem s_extV {σ : L2.St} {H : Hp} {D : Ends} {ta te : TE} {l b : Addr} {xs zs : List V} (hl : H l = some (.lst xs)) (ha : Ev ta σ H (.ref l)) (hb : H b = some (.lst zs)) (h : Ev te σ H (.ref b)) (hz : xs.length + zs.length ≤ 10000000) (k : ∀ H1, Ex H H1 → D.nx σ (upd H1 l (.lst (xs ++ zs)))) :
    tDrop (tBM K "list" rExtend ta (tCons te tNil)) D σ H := ha H (Ex.refl H) _ fun H1 e1 =>
  ⟨Or.inl ⟨rfl, xs, sq_of (e1 l _ hl)⟩, h H1 e1 _ fun H2 e2 => ⟨l, b, xs, zs, rfl, rfl, e2 l _ (e1 l _ hl), e2 _ _ (e1 _ _ hb), Nat.le_trans hz (by decide), k H2 (e1.trans e2)⟩⟩
theorem rows_flat_len {rs : List (List Int)} (h : ∀ r ∈ rs, r.length = 4) : rs.flatten.length = 4 * rs.length := by
  induction rs with
  | nil => rfl
  | cons r rs ih =>
    rw [List.flatten_cons, List.length_append, List.length_cons, h r (by simp), ih fun x hx => h x (List.mem_cons_of_mem _ hx)]
    omega
theorem cal_judgement (D : Def K mg "judgement" sJudgement) (gl : mg "len" = none) (gr : mg "range" = none) (gN : Gi mg "NO_WAY" (-1)) (c1 : Cal P w K mg base "wrongs_at" 6 ["rules", "chords", "settings", "at"] (SpWA K CR C)) (c2 : Cal P w K mg base "way_cost" 4 ["rules", "chords", "settings"] (SpWC K CR C)) :
    Cal P w K mg base "judgement" 7 ["rules", "chords", "settings"] (SpJg K CR C) := by
  refine ok_S D scJg (fun vs H Q E h => ?_) (fun _ _ _ _ _ _ us hl => match us, hl with | [_, _, _], _ => rfl) (fun f cdv A outer s H vs Q E hr h => ?_)
  · obtain ⟨_, _, _, _, _, _, rfl, _⟩ := h
    rfl
  · obtain ⟨ar, lc, v, q, l, ss, rfl, hJ, hne, k⟩ := h
    have hr4 : Room 4 _ := hr.mono (by decide : 4 ≤ 6)
    refine ⟨_, pss_cons (ps_set (i := 3) scJg.nd rfl (Or.inl rfl) (pe_lst pa_nil))
      (pss_cons (ps_for PassesOwn.never rfl (pi_range1 (by rfl) gr (pa_cons (pe_callB call_len_seq (by rfl) gl PySem.boot_len (pa_cons (pv 1) pa_nil)) pa_nil)) (pg_name (i := 4) scJg.nd rfl (Or.inl rfl))
        (pss_one (ps_for PassesOwn.never rfl (pi_list (pe_cal c1 hr (pa_cons (pv 0) (pa_cons (pv 1) (pa_cons (pv 2) (pa_cons (pv 4) pa_nil)))))) (pg_name (i := 5) scJg.nd rfl (Or.inl rfl))
          (pss_one (ps_expr (pe_bm PySem.F.plainAttrs_list PySem.F.slot_list_append PySem.F.type_list_append mt_append (pv 3) (pa_cons (pe_lst (pa_cons (pv 4) (pa_cons (pe_ix ix_tup (pv 5) pe_int (fun _ _ => rfl)) (pa_cons (pe_ix ix_tup (pv 5) pe_int (fun _ _ => rfl)) (pa_cons (pe_ix ix_tup (pv 5) pe_int (fun _ _ => rfl)) pa_nil))))) pa_nil)))))))
      (pss_cons (ps_set (i := 6) scJg.nd rfl (Or.inl rfl) (pe_ifExp (tA := tTruth K (tVar 3)) (pt_truth (pv 3) (by intro _; rfl)) (pe_gi gN) (pe_cal c2 hr4 (pa_cons (pv 0) (pa_cons (pv 1) (pa_cons (pv 2) pa_nil))))))
      (pss_cons (ps_set (i := 7) scJg.nd rfl (Or.inl rfl) (pe_lst (pa_cons (pe_callB call_len_seq (by rfl) gl PySem.boot_len (pa_cons (pv 3) pa_nil)) (pa_cons (pv 6) pa_nil))))
      (pss_cons (ps_for PassesOwn.never rfl (pi_list (pv 3)) (pg_name (i := 8) scJg.nd rfl (Or.inl rfl))
        (pss_one (ps_expr (pe_bm PySem.F.plainAttrs_list PySem.F.slot_list_extend PySem.F.type_list_extend mt_extend (pv 7) (pa_cons (pv 8) pa_nil)))))
      (pss_one (ps_ret (pv 7))))))), ?_⟩
    have few := hJ.few
    have hjd := judged_eq q l ss hJ.len hJ.i3
    generalize hWs : Cp05.judged q 0 none l ss = W at *
    have rowLen : ∀ i, ((List.range i).flatMap fun j => (wrongsAt q l ss j).map (rowW j)).length ≤ i * 16 := fun i => by
      refine Nat.le_trans (flatMap_le _ 16 _ fun j _ => ?_) (by rw [List.length_range]; exact Nat.le_refl _)
      rw [List.length_map]
      exact wrongsAt_len q l ss j
    refine q_asgDL (K := K) (dvl_lst da_nil (by decide)) fun p ys H1 hp e1 h1 hy => ?_
    cases hy
    refine q_forN (K := K) (n := (l.length : Int)) (da_one ((hJ.mono e1).len_ (ev_var rfl))) (by omega) (fun i σ' H' => ∃ o4 o5 acc G, σ' = [some (.ref ar), some (.ref lc), some v, some (.ref p), o4, o5, none, none, none] ∧ Ex H H' ∧ Ex G H' ∧ G p = none ∧ H' p = some (.lst acc) ∧ RowsAt G acc ((List.range i).flatMap fun j => (wrongsAt q l ss j).map (rowW j)))
      (fun H2 e2 => ⟨none, none, [], H, rfl, e1.trans e2, e1.trans e2, hp, e2 _ _ h1, .nil⟩) (fun i σ' H' hi ⟨o4, o5, acc, G, eσ, e3, eG, hG, h3, hacc⟩ => ?_) (fun σ' H' ⟨o4, o5, acc, G, eσ, e3, eG, hG, h3, hacc⟩ => ?_)
    · subst eσ
      have hil : i < l.length := by omega
      have hpre := rowLen i
      generalize hPre : (List.range i).flatMap (fun j => (wrongsAt q l ss j).map (rowW j)) = pre at *
      have hwl := wrongsAt_len q l ss i
      generalize hWA : wrongsAt q l ss i = wa at *
      refine s_forDL (K := K) (j := 5) (ds := wa.map encW) (dvl_callX (mx_v (ev_var rfl) (mx_v (ev_var rfl) (mx_v (ev_var rfl) (mx_v (ev_var rfl) mx_nil)))) fun vs H2 e2 hv Q2 q2 => ?_)
        (fun p2 xs2 m σ' H' => ∃ o5 acc G, σ' = [some (.ref ar), some (.ref lc), some v, some (.ref p), some (.int (i : Int)), o5, none, none, none] ∧ Ex H H' ∧ Ex G H' ∧ G p = none ∧ p2 ≠ p ∧ H' p2 = some (.lst xs2) ∧ DpAll K H' xs2 (wa.map encW) ∧ H' p = some (.lst acc) ∧ RowsAt G acc (pre ++ (wa.take m).map (rowW i)))
        (fun p2 xs2 H2 hp2 e2 h2 hx2 => ⟨o5, acc, G, rfl, e3.trans e2, eG.trans e2, hG, (fun z => by rw [z, h3] at hp2; cases hp2), h2, hx2, e2 _ _ h3, by rw [List.take_zero, List.map_nil, List.append_nil]; exact hacc⟩)
        (fun p2 xs2 m σ' H' ⟨_, _, _, _, _, _, _, _, h, _⟩ => h) (fun p2 xs2 m x σ' H' hmx ⟨o5, acc, G, eσ, e4, eG4, hG4, ne2, h2, hx2, h4, hacc4⟩ => ?_) (fun p2 xs2 σ' H' hl2 ⟨o5, acc, G, eσ, e4, eG4, hG4, ne2, h2, hx2, h4, hacc4⟩ => ?_)
      · have ev := asV (xs := [.ref ar, .ref lc, v, .int (i : Int)]) hv
        subst ev
        refine ⟨ar, lc, v, i, q, l, ss, rfl, (hJ.mono (e3.trans e2)), hil, ?_⟩
        rw [hWA]
        exact q2
      · subst eσ
        obtain ⟨wv, hwm, hxw⟩ := at_map hx2 hmx
        refine s_appL (ys := (rowW i wv).map V.int) h4 (ev_var rfl) (el_lst (ea_cons (ev_var rfl) (ea_cons (ev_int (K := K) (dv_ixT (j := 0) (dv_var rfl hxw) dv_int rfl rfl)) (ea_cons (ev_int (K := K) (dv_ixT (j := 1) (dv_var rfl hxw) dv_int rfl rfl)) (ea_cons (ev_int (K := K) (dv_ixT (j := 2) (dv_var rfl hxw) dv_int rfl rfl)) ea_nil)))) (by show 4 ≤ 100000; decide)) ?_ fun r H5 hr5 e5 h5 => ?_
        · have : acc.length = (pre ++ (wa.take m).map (rowW i)).length := hacc4.length
          rw [this, List.length_append, List.length_map, List.length_take]
          omega
        · have ner : r ≠ p := fun z => by rw [z, h4] at hr5; cases hr5
          refine ⟨_, acc ++ [.ref r], cutH H5 p, rfl, Ex.mut (e4.trans e5) hp, cutH_ex, cutH_same _ _, ne2, ?_, ?_, upd_same, ?_⟩
          · rw [upd_ne ne2]
            exact e5 _ _ h2
          · exact DpAll.monoT (TSame.upd (no_tup_lst (e5 _ _ h4))) _ (noListAll_map nl_W _) (DpAll.mono e5 _ hx2)
          · rw [List.take_add_one, hwm, List.map_append, ← List.append_assoc]
            refine Paired.snoc (RowsAt.mono (fun b o hb => ?_) hacc4) ⟨r, rfl, ?_⟩
            · have hbp : b ≠ p := fun z => by rw [z, hG4] at hb; cases hb
              rw [cutH_ne hbp]
              exact e5 _ _ (eG4 _ _ hb)
            · rw [cutH_ne ner]
              exact h5
      · subst eσ
        refine ⟨_, _, acc, G, rfl, e4, eG4, hG4, h4, ?_⟩
        rw [hl2, List.length_map, List.take_length] at hacc4
        rw [List.range_succ, List.flatMap_append, List.flatMap_cons, List.flatMap_nil, List.append_nil, hPre, hWA]
        exact hacc4
    · subst eσ
      rw [Int.toNat_natCast, ← hjd] at hacc
      have hal : acc.length = W.length := hacc.length
      have hWl : W.length ≤ 128 := by
        rw [hjd]
        have := rowLen l.length
        omega
      have hrow4 : ∀ r ∈ W, r.length = 4 := fun r hr => by
        rw [hjd] at hr
        obtain ⟨j, _, hj⟩ := List.mem_flatMap.mp hr
        obtain ⟨wv, _, rfl⟩ := List.mem_map.mp hj
        rfl
      obtain ⟨c0, l0, hcl⟩ := List.exists_cons_of_ne_nil hne
      obtain ⟨s0, m0, hsl⟩ := List.exists_cons_of_ne_nil (l := ss) (fun z => hne (List.length_eq_zero_iff.mp (by rw [← hJ.len, z]; rfl)))
      have hlen0 : m0.length = l0.length := by
        have := hJ.len
        rw [hcl, hsl, List.length_cons, List.length_cons] at this
        omega
      have ht : total q l ss = ownSum q l ss + q.move * movSum l ss := by
        have h0 := total_eq q l0 c0 m0 s0 hlen0 (by rw [← hsl]; exact hJ.i3)
        rw [← hcl, ← hsl] at h0
        exact h0
      have hcost : Cp05.cost q l ss = if W.isEmpty = true then some (ownSum q l ss + q.move * movSum l ss) else none := by
        have h1 := cost_eq q l0 c0 s0 m0 0 hlen0
        rw [← hcl, ← hsl, hWs, ht] at h1
        exact h1
      have hJ3 := hJ.mono e3
      -- cost
      refine q_asgD (K := K) (d := .int (costI (Cp05.cost q l ss))) (dv_if (b := !acc.isEmpty) (et_truthL (ev_var rfl) (sq_of h3)) (fun hb => ?_) (fun hb => ?_)) fun v6 H4 e4 hv6 => ?_
      · have : W.isEmpty = false := by
          cases hW : W with
          | nil =>
            rw [hW] at hal
            have : acc = [] := List.length_eq_zero_iff.mp hal
            rw [this] at hb
            cases hb
          | cons r rs => rfl
        rw [hcost, this]
        exact dv_int
      · have hWe : W = [] := by
          cases hW : W with
          | nil => rfl
          | cons r rs =>
            rw [hW] at hal
            match acc, hal, hb with
            | a :: as, _, hb => cases hb
        rw [hcost, hWe]
        show Dv K _ _ _ (.int ((ownSum q l ss + q.move * movSum l ss : Nat) : Int))
        refine dv_callX (mx_v (ev_var rfl) (mx_v (ev_var rfl) (mx_v (ev_var rfl) mx_nil))) fun vs H4 e4 hv Q4 q4 => ?_
        have ev := asV (xs := [.ref ar, .ref lc, v]) hv
        subst ev
        refine ⟨ar, lc, v, q, l, ss, rfl, hJ3.mono e4, fun i hi => ?_, fun H5 e5 => q4 _ H5 e5 (.int _)⟩
        rw [hWe] at hjd
        have hz : (wrongsAt q l ss i).map (rowW i) = [] := by
          have h0 := List.flatMap_eq_nil_iff.mp hjd.symm i (List.mem_range.mpr hi)
          exact h0
        have hz2 : wrongsAt q l ss i = [] := List.map_eq_nil_iff.mp hz
        unfold wrongsAt at hz2
        have hz3 := (List.append_eq_nil_iff.mp hz2).1
        by_cases hcn : (Cp05.settings q (chD l i)).contains (stD ss i) = true
        · simpa using hcn
        · rw [if_neg hcn] at hz3
          cases hz3
      · cases hv6.int_inv
        have hjA : judgeAns q l ss = (W.length : Int) :: costI (Cp05.cost q l ss) :: W.flatten := by
          unfold judgeAns
          rw [hWs]
        rw [hjA] at k
        generalize costI (Cp05.cost q l ss) = cst at *
        refine q_asgL (xs := [(W.length : Int), cst].map V.int) (el_lst (ea_cons (ev_is (ev_len (K := K) (ev_var rfl) (sq_of (e4 _ _ h3))) (by rw [hal])) (ea_cons (ev_var rfl) ea_nil)) (by show 2 ≤ 100000; decide)) fun pa H5 hpa e5 h5 => ?_
        have e45 := e4.trans e5
        have nep : p ≠ pa := fun z => by rw [← z, e4 _ _ h3] at hpa; cases hpa
        have hpaH' : H' pa = none := fresh_back e4 hpa
        have hpaH : H pa = none := fresh_back e3 hpaH'
        have hpaG : G pa = none := fresh_back eG hpaH'
        refine q_forLn (a := p) (xs := acc) (ev_var rfl) (sq_of (e45 _ _ h3)) (fun j σ' H'' => ∃ o8, σ' = [some (.ref ar), some (.ref lc), some v, some (.ref p), o4, o5, some (.int cst), some (.ref pa), o8] ∧ Ex H H'' ∧ Ex G H'' ∧ H'' p = some (.lst acc) ∧ H'' pa = some (.lst (((W.length : Int) :: cst :: (W.take j).flatten).map V.int)))
          (fun H6 e6 => ⟨none, rfl, (e3.trans e45).trans e6, (eG.trans e45).trans e6, (e45.trans e6) _ _ h3, e6 _ _ h5⟩) (fun j σ' H'' _ ⟨_, _, _, _, h, _⟩ => sq_of h) (fun j x σ' H'' hjx ⟨o8, eσ, e6, eG6, h6, h6a⟩ => ?_) (fun σ' H'' ⟨o8, eσ, e6, eG6, h6, h6a⟩ => ?_)
        · subst eσ
          obtain ⟨b, r, rfl, hrj, hGb⟩ := hacc.get hjx
          have hfl : ((W.take j).flatten).length ≤ 512 := by
            have := rows_flat_len (rs := W.take j) fun r hr => hrow4 r (List.mem_of_mem_take hr)
            rw [this, List.length_take]
            omega
          have hr4' := hrow4 r (List.mem_of_getElem? hrj)
          refine s_extV (K := K) h6a (ev_var rfl) (eG6 _ _ hGb) (ev_var rfl) ?_ fun H7 e7 => ?_
          · rw [List.length_map, List.length_map, List.length_cons, List.length_cons]
            omega
          · refine ⟨_, rfl, Ex.mut (e6.trans e7) hpaH, Ex.mut (eG6.trans e7) hpaG, ?_, ?_⟩
            · rw [upd_ne nep]
              exact e7 _ _ h6
            · rw [upd_same, ← List.map_append, List.take_add_one, hrj, List.flatten_append]
              show some (HO.lst (List.map V.int (((W.length : Int) :: cst :: (W.take j).flatten) ++ r))) = some (HO.lst (List.map V.int ((W.length : Int) :: cst :: ((W.take j).flatten ++ (r ++ [])))))
              rw [List.append_nil]
              rfl
        · subst eσ
          rw [hal, List.take_length] at h6a
          exact s_ret (ev_var rfl) fun H7 e7 => k pa H7 hpaH (e6.trans e7) (e7 _ _ h6a)
end
end Bf

/-! # set(xs) of a list of ints, sorted of it -/
namespace L2
open PySem PySem.Spec PyProof.Rows
/-- an empty set's object -/
abbrev noneIn (w : World) : Obj := { cls := .type "set", dict := none, data := .set #[] 0 (.fresh 0 0 (!w.params.followText "set-order")) }
section
variable {P : Program} {w : World} {A : Around} {E : Value → Shared → Prop} {s : Shared}
theorem call_setI {a : Addr} {us : Array Value} (ks : List Int) {Q : Value → Shared → Prop} (calm : A.handled = none) (hA : s.heap.IsList a us) (hU : IntsAre us.toList ks) (few : ks.length + 1 < scanBound)
    (fin : ∀ (h1 : Heap) (t1 n : Nat), SetR w h1 s.heap.objs.size (fun j => decide (j ∈ ks)) n → n ≤ ks.length → (∀ b o, s.heap.get? b = some o → h1.get? b = some o) → Q (.ref s.heap.objs.size) { s with heap := h1, toks := t1 }) :
    wpAny (model P w) A (call (.type "set") [.ref a]) Q E s := by
  have hsize : us.size = ks.length := by have z := IntsAre.length hU; rw [Array.length_toList] at z; exact z
  obtain ⟨c0, c1, hm⟩ := F.called_set.mro
  have f1 := F.called_set.made; have f2 := F.called_set.sub
  refine wpAny_call (codeAny_of_tree ?_); show wpAny _ _ (callAny (.type "set") _) _ _ _
  refine wpAny_pure ⟨Code.quiet_builtin _ (by decide +kernel), codeAny_builtin F.entry_type_call ?_⟩; rw [Around.under_plain (weight_type_call_type "set" [.ref a] []) rfl]
  have f3 := F.called_set.notType; have f4 := F.called_set.canCreate; have f5 := F.typeCall_set_1 (.ref a)
  repeat (any_goals (first | assumption | wp_step))
  refine codeAny_mono (code_set_led1 (.ref a) (E := E) (Q₁ := fun x s₁ => x = .ref s.heap.objs.size ∧ s₁ = { s with heap := s.heap.push (noneIn w) }) ⟨rfl, rfl⟩) fun r s₁ hr => ?_
  cases r with
  | error e => exact hr
  | ok fl =>
    cases fl with
    | ret x =>
      obtain ⟨rfl, rfl⟩ := hr
      have hN : (s.heap.push (noneIn w)).get? s.heap.objs.size = some (noneIn w) := Heap.get?_push_size _ rfl
      have hT : Shared.TypeIs { s with heap := s.heap.push (noneIn w) } (.ref s.heap.objs.size) "set" := ⟨_, hN, rfl⟩
      have f6 := F.called_set.init.lookup; have f7 := F.called_set.init.bind (.ref s.heap.objs.size)
      repeat (any_goals (first | assumption | wp_step))
      refine codeAny_mono (codeAny_call_builtin (R := wants (fun r s₂ => r = .none ∧ ∃ h1 t1 n, s₂ = { s with heap := h1, toks := t1 } ∧ SetR w h1 s.heap.objs.size (fun j => decide (j ∈ ks)) n ∧ n ≤ ks.length ∧ (∀ b o, s.heap.get? b = some o → h1.get? b = some o)) E) F.called_set.init.plain F.entry_set_init (check_set_init_1 hT ?_)) fun r₂ s₂ hr₂ => ?_
      · obtain ⟨oa, hoa, hca, na, hda⟩ := hA; obtain ⟨cl, di, da, sl⟩ := oa; simp only at hca hda; subst hca; subst hda
        have hoa' : (s.heap.push (noneIn w)).get? a = some { cls := .type "list", dict := di, data := .seq us na, slots := sl } := Heap.get?_push_of_some _ hoa
        have g1 := F.sub_list_set; have g2 := F.sub_list_frozenset; have g3 : (Value.type "list" == Value.type "dict") = false := by decide
        have hL : (s.heap.push (noneIn w)).IsList a us := ⟨_, hoa', rfl, na, rfl⟩
        unfold Builtin.«set.__init__» noKeywords Builtin.Frozenset.updateFrom; generalize hPI : pyIter = PI
        wp_walk
        subst hPI
        refine wpAny_pyIter_list hL (wpAny_bind (wpAny_runValue ?_))
        have hlt : a < s.heap.objs.size := Heap.lt_size hoa
        have calm3 : A.in1.in1.in1.handled = none := by simp [calm]
        have nI : a ≠ (s.heap.push (noneIn w)).objs.size := by rw [Heap.size_push]; exact Nat.ne_of_lt (Nat.lt_succ_of_lt hlt)
        have nS : s.heap.objs.size ∉ [(s.heap.push (noneIn w)).objs.size, a] := by
          rw [Heap.size_push]; simp only [List.mem_cons, List.not_mem_nil, or_false, not_or]; exact ⟨Nat.ne_of_lt (Nat.lt_succ_self _), Nat.ne_of_gt hlt⟩
        have vals : ∀ (i : Nat) (v : Value), us[i]? = some v → ∃ k t, ks[i]? = some k ∧ v = .int k t := fun i v hv => by
          have hi : i < ks.length := hsize ▸ (Array.getElem?_eq_some_iff.mp hv).1
          obtain ⟨t, e⟩ := PyProof.Rows.IntsAre.int_at hU i v (by rw [Array.getElem?_toList]; exact hv)
          refine ⟨ks[i], t, List.getElem?_eq_getElem hi, ?_⟩; rw [e, List.getD_eq_getElem?_getD, List.getElem?_eq_getElem hi] <;> rfl
        refine set_update_ints ((Walks.list calm3 _ a nI us).toS) s.heap.objs.size nS ks hsize few vals (us.size - 0) 0 _ (by omega) (Nat.zero_le _) ⟨⟨_, Heap.get?_push_size _ rfl, rfl, rfl⟩, (hL.push _)⟩ ?begin ?done
        case begin => exact ⟨0, Nat.le_refl 0, setR_new_at (Heap.get?_push_of_some _ hN)⟩
        case done =>
          intro s' n' mv hn' hS'
          obtain ⟨h1, g9, d9, t9, o9⟩ := s'
          have e1 : g9 = s.gens := mv.gens; have e2 : d9 = s.drawn := mv.drawn; have e3 : o9 = s.os := mv.os
          subst e1; subst e2; subst e3; show wpAny _ _ _ _ _ _
          refine wpAny_pure ?_; show wpAny _ _ (ret Value.none) _ _ _
          rw [hsize] at hn'
          refine wpAny_pure ⟨rfl, h1, t9, n', rfl, hS', hn', fun b o e => ?_⟩
          have l1 : b < s.heap.objs.size := Heap.lt_size e
          have l2 : b ≠ s.heap.objs.size := Nat.ne_of_lt l1
          have l3 : b ≠ (s.heap.push (noneIn w)).objs.size := by rw [Heap.size_push]; exact Nat.ne_of_lt (Nat.lt_succ_of_lt l1)
          exact mv.heap b o (by simp only [List.mem_cons, List.not_mem_nil, or_false, not_or]; exact ⟨l2, l3⟩) (Heap.get?_push_of_some _ (Heap.get?_push_of_some _ e))
      · cases r₂ with
        | error e => exact hr₂
        | ok fl₂ =>
          cases fl₂ with
          | ret r =>
            obtain ⟨rfl, h1, t1, n', rfl, hS', hn', hk'⟩ := hr₂
            repeat (any_goals (first | assumption | wp_step))
            exact fin _ _ _ hS' hn' hk'
          | _ => exact hr₂.elim
    | _ => exact hr.elim
end
end L2
namespace Bf
open PySem PySem.Spec PyProof.Rows L2 Evl
/-- set(xs): its members are those of xs, each once -/
def rSetI (K : PySem.W.Frag) (w : World) : List V → Hp → VK → Prop := fun vs H Q => ∃ (a : Addr) (ks : List Int), vs = [.ref a] ∧ SqL K H a (ks.map V.int) ∧ ks.length ≤ 4000 ∧ ∀ (p : Addr) (L : List Int), H p = none → L.Nodup → (∀ k, k ∈ L ↔ k ∈ ks) → Q (.ref p) (upd H p (SetO w p (fun k => decide (k ∈ ks)) L.length))
theorem cr_setI {X : Cx} (hc : X.calm = true) : CallR X (.type "set") (rSetI X.K X.w) := by
  intro pins s σ H vs us Q I r h
  obtain ⟨a, ks, rfl, hs, hk, q⟩ := h
  rw [Vals.ref1 r]
  obtain ⟨its, rv, hl, hz⟩ := I.list hs
  have hi : IntsAre its.toArray.toList ks := ints_of_vals rv
  refine call_setI ks (I.ok.hd hc) hl.isList hi (by unfold scanBound; omega) fun h1 t1 n R hn k => ?_
  obtain ⟨o, es, ep, t, ho, r1, r2, r3, nd, mem, r6, r7, sz, r9⟩ := id R
  have e : (es.toList.map keyOf).length = n := by rw [List.length_map, Array.length_toList]; exact sz
  refine ⟨.ref s.heap.objs.size, upd H s.heap.objs.size (SetO X.w s.heap.objs.size (fun j => decide (j ∈ ks)) (es.toList.map keyOf).length), I.laid (t' := t1) k (Nat.le_refl _) (setO_new (by rw [e]; exact R)), rfl, q _ _ (I.hok.fresh (Nat.le_refl _)) nd fun j => ?_⟩
  rw [← mem j, decide_eq_true_eq]
section
variable {K : PySem.W.Frag} {w : World} {H : Hp} {σ : L2.St} {ta : TE}
/-- sorted(set(xs)): rising, the members of xs -/
theorem dvl_sortedSet {ks : List Int} (h : Dv K ta σ H (.list (ks.map .int))) (hl : ks.length ≤ 4000) (few : ∀ L : List Int, L.Nodup → (∀ k ∈ L, k ∈ ks) → L.length < 64) :
    ∀ H1, Ex H H1 → ∀ Q : VK, (∀ p (ns : List Int) H2, H1 p = none → Ex H1 H2 → H2 p = some (.lst (ns.map V.int)) → ns.Nodup → (∀ k, k ∈ ns ↔ k ∈ ks) → Q (.ref p) H2) → tCB (rSortedSet w) (tCons (tCB (rSetI K w) (tCons ta tNil)) tNil) σ H1 Q := fun H1 e Q q => h H1 e _ fun x H2 e2 hx => by
  obtain ⟨a, xs, rfl, hs, hd⟩ := hx.lst_inv
  have ei := hd.ints
  subst ei
  refine ⟨a, ks, rfl, hs, hl, fun p L hp nd mem => ⟨p, _, L.length, rfl, upd_same, few L nd fun k hk => (mem k).mp hk, fun ns r rise mem2 hlen hr => ?_⟩⟩
  refine q r ns _ (fresh_back (e2.trans (Ex.new hp)) hr) ((e2.trans (Ex.new hp)).trans (Ex.new hr)) upd_same (rise.imp fun h => Int.ne_of_lt h) fun k => ?_
  rw [mem2 k, decide_eq_true_eq]
end
end Bf

/-! # Dicts by their keys: tuples of ints, ints -/
namespace Bf
open PySem PySem.Spec PyProof.Rows L2 Evl
theorem keyI_inj {y z : List Int} (h : keyI y = keyI z) : y = z := by
  have h2 : (keyI y).map kV = (keyI z).map kV := by rw [h]
  rw [keyI_kV, keyI_kV] at h2
  revert z
  induction y with
  | nil =>
    intro z _ h2
    cases z with
    | nil => rfl
    | cons b z => cases h2
  | cons a y ih =>
    intro z h h2
    cases z with
    | nil => cases h2
    | cons b z =>
      simp only [List.map_cons, List.cons.injEq, V.int.injEq] at h2
      rw [h2.1, ih (z := z) (by unfold keyI at h ⊢; simp only [List.map_cons, List.cons.injEq] at h; exact h.2) h2.2]
def dOf (ks : List (List Int)) (f : List Int → V) : List (List Key × V) := ks.map fun y => (keyI y, f y)
def kOf (ts : List Int) (f : Int → V) : List (Key × V) := ts.map fun t => (Sum.inl t, f t)
theorem dOf_len (ks : List (List Int)) (f : List Int → V) : (dOf ks f).length = ks.length := List.length_map _
theorem kOf_len (ks : List Int) (f : Int → V) : (kOf ks f).length = ks.length := List.length_map _
theorem dOf_val (f : List Int → V) : ∀ (ks : List (List Int)) (y : List Int), valV (dOf ks f) (keyI y) = if y ∈ ks then some (f y) else none
  | [], y => by simp [valV, dOf]
  | z :: ks, y => by
    show valV ((keyI z, f z) :: dOf ks f) (keyI y) = _
    by_cases e : z = y
    · subst e
      rw [valV_pos rfl, if_pos List.mem_cons_self]
    · rw [valV_neg fun h => e (keyI_inj h), dOf_val f ks y]
      have : (y ∈ z :: ks) ↔ y ∈ ks := by
        rw [List.mem_cons]
        exact ⟨fun h => h.elim (fun q => absurd q.symm e) id, .inr⟩
      by_cases h : y ∈ ks
      · rw [if_pos h, if_pos (this.mpr h)]
      · rw [if_neg h, if_neg fun q => h (this.mp q)]
theorem kOf_val (f : Int → V) : ∀ (ks : List Int) (y : Int), valV (kOf ks f) (Sum.inl y) = if y ∈ ks then some (f y) else none
  | [], y => by simp [valV, kOf]
  | z :: ks, y => by
    show valV ((Sum.inl z, f z) :: kOf ks f) (Sum.inl y) = _
    by_cases e : z = y
    · subst e
      rw [valV_pos rfl, if_pos List.mem_cons_self]
    · rw [valV_neg fun h => e (Sum.inl.inj h), kOf_val f ks y]
      have : (y ∈ z :: ks) ↔ y ∈ ks := by
        rw [List.mem_cons]
        exact ⟨fun h => h.elim (fun q => absurd q.symm e) id, .inr⟩
      by_cases h : y ∈ ks
      · rw [if_pos h, if_pos (this.mpr h)]
      · rw [if_neg h, if_neg fun q => h (this.mp q)]
def kStep {α : Type} [DecidableEq α] (ks : List α) (y : α) : List α := if y ∈ ks then ks else ks ++ [y]
theorem kStep_mem {α : Type} [DecidableEq α] (ks : List α) (y z : α) : z ∈ kStep ks y ↔ z ∈ ks ∨ z = y := by
  unfold kStep
  split
  · rename_i h
    exact ⟨.inl, fun q => q.elim id fun e => e ▸ h⟩
  · rw [List.mem_append, List.mem_singleton]
theorem kStep_nd {α : Type} [DecidableEq α] {ks : List α} (h : ks.Nodup) (y : α) : (kStep ks y).Nodup := by
  unfold kStep
  split
  · exact h
  · rename_i hn
    rw [List.nodup_append]
    refine ⟨h, by simp, fun a ha b hb => ?_⟩
    rw [List.mem_singleton.mp hb]
    rintro rfl
    exact hn ha
theorem kStep_len {α : Type} [DecidableEq α] (ks : List α) (y : α) : (kStep ks y).length ≤ ks.length + 1 := by
  unfold kStep
  split
  · omega
  · rw [List.length_append]; exact Nat.le_refl _
theorem any_key (ks : List (List Int)) (f : List Int → V) (y : List Int) : ((dOf ks f).any fun kv => decide (kv.1 = keyI y)) = decide (y ∈ ks) := by
  rw [valV_any, dOf_val]
  by_cases h : y ∈ ks
  · rw [if_pos h, decide_eq_true h]; rfl
  · rw [if_neg h, decide_eq_false h]; rfl
theorem dOf_put (f : List Int → V) (ks : List (List Int)) (y : List Int) (v : V) : putK (dOf ks f) (keyI y) v = dOf (kStep ks y) (fun z => if z = y then v else f z) := by
  unfold putK
  rw [any_key]
  unfold kStep
  by_cases h : y ∈ ks
  · rw [if_pos (decide_eq_true h), if_pos h]
    unfold dOf
    rw [List.map_map]
    apply List.map_congr_left
    intro z _
    show (if keyI z = keyI y then (keyI z, v) else (keyI z, f z)) = (keyI z, if z = y then v else f z)
    by_cases e : z = y
    · rw [if_pos (by rw [e]), if_pos e]
    · rw [if_neg fun q => e (keyI_inj q), if_neg e]
  · rw [if_neg (by rw [decide_eq_false h]; exact Bool.false_ne_true), if_neg h]
    unfold dOf
    rw [List.map_append]
    congr 1
    · apply List.map_congr_left
      intro z hz
      show (keyI z, f z) = (keyI z, if z = y then v else f z)
      rw [if_neg]
      rintro rfl
      exact h hz
    · show [(keyI y, v)] = [(keyI y, if y = y then v else f y)]
      rw [if_pos rfl]
theorem dOf_congr {f g : List Int → V} {ks : List (List Int)} (h : ∀ y ∈ ks, f y = g y) : dOf ks f = dOf ks g := by
  unfold dOf
  apply List.map_congr_left
  intro y hy
  rw [h y hy]
section
variable {K : PySem.W.Frag} {H : Hp} {σ : L2.St} {ta tb td ty te tv tx : TE} {D : Ends} {tz : TS} {b c : Addr} {k : List Int}
/-- a tuple that can be a key -/
def KeyAt (H : Hp) (b : Addr) (k : List Int) : Prop := H b = some (.tup (k.map V.int))
theorem KeyAt.mono {H H' : Hp} (e : Ex H H') (h : KeyAt H b k) : KeyAt H' b k := e _ _ h
theorem KeyAt.kv {H : Hp} (h : KeyAt H b k) : H b = some (.tup ((keyI k).map kV)) := by rw [keyI_kV]; exact h
theorem KeyAt.dp {H : Hp} (h : KeyAt H b k) : Dp K H (.ref b) (tupI k) := .tup (st_of h) (DpAll.ofInts _ _ _)
theorem KeyAt.of {H : Hp} {ks : List Key} (h : H b = some (.tup (ks.map kV))) (e : ks = keyI k) : KeyAt H b k := by
  unfold KeyAt
  rw [h, e, keyI_kV]
/-- k in d, k not in d, d[k], d.get(k, x), over tuples of ints -/
theorem ev_din {kvs : List (List Key × V)} (hy : Ev ty σ H (.ref b)) (hb : KeyAt H b k) (hd : Ev td σ H (.ref c)) (hc : Rd H c (.dT kvs)) : Ev (tDIn ty td) σ H (.bl (valV kvs (keyI k)).isSome) := fun H1 e _ q =>
  hy H1 e _ fun H2 e2 => hd H2 (e.trans e2) _ fun H3 e3 => ⟨c, _, rfl, .inr ⟨kvs, keyI k, b, ex_rd ((e.trans e2).trans e3) hc, rfl, (hb.mono ((e.trans e2).trans e3)).kv, rfl⟩, q H3 (e2.trans e3)⟩
theorem ev_dnotin {kvs : List (List Key × V)} (hy : Ev ty σ H (.ref b)) (hb : KeyAt H b k) (hd : Ev td σ H (.ref c)) (hc : Rd H c (.dT kvs)) : Ev (tDNotIn ty td) σ H (.bl (!(valV kvs (keyI k)).isSome)) := fun H1 e _ q =>
  hy H1 e _ fun H2 e2 => hd H2 (e.trans e2) _ fun H3 e3 => ⟨c, _, rfl, .inr ⟨kvs, keyI k, b, ex_rd ((e.trans e2).trans e3) hc, rfl, (hb.mono ((e.trans e2).trans e3)).kv, rfl⟩, q H3 (e2.trans e3)⟩
theorem ev_dget {kvs : List (List Key × V)} {v : V} (hd : Ev td σ H (.ref c)) (hc : Rd H c (.dT kvs)) (hy : Ev ty σ H (.ref b)) (hb : KeyAt H b k) (hv : valV kvs (keyI k) = some v) : Ev (tDGet td ty) σ H v := fun H1 e _ q =>
  hd H1 e _ fun H2 e2 => hy H2 (e.trans e2) _ fun H3 e3 => ⟨c, v, rfl, .inr ⟨kvs, keyI k, b, ex_rd ((e.trans e2).trans e3) hc, rfl, (hb.mono ((e.trans e2).trans e3)).kv, hv.symm⟩, q H3 (e2.trans e3)⟩
theorem ev_dget2 {kvs : List (List Key × V)} {x : V} (hd : Ev td σ H (.ref c)) (hc : Rd H c (.dT kvs)) (hy : Ev ty σ H (.ref b)) (hb : KeyAt H b k) (hx : Ev tx σ H x) : Ev (tDGet2 td ty tx) σ H ((valV kvs (keyI k)).getD x) := fun H1 e _ q =>
  hd H1 e _ fun H2 e2 => ⟨c, rfl, .inr ⟨kvs, ex_rd (e.trans e2) hc⟩, hy H2 (e.trans e2) _ fun H3 e3 => hx H3 ((e.trans e2).trans e3) _ fun H4 e4 => ⟨_, .inr ⟨kvs, keyI k, b, ex_rd (((e.trans e2).trans e3).trans e4) hc, rfl, (hb.mono (((e.trans e2).trans e3).trans e4)).kv, rfl⟩, q H4 ((e2.trans e3).trans e4)⟩⟩
/-- over ints -/
theorem ev_dinI {kvs : List (Key × V)} {n : Int} (hy : Ev ty σ H (.int n)) (hd : Ev td σ H (.ref c)) (hc : Rd H c (.dK kvs)) : Ev (tDIn ty td) σ H (.bl (valV kvs (Sum.inl n)).isSome) := fun H1 e _ q =>
  hy H1 e _ fun H2 e2 => hd H2 (e.trans e2) _ fun H3 e3 => ⟨c, _, rfl, .inl ⟨kvs, Sum.inl n, ex_rd ((e.trans e2).trans e3) hc, rfl, rfl⟩, q H3 (e2.trans e3)⟩
theorem ev_dgetI {kvs : List (Key × V)} {n : Int} {v : V} (hd : Ev td σ H (.ref c)) (hc : Rd H c (.dK kvs)) (hy : Ev ty σ H (.int n)) (hv : valV kvs (Sum.inl n) = some v) : Ev (tDGet td ty) σ H v := fun H1 e _ q =>
  hd H1 e _ fun H2 e2 => hy H2 (e.trans e2) _ fun H3 e3 => ⟨c, v, rfl, .inl ⟨kvs, Sum.inl n, ex_rd ((e.trans e2).trans e3) hc, rfl, hv.symm⟩, q H3 (e2.trans e3)⟩
/-- d[k] = e, behind the value -/
theorem s_dputV {ks : List (List Int)} {f : List Int → V} {v : V} (hd : Ev td σ H (.ref c)) (hc : H c = some (.dT (dOf ks f))) (hy : Ev ty σ H (.ref b)) (hb : KeyAt H b k) (hl : ks.length < 16000000) (q : ∀ H1, Ex H H1 → D.nx σ (upd H1 c (.dT (dOf (kStep ks k) fun z => if z = k then v else f z)))) :
    td σ H fun x H2 => ty σ H2 fun y H3 => ∃ a H4, x = .ref a ∧ DPut H3 a y v H4 ∧ D.nx σ H4 := hd H (Ex.refl H) _ fun H2 e2 => hy H2 e2 _ fun H3 e3 => ⟨c, _, rfl, DPut.t ((e2.trans e3) _ _ hc) ((hb.mono (e2.trans e3)).kv) (by rw [dOf_len]; exact Nat.lt_of_lt_of_le hl (by decide)), by
      rw [dOf_put]
      exact q H3 (e2.trans e3)⟩
theorem s_dputI {kvs : List (Key × V)} {n : Int} {v : V} (hd : Ev td σ H (.ref c)) (hc : H c = some (.dK kvs)) (hy : Ev ty σ H (.int n)) (hl : kvs.length < 16000000) (q : ∀ H1, Ex H H1 → D.nx σ (upd H1 c (.dK (putK kvs (Sum.inl n) v)))) :
    td σ H fun x H2 => ty σ H2 fun y H3 => ∃ a H4, x = .ref a ∧ DPut H3 a y v H4 ∧ D.nx σ H4 := hd H (Ex.refl H) _ fun H2 e2 => hy H2 e2 _ fun H3 e3 => ⟨c, _, rfl, DPut.k (k := Sum.inl n) ((e2.trans e3) _ _ hc) (Nat.lt_of_lt_of_le hl (by decide)), q H3 (e2.trans e3)⟩
end
/-! ### few keys -/
theorem nat_few {ks : List Nat} (h : ks.Nodup) {B : Nat} (hb : ∀ k ∈ ks, k < B) : ks.length ≤ B := by
  have := List.Nodup.length_le_of_subset h (l₂ := List.range B) fun k hk => List.mem_range.mpr (hb k hk)
  rw [List.length_range] at this
  exact this
theorem key_few {ks : List (List Int)} (h : ks.Nodup) (g : List Int → Nat) {B : Nat} (hi : ∀ y ∈ ks, ∀ z ∈ ks, g y = g z → y = z) (hb : ∀ k ∈ ks, g k < B) : ks.length ≤ B := by
  have hn : (ks.map g).Nodup := by
    rw [List.nodup_iff_pairwise_ne] at h ⊢
    rw [List.pairwise_map]
    exact List.Pairwise.imp_of_mem (fun {a b} ha hb hab e => hab (hi a ha b hb e)) h
  have := nat_few hn (B := B) fun k hk => by
    obtain ⟨y, hy, rfl⟩ := List.mem_map.mp hk
    exact hb y hy
  rw [List.length_map] at this
  exact this
end Bf

/-! # The passage from one chord to the next: what its object holds -/
namespace Bf
open PySem PySem.Spec PyProof.Rows L2 Evl
def nbB (β other n1 : Int) (pl : List Int) : List Int := pl.filter fun p => decide (p = other) || !decide ((n1 - p) % 12 = β)
theorem notBar_B (one other n1 : Int) (pl : List Int) : notBar one other n1 pl = nbB (barF one other n1) other n1 pl := notBar_bar one other n1 pl
/-- a passage: from a chord with the bass b to the chord e (behind it l), its places, its addresses -/
structure Pax where
  q : Cp05.Rules
  e : Cp05.Chord
  l : List Cp05.Chord
  b : Int
  wd : Nat
  P0 : List Int
  P1 : List Int
  P2 : List Int
  a : Addr
  dx : Addr
  r : Addr
  rw : Addr
  c1 : Addr
  c2 : Addr
  c3 : Addr
  c4 : Addr
  vb : V
  vp : V
namespace Pax
variable (x : Pax)
def b' : Int := x.e.bass.sound
def L (v : Nat) : Int := x.q.leap.getD v 0
def P (v : Nat) : List Int := [x.P0, x.P1, x.P2].getD v []
def G : Int → Int → Int → List Nat := groupL x.q x.e x.l
def rch (v : Nat) (p lo hi : Int) : List Int := reachF (x.L v) x.b x.b' (x.P v) p lo hi
def ten (a t a' : Int) : List Int := tenF (x.L 2) x.b x.b' x.P2 a t a'
def lT (β a t s' a' : Int) : List Nat := (nbB β t s' (x.ten a t a')).flatMap fun t' => (x.G s' a' t').map (· + x.q.move * (t' - t).natAbs)
def lA (s a t s' : Int) : List Nat := lsA (x.L 1) (x.L 2) x.b x.b' x.q.move x.P1 x.P2 x.G s a t s'
def lS (s a t : Int) : List Nat := lsS (x.L 0) (x.L 1) (x.L 2) x.b x.b' x.q.move x.P0 x.P1 x.P2 x.G s a t
def S : Addr → Bool := fun z => decide (z = x.c1) || (decide (z = x.c2) || (decide (z = x.c3) || decide (z = x.c4)))
theorem S1 : x.S x.c1 = true := by unfold S; rw [decide_eq_true rfl]; rfl
theorem S2 : x.S x.c2 = true := by unfold S; rw [decide_eq_true (rfl : x.c2 = x.c2)]; simp
theorem S3 : x.S x.c3 = true := by unfold S; rw [decide_eq_true (rfl : x.c3 = x.c3)]; simp
theorem S4 : x.S x.c4 = true := by unfold S; rw [decide_eq_true (rfl : x.c4 = x.c4)]; simp
theorem S_cases {z : Addr} (h : x.S z = true) : z = x.c1 ∨ z = x.c2 ∨ z = x.c3 ∨ z = x.c4 := by
  unfold S at h
  simpa using h
end Pax
theorem lsT_lT (x : Pax) (s a t s' a' : Int) : lsT (x.L 2) x.b x.b' x.q.move x.P2 x.G s a t s' a' = x.lT (barF s t s') a t s' a' := by
  unfold lsT Pax.lT Pax.ten
  rw [notBar_B]
theorem lA_eq (x : Pax) (s a t s' : Int) : x.lA s a t s' = (nbB (barF s a s') a s' (x.rch 1 a t s)).flatMap fun a' => (x.lT (barF s t s') a t s' a').map (· + x.q.move * (a' - a).natAbs) := by
  unfold Pax.lA lsA
  rw [notBar_B]
  congr 1
  funext a'
  rw [lsT_lT]
theorem lS_eq (x : Pax) (s a t : Int) : x.lS s a t = (x.rch 0 s a 119).flatMap fun s' => (x.lA s a t s').map (· + x.q.move * (s' - s).natAbs) := rfl
def sR (z : Int) : Prop := 0 ≤ z ∧ z ≤ 119
/-! ### which keys the four dicts have -/
def D1 (k : List Int) : Prop := ∃ v p lo hi, k = [v, p, lo, hi] ∧ 0 ≤ v ∧ v < 3 ∧ sR p ∧ -2 ≤ lo ∧ lo ≤ 121 ∧ sR hi
def D2 (k : List Int) : Prop := ∃ a t s β, k = [a, t, s, β] ∧ sR a ∧ sR t ∧ sR s ∧ -1 ≤ β ∧ β ≤ 7
def D3 (k : List Int) : Prop := ∃ a t s, k = [a, t, s] ∧ sR a ∧ sR t ∧ sR s
def g1 (k : List Int) : Nat := (((k.getD 0 0 * 120 + k.getD 1 0) * 124 + (k.getD 2 0 + 2)) * 120 + k.getD 3 0).toNat
def g2 (k : List Int) : Nat := (((k.getD 0 0 * 120 + k.getD 1 0) * 120 + k.getD 2 0) * 9 + (k.getD 3 0 + 1)).toNat
def g3 (k : List Int) : Nat := ((k.getD 0 0 * 120 + k.getD 1 0) * 120 + k.getD 2 0).toNat
theorem few1 {ks : List (List Int)} (h : ks.Nodup) (hd : ∀ k ∈ ks, D1 k) : ks.length < 16000000 := by
  have := key_few h g1 (B := 5356800) (fun y hy z hz e => by
    obtain ⟨v, p, lo, hi, rfl, a1, a2, a3, a4, a5, a6⟩ := hd y hy
    obtain ⟨v', p', lo', hi', rfl, b1, b2, b3, b4, b5, b6⟩ := hd z hz
    unfold sR at a3 a6 b3 b6
    have e' : (((v * 120 + p) * 124 + (lo + 2)) * 120 + hi).toNat = (((v' * 120 + p') * 124 + (lo' + 2)) * 120 + hi').toNat := e
    have h1 : v = v' := by omega
    have h2 : p = p' := by omega
    have h3 : lo = lo' := by omega
    have h4 : hi = hi' := by omega
    rw [h1, h2, h3, h4]) (fun y hy => by
    obtain ⟨v, p, lo, hi, rfl, a1, a2, a3, a4, a5, a6⟩ := hd y hy
    unfold sR at a3 a6
    show (((v * 120 + p) * 124 + (lo + 2)) * 120 + hi).toNat < 5356800
    omega)
  omega
theorem few2 {ks : List (List Int)} (h : ks.Nodup) (hd : ∀ k ∈ ks, D2 k) : ks.length < 16000000 := by
  have := key_few h g2 (B := 15552000) (fun y hy z hz e => by
    obtain ⟨v, p, lo, hi, rfl, a1, a2, a3, a4, a5⟩ := hd y hy
    obtain ⟨v', p', lo', hi', rfl, b1, b2, b3, b4, b5⟩ := hd z hz
    unfold sR at a1 a2 a3 b1 b2 b3
    have e' : (((v * 120 + p) * 120 + lo) * 9 + (hi + 1)).toNat = (((v' * 120 + p') * 120 + lo') * 9 + (hi' + 1)).toNat := e
    have h1 : v = v' := by omega
    have h2 : p = p' := by omega
    have h3 : lo = lo' := by omega
    have h4 : hi = hi' := by omega
    rw [h1, h2, h3, h4]) (fun y hy => by
    obtain ⟨v, p, lo, hi, rfl, a1, a2, a3, a4, a5⟩ := hd y hy
    unfold sR at a1 a2 a3
    show (((v * 120 + p) * 120 + lo) * 9 + (hi + 1)).toNat < 15552000
    omega)
  omega
theorem few3 {ks : List (List Int)} (h : ks.Nodup) (hd : ∀ k ∈ ks, D3 k) : ks.length < 16000000 := by
  have := key_few h g3 (B := 1728000) (fun y hy z hz e => by
    obtain ⟨v, p, lo, rfl, a1, a2, a3⟩ := hd y hy
    obtain ⟨v', p', lo', rfl, b1, b2, b3⟩ := hd z hz
    unfold sR at a1 a2 a3 b1 b2 b3
    have e' : ((v * 120 + p) * 120 + lo).toNat = ((v' * 120 + p') * 120 + lo').toNat := e
    have h1 : v = v' := by omega
    have h2 : p = p' := by omega
    have h3 : lo = lo' := by omega
    rw [h1, h2, h3]) (fun y hy => by
    obtain ⟨v, p, lo, rfl, a1, a2, a3⟩ := hd y hy
    unfold sR at a1 a2 a3
    show ((v * 120 + p) * 120 + lo).toNat < 1728000
    omega)
  omega
/-! ### the dicts that are filled on the way -/
def CaOk (H : Hp) (c : Addr) (Dom : List Int → Prop) (Good : List Int → V → Prop) : Prop := ∃ ks f, H c = some (.dT (dOf ks f)) ∧ ks.Nodup ∧ ∀ k ∈ ks, Dom k ∧ Good k (f k)
theorem CaOk.mono {H H' : Hp} {c : Addr} {Dom : List Int → Prop} {Good Good' : List Int → V → Prop} (h : CaOk H c Dom Good) (e : H c = H' c) (hg : ∀ k v, Good k v → Good' k v) : CaOk H' c Dom Good' := by
  obtain ⟨ks, f, h1, h2, h3⟩ := h
  exact ⟨ks, f, by rw [← e]; exact h1, h2, fun k hk => ⟨(h3 k hk).1, hg _ _ (h3 k hk).2⟩⟩
theorem CaOk.put {H : Hp} {c : Addr} {Dom : List Int → Prop} {Good : List Int → V → Prop} {ks : List (List Int)} {f : List Int → V} {k : List Int} {v : V} (nd : ks.Nodup) (h : ∀ k ∈ ks, Dom k ∧ Good k (f k)) (hd : Dom k) (hg : Good k v) :
    CaOk (upd H c (.dT (dOf (kStep ks k) fun z => if z = k then v else f z))) c Dom Good := by
  refine ⟨_, _, upd_same, kStep_nd nd k, fun z hz => ?_⟩
  by_cases e : z = k
  · subst e
    rw [if_pos rfl]
    exact ⟨hd, hg⟩
  · rw [if_neg e]
    rcases (kStep_mem ks k z).mp hz with hz | hz
    · exact h z hz
    · exact absurd hz e
def Good1 (K : PySem.W.Frag) (x : Pax) (G : Hp) (k : List Int) (u : V) : Prop := ∀ (v : Nat) (p lo hi : Int), k = [(v : Int), p, lo, hi] → Dp K G u (.list ((x.rch v p lo hi).map .int))
def Good2 (x : Pax) (G : Hp) (k : List Int) (u : V) : Prop := ∀ a t s' β : Int, k = [a, t, s', β] → ∃ r kk, u = .ref r ∧ G r = some (.dK kk) ∧ ∀ a' ∈ x.rch 1 a t 119, valV kk (Sum.inl a') = some (.int (tal x.wd ((x.lT β a t s' a').map (· + x.q.move * (a' - a).natAbs)) : Int))
def Good3 (x : Pax) (G : Hp) (k : List Int) (u : V) : Prop := ∀ p s' a' : Int, k = [p, s', a'] → ∃ r kk, u = .ref r ∧ G r = some (.dK kk) ∧ ∀ t', valV kk (Sum.inl t') = some (.int (tal x.wd ((x.G s' a' t').map (· + x.q.move * (t' - p).natAbs)) : Int)) ∨ (valV kk (Sum.inl t') = none ∧ x.G s' a' t' = [])
def Good4 (K : PySem.W.Frag) (x : Pax) (G : Hp) (k : List Int) (u : V) : Prop := ∀ a t a' : Int, k = [a, t, a'] → Dp K G u (.list ((x.ten a t a').map .int))
def RowAt (x : Pax) (G : Hp) (s' a' : Int) : Option V → Prop
  | some u => ∃ r ts, u = .ref r ∧ G r = some (.dK (kOf ts fun t => .int (tal x.wd (x.G s' a' t) : Int))) ∧ ts.length ≤ 4000 ∧ ∀ t, t ∉ ts → x.G s' a' t = []
  | none => ∀ t, x.G s' a' t = []
def RowsOk (x : Pax) (G : Hp) : Prop := ∃ kvs, G x.rw = some (.dT kvs) ∧ ∀ s' a' : Int, RowAt x G s' a' (valV kvs (keyI [s', a']))
structure PaTxt (K : PySem.W.Frag) (C : Addr) : Prop where
  cl : Cls K C
  n_rules : NoAttr K C "rules"
  n_basses : NoAttr K C "basses"
  n_width : NoAttr K C "width"
  n_rows : NoAttr K C "rows"
  n_places : NoAttr K C "places"
  n_reaches : NoAttr K C "reaches"
  n_alto_rows : NoAttr K C "alto_rows"
  n_tenor_rows : NoAttr K C "tenor_rows"
  n_tenors : NoAttr K C "tenors"
def paF (x : Pax) : List (Str × V) := [("rules", .ref x.r), ("basses", x.vb), ("width", .int (x.wd : Int)), ("rows", .ref x.rw), ("places", x.vp), ("reaches", .ref x.c1), ("alto_rows", .ref x.c2), ("tenor_rows", .ref x.c3), ("tenors", .ref x.c4)]
theorem paF_rules (x : Pax) : (paF x).lookup ("rules" : Str) = some (.ref x.r) := lk_here
theorem paF_basses (x : Pax) : (paF x).lookup ("basses" : Str) = some (x.vb) := (lk_past (by decide +kernel)).trans (lk_here)
theorem paF_width (x : Pax) : (paF x).lookup ("width" : Str) = some (.int (x.wd : Int)) := (lk_past (by decide +kernel)).trans ((lk_past (by decide +kernel)).trans (lk_here))
theorem paF_rows (x : Pax) : (paF x).lookup ("rows" : Str) = some (.ref x.rw) := (lk_past (by decide +kernel)).trans ((lk_past (by decide +kernel)).trans ((lk_past (by decide +kernel)).trans (lk_here)))
theorem paF_places (x : Pax) : (paF x).lookup ("places" : Str) = some (x.vp) := (lk_past (by decide +kernel)).trans ((lk_past (by decide +kernel)).trans ((lk_past (by decide +kernel)).trans ((lk_past (by decide +kernel)).trans (lk_here))))
theorem paF_reaches (x : Pax) : (paF x).lookup ("reaches" : Str) = some (.ref x.c1) := (lk_past (by decide +kernel)).trans ((lk_past (by decide +kernel)).trans ((lk_past (by decide +kernel)).trans ((lk_past (by decide +kernel)).trans ((lk_past (by decide +kernel)).trans (lk_here)))))
theorem paF_alto_rows (x : Pax) : (paF x).lookup ("alto_rows" : Str) = some (.ref x.c2) := (lk_past (by decide +kernel)).trans ((lk_past (by decide +kernel)).trans ((lk_past (by decide +kernel)).trans ((lk_past (by decide +kernel)).trans ((lk_past (by decide +kernel)).trans ((lk_past (by decide +kernel)).trans (lk_here))))))
theorem paF_tenor_rows (x : Pax) : (paF x).lookup ("tenor_rows" : Str) = some (.ref x.c3) := (lk_past (by decide +kernel)).trans ((lk_past (by decide +kernel)).trans ((lk_past (by decide +kernel)).trans ((lk_past (by decide +kernel)).trans ((lk_past (by decide +kernel)).trans ((lk_past (by decide +kernel)).trans ((lk_past (by decide +kernel)).trans (lk_here)))))))
theorem paF_tenors (x : Pax) : (paF x).lookup ("tenors" : Str) = some (.ref x.c4) := (lk_past (by decide +kernel)).trans ((lk_past (by decide +kernel)).trans ((lk_past (by decide +kernel)).trans ((lk_past (by decide +kernel)).trans ((lk_past (by decide +kernel)).trans ((lk_past (by decide +kernel)).trans ((lk_past (by decide +kernel)).trans ((lk_past (by decide +kernel)).trans (lk_here))))))))
theorem paF_no_tally_from (x : Pax) : (paF x).lookup ("tally_from" : Str) = none := (lk_past (by decide +kernel)).trans ((lk_past (by decide +kernel)).trans ((lk_past (by decide +kernel)).trans ((lk_past (by decide +kernel)).trans ((lk_past (by decide +kernel)).trans ((lk_past (by decide +kernel)).trans ((lk_past (by decide +kernel)).trans ((lk_past (by decide +kernel)).trans ((lk_past (by decide +kernel)).trans (rfl)))))))))
theorem paF_no_reach (x : Pax) : (paF x).lookup ("reach" : Str) = none := (lk_past (by decide +kernel)).trans ((lk_past (by decide +kernel)).trans ((lk_past (by decide +kernel)).trans ((lk_past (by decide +kernel)).trans ((lk_past (by decide +kernel)).trans ((lk_past (by decide +kernel)).trans ((lk_past (by decide +kernel)).trans ((lk_past (by decide +kernel)).trans ((lk_past (by decide +kernel)).trans (rfl)))))))))
theorem paF_no_places_for (x : Pax) : (paF x).lookup ("places_for" : Str) = none := (lk_past (by decide +kernel)).trans ((lk_past (by decide +kernel)).trans ((lk_past (by decide +kernel)).trans ((lk_past (by decide +kernel)).trans ((lk_past (by decide +kernel)).trans ((lk_past (by decide +kernel)).trans ((lk_past (by decide +kernel)).trans ((lk_past (by decide +kernel)).trans ((lk_past (by decide +kernel)).trans (rfl)))))))))
theorem paF_no_moved (x : Pax) : (paF x).lookup ("moved" : Str) = none := (lk_past (by decide +kernel)).trans ((lk_past (by decide +kernel)).trans ((lk_past (by decide +kernel)).trans ((lk_past (by decide +kernel)).trans ((lk_past (by decide +kernel)).trans ((lk_past (by decide +kernel)).trans ((lk_past (by decide +kernel)).trans ((lk_past (by decide +kernel)).trans ((lk_past (by decide +kernel)).trans (rfl)))))))))
theorem paF_no_sum_over_altos (x : Pax) : (paF x).lookup ("sum_over_altos" : Str) = none := (lk_past (by decide +kernel)).trans ((lk_past (by decide +kernel)).trans ((lk_past (by decide +kernel)).trans ((lk_past (by decide +kernel)).trans ((lk_past (by decide +kernel)).trans ((lk_past (by decide +kernel)).trans ((lk_past (by decide +kernel)).trans ((lk_past (by decide +kernel)).trans ((lk_past (by decide +kernel)).trans (rfl)))))))))
theorem paF_no_alto_row (x : Pax) : (paF x).lookup ("alto_row" : Str) = none := (lk_past (by decide +kernel)).trans ((lk_past (by decide +kernel)).trans ((lk_past (by decide +kernel)).trans ((lk_past (by decide +kernel)).trans ((lk_past (by decide +kernel)).trans ((lk_past (by decide +kernel)).trans ((lk_past (by decide +kernel)).trans ((lk_past (by decide +kernel)).trans ((lk_past (by decide +kernel)).trans (rfl)))))))))
theorem paF_no_sum_over_tenors (x : Pax) : (paF x).lookup ("sum_over_tenors" : Str) = none := (lk_past (by decide +kernel)).trans ((lk_past (by decide +kernel)).trans ((lk_past (by decide +kernel)).trans ((lk_past (by decide +kernel)).trans ((lk_past (by decide +kernel)).trans ((lk_past (by decide +kernel)).trans ((lk_past (by decide +kernel)).trans ((lk_past (by decide +kernel)).trans ((lk_past (by decide +kernel)).trans (rfl)))))))))
theorem paF_no_tenor_row (x : Pax) : (paF x).lookup ("tenor_row" : Str) = none := (lk_past (by decide +kernel)).trans ((lk_past (by decide +kernel)).trans ((lk_past (by decide +kernel)).trans ((lk_past (by decide +kernel)).trans ((lk_past (by decide +kernel)).trans ((lk_past (by decide +kernel)).trans ((lk_past (by decide +kernel)).trans ((lk_past (by decide +kernel)).trans ((lk_past (by decide +kernel)).trans (rfl)))))))))
theorem paF_no_tenors_beside (x : Pax) : (paF x).lookup ("tenors_beside" : Str) = none := (lk_past (by decide +kernel)).trans ((lk_past (by decide +kernel)).trans ((lk_past (by decide +kernel)).trans ((lk_past (by decide +kernel)).trans ((lk_past (by decide +kernel)).trans ((lk_past (by decide +kernel)).trans ((lk_past (by decide +kernel)).trans ((lk_past (by decide +kernel)).trans ((lk_past (by decide +kernel)).trans (rfl)))))))))
structure PaSt (K : PySem.W.Frag) (CR CP : Addr) (x : Pax) (G : Hp) : Prop where
  obj : G x.a = some (.ins CP x.dx (paF x))
  ru : RuAt K CR G x.r x.q
  ok : RuOk x.q
  vb : Dp K G x.vb (tupI [x.b, x.b'])
  vp : Dp K G x.vp (.list [.list (x.P0.map .int), .list (x.P1.map .int), .list (x.P2.map .int)])
  rows : RowsOk x G
  wd : x.wd ≤ 200
  few : (allL x.q x.e x.l).length < 2 ^ x.wd
  n0 : x.P0.Nodup
  n1 : x.P1.Nodup
  n2 : x.P2.Nodup
  pr : ∀ v, ∀ p ∈ x.P v, sR p
  pl : ∀ v, (x.P v).length ≤ 4000
  hp : ∀ y ∈ Cp05.settings x.q x.e, fV x.e 0 y ∈ x.P0 ∧ fV x.e 1 y ∈ x.P1 ∧ fV x.e 2 y ∈ x.P2
  bb : -2 ≤ x.b ∧ x.b ≤ 121
  c12 : x.c1 ≠ x.c2
  c13 : x.c1 ≠ x.c3
  c14 : x.c1 ≠ x.c4
  c23 : x.c2 ≠ x.c3
  c24 : x.c2 ≠ x.c4
  c34 : x.c3 ≠ x.c4
/-- what a move's price asks -/
structure PaM (K : PySem.W.Frag) (CR CP : Addr) (x : Pax) (G : Hp) : Prop where
  obj : G x.a = some (.ins CP x.dx (paF x))
  ru : RuAt K CR G x.r x.q
  ok : RuOk x.q
  wd : x.wd ≤ 200
theorem PaSt.m {K : PySem.W.Frag} {CR CP : Addr} {x : Pax} {G : Hp} (h : PaSt K CR CP x G) : PaM K CR CP x G := ⟨h.obj, h.ru, h.ok, h.wd⟩
theorem PaM.mono {K : PySem.W.Frag} {CR CP : Addr} {x : Pax} {G G' : Hp} (e : Ex G G') (h : PaM K CR CP x G) : PaM K CR CP x G' := ⟨e _ _ h.obj, h.ru.mono e, h.ok, h.wd⟩
theorem PaM.upd {K : PySem.W.Frag} {CR CP : Addr} {x : Pax} {G : Hp} {d : Addr} {kvs : List (Key × V)} {o : HO} (hd : G d = some (.dK kvs)) (h : PaM K CR CP x G) : PaM K CR CP x (upd G d o) := by
  obtain ⟨dx, vr, va, vl, r1, r2, r3, r4⟩ := h.ru
  have l := LSame.upd (o := o) (noSeq_dK hd)
  refine ⟨by rw [upd_ne (ne_of h.obj hd fun z => nomatch z)]; exact h.obj, ⟨dx, vr, va, vl, ?_, Dp.monoL l _ r2, Dp.monoL l _ r3, Dp.monoL l _ r4⟩, h.ok, h.wd⟩
  rw [upd_ne (ne_of r1 hd fun z => nomatch z)]
  exact r1
theorem PaM.cut {K : PySem.W.Frag} {CR CP : Addr} {x : Pax} {G : Hp} {d : Addr} {kvs : List (Key × V)} (hd : G d = some (.dK kvs)) (h : PaM K CR CP x G) : PaM K CR CP x (cutH G d) := by
  obtain ⟨dx, vr, va, vl, r1, r2, r3, r4⟩ := h.ru
  have l := LSame.cut (noSeq_dK hd)
  refine ⟨by rw [cutH_ne (ne_of h.obj hd fun z => nomatch z)]; exact h.obj, ⟨dx, vr, va, vl, ?_, Dp.monoL l _ r2, Dp.monoL l _ r3, Dp.monoL l _ r4⟩, h.ok, h.wd⟩
  rw [cutH_ne (ne_of r1 hd fun z => nomatch z)]
  exact r1
/-- all that holds of it; what it holds is read apart from S, the four that are filled among S -/
structure PaIn (K : PySem.W.Frag) (CR CP : Addr) (x : Pax) (S : Addr → Bool) (H : Hp) : Prop where
  sub : ∀ z, x.S z = true → S z = true
  ns : ∀ z, S z = true → (∃ o, H z = some o) ∧ NoSeq H z
  st : PaSt K CR CP x (cutS H S)
  k1 : CaOk H x.c1 D1 (Good1 K x (cutS H S))
  k2 : CaOk H x.c2 D2 (Good2 x (cutS H S))
  k3 : CaOk H x.c3 D3 (Good3 x (cutS H S))
  k4 : CaOk H x.c4 D3 (Good4 K x (cutS H S))
section
variable {K : PySem.W.Frag} {CR CP : Addr} {x : Pax} {G G' H H' : Hp}
theorem RowAt.mono (e : Ex G G') {s' a' : Int} : ∀ {o : Option V}, RowAt x G s' a' o → RowAt x G' s' a' o
  | some u, h => by
    obtain ⟨r, ts, h1, h2, h3⟩ := h
    exact ⟨r, ts, h1, e _ _ h2, h3⟩
  | none, h => h
theorem PaSt.mono (e : Ex G G') (h : PaSt K CR CP x G) : PaSt K CR CP x G' := by
  obtain ⟨kvs, r1, r2⟩ := h.rows
  exact { h with obj := e _ _ h.obj, ru := h.ru.mono e, vb := Dp.mono e _ h.vb, vp := Dp.mono e _ h.vp, rows := ⟨kvs, e _ _ r1, fun s' a' => (r2 s' a').mono e⟩ }
theorem Good1.mono (e : Ex G G') {k : List Int} {u : V} (h : Good1 K x G k u) : Good1 K x G' k u := fun v p lo hi ek => Dp.mono e _ (h v p lo hi ek)
theorem Good2.mono (e : Ex G G') {k : List Int} {u : V} (h : Good2 x G k u) : Good2 x G' k u := fun a t s' β ek => by
  obtain ⟨r, kk, h1, h2, h3⟩ := h a t s' β ek
  exact ⟨r, kk, h1, e _ _ h2, h3⟩
theorem Good3.mono (e : Ex G G') {k : List Int} {u : V} (h : Good3 x G k u) : Good3 x G' k u := fun a t s' ek => by
  obtain ⟨r, kk, h1, h2, h3⟩ := h a t s' ek
  exact ⟨r, kk, h1, e _ _ h2, h3⟩
theorem Good4.mono (e : Ex G G') {k : List Int} {u : V} (h : Good4 K x G k u) : Good4 K x G' k u := fun a t a' ek => Dp.mono e _ (h a t a' ek)
theorem CaOk.ex {c : Addr} {Dom : List Int → Prop} {Good Good' : List Int → V → Prop} (e : Ex H H') (h : CaOk H c Dom Good) (hg : ∀ k v, Good k v → Good' k v) : CaOk H' c Dom Good' := by
  obtain ⟨ks, f, h1, h2, h3⟩ := h
  exact ⟨ks, f, e _ _ h1, h2, fun k hk => ⟨(h3 k hk).1, hg _ _ (h3 k hk).2⟩⟩
theorem nsMono {S : Addr → Bool} (e : Ex H H') (h : ∀ z, S z = true → (∃ o, H z = some o) ∧ NoSeq H z) : ∀ z, S z = true → (∃ o, H' z = some o) ∧ NoSeq H' z := fun z hz => by
  obtain ⟨⟨o, ho⟩, h1, h2⟩ := h z hz
  have ho' := e _ _ ho
  refine ⟨⟨o, ho'⟩, fun xs r => h1 xs ?_, fun xs r => h2 xs ?_⟩
  · unfold Rd at r ⊢
    rw [ho'] at r
    rw [ho]
    exact r
  · unfold Rd at r ⊢
    rw [ho'] at r
    rw [ho]
    exact r
theorem nsUpd {S : Addr → Bool} {c : Addr} {kvs : List (List Key × V)} (h : ∀ z, S z = true → (∃ o, H z = some o) ∧ NoSeq H z) : ∀ z, S z = true → (∃ o, upd H c (.dT kvs) z = some o) ∧ NoSeq (upd H c (.dT kvs)) z := fun z hz => by
  by_cases e : z = c
  · subst e
    exact ⟨⟨_, upd_same⟩, noSeq_dT upd_same⟩
  · obtain ⟨⟨o, ho⟩, h1, h2⟩ := h z hz
    refine ⟨⟨o, by rw [upd_ne e]; exact ho⟩, fun xs r => h1 xs ?_, fun xs r => h2 xs ?_⟩ <;> unfold Rd at r ⊢ <;> rw [upd_ne e] at r <;> exact r
theorem nsUpdK {S : Addr → Bool} {c : Addr} {kvs : List (Key × V)} (h : ∀ z, S z = true → (∃ o, H z = some o) ∧ NoSeq H z) : ∀ z, S z = true → (∃ o, upd H c (.dK kvs) z = some o) ∧ NoSeq (upd H c (.dK kvs)) z := fun z hz => by
  by_cases e : z = c
  · subst e
    exact ⟨⟨_, upd_same⟩, noSeq_dK upd_same⟩
  · obtain ⟨⟨o, ho⟩, h1, h2⟩ := h z hz
    refine ⟨⟨o, by rw [upd_ne e]; exact ho⟩, fun xs r => h1 xs ?_, fun xs r => h2 xs ?_⟩ <;> unfold Rd at r ⊢ <;> rw [upd_ne e] at r <;> exact r
variable {S : Addr → Bool}
theorem PaIn.mono (e : Ex H H') (h : PaIn K CR CP x S H) : PaIn K CR CP x S H' :=
  have eS : Ex (cutS H S) (cutS H' S) := cutS_mono e
  ⟨h.sub, nsMono e h.ns, h.st.mono eS, h.k1.ex e fun _ _ g => g.mono eS, h.k2.ex e fun _ _ g => g.mono eS, h.k3.ex e fun _ _ g => g.mono eS, h.k4.ex e fun _ _ g => g.mono eS⟩
theorem PaIn.full (h : PaIn K CR CP x S H) : PaSt K CR CP x H := h.st.mono cutS_le
theorem PaIn.fresh (h : PaIn K CR CP x S H) {z : Addr} (hz : H z = none) : S z = false := by
  cases e : S z with
  | false => rfl
  | true =>
    obtain ⟨⟨o, ho⟩, _⟩ := h.ns z e
    rw [hz] at ho
    cases ho
/-- what stands apart from the four stands apart from S -/
theorem PaIn.stay (h : PaIn K CR CP x S H) {H1 H2 : Hp} (e : Ex (cutS H1 x.S) (cutS H2 x.S)) : Ex (cutS H1 S) (cutS H2 S) := fun b o hb => by
  cases hz : S b with
  | true => rw [cutS_in hz] at hb; cases hb
  | false =>
    have hx : x.S b = false := by
      cases q : x.S b with
      | false => rfl
      | true => rw [h.sub _ q] at hz; cases hz
    rw [cutS_ne hz] at hb ⊢
    have := e b o (by rw [cutS_ne hx]; exact hb)
    rw [cutS_ne hx] at this
    exact this
/-- lists and tuples are read apart from S -/
theorem PaIn.lsame (h : PaIn K CR CP x S H) : LSame H (cutS H S) := by
  constructor
  · intro z xs hz
    have : S z = false := by
      cases e : S z with
      | false => rfl
      | true => exact absurd hz ((h.ns z e).2.1 xs)
    unfold Rd at hz ⊢
    rw [cutS_ne this]
    exact hz
  · intro z xs hz
    have : S z = false := by
      cases e : S z with
      | false => rfl
      | true => exact absurd hz ((h.ns z e).2.2 xs)
    unfold Rd at hz ⊢
    rw [cutS_ne this]
    exact hz
/-- one address more -/
def also (S : Addr → Bool) (z : Addr) : Addr → Bool := fun b => decide (b = z) || S b
theorem also_z (S : Addr → Bool) (z : Addr) : also S z z = true := by unfold also; rw [decide_eq_true rfl]; rfl
theorem also_ne {S : Addr → Bool} {z b : Addr} (h : b ≠ z) : also S z b = S b := by unfold also; rw [decide_eq_false h]; rfl
theorem cutS_also {z : Addr} {o : HO} (hz : H z = none) : cutS (upd H z o) (also S z) = cutS H S := by
  funext b
  by_cases e : b = z
  · subst e
    rw [cutS_in (also_z S b)]
    cases q : S b with
    | true => rw [cutS_in q]
    | false => rw [cutS_ne q, hz]
  · cases q : S b with
    | true => rw [cutS_in q, cutS_in (by rw [also_ne e]; exact q)]
    | false => rw [cutS_ne q, cutS_ne (by rw [also_ne e]; exact q), upd_ne e]
theorem PaIn.extK (h : PaIn K CR CP x S H) {z : Addr} {kvs : List (Key × V)} (hz : H z = none) : PaIn K CR CP x (also S z) (upd H z (.dK kvs)) := by
  have e := cutS_also (S := S) (o := .dK kvs) hz
  have nc : ∀ c, x.S c = true → c ≠ z := fun c hc q => by
    obtain ⟨⟨o, ho⟩, _⟩ := h.ns c (h.sub c hc)
    rw [q, hz] at ho
    cases ho
  refine ⟨fun c hc => by rw [also_ne (nc c hc)]; exact h.sub c hc, fun c hc => ?_, by rw [e]; exact h.st, ?_, ?_, ?_, ?_⟩
  · by_cases q : c = z
    · subst q
      exact ⟨⟨_, upd_same⟩, noSeq_dK upd_same⟩
    · rw [also_ne q] at hc
      exact nsUpdK h.ns c hc
  · rw [e]; exact h.k1.mono (by rw [upd_ne (nc _ x.S1)]) fun _ _ g => g
  · rw [e]; exact h.k2.mono (by rw [upd_ne (nc _ x.S2)]) fun _ _ g => g
  · rw [e]; exact h.k3.mono (by rw [upd_ne (nc _ x.S3)]) fun _ _ g => g
  · rw [e]; exact h.k4.mono (by rw [upd_ne (nc _ x.S4)]) fun _ _ g => g
/-- what of S is none of the four may change -/
theorem PaIn.updK (h : PaIn K CR CP x S H) {z : Addr} {kvs : List (Key × V)} (hz : S z = true) (hx : x.S z = false) : PaIn K CR CP x S (upd H z (.dK kvs)) := by
  have e := cutS_upd (H := H) (o := .dK kvs) hz
  have nc : ∀ c, x.S c = true → c ≠ z := fun c hc q => by rw [q, hx] at hc; cases hc
  refine ⟨h.sub, nsUpdK h.ns, by rw [e]; exact h.st, ?_, ?_, ?_, ?_⟩
  · rw [e]; exact h.k1.mono (by rw [upd_ne (nc _ x.S1)]) fun _ _ g => g
  · rw [e]; exact h.k2.mono (by rw [upd_ne (nc _ x.S2)]) fun _ _ g => g
  · rw [e]; exact h.k3.mono (by rw [upd_ne (nc _ x.S3)]) fun _ _ g => g
  · rw [e]; exact h.k4.mono (by rw [upd_ne (nc _ x.S4)]) fun _ _ g => g
theorem PaIn.updT (h : PaIn K CR CP x S H) {z : Addr} {kvs : List (List Key × V)} (hz : S z = true) (hx : x.S z = false) : PaIn K CR CP x S (upd H z (.dT kvs)) := by
  have e := cutS_upd (H := H) (o := .dT kvs) hz
  have nc : ∀ c, x.S c = true → c ≠ z := fun c hc q => by rw [q, hx] at hc; cases hc
  refine ⟨h.sub, nsUpd h.ns, by rw [e]; exact h.st, ?_, ?_, ?_, ?_⟩
  · rw [e]; exact h.k1.mono (by rw [upd_ne (nc _ x.S1)]) fun _ _ g => g
  · rw [e]; exact h.k2.mono (by rw [upd_ne (nc _ x.S2)]) fun _ _ g => g
  · rw [e]; exact h.k3.mono (by rw [upd_ne (nc _ x.S3)]) fun _ _ g => g
  · rw [e]; exact h.k4.mono (by rw [upd_ne (nc _ x.S4)]) fun _ _ g => g
theorem cutS_sub {S' : Addr → Bool} (h : ∀ z, S z = true → S' z = true) : Ex (cutS H S') (cutS H S) := fun b o hb => by
  cases q : S' b with
  | true => rw [cutS_in q] at hb; cases hb
  | false =>
    have : S b = false := by
      cases r : S b with
      | false => rfl
      | true => rw [h b r] at q; cases q
    rw [cutS_ne q] at hb
    rw [cutS_ne this]
    exact hb
theorem PaIn.less {S' : Addr → Bool} (h : PaIn K CR CP x S' H) (h1 : ∀ z, S z = true → S' z = true) (h2 : ∀ z, x.S z = true → S z = true) : PaIn K CR CP x S H :=
  have eS : Ex (cutS H S') (cutS H S) := cutS_sub h1
  ⟨h2, fun z hz => h.ns z (h1 z hz), h.st.mono eS, h.k1.mono rfl fun _ _ g => g.mono eS, h.k2.mono rfl fun _ _ g => g.mono eS, h.k3.mono rfl fun _ _ g => g.mono eS, h.k4.mono rfl fun _ _ g => g.mono eS⟩
theorem PaIn.put1 (h : PaIn K CR CP x S H) {ks : List (List Int)} {f : List Int → V} {k : List Int} {v : V} (nd : ks.Nodup) (hk : ∀ k ∈ ks, D1 k ∧ Good1 K x (cutS H S) k (f k)) (hd : D1 k) (hg : Good1 K x (cutS H S) k v) :
    PaIn K CR CP x S (upd H x.c1 (.dT (dOf (kStep ks k) fun z => if z = k then v else f z))) ∧ cutS (upd H x.c1 (.dT (dOf (kStep ks k) fun z => if z = k then v else f z))) S = cutS H S := by
  have e := cutS_upd (H := H) (o := .dT (dOf (kStep ks k) fun z => if z = k then v else f z)) (h.sub _ x.S1)
  have hs := h.st
  refine ⟨⟨h.sub, nsUpd h.ns, by rw [e]; exact hs, ?_, ?_, ?_, ?_⟩, e⟩ <;> rw [e]
  · exact CaOk.put nd hk hd hg
  · exact h.k2.mono (by rw [upd_ne hs.c12.symm]) fun _ _ g => g
  · exact h.k3.mono (by rw [upd_ne hs.c13.symm]) fun _ _ g => g
  · exact h.k4.mono (by rw [upd_ne hs.c14.symm]) fun _ _ g => g
theorem PaIn.put2 (h : PaIn K CR CP x S H) {ks : List (List Int)} {f : List Int → V} {k : List Int} {v : V} (nd : ks.Nodup) (hk : ∀ k ∈ ks, D2 k ∧ Good2 x (cutS H S) k (f k)) (hd : D2 k) (hg : Good2 x (cutS H S) k v) :
    PaIn K CR CP x S (upd H x.c2 (.dT (dOf (kStep ks k) fun z => if z = k then v else f z))) ∧ cutS (upd H x.c2 (.dT (dOf (kStep ks k) fun z => if z = k then v else f z))) S = cutS H S := by
  have e := cutS_upd (H := H) (o := .dT (dOf (kStep ks k) fun z => if z = k then v else f z)) (h.sub _ x.S2)
  have hs := h.st
  refine ⟨⟨h.sub, nsUpd h.ns, by rw [e]; exact hs, ?_, ?_, ?_, ?_⟩, e⟩ <;> rw [e]
  · exact h.k1.mono (by rw [upd_ne hs.c12]) fun _ _ g => g
  · exact CaOk.put nd hk hd hg
  · exact h.k3.mono (by rw [upd_ne hs.c23.symm]) fun _ _ g => g
  · exact h.k4.mono (by rw [upd_ne hs.c24.symm]) fun _ _ g => g
theorem PaIn.put3 (h : PaIn K CR CP x S H) {ks : List (List Int)} {f : List Int → V} {k : List Int} {v : V} (nd : ks.Nodup) (hk : ∀ k ∈ ks, D3 k ∧ Good3 x (cutS H S) k (f k)) (hd : D3 k) (hg : Good3 x (cutS H S) k v) :
    PaIn K CR CP x S (upd H x.c3 (.dT (dOf (kStep ks k) fun z => if z = k then v else f z))) ∧ cutS (upd H x.c3 (.dT (dOf (kStep ks k) fun z => if z = k then v else f z))) S = cutS H S := by
  have e := cutS_upd (H := H) (o := .dT (dOf (kStep ks k) fun z => if z = k then v else f z)) (h.sub _ x.S3)
  have hs := h.st
  refine ⟨⟨h.sub, nsUpd h.ns, by rw [e]; exact hs, ?_, ?_, ?_, ?_⟩, e⟩ <;> rw [e]
  · exact h.k1.mono (by rw [upd_ne hs.c13]) fun _ _ g => g
  · exact h.k2.mono (by rw [upd_ne hs.c23]) fun _ _ g => g
  · exact CaOk.put nd hk hd hg
  · exact h.k4.mono (by rw [upd_ne hs.c34.symm]) fun _ _ g => g
theorem PaIn.put4 (h : PaIn K CR CP x S H) {ks : List (List Int)} {f : List Int → V} {k : List Int} {v : V} (nd : ks.Nodup) (hk : ∀ k ∈ ks, D3 k ∧ Good4 K x (cutS H S) k (f k)) (hd : D3 k) (hg : Good4 K x (cutS H S) k v) :
    PaIn K CR CP x S (upd H x.c4 (.dT (dOf (kStep ks k) fun z => if z = k then v else f z))) ∧ cutS (upd H x.c4 (.dT (dOf (kStep ks k) fun z => if z = k then v else f z))) S = cutS H S := by
  have e := cutS_upd (H := H) (o := .dT (dOf (kStep ks k) fun z => if z = k then v else f z)) (h.sub _ x.S4)
  have hs := h.st
  refine ⟨⟨h.sub, nsUpd h.ns, by rw [e]; exact hs, ?_, ?_, ?_, ?_⟩, e⟩ <;> rw [e]
  · exact h.k1.mono (by rw [upd_ne hs.c14]) fun _ _ g => g
  · exact h.k2.mono (by rw [upd_ne hs.c24]) fun _ _ g => g
  · exact h.k3.mono (by rw [upd_ne hs.c34]) fun _ _ g => g
  · exact CaOk.put nd hk hd hg
end
/-- a method's promise: A says of which arguments what is given back -/
def SpP (K : PySem.W.Frag) (CR CP : Addr) (A : Pax → Hp → List V → (Hp → V → Prop) → Prop) : Sp := fun vs H Q _ => ∃ (x : Pax) (S : Addr → Bool) (us : List V) (Post : Hp → V → Prop), vs = .ref x.a :: us ∧ PaIn K CR CP x S H ∧ A x H us Post ∧
  ∀ v H', PaIn K CR CP x S H' → Ex (cutS H x.S) (cutS H' x.S) → Post (cutS H' S) v → Q v H'
/-- the price of a move -/
def SpV (K : PySem.W.Frag) (CR CP : Addr) : Sp := fun vs H Q _ => ∃ (x : Pax) (n : Nat) (s p : Int), vs = [.ref x.a, .int (n : Int), .int s, .int p] ∧ PaM K CR CP x H ∧ ∀ H', Ex H H' → Q (.int ((n / 2 ^ (x.q.move * (p - s).natAbs * x.wd) : Nat) : Int)) H'
/-- one that fills nothing -/
def SpQ (K : PySem.W.Frag) (CR CP : Addr) (A : Pax → Hp → List V → (Hp → V → Prop) → Prop) : Sp := fun vs H Q _ => ∃ (x : Pax) (us : List V) (Post : Hp → V → Prop), vs = .ref x.a :: us ∧ PaSt K CR CP x H ∧ A x H us Post ∧
  ∀ v H', Ex H H' → Post H' v → Q v H'
/-- the method m of the class C keeps sp -/
def MtC (P : Program) (w : World) (K : PySem.W.Frag) (mg : Str → Option Value) (base : Heap) (C : Addr) (m : Str) (k : Nat) (ps : List Str) (sp : Sp) : Prop := ∃ f fd, Meth K C m f ∧ Binds K fd ps [] ∧ FnOk P w K mg base CX0 k f fd ps sp
def APlaces (K : PySem.W.Frag) (x : Pax) (_ : Hp) (us : List V) (Post : Hp → V → Prop) : Prop := ∃ (v : Nat) (p lo hi : Int), us = [.int (v : Int), .int p, .int lo, .int hi] ∧ v < 3 ∧ Post = fun G u => Dp K G u (.list ((x.rch v p lo hi).map .int))
def AReach (K : PySem.W.Frag) (x : Pax) (_ : Hp) (us : List V) (Post : Hp → V → Prop) : Prop := ∃ (v : Nat) (p lo hi : Int), us = [.int (v : Int), .int p, .int lo, .int hi] ∧ v < 3 ∧ sR p ∧ (-2 ≤ lo ∧ lo ≤ 121) ∧ sR hi ∧ Post = fun G u => Dp K G u (.list ((x.rch v p lo hi).map .int))
def AHere (K : PySem.W.Frag) (H : Hp) (x : Pax) (u : V) (s a t : Int) : Prop := Dp K H u (tupI [s, a, t, x.b]) ∧ sR s ∧ sR a ∧ sR t
def ATenBes (K : PySem.W.Frag) (x : Pax) (H : Hp) (us : List V) (Post : Hp → V → Prop) : Prop := ∃ (h : V) (s a t a' : Int), us = [h, .int a'] ∧ AHere K H x h s a t ∧ sR a' ∧ Post = fun G u => Dp K G u (.list ((x.ten a t a').map .int))
def ATenRow (x : Pax) (_ : Hp) (us : List V) (Post : Hp → V → Prop) : Prop := ∃ (p s' a' : Int), us = [.int p, .int s', .int a'] ∧ sR p ∧ sR s' ∧ sR a' ∧ Post = fun G u => ∃ r kk, u = .ref r ∧ G r = some (.dK kk) ∧ ∀ t', valV kk (Sum.inl t') = some (.int (tal x.wd ((x.G s' a' t').map (· + x.q.move * (t' - p).natAbs)) : Int)) ∨ (valV kk (Sum.inl t') = none ∧ x.G s' a' t' = [])
def ASumT (K : PySem.W.Frag) (x : Pax) (H : Hp) (us : List V) (Post : Hp → V → Prop) : Prop := ∃ (h : V) (s a t s' a' : Int), us = [h, .int s', .int a', .int (barF s t s')] ∧ AHere K H x h s a t ∧ sR s' ∧ sR a' ∧ Post = fun _ u => u = .int (tal x.wd (x.lT (barF s t s') a t s' a') : Int)
def AAltoRow (K : PySem.W.Frag) (x : Pax) (H : Hp) (us : List V) (Post : Hp → V → Prop) : Prop := ∃ (h : V) (s a t s' : Int), us = [h, .int s'] ∧ AHere K H x h s a t ∧ sR s' ∧ Post = fun G u => ∃ r kk, u = .ref r ∧ G r = some (.dK kk) ∧ ∀ a' ∈ x.rch 1 a t 119, valV kk (Sum.inl a') = some (.int (tal x.wd ((x.lT (barF s t s') a t s' a').map (· + x.q.move * (a' - a).natAbs)) : Int))
def ASumA (K : PySem.W.Frag) (x : Pax) (H : Hp) (us : List V) (Post : Hp → V → Prop) : Prop := ∃ (h : V) (s a t s' : Int) (al : V), us = [h, .int s', al] ∧ AHere K H x h s a t ∧ sR s' ∧ Dp K H al (.list ((x.rch 1 a t s).map .int)) ∧ Post = fun _ u => u = .int (tal x.wd (x.lA s a t s') : Int)
def ATally (K : PySem.W.Frag) (x : Pax) (H : Hp) (us : List V) (Post : Hp → V → Prop) : Prop := ∃ (h : V) (s a t : Int), us = [h] ∧ AHere K H x h s a t ∧ Post = fun _ u => u = .int (tal x.wd (aheadL x.q (x.e :: x.l) [s, a, t, x.b]) : Int)
end Bf

namespace Bf
open PySem PySem.Spec PyProof.Rows L2 Evl
abbrev sTally : Stmt := inClass (top 79) 1
abbrev sReach : Stmt := inClass (top 79) 2
abbrev sPlaces : Stmt := inClass (top 79) 3
abbrev sPaMoved : Stmt := inClass (top 79) 4
abbrev sSumA : Stmt := inClass (top 79) 5
abbrev sAltoRow : Stmt := inClass (top 79) 6
abbrev sSumT : Stmt := inClass (top 79) 7
abbrev sTenRow : Stmt := inClass (top 79) 8
abbrev sTenBes : Stmt := inClass (top 79) 9
section
variable {P : Program} {w : World} {K : PySem.W.Frag} {mg : Str → Option Value} {base : Heap} {CR CP f : Addr} {fd : FuncData} {x : Pax} {G H : Hp} {σ : L2.St} {S : Addr → Bool}
/-! ### its fields -/
theorem PaM.rules_ (h : PaM K CR CP x G) (T : PaTxt K CP) (h0 : σ[0]? = some (some (.ref x.a))) : Ev (tFld K (tVar 0) "rules") σ G (.ref x.r) := ev_fld (ev_var h0) h.obj T.cl T.n_rules (paF_rules x)
theorem PaM.width_ (h : PaM K CR CP x G) (T : PaTxt K CP) (h0 : σ[0]? = some (some (.ref x.a))) : Dv K (tFld K (tVar 0) "width") σ G (.int (x.wd : Int)) := dv_fld (ev_var h0) h.obj T.cl T.n_width (paF_width x) (.int _)
theorem PaM.move_ (h : PaM K CR CP x G) (T : PaTxt K CP) (TR : RuTxt K CR) (h0 : σ[0]? = some (some (.ref x.a))) : Dv K (tFld K (tFld K (tVar 0) "rules") "move") σ G (.int (x.q.move : Int)) := by
  obtain ⟨dx, vr, va, vl, r1, r2, r3, r4⟩ := h.ru
  exact dv_fld (h.rules_ T h0) r1 TR.cl TR.nM (ruF_move _ _ _ _) (.int _)
theorem PaSt.leap_ (h : PaSt K CR CP x G) (T : PaTxt K CP) (TR : RuTxt K CR) (h0 : σ[0]? = some (some (.ref x.a))) {tb : TE} {v : Nat} (hv : v < 3) (hb : Dv K tb σ G (.int (v : Int))) : Dv K (tOp (rIxL K) (tFld K (tFld K (tVar 0) "rules") "leaps") tb) σ G (.int (x.L v)) := by
  obtain ⟨dx, vr, va, vl, r1, r2, r3, r4⟩ := h.ru
  obtain ⟨l0, l1, l2, e⟩ := h.ok.l3
  exact dv_ixL (j := v) (dv_fld (h.m.rules_ T h0) r1 TR.cl TR.nL (ruF_leaps _ _ _ _) r4) hb rfl (int_at (getD_at (by rw [e]; exact hv)))
theorem PaSt.bass_ (h : PaSt K CR CP x G) (T : PaTxt K CP) (h0 : σ[0]? = some (some (.ref x.a))) : Dv K (tFld K (tVar 0) "basses") σ G (tupI [x.b, x.b']) := dv_fld (ev_var h0) h.obj T.cl T.n_basses (paF_basses x) h.vb
theorem PaSt.bass0 (h : PaSt K CR CP x G) (T : PaTxt K CP) (h0 : σ[0]? = some (some (.ref x.a))) : Dv K (tOp (rIxT K) (tFld K (tVar 0) "basses") (tC (.int 0))) σ G (.int x.b) := dv_ixT (j := 0) (ds := [x.b, x.b'].map .int) (h.bass_ T h0) dv_int rfl rfl
theorem PaSt.bass1 (h : PaSt K CR CP x G) (T : PaTxt K CP) (h0 : σ[0]? = some (some (.ref x.a))) : Dv K (tOp (rIxT K) (tFld K (tVar 0) "basses") (tC (.int 1))) σ G (.int x.b') := dv_ixT (j := 1) (ds := [x.b, x.b'].map .int) (h.bass_ T h0) dv_int rfl rfl
theorem PaSt.places_ (h : PaSt K CR CP x G) (T : PaTxt K CP) (h0 : σ[0]? = some (some (.ref x.a))) {tb : TE} {v : Nat} (hv : v < 3) (hb : Dv K tb σ G (.int (v : Int))) : Dv K (tOp (rIxL K) (tFld K (tVar 0) "places") tb) σ G (.list ((x.P v).map .int)) := by
  refine dv_ixL (j := v) (dv_fld (ev_var h0) h.obj T.cl T.n_places (paF_places x) h.vp) hb rfl ?_
  match v, hv with
  | 0, _ => rfl
  | 1, _ => rfl
  | 2, _ => rfl
abbrev nmPm : List Str := ["self", "tally", "sound", "place"]
theorem scPm : FnScope nmPm ["self", "tally", "sound", "place"] (defScope sPaMoved) := ⟨rfl, rfl, rfl, by decide +kernel, rfl, by decide +kernel, by decide +kernel⟩
theorem ok_pmoved (F : Fun K "moved" "Passage.moved" sPaMoved f fd) (T : PaTxt K CP) (TR : RuTxt K CR) (ga : mg "abs" = none) (c : Cal P w K mg base "made_dearer" 1 ["tally", "cost", "width"] (SpD K RDear)) : FnOk P w K mg base CX0 2 f fd ["self", "tally", "sound", "place"] (SpV K CR CP) := by
  refine F.ok scPm (fun vs H Q E h => ?_) (fun cdv A outer s H vs Q E hr h => ?_)
  · obtain ⟨x, n, s, p, rfl, _⟩ := h
    rfl
  · obtain ⟨x, n, sd, p, rfl, hP, k⟩ := h
    refine ⟨_, pss_one (ps_ret (pe_cal c hr (pa_cons (pv 1) (pa_cons (pe_op op_mul (pe_fld (pe_fld (pv 0) rfl) rfl) (pe_callB call_abs (by rfl) ga (by decide +kernel) (pa_cons (pe_op op_sub (pv 3) (pv 2)) pa_nil))) (pa_cons (pe_fld (pv 0) rfl) pa_nil))))), ?_⟩
    have hm := hP.ok.m20
    refine s_retD (K := K) (d := natD (n / 2 ^ (x.q.move * (p - sd).natAbs * x.wd))) (dv_call (da_cons (dv_vi rfl) (da_cons (dv_IC (hP.move_ T TR rfl) (dv_abs (dv_I (dv_vi rfl) (dv_vi rfl))) (mul_smallL (by omega) (by omega))) (da_cons (hP.width_ T rfl) da_nil))) ⟨n, x.q.move * (p - sd).natAbs, x.wd, ?_, hP.wd, rfl⟩) fun v H1 e1 hv => by
      rw [show v = .int ((n / 2 ^ (x.q.move * (p - sd).natAbs * x.wd) : Nat) : Int) from hv.int_inv]
      exact k H1 e1
    unfold natD
    push_cast
    rfl
abbrev nmPf : List Str := ["self", "voice", "sound", "lowest", "highest", "low", "high", "places", "place"]
theorem scPf : FnScope nmPf ["self", "voice", "sound", "lowest", "highest"] (defScope sPlaces) := ⟨rfl, rfl, rfl, by decide +kernel, rfl, by decide +kernel, by decide +kernel⟩
theorem ok_places (F : Fun K "places_for" "Passage.places_for" sPlaces f fd) (T : PaTxt K CP) (TR : RuTxt K CR) (gM : mg "max" = none) (gm : mg "min" = none) (c : Cal P w K mg base "is_parallel" 3 ["one", "other", "next_one", "next_other"] (SpD K RIsPar)) : FnOk P w K mg base CX0 4 f fd ["self", "voice", "sound", "lowest", "highest"] (SpQ K CR CP (APlaces K)) := by
  refine F.ok scPf (fun vs H Q E h => ?_) (fun cdv A outer s H vs Q E hr h => ?_)
  · obtain ⟨x, _, _, rfl, _, ⟨v, p, lo, hi, rfl, _⟩, _⟩ := h
    rfl
  · obtain ⟨x, _, _, rfl, hP, ⟨v, p, lo, hi, rfl, hv, rfl⟩, k⟩ := h
    refine ⟨_, pss_cons (ps_set (i := 5) scPf.nd rfl (Or.inr rfl) (pe_callB (call_max2 rfl) (by rfl) gM (by decide +kernel) (pa_cons (pv 3) (pa_cons (pe_op op_sub (pv 2) (pe_ix ix_list (pe_fld (pe_fld (pv 0) rfl) rfl) (pv 1) (fun _ _ => rfl))) pa_nil))))
      (pss_cons (ps_set (i := 6) scPf.nd rfl (Or.inr rfl) (pe_callB (call_min2 rfl) (by rfl) gm (by decide +kernel) (pa_cons (pv 4) (pa_cons (pe_op op_add (pv 2) (pe_ix ix_list (pe_fld (pe_fld (pv 0) rfl) rfl) (pv 1) (fun _ _ => rfl))) pa_nil))))
      (pss_cons (ps_setLc (i := 7) (own := [("place", 8)]) (g := gName 8) rfl scPf.nd rfl rfl (sw_true rfl rfl rfl (by decide +kernel)) (pi_list (pe_ix ix_list (pe_fld (pv 0) rfl) (pv 1) (fun _ _ => rfl))) (blkOk_by (own := [("place", 8)]) (N := nmPf) (sc := defScope sPlaces) (by decide +kernel)) (fun _ _ _ _ _ => pg_name (i := 8) scPf.nd rfl (Or.inl rfl)) (fun _ _ _ _ _ => pts_one (pt_chain op_le op_le (pv 5) (pv 8) (pv 6))) (fun _ _ _ _ _ => pv 8))
      (pss_one (ps_ret (pe_lc (own := [("place", 8)]) (g := gName 8) (tt := tNot (tB (tCall (SpD K RIsPar) [] E0 (tCons (tVar 2) (tCons (tOp (rIxT K) (tFld K (tVar 0) "basses") (tC (.int 0))) (tCons (tVar 8) (tCons (tOp (rIxT K) (tFld K (tVar 0) "basses") (tC (.int 1))) tNil))))))) rfl scPf.nd (pi_list (pv 7)) (blkOk_by (own := [("place", 8)]) (N := nmPf) (sc := defScope sPlaces) (by decide +kernel)) (fun _ _ _ _ _ => pg_name (i := 8) scPf.nd rfl (Or.inl rfl))
        (fun _ _ _ _ _ => pts_one (pt_not (pt_val (pe_cal c hr (pa_cons (pv 2) (pa_cons (pe_ix ix_tup (pe_fld (pv 0) rfl) pe_int (fun _ _ => rfl)) (pa_cons (pv 8) (pa_cons (pe_ix ix_tup (pe_fld (pv 0) rfl) pe_int (fun _ _ => rfl)) pa_nil)))))))) (fun _ _ _ _ _ => pv 8)))))), ?_⟩
    have pl := hP.pl v
    refine q_asg (ev_int (K := K) (dv_max (dv_vi rfl) (dv_I (dv_vi rfl) (hP.leap_ T TR rfl hv (dv_vi rfl))))) fun H1 e1 => ?_
    refine q_asg (ev_int (K := K) (dv_min (dv_vi rfl) (dv_I (dv_vi rfl) ((hP.mono e1).leap_ T TR rfl hv (dv_vi rfl))))) fun H2 e2 => ?_
    have hP2 := hP.mono (e1.trans e2)
    refine q_asgDL (K := K) (dvl_lc (l := x.P v) (enc := PyData.int) (fun y => decide (max lo (p - x.L v) ≤ y) && decide (y ≤ min hi (p + x.L v))) PyData.int (hP2.places_ T rfl hv (dv_vi rfl)) (by omega) (fun _ => rfl) (fun y _ => nl_int y) (fun y _ u H3 e3 hy => ?_) (fun y _ _ u H3 e3 hy => dv_var rfl hy)) fun pp xs H3 hpp e3 h3 hx => ?_
    · cases hy.int_inv
      exact dt_test (dv_chain (K := K) (dv_vi rfl) (dv_vi rfl) (dv_vi rfl))
    · have hP3 := hP2.mono e3
      refine s_retDL (dvl_is (dvl_lc (l := (x.P v).filter fun y => decide (max lo (p - x.L v) ≤ y) && decide (y ≤ min hi (p + x.L v))) (enc := PyData.int) (fun y => !parS p x.b y x.b') PyData.int (dv_var rfl (.lst (sq_of h3) hx)) (Nat.le_trans (List.length_filter_le _ _) (by omega)) (fun _ => rfl) (fun y _ => nl_int y) (fun y _ u H4 e4 hy => ?_) (fun y _ _ u H4 e4 hy => dv_var rfl hy)) rfl) fun r zs H4 hr4 e4 h4 hz => k (.ref r) H4 (((e1.trans e2).trans e3).trans e4) (.lst (sq_of h4) hz)
      cases hy.int_inv
      exact et_not (dt_B (dv_call (K := K) (da_cons (dv_vi rfl) (da_cons ((hP3.mono e4).bass0 T rfl) (da_cons (dv_vi rfl) (da_cons ((hP3.mono e4).bass1 T rfl) da_nil)))) ⟨p, x.b, y, x.b', rfl, rfl⟩))
abbrev nmRe : List Str := ["self", "voice", "sound", "lowest", "highest", "key"]
theorem scRe : FnScope nmRe ["self", "voice", "sound", "lowest", "highest"] (defScope sReach) := ⟨rfl, rfl, rfl, by decide +kernel, rfl, by decide +kernel, by decide +kernel⟩
theorem ok_reach (F : Fun K "reach" "Passage.reach" sReach f fd) (T : PaTxt K CP) (m : MtC P w K mg base CP "places_for" 4 ["self", "voice", "sound", "lowest", "highest"] (SpQ K CR CP (APlaces K))) : FnOk P w K mg base CX0 5 f fd ["self", "voice", "sound", "lowest", "highest"] (SpP K CR CP (AReach K)) := by
  obtain ⟨f1, fd1, M1, b1, F1⟩ := m
  refine F.ok scRe (fun vs H Q E h => ?_) (fun cdv A outer s H vs Q E hr h => ?_)
  · obtain ⟨x, _, _, _, rfl, _, ⟨v, p, lo, hi, rfl, _⟩, _⟩ := h
    rfl
  · obtain ⟨x, S, _, _, rfl, hP, ⟨v, p, lo, hi, rfl, hv, hp, hlo, hhi, rfl⟩, k⟩ := h
    refine ⟨_, pss_cons (ps_set (i := 5) scRe.nd rfl (Or.inl rfl) (pe_tup (pa_cons (pv 1) (pa_cons (pv 2) (pa_cons (pv 3) (pa_cons (pv 4) pa_nil))))))
      (pss_cons (ps_if (pt_cmp (pc_dnotin (hu_of hr) (pv 5) (pe_fld (pv 0) rfl))) (pss_one (ps_dput (hu_of hr) (pe_fld (pv 0) rfl) (pv 5) (pe_meth (pv 0) T.cl M1 F1 hr b1 .nil pass0 (pa_cons (pv 1) (pa_cons (pv 2) (pa_cons (pv 3) (pa_cons (pv 4) pa_nil))))) rfl)) pss_nil)
      (pss_one (ps_ret (pe_dget (hu_of hr) (pe_fld (pv 0) rfl) (pv 5) (fun _ _ => rfl))))), ?_⟩
    refine q_asgU (xs := [(v : Int), p, lo, hi].map V.int) (eu_tup (ea_cons (ev_var rfl) (ea_cons (ev_var rfl) (ea_cons (ev_var rfl) (ea_cons (ev_var rfl) ea_nil)))) (by show 4 ≤ 100000; decide)) fun kb H1 hkb e1 h1 => ?_
    have hP1 := hP.mono e1
    have hKey : KeyAt H1 kb [(v : Int), p, lo, hi] := h1
    have fld : ∀ G, PaSt K CR CP x G → ∀ σ : L2.St, σ[0]? = some (some (.ref x.a)) → Ev (tFld K (tVar 0) "reaches") σ G (.ref x.c1) := fun G hG σ h0 => ev_fld (ev_var h0) hG.obj T.cl T.n_reaches (paF_reaches x)
    have hdom : D1 [(v : Int), p, lo, hi] := ⟨v, p, lo, hi, rfl, by omega, by omega, hp, hlo.1, hlo.2, hhi⟩
    -- what is read at the end
    have ret : ∀ H2, PaIn K CR CP x S H2 → Ex (cutS H1 x.S) (cutS H2 x.S) → KeyAt H2 kb [(v : Int), p, lo, hi] → (∃ ks g, H2 x.c1 = some (.dT (dOf ks g)) ∧ [(v : Int), p, lo, hi] ∈ ks ∧ Good1 K x (cutS H2 S) [(v : Int), p, lo, hi] (g [(v : Int), p, lo, hi])) →
        tRet (tDGet (tFld K (tVar 0) "reaches") (tVar 5)) { nx := fun _ H' => Q .non H', rt := Q } [some (.ref x.a), some (.int (v : Int)), some (.int p), some (.int lo), some (.int hi), some (.ref kb)] H2 := by
      intro H2 hP2 e12 hK2 ⟨ks, g, hc, hin, hg⟩
      refine s_ret (ev_dget (fld _ (hP2.st.mono cutS_le) _ rfl) (.inl hc) (ev_var rfl) hK2 (by rw [dOf_val, if_pos hin])) fun H3 e3 => k _ H3 (hP2.mono e3) ?_ ?_
      · exact ((cutS_mono e1).trans e12).trans (cutS_mono e3)
      · exact Dp.mono (cutS_mono e3) _ (hg v p lo hi rfl)
    obtain ⟨ks, g, hc, nd, hks⟩ := hP1.k1
    refine q_when (b := !decide ([(v : Int), p, lo, hi] ∈ ks)) (et_B (ev_is (ev_dnotin (ev_var rfl) hKey (fld _ (hP1.st.mono cutS_le) _ rfl) (.inl hc)) (by
      rw [dOf_val]
      by_cases h : [(v : Int), p, lo, hi] ∈ ks
      · rw [if_pos h, decide_eq_true h]; rfl
      · rw [if_neg h, decide_eq_false h]; rfl))) (fun hb H2 e2 => ?_) (fun hb H2 e2 => ?_)
    · rw [Bool.not_eq_true', decide_eq_false_iff_not] at hb
      have hP2 := hP1.mono e2
      refine ⟨_, rfl, x.a, x.dx, _, rfl, (hP2.st.mono cutS_le).obj, paF_no_places_for x, ⟨_, rfl, _, rfl, _, rfl, _, rfl, ⟨x, [.int (v : Int), .int p, .int lo, .int hi], _, rfl, hP2.st.mono cutS_le, ⟨v, p, lo, hi, rfl, hv, rfl⟩, fun u H3 e3 hu => ?_⟩⟩⟩
      have hP3 := hP2.mono e3
      refine s_dputV (fld _ (hP3.st.mono cutS_le) _ rfl) ((e2.trans e3) _ _ hc) (ev_var rfl) (hKey.mono (e2.trans e3)) (few1 nd fun z hz => (hks z hz).1) fun H4 e4 => ?_
      have hP4 := hP3.mono e4
      have e14 : Ex H1 H4 := (e2.trans e3).trans e4
      obtain ⟨hP5, ecut⟩ := hP4.put1 (v := u) (k := [(v : Int), p, lo, hi]) nd (fun z hz => ⟨(hks z hz).1, (hks z hz).2.mono (cutS_mono e14)⟩) hdom (fun v' p' lo' hi' ek => by
        simp only [List.cons.injEq, and_true] at ek
        obtain ⟨e1', e2', e3', e4'⟩ := ek
        have e1'' : v' = v := by omega
        rw [e1'', ← e2', ← e3', ← e4']
        exact Dp.monoL hP4.lsame _ (Dp.mono e4 _ hu))
      refine ret _ hP5 (by rw [cutS_upd x.S1]; exact cutS_mono e14) ?_ ⟨_, _, upd_same, (kStep_mem _ _ _).mpr (.inr rfl), ?_⟩
      · have hne : kb ≠ x.c1 := fun z => by
          have h9 := e14 _ _ h1
          rw [z, e14 _ _ hc] at h9
          cases h9
        unfold KeyAt
        rw [upd_ne hne]
        exact e14 _ _ h1
      · rw [ecut, if_pos rfl]
        intro v' p' lo' hi' ek
        simp only [List.cons.injEq, and_true] at ek
        obtain ⟨e1', e2', e3', e4'⟩ := ek
        have e1'' : v' = v := by omega
        rw [e1'', ← e2', ← e3', ← e4']
        exact Dp.monoL hP4.lsame _ (Dp.mono e4 _ hu)
    · rw [Bool.not_eq_false', decide_eq_true_eq] at hb
      exact ret H2 (hP1.mono e2) (cutS_mono e2) (hKey.mono e2) ⟨ks, g, e2 _ _ hc, hb, (hks _ hb).2.mono (cutS_mono e2)⟩
end
end Bf

namespace Bf
open PySem PySem.Spec PyProof.Rows L2 Evl
section
variable {P : Program} {w : World} {K : PySem.W.Frag} {mg : Str → Option Value} {base : Heap} {CR CP f : Addr} {fd : FuncData} {x : Pax} {G H : Hp} {σ : L2.St} {S : Addr → Bool}
/-- o.m(..) of a passage, m one that fills -/
theorem i_meth {A : Pax → Hp → List V → (Hp → V → Prop) → Prop} {m : Str} {ta : TE} {tr : TA} {us : List V} {Post : Hp → V → Prop} {Q : VK} (h0 : Ev ta σ H (.ref x.a)) (hP : PaIn K CR CP x S H) (hno : (paF x).lookup m = none) (ha : EvA tr σ H us) (hA : ∀ H1, Ex H H1 → A x H1 us Post)
    (k : ∀ v H', PaIn K CR CP x S H' → Ex (cutS H x.S) (cutS H' x.S) → Post (cutS H' S) v → Q v H') : tMeth CP m (SpP K CR CP A) [] E0 ta tr σ H Q := h0 H (Ex.refl H) _ fun H1 e1 => ⟨x.a, x.dx, _, rfl, (hP.mono e1).full.obj, hno, ha H1 e1 _ fun H2 e2 => ⟨x, S, us, Post, by rw [List.append_nil], hP.mono (e1.trans e2), hA _ (e1.trans e2), fun v H' p e q => k v H' p ((cutS_mono (e1.trans e2)).trans e) q⟩⟩
theorem AHere.mono {H H' : Hp} (e : Ex H H') {u : V} {s a t : Int} (h : AHere K H x u s a t) : AHere K H' x u s a t := ⟨Dp.mono e _ h.1, h.2⟩
theorem AHere.at0 {u : V} {s a t : Int} (h : AHere K H x u s a t) {te : TE} (he : Ev te σ H u) : Dv K (tOp (rIxT K) te (tC (.int 0))) σ H (.int s) := dv_ixT (j := 0) (ds := [s, a, t, x.b].map .int) (dv_ev he h.1) dv_int rfl rfl
theorem AHere.at1 {u : V} {s a t : Int} (h : AHere K H x u s a t) {te : TE} (he : Ev te σ H u) : Dv K (tOp (rIxT K) te (tC (.int 1))) σ H (.int a) := dv_ixT (j := 1) (ds := [s, a, t, x.b].map .int) (dv_ev he h.1) dv_int rfl rfl
theorem AHere.at2 {u : V} {s a t : Int} (h : AHere K H x u s a t) {te : TE} (he : Ev te σ H u) : Dv K (tOp (rIxT K) te (tC (.int 2))) σ H (.int t) := dv_ixT (j := 2) (ds := [s, a, t, x.b].map .int) (dv_ev he h.1) dv_int rfl rfl
/-- behind one that fills: here is read as it was -/
theorem AHere.stay (hP : PaIn K CR CP x S H) {H' : Hp} (e : Ex (cutS H x.S) (cutS H' x.S)) {u : V} {s a t : Int} (h : AHere K H x u s a t) : AHere K H' x u s a t := ⟨Dp.mono ((hP.stay e).trans cutS_le) _ (Dp.monoL hP.lsame _ h.1), h.2⟩
theorem KeyAt.stay (hP : PaIn K CR CP x S H) {H' : Hp} (e : Ex (cutS H x.S) (cutS H' x.S)) {b : Addr} {k : List Int} (h : KeyAt H b k) : KeyAt H' b k := by
  have hb : x.S b = false := by
    cases q : x.S b with
    | false => rfl
    | true => exact absurd (.inl h) ((hP.ns b (hP.sub b q)).2.1 _)
  have := e b _ (by rw [cutS_ne hb]; exact h)
  exact cutS_le _ _ this
theorem nb_mem {β o n : Int} {pl : List Int} {p : Int} (h : p ∈ nbB β o n pl) : p ∈ pl := (List.mem_filter.mp h).1
theorem rch_mem {v : Nat} {p lo hi y : Int} (h : y ∈ x.rch v p lo hi) : y ∈ x.P v := by
  unfold Pax.rch reachF at h
  exact (List.mem_filter.mp (List.mem_filter.mp h).1).1
theorem rch_len (hs : PaSt K CR CP x G) (v : Nat) (p lo hi : Int) : (x.rch v p lo hi).length ≤ 4000 := by
  unfold Pax.rch reachF
  exact Nat.le_trans (List.length_filter_le _ _) (Nat.le_trans (List.length_filter_le _ _) (hs.pl v))
theorem ten_rch (a t a' : Int) : x.ten a t a' = nbB (barF a t a') t a' (x.rch 2 t x.b a) := by
  unfold Pax.ten tenF
  rw [notBar_B]
  rfl
theorem ten_len (hs : PaSt K CR CP x G) (a t a' : Int) : (x.ten a t a').length ≤ 4000 := by
  rw [ten_rch]
  exact Nat.le_trans (List.length_filter_le _ _) (rch_len hs 2 t x.b a)
theorem barF_rng (a b c : Int) : -1 ≤ barF a b c ∧ barF a b c ≤ 7 := by
  unfold barF
  split
  · omega
  · rename_i h
    have h0 : 0 ≤ (a - b) % 12 := Int.emod_nonneg _ (by decide)
    constructor
    · omega
    · by_cases q : (a - b) % 12 = 0 ∨ (a - b) % 12 = 7
      · omega
      · exact absurd (.inr q) h
abbrev nmTb : List Str := ["self", "here", "alto", "key", "places", "barred"]
theorem scTb : FnScope nmTb ["self", "here", "alto"] (defScope sTenBes) := ⟨rfl, rfl, rfl, by decide +kernel, rfl, by decide +kernel, by decide +kernel⟩
theorem ok_tenBes (F : Fun K "tenors_beside" "Passage.tenors_beside" sTenBes f fd) (T : PaTxt K CP) (gA : Gi mg "ALTO" 1) (gT : Gi mg "TENOR" 2) (m : MtC P w K mg base CP "reach" 5 ["self", "voice", "sound", "lowest", "highest"] (SpP K CR CP (AReach K))) (c1 : Cal P w K mg base "barred_apart" 2 ["one", "other", "next_one"] (SpD K RBarred)) (c2 : Cal P w K mg base "places_not_barred" 2 ["barred", "other", "next_one", "places"] (SpD K RNotBar)) :
    FnOk P w K mg base CX0 6 f fd ["self", "here", "alto"] (SpP K CR CP (ATenBes K)) := by
  obtain ⟨f1, fd1, M1, b1, F1⟩ := m
  refine F.ok scTb (fun vs H Q E h => ?_) (fun cdv A outer s H vs Q E hr h => ?_)
  · obtain ⟨x, _, _, _, rfl, _, ⟨_, _, _, _, _, rfl, _⟩, _⟩ := h
    rfl
  · obtain ⟨x, S, _, _, rfl, hP, ⟨hv, s, a, t, a', rfl, hH, ha', rfl⟩, k⟩ := h
    have hr2 : Room 2 _ := hr.mono (by decide : 2 ≤ 5)
    refine ⟨_, pss_cons (ps_set (i := 3) scTb.nd rfl (Or.inl rfl) (pe_tup (pa_cons (pe_ix ix_tup (pv 1) (pe_gi gA) (fun _ _ => rfl)) (pa_cons (pe_ix ix_tup (pv 1) (pe_gi gT) (fun _ _ => rfl)) (pa_cons (pv 2) pa_nil)))))
      (pss_cons (ps_if (pt_cmp (pc_dnotin (hu_of hr) (pv 3) (pe_fld (pv 0) rfl)))
        (pss_cons (ps_set (i := 4) scTb.nd rfl (Or.inl rfl) (pe_meth (pv 0) T.cl M1 F1 hr b1 .nil pass0 (pa_cons (pe_gi gT) (pa_cons (pe_ix ix_tup (pv 1) (pe_gi gT) (fun _ _ => rfl)) (pa_cons (pe_ix ix_tup (pe_fld (pv 0) rfl) pe_int (fun _ _ => rfl)) (pa_cons (pe_ix ix_tup (pv 1) (pe_gi gA) (fun _ _ => rfl)) pa_nil))))))
        (pss_cons (ps_set (i := 5) scTb.nd rfl (Or.inl rfl) (pe_cal c1 hr2 (pa_cons (pe_ix ix_tup (pv 1) (pe_gi gA) (fun _ _ => rfl)) (pa_cons (pe_ix ix_tup (pv 1) (pe_gi gT) (fun _ _ => rfl)) (pa_cons (pv 2) pa_nil)))))
        (pss_one (ps_dput (hu_of hr) (pe_fld (pv 0) rfl) (pv 3) (pe_cal c2 hr2 (pa_cons (pv 5) (pa_cons (pe_ix ix_tup (pv 1) (pe_gi gT) (fun _ _ => rfl)) (pa_cons (pv 2) (pa_cons (pv 4) pa_nil))))) rfl)))) pss_nil)
      (pss_one (ps_ret (pe_dget (hu_of hr) (pe_fld (pv 0) rfl) (pv 3) (fun _ _ => rfl))))), ?_⟩
    refine q_asgU (xs := [a, t, a'].map V.int) (eu_tup (ea_cons (ev_int (hH.at1 (ev_var rfl))) (ea_cons (ev_int (hH.at2 (ev_var rfl))) (ea_cons (ev_var rfl) ea_nil))) (by show 3 ≤ 100000; decide)) fun kb H1 hkb e1 h1 => ?_
    have hP1 := hP.mono e1
    have hH1 := hH.mono e1
    have hKey : KeyAt H1 kb [a, t, a'] := h1
    have fld : ∀ G, PaSt K CR CP x G → ∀ σ : L2.St, σ[0]? = some (some (.ref x.a)) → Ev (tFld K (tVar 0) "tenors") σ G (.ref x.c4) := fun G hG σ h0 => ev_fld (ev_var h0) hG.obj T.cl T.n_tenors (paF_tenors x)
    have hdom : D3 [a, t, a'] := ⟨a, t, a', rfl, hH.2.2.1, hH.2.2.2, ha'⟩
    have ret : ∀ H2 (o4 o5 : Option V), PaIn K CR CP x S H2 → Ex (cutS H1 x.S) (cutS H2 x.S) → KeyAt H2 kb [a, t, a'] → (∃ ks g, H2 x.c4 = some (.dT (dOf ks g)) ∧ [a, t, a'] ∈ ks ∧ Good4 K x (cutS H2 S) [a, t, a'] (g [a, t, a'])) →
        tRet (tDGet (tFld K (tVar 0) "tenors") (tVar 3)) { nx := fun _ H' => Q .non H', rt := Q } [some (.ref x.a), some hv, some (.int a'), some (.ref kb), o4, o5] H2 := by
      intro H2 o4 o5 hP2 e12 hK2 ⟨ks, g, hc, hin, hg⟩
      refine s_ret (ev_dget (fld _ hP2.full _ rfl) (.inl hc) (ev_var rfl) hK2 (by rw [dOf_val, if_pos hin])) fun H3 e3 => k _ H3 (hP2.mono e3) ?_ ?_
      · exact ((cutS_mono e1).trans e12).trans (cutS_mono e3)
      · exact Dp.mono (cutS_mono e3) _ (hg a t a' rfl)
    obtain ⟨ks, g, hc, nd, hks⟩ := hP1.k4
    refine q_when (b := !decide ([a, t, a'] ∈ ks)) (et_B (ev_is (ev_dnotin (ev_var rfl) hKey (fld _ hP1.full _ rfl) (.inl hc)) (by
      rw [dOf_val]
      by_cases h : [a, t, a'] ∈ ks
      · rw [if_pos h, decide_eq_true h]; rfl
      · rw [if_neg h, decide_eq_false h]; rfl))) (fun hb H2 e2 => ?_) (fun hb H2 e2 => ?_)
    · have hP2 := hP1.mono e2
      have hH2 := hH1.mono e2
      refine i_meth (Post := fun G u => Dp K G u (.list ((x.rch 2 t x.b a).map .int))) (us := [.int 2, .int t, .int x.b, .int a]) (ev_var rfl) hP2 (paF_no_reach x) (ea_cons ev_c (ea_cons (ev_int (hH2.at2 (ev_var rfl))) (ea_cons (ev_int (hP2.full.bass0 T rfl)) (ea_cons (ev_int (hH2.at1 (ev_var rfl))) ea_nil)))) (fun _ _ => ⟨2, t, x.b, a, rfl, by decide, hH.2.2.2, hP.st.bb, hH.2.2.1, rfl⟩) fun pl H3 hP3 e3 hpl => ?_
      have hH3 := hH2.stay hP2 e3
      refine q_asgD (K := K) (dv_call (d := .int (barF a t a')) (da_cons (hH3.at1 (ev_var rfl)) (da_cons (hH3.at2 (ev_var rfl)) (da_cons (dv_vi rfl) da_nil))) ⟨a, t, a', rfl, rfl⟩) fun v5 H4 e4 hv5 => ?_
      cases hv5.int_inv
      have hP4 := hP3.mono e4
      have hH4 := hH3.mono e4
      have hpl4 : Dp K H4 pl (.list ((x.rch 2 t x.b a).map .int)) := Dp.mono (cutS_le.trans e4) _ hpl
      refine dv_call (K := K) (d := .list ((x.ten a t a').map .int)) (da_cons (dv_vi rfl) (da_cons (hH4.at2 (ev_var rfl)) (da_cons (dv_vi rfl) (da_cons (dv_var rfl hpl4) da_nil)))) ⟨a, t, a', x.rch 2 t x.b a, rfl, Nat.le_trans (rch_len hP4.st _ _ _ _) (by decide), by rw [ten_rch, notBar_B]⟩ H4 (Ex.refl _) _ fun u H5 e5 hu => ?_
      have hP5 := hP4.mono e5
      have st15 : Ex (cutS H1 x.S) (cutS H5 x.S) := ((cutS_mono e2).trans e3).trans (cutS_mono (e4.trans e5))
      have hK5 : KeyAt H5 kb [a, t, a'] := hKey.stay hP1 st15
      obtain ⟨ks5, g5, hc5, nd5, hks5⟩ := hP5.k4
      refine s_dputV (fld _ hP5.full _ rfl) hc5 (ev_var rfl) hK5 (few3 nd5 fun z hz => (hks5 z hz).1) fun H6 e6 => ?_
      have hP6 := hP5.mono e6
      have good : Good4 K x (cutS H6 S) [a, t, a'] u := fun a1 t1 a1' ek => by
        simp only [List.cons.injEq, and_true] at ek
        obtain ⟨rfl, rfl, rfl⟩ := ek
        exact Dp.monoL hP6.lsame _ (Dp.mono e6 _ hu)
      obtain ⟨hP7, ecut⟩ := hP6.put4 (v := u) (k := [a, t, a']) nd5 (fun z hz => ⟨(hks5 z hz).1, (hks5 z hz).2.mono (cutS_mono e6)⟩) hdom good
      refine ret _ _ _ hP7 (by rw [cutS_upd x.S4]; exact st15.trans (cutS_mono e6)) ?_ ⟨_, _, upd_same, (kStep_mem _ _ _).mpr (.inr rfl), by rw [ecut, if_pos rfl]; exact good⟩
      have hK6 := hK5.mono e6
      have hne : kb ≠ x.c4 := fun z => by
        unfold KeyAt at hK6
        rw [z, e6 _ _ hc5] at hK6
        cases hK6
      unfold KeyAt
      rw [upd_ne hne]
      exact hK6
    · rw [Bool.not_eq_false', decide_eq_true_eq] at hb
      exact ret H2 _ _ (hP1.mono e2) (cutS_mono e2) (hKey.mono e2) ⟨ks, g, e2 _ _ hc, hb, (hks _ hb).2.mono (cutS_mono e2)⟩
end
end Bf

namespace Bf
open PySem PySem.Spec PyProof.Rows L2 Evl
theorem group_le (x : Pax) {K : PySem.W.Frag} {CR CP : Addr} {G : Hp} (h : PaSt K CR CP x G) (s' a' t' : Int) : (x.G s' a' t').length < 2 ^ x.wd := Nat.lt_of_le_of_lt (group_len s' a' t') h.few
/-- a tally moved: dearer by the price -/
theorem tal_moved {wd k : Nat} {l : List Nat} (h : l.length < 2 ^ wd) : ((tal wd l / 2 ^ (k * wd) : Nat) : Int) = ((tal wd (l.map (· + k)) : Nat) : Int) := by rw [tal_shift k h]
section
variable {P : Program} {w : World} {K : PySem.W.Frag} {mg : Str → Option Value} {base : Heap} {CR CP f : Addr} {fd : FuncData} {x : Pax} {G H : Hp} {σ : L2.St} {S : Addr → Bool}
theorem q_dget2New {D : Ends} {tz : TS} {td ty : TE} {i : Nat} {c : Addr} {k : List Int} {kvs : List (List Key × V)} (hd : Ev td σ H (.ref c)) (hc : H c = some (.dT kvs)) (hy : EvU ty σ H (k.map V.int)) (q : ∀ kt nw H1, Ex H H1 → H1 nw = none → KeyAt H1 kt k → tz D (σ.set i (some ((valV kvs (keyI k)).getD (.ref nw)))) (upd H1 nw (.dK []))) :
    tSeq (tAsg (tDGet2 td ty tDNewK) (gName i)) tz D σ H := hd H (Ex.refl H) _ fun H2 e2 => ⟨c, rfl, .inr ⟨kvs, .inl (e2 _ _ hc)⟩, hy H2 e2 _ fun kt H3 hk e3 h3 => fun nw hnw => ⟨_, .inr ⟨kvs, keyI k, kt, .inl (((e2.trans e3).trans (Ex.new hnw)) _ _ hc), rfl, (KeyAt.mono (Ex.new hnw) h3).kv, rfl⟩, q kt nw H3 (e2.trans e3) hnw h3⟩⟩
abbrev nmTr : List Str := ["self", "sound", "soprano", "alto", "key", "tallies", "row", "tenor"]
theorem scTr : FnScope nmTr ["self", "sound", "soprano", "alto"] (defScope sTenRow) := ⟨rfl, rfl, rfl, by decide +kernel, rfl, by decide +kernel, by decide +kernel⟩
theorem ok_tenRow (F : Fun K "tenor_row" "Passage.tenor_row" sTenRow f fd) (T : PaTxt K CP) (m : MtC P w K mg base CP "moved" 2 ["self", "tally", "sound", "place"] (SpV K CR CP)) :
    FnOk P w K mg base CX0 3 f fd ["self", "sound", "soprano", "alto"] (SpP K CR CP ATenRow) := by
  obtain ⟨f1, fd1, M1, b1, F1⟩ := m
  refine F.ok scTr (fun vs H Q E h => ?_) (fun cdv A outer s H vs Q E hr h => ?_)
  · obtain ⟨x, _, _, _, rfl, _, ⟨_, _, _, rfl, _⟩, _⟩ := h
    rfl
  · obtain ⟨x, S, _, _, rfl, hP, ⟨p, s', a', rfl, hp, hs', ha', rfl⟩, k⟩ := h
    refine ⟨_, pss_cons (ps_set (i := 4) scTr.nd rfl (Or.inl rfl) (pe_tup (pa_cons (pv 1) (pa_cons (pv 2) (pa_cons (pv 3) pa_nil)))))
      (pss_cons (ps_if (pt_cmp (pc_dnotin (hu_of hr) (pv 4) (pe_fld (pv 0) rfl)))
        (pss_cons (ps_set (i := 5) scTr.nd rfl (Or.inl rfl) (pe_dget2 (hu_of hr) (pe_fld (pv 0) rfl) (pe_tup (pa_cons (pv 2) (pa_cons (pv 3) pa_nil))) pe_dnewK ⟨rfl, rfl, rfl, rfl⟩))
        (pss_cons (ps_set (i := 6) scTr.nd rfl (Or.inl rfl) pe_dnewK)
        (pss_cons (ps_lock (ps_for PassesOwn.never rfl (pi_keys (pv 5)) (pg_name (i := 7) scTr.nd rfl (Or.inl rfl))
          (pss_one (ps_dput (hu_of hr) (pv 6) (pv 7) (pe_meth (pv 0) T.cl M1 F1 hr b1 .nil pass0 (pa_cons (pe_dget (hu_of hr) (pv 5) (pv 7) (fun _ _ => rfl)) (pa_cons (pv 1) (pa_cons (pv 7) pa_nil)))) rfl))))
        (pss_one (ps_dput (hu_of hr) (pe_fld (pv 0) rfl) (pv 4) (pv 6) rfl))))) pss_nil)
      (pss_one (ps_ret (pe_dget (hu_of hr) (pe_fld (pv 0) rfl) (pv 4) (fun _ _ => rfl))))), ?_⟩
    refine q_asgU (xs := [p, s', a'].map V.int) (eu_tup (ea_cons (ev_var rfl) (ea_cons (ev_var rfl) (ea_cons (ev_var rfl) ea_nil))) (by show 3 ≤ 100000; decide)) fun kb H1 hkb e1 h1 => ?_
    have hP1 := hP.mono e1
    have hKey : KeyAt H1 kb [p, s', a'] := h1
    have fld : ∀ G, PaSt K CR CP x G → ∀ σ : L2.St, σ[0]? = some (some (.ref x.a)) → Ev (tFld K (tVar 0) "tenor_rows") σ G (.ref x.c3) := fun G hG σ h0 => ev_fld (ev_var h0) hG.obj T.cl T.n_tenor_rows (paF_tenor_rows x)
    have hdom : D3 [p, s', a'] := ⟨p, s', a', rfl, hp, hs', ha'⟩
    have ret : ∀ H2 (o5 o6 o7 : Option V), PaIn K CR CP x S H2 → Ex (cutS H1 x.S) (cutS H2 x.S) → KeyAt H2 kb [p, s', a'] → (∃ ks g, H2 x.c3 = some (.dT (dOf ks g)) ∧ [p, s', a'] ∈ ks ∧ Good3 x (cutS H2 S) [p, s', a'] (g [p, s', a'])) →
        tRet (tDGet (tFld K (tVar 0) "tenor_rows") (tVar 4)) { nx := fun _ H' => Q .non H', rt := Q } [some (.ref x.a), some (.int p), some (.int s'), some (.int a'), some (.ref kb), o5, o6, o7] H2 := by
      intro H2 o5 o6 o7 hP2 e12 hK2 ⟨ks, g, hc, hin, hg⟩
      refine s_ret (ev_dget (fld _ hP2.full _ rfl) (.inl hc) (ev_var rfl) hK2 (by rw [dOf_val, if_pos hin])) fun H3 e3 => k _ H3 (hP2.mono e3) ?_ ?_
      · exact ((cutS_mono e1).trans e12).trans (cutS_mono e3)
      · exact (hg.mono (cutS_mono e3)) p s' a' rfl
    obtain ⟨ks, g, hc, nd, hks⟩ := hP1.k3
    refine q_when (b := !decide ([p, s', a'] ∈ ks)) (et_B (ev_is (ev_dnotin (ev_var rfl) hKey (fld _ hP1.full _ rfl) (.inl hc)) (by
      rw [dOf_val]
      by_cases h : [p, s', a'] ∈ ks
      · rw [if_pos h, decide_eq_true h]; rfl
      · rw [if_neg h, decide_eq_false h]; rfl))) (fun hb H2 e2 => ?_) (fun hb H2 e2 => ?_)
    · have hP2 := hP1.mono e2
      obtain ⟨kvs, rw1, rw2⟩ := hP2.full.rows
      -- tallies = self.rows.get((soprano, alto), {})
      refine q_dget2New (k := [s', a']) (ev_fld (ev_var rfl) hP2.full.obj T.cl T.n_rows (paF_rows x)) rw1 (eu_tup (ea_cons (ev_var rfl) (ea_cons (ev_var rfl) ea_nil)) (by show 2 ≤ 100000; decide)) fun kt nw H4 e24 hnw h4 => ?_
      have e25 := e24.trans (Ex.new (o := .dK []) hnw)
      have hP5 := hP2.mono e25
      -- the dict that is walked
      obtain ⟨d, ts, hd, hd5, tl, tno⟩ : ∃ d ts, (valV kvs (keyI [s', a'])).getD (.ref nw) = .ref d ∧ upd H4 nw (.dK []) d = some (.dK (kOf ts fun t => .int (tal x.wd (x.G s' a' t) : Int))) ∧ ts.length ≤ 4000 ∧ ∀ t, t ∉ ts → x.G s' a' t = [] := by
        have hrow := rw2 s' a'
        cases hval : valV kvs (keyI [s', a']) with
        | none =>
          rw [hval] at hrow
          exact ⟨nw, [], rfl, upd_same, by decide, fun t _ => hrow t⟩
        | some u =>
          rw [hval] at hrow
          obtain ⟨r, ts, q1, q2, q3, q4⟩ := hrow
          exact ⟨r, ts, q1, e25 _ _ q2, q3, q4⟩
      rw [hd]
      generalize hH5 : upd H4 nw (.dK []) = H5 at *
      -- row = {}
      intro ro hro
      have hrod : ro ≠ d := fun z => by rw [z, hd5] at hro; cases hro
      have hd6 : upd H5 ro (.dK []) d = some (.dK (kOf ts fun t => .int (tal x.wd (x.G s' a' t) : Int))) := by rw [upd_ne hrod.symm]; exact hd5
      refine ⟨d, _, hd6, trivial, fun od => ?_⟩
      -- under the lock
      obtain ⟨HL, hHL⟩ : ∃ HL, HL = upd (upd H5 ro (.dK [])) d (.frz od (.dK (kOf ts fun t => .int (tal x.wd (x.G s' a' t) : Int)))) := ⟨_, rfl⟩
      rw [← hHL]
      have hLro : HL ro = some (.dK []) := by rw [hHL, upd_ne hrod]; exact upd_same
      have hLd : HL d = some (.frz od (.dK (kOf ts fun t => .int (tal x.wd (x.G s' a' t) : Int)))) := by rw [hHL]; exact upd_same
      have hM : PaM K CR CP x (cutH HL ro) := by
        refine PaM.cut hLro ?_
        rw [hHL]
        exact ((hP5.full.m).mono (Ex.new hro)).upd hd6
      refine ⟨.ref d, rfl, d, od, rfl, .inl ⟨_, hLd, for_it walk_keys (fun i σ' H' => ∃ o7 kk, σ' = [some (.ref x.a), some (.int p), some (.int s'), some (.int a'), some (.ref kb), some (.ref d), some (.ref ro), o7] ∧ Ex (cutH HL ro) H' ∧ H' ro = some (.dK kk) ∧ kk.length ≤ i ∧ ∀ t, valV kk (Sum.inl t) = if t ∈ ts.take i then some (.int (tal x.wd ((x.G s' a' t).map (· + x.q.move * (t - p).natAbs)) : Int)) else none)
        ⟨none, [], rfl, cutH_le, hLro, Nat.le_refl 0, fun t => by simp [valV]⟩ (fun i σ' H' _ ⟨_, _, _, eL, _⟩ => eL d _ (by rw [cutH_ne hrod.symm]; exact hLd)) (fun i y σ' H' H'' hi ⟨o7, kk, eσ, eL, hro', hkl, hval⟩ hy => ?_) (fun σ' H' ⟨o7, kk, eσ, eL, hro', hkl, hval⟩ => ?_)⟩⟩
      · obtain ⟨rfl, ky, vv, hky, rfl⟩ := hy
        subst eσ
        unfold kOf at hky
        rw [List.getElem?_map] at hky
        obtain ⟨t, ht, hkv⟩ := Option.map_eq_some_iff.mp hky
        obtain ⟨rfl, rfl⟩ := Prod.mk.inj hkv
        have hi' : i < ts.length := by rw [kOf_len] at hi; exact hi
        have hd' : Rd H'' d (.dK (kOf ts fun t => .int (tal x.wd (x.G s' a' t) : Int))) := .inr ⟨od, eL d _ (by rw [cutH_ne hrod.symm]; exact hLd)⟩
        have hM' := hM.mono eL
        -- row[tenor] = self.moved(tallies[tenor], sound, tenor)
        refine ⟨_, rfl, x.a, x.dx, _, rfl, hM'.obj, paF_no_moved x, ?_⟩
        have hget : Ev (tDGet (tVar 5) (tVar 7)) [some (.ref x.a), some (.int p), some (.int s'), some (.int a'), some (.ref kb), some (.ref d), some (.ref ro), some (.int t)] H'' (.int (tal x.wd (x.G s' a' t) : Int)) := ev_dgetI (n := t) (ev_var rfl) hd' (ev_var rfl) (by rw [kOf_val, if_pos (List.mem_of_getElem? ht)])
        refine (ea_cons hget (ea_cons (ev_var rfl) (ea_cons (ev_var rfl) ea_nil))) H'' (Ex.refl _) _ fun H6 e6 => ?_
        refine ⟨x, tal x.wd (x.G s' a' t), p, t, rfl, hM'.mono e6, fun H7 e7 => ?_⟩
        rw [tal_moved (group_le x hP.st s' a' t)]
        refine s_dputI (n := t) (ev_var rfl) ((e6.trans e7) _ _ hro') (ev_var rfl) (by omega) fun H8 e8 => ?_
        refine ⟨_, _, rfl, Ex.mut (eL.trans ((e6.trans e7).trans e8)) (cutH_same _ _), upd_same, Nat.le_trans (length_putK _ _ _) (by omega), fun t1 => ?_⟩
        rw [valV_put, hval t1, List.take_add_one, ht]
        by_cases h : t1 = t
        · rw [if_pos (by rw [h]), h, if_pos (by simp)]
        · rw [if_neg fun q => h (Sum.inl.inj q)]
          have : t1 ∈ ts.take i ++ (some t).toList ↔ t1 ∈ ts.take i := by simp [h]
          by_cases h2 : t1 ∈ ts.take i
          · rw [if_pos h2, if_pos (this.mpr h2)]
          · rw [if_neg h2, if_neg fun q => h2 (this.mp q)]
      · subst eσ
        have hd' : H' d = some (.frz od (.dK (kOf ts fun t => .int (tal x.wd (x.G s' a' t) : Int)))) := eL d _ (by rw [cutH_ne hrod.symm]; exact hLd)
        refine ⟨hd', ?_⟩
        rw [kOf_len, List.take_length] at hval
        -- unlocked
        generalize hH9 : upd H' d (.dK (kOf ts fun t => .int (tal x.wd (x.G s' a' t) : Int))) = H9
        have e59 : Ex H5 H9 := fun b o hb => by
          have hbr : b ≠ ro := fun z => by rw [z, hro] at hb; cases hb
          by_cases hbd : b = d
          · rw [hbd, hd5] at hb
            cases hb
            rw [← hH9, hbd]
            exact upd_same
          · rw [← hH9, upd_ne hbd]
            exact eL b o (by rw [cutH_ne hbr, hHL, upd_ne hbd, upd_ne hbr]; exact hb)
        have hro9 : H9 ro = some (.dK kk) := by rw [← hH9, upd_ne hrod]; exact hro'
        have hP9 := hP5.mono e59
        have e19 : Ex H1 H9 := (e2.trans e25).trans e59
        obtain ⟨ks9, g9, hc9, nd9, hks9⟩ := hP9.k3
        refine ⟨.ref ro, rfl, ?_⟩
        refine s_dputV (fld _ hP9.full _ rfl) hc9 (ev_var rfl) (hKey.mono e19) (few3 nd9 fun z hz => (hks9 z hz).1) fun H10 e10 => ?_
        have hP10 := hP9.mono e10
        have hSro : S ro = false := hP5.fresh hro
        have good : Good3 x (cutS H10 S) [p, s', a'] (.ref ro) := fun p1 s1 a1 ek => by
          simp only [List.cons.injEq, and_true] at ek
          obtain ⟨rfl, rfl, rfl⟩ := ek
          refine ⟨ro, kk, rfl, by rw [cutS_ne hSro]; exact e10 _ _ hro9, fun t' => ?_⟩
          rw [hval t']
          by_cases h : t' ∈ ts
          · rw [if_pos h]; exact .inl rfl
          · rw [if_neg h]; exact .inr ⟨rfl, tno t' h⟩
        obtain ⟨hP11, ecut⟩ := hP10.put3 (v := .ref ro) (k := [p, s', a']) nd9 (fun z hz => ⟨(hks9 z hz).1, (hks9 z hz).2.mono (cutS_mono e10)⟩) hdom good
        refine ret _ _ _ _ hP11 (by rw [cutS_upd x.S3]; exact cutS_mono (e19.trans e10)) ?_ ⟨_, _, upd_same, (kStep_mem _ _ _).mpr (.inr rfl), by rw [ecut, if_pos rfl]; exact good⟩
        have hK6 := hKey.mono (e19.trans e10)
        have hne : kb ≠ x.c3 := fun z => by
          unfold KeyAt at hK6
          rw [z, e10 _ _ hc9] at hK6
          cases hK6
        unfold KeyAt
        rw [upd_ne hne]
        exact hK6
    · rw [Bool.not_eq_false', decide_eq_true_eq] at hb
      exact ret H2 _ _ _ (hP1.mono e2) (cutS_mono e2) (hKey.mono e2) ⟨ks, g, e2 _ _ hc, hb, (hks _ hb).2.mono (cutS_mono e2)⟩
end
end Bf

namespace Bf
open PySem PySem.Spec PyProof.Rows L2 Evl
section
variable {P : Program} {w : World} {K : PySem.W.Frag} {mg : Str → Option Value} {base : Heap} {CR CP f : Addr} {fd : FuncData} {x : Pax} {G H : Hp} {σ : L2.St} {S : Addr → Bool}
/-! ### step by step -/
theorem c_dv {te : TE} {tr : TA} {d : PyData} {Q : List V → Hp → Prop} (h : Dv K te σ H d) (q : ∀ v H1, Ex H H1 → Dp K H1 v d → tr σ H1 (fun vs H2 => Q (v :: vs) H2)) : tCons te tr σ H Q := h H (Ex.refl H) _ q
theorem c_ev {te : TE} {tr : TA} {v : V} {Q : List V → Hp → Prop} (h : Ev te σ H v) (q : ∀ H1, Ex H H1 → tr σ H1 (fun vs H2 => Q (v :: vs) H2)) : tCons te tr σ H Q := h H (Ex.refl H) _ q
theorem c_i {te : TE} {tr : TA} {Q : List V → Hp → Prop} (h : te σ H (fun v H1 => tr σ H1 fun vs H2 => Q (v :: vs) H2)) : tCons te tr σ H Q := h
theorem c_nil {Q : List V → Hp → Prop} (h : Q [] H) : tNil σ H Q := h
theorem k_call {sp : Sp} {tr : TA} {Q : VK} (h : tr σ H fun vs H1 => sp (vs ++ []) H1 Q E0) : tCall sp [] E0 tr σ H Q := h
theorem a_asg {te : TE} {tz : TS} {D : Ends} {i : Nat} (h : te σ H fun v H1 => tz D (σ.set i (some v)) H1) : tSeq (tAsg te (gName i)) tz D σ H := h
theorem d_put {td ty tv : TE} {D : Ends} (h : tv σ H fun v H1 => td σ H1 fun x H2 => ty σ H2 fun y H3 => ∃ a H4, x = .ref a ∧ DPut H3 a y v H4 ∧ D.nx σ H4) : sDPut td ty tv D σ H := h
theorem q_put {td ty tv : TE} {D : Ends} {tz : TS} (h : tv σ H fun v H1 => td σ H1 fun x H2 => ty σ H2 fun y H3 => ∃ a H4, x = .ref a ∧ DPut H3 a y v H4 ∧ tz D σ H4) : tSeq (sDPut td ty tv) tz D σ H := h
theorem m_meth {C a dx : Addr} {m : Str} {sp : Sp} {ta : TE} {tr : TA} {Q : VK} {fs : List (Str × V)} (h0 : Ev ta σ H (.ref a)) (ho : H a = some (.ins C dx fs)) (hl : fs.lookup m = none) (h : ∀ H1, Ex H H1 → tr σ H1 fun vs H2 => sp (.ref a :: (vs ++ [])) H2 Q E0) : tMeth C m sp [] E0 ta tr σ H Q := h0 H (Ex.refl H) _ fun H1 e1 => ⟨a, dx, fs, rfl, e1 _ _ ho, hl, h H1 e1⟩
/-- for y in o.m(..) -/
theorem f_imeth {A : Pax → Hp → List V → (Hp → V → Prop) → Prop} {m : Str} {ta : TE} {tr : TA} {us : List V} {Post : Hp → V → Prop} {tu tz : TS} {D : Ends} {j : Nat} (h0 : Ev ta σ H (.ref x.a)) (hP : PaIn K CR CP x S H) (hno : (paF x).lookup m = none) (ha : EvA tr σ H us) (hA : ∀ H1, Ex H H1 → A x H1 us Post)
    (k : ∀ u H1, PaIn K CR CP x S H1 → Ex (cutS H x.S) (cutS H1 x.S) → Post (cutS H1 S) u → ∃ a xs, ∃ Pv : Nat → L2.St → Hp → Prop, u = .ref a ∧ Pv 0 σ H1 ∧ (∀ i σ' H', Pv i σ' H' → SqL K H' a xs) ∧
      (∀ i y σ' H', xs[i]? = some y → Pv i σ' H' → tu { D with nx := Pv (i + 1), ct := Pv (i + 1), bk := tz D } (σ'.set j (some y)) H') ∧ ∀ σ' H', Pv xs.length σ' H' → tz D σ' H') :
    tSeq (tFor (iList K (tMeth CP m (SpP K CR CP A) [] E0 ta tr)) (gName j) tu) tz D σ H := by
  show tFor (iList K (tMeth CP m (SpP K CR CP A) [] E0 ta tr)) (gName j) tu { D with nx := tz D } σ H
  refine i_meth h0 hP hno ha hA fun u H1 p e q => ?_
  obtain ⟨a, xs, Pv, rfl, p0, pl, ps, pd⟩ := k u H1 p e q
  exact ⟨a, rfl, ⟨xs, pl 0 σ H1 p0⟩, for_list (D := { D with nx := tz D }) Pv p0 (fun i σ' H' _ c => pl i σ' H' c) ps pd⟩
abbrev nmSt : List Str := ["self", "here", "soprano", "alto", "barred", "row", "tenors", "tenor"]
theorem scSt : FnScope nmSt ["self", "here", "soprano", "alto", "barred"] (defScope sSumT) := ⟨rfl, rfl, rfl, by decide +kernel, rfl, by decide +kernel, by decide +kernel⟩
theorem sum_filter {p : Int → Bool} {T : Int → Nat} (h : ∀ t, p t = false → T t = 0) : ∀ l : List Int, ((l.filter p).map fun t => (T t : Int)).sum = (((l.map T).sum : Nat) : Int)
  | [] => rfl
  | t :: l => by
    rw [List.filter_cons, List.map_cons, List.sum_cons]
    cases hp : p t with
    | true =>
      rw [if_pos rfl, List.map_cons, List.sum_cons, sum_filter h l]
      push_cast
      rfl
    | false =>
      rw [if_neg Bool.false_ne_true, sum_filter h l, h t hp, Nat.zero_add]
theorem tal_flat {α : Type} (wd : Nat) (f : α → List Nat) (l : List α) : tal wd (l.flatMap f) = (l.map fun t => tal wd (f t)).sum := gs_flatMap _ f l
theorem ok_sumT (F : Fun K "sum_over_tenors" "Passage.sum_over_tenors" sSumT f fd) (T : PaTxt K CP) (gT : Gi mg "TENOR" 2) (gs : mg "sum" = none) (m1 : MtC P w K mg base CP "tenor_row" 3 ["self", "sound", "soprano", "alto"] (SpP K CR CP ATenRow)) (m2 : MtC P w K mg base CP "tenors_beside" 6 ["self", "here", "alto"] (SpP K CR CP (ATenBes K))) (c2 : Cal P w K mg base "places_not_barred" 2 ["barred", "other", "next_one", "places"] (SpD K RNotBar)) :
    FnOk P w K mg base CX0 7 f fd ["self", "here", "soprano", "alto", "barred"] (SpP K CR CP (ASumT K)) := by
  obtain ⟨f1, fd1, M1, b1, F1⟩ := m1
  obtain ⟨f2, fd2, M2, b2, F2⟩ := m2
  refine F.ok scSt (fun vs H Q E h => ?_) (fun cdv A outer s H vs Q E hr h => ?_)
  · obtain ⟨x, _, _, _, rfl, _, ⟨_, _, _, _, _, _, rfl, _⟩, _⟩ := h
    rfl
  · obtain ⟨x, S, _, _, rfl, hP, ⟨hv, s, a, t, s', a', rfl, hH, hs', ha', rfl⟩, k⟩ := h
    have hr2 : Room 2 _ := hr.mono (by decide : 2 ≤ 6)
    have hr3 : Room 3 _ := hr.mono (by decide : 3 ≤ 6)
    refine ⟨_, pss_cons (ps_set (i := 5) scSt.nd rfl (Or.inr rfl) (pe_meth (pv 0) T.cl M1 F1 hr3 b1 .nil pass0 (pa_cons (pe_ix ix_tup (pv 1) (pe_gi gT) (fun _ _ => rfl)) (pa_cons (pv 2) (pa_cons (pv 3) pa_nil)))))
      (pss_cons (ps_set (i := 6) scSt.nd rfl (Or.inl rfl) (pe_cal c2 hr2 (pa_cons (pv 4) (pa_cons (pe_ix ix_tup (pv 1) (pe_gi gT) (fun _ _ => rfl)) (pa_cons (pv 2) (pa_cons (pe_meth (pv 0) T.cl M2 F2 hr b2 .nil pass0 (pa_cons (pv 1) (pa_cons (pv 3) pa_nil))) pa_nil))))))
      (pss_one (ps_ret (pe_callB (cr_sum rfl) (by rfl) gs (by decide +kernel) (pa_cons (pe_lc (own := [("tenor", 7)]) (g := gName 7) rfl scSt.nd (pi_list (pv 6)) (blkOk_by (own := [("tenor", 7)]) (N := nmSt) (sc := defScope sSumT) (by decide +kernel)) (fun _ _ _ _ _ => pg_name (i := 7) scSt.nd rfl (Or.inl rfl)) (fun _ _ _ _ _ => pts_one (pt_cmp (pc_din (hu_of hr) (pv 7) (pv 5)))) (fun _ _ _ _ _ => pe_dget (hu_of hr) (pv 5) (pv 7) (fun _ _ => rfl))) pa_nil))))), ?_⟩
    refine a_asg (i_meth (Post := fun G u => ∃ r kk, u = .ref r ∧ G r = some (.dK kk) ∧ ∀ t', valV kk (Sum.inl t') = some (.int (tal x.wd ((x.G s' a' t').map (· + x.q.move * (t' - t).natAbs)) : Int)) ∨ (valV kk (Sum.inl t') = none ∧ x.G s' a' t' = [])) (us := [.int t, .int s', .int a']) (ev_var rfl) hP (paF_no_tenor_row x) (ea_cons (ev_int (hH.at2 (ev_var rfl))) (ea_cons (ev_var rfl) (ea_cons (ev_var rfl) ea_nil))) (fun _ _ => ⟨t, s', a', rfl, hH.2.2.2, hs', ha', rfl⟩) fun u H1 hP1 e1 hu => ?_)
    obtain ⟨r, kk, rfl, hr1, hval⟩ := hu
    have hH1 := hH.stay hP e1
    refine a_asg (k_call (c_ev (ev_var rfl) fun H2 e2 => c_dv ((hH1.mono e2).at2 (ev_var rfl)) fun v2 H3 e3 hv2 => c_ev (ev_var rfl) fun H4 e4 => c_i (i_meth (Post := fun G u => Dp K G u (.list ((x.ten a t a').map .int))) (us := [hv, .int a']) (ev_var rfl) (hP1.mono ((e2.trans e3).trans e4)) (paF_no_tenors_beside x) (ea_cons (ev_var rfl) (ea_cons (ev_var rfl) ea_nil)) (fun H5 e5 => ⟨hv, s, a, t, a', rfl, hH1.mono (((e2.trans e3).trans e4).trans e5), ha', rfl⟩) fun pl H5 hP5 e5 hpl => c_nil ?_)))
    cases hv2.int_inv
    have e14 := (e2.trans e3).trans e4
    have st5 : Ex (cutS H1 S) (cutS H5 S) := (cutS_mono e14).trans (hP1.stay e5)
    refine ⟨[.int (barF s t s'), .int t, .int s', .list ((x.ten a t a').map .int)], .list ((notBar s t s' (x.ten a t a')).map .int), .cons (.int _) (.cons (.int _) (.cons (.int _) (.cons (Dp.mono cutS_le _ hpl) .nil))), ⟨s, t, s', x.ten a t a', rfl, Nat.le_trans (ten_len hP.st _ _ _) (by decide), rfl⟩, fun v6 H6 e6 hv6 => ?_⟩
    rw [notBar_B] at hv6
    have hrow : H6 r = some (.dK kk) := e6 _ _ (cutS_le _ _ (st5 _ _ hr1))
    have hT0 : ∀ t', (valV kk (Sum.inl t')).isSome = false → tal x.wd ((x.G s' a' t').map (· + x.q.move * (t' - t).natAbs)) = 0 := fun t' h0 => by
      rcases hval t' with h1 | ⟨h1, h2⟩
      · rw [h1] at h0; cases h0
      · rw [h2]; rfl
    refine s_retD (K := K) (dv_sum (ns := ((nbB (barF s t s') t s' (x.ten a t a')).filter fun t' => (valV kk (Sum.inl t')).isSome).map fun t' => (tal x.wd ((x.G s' a' t').map (· + x.q.move * (t' - t).natAbs)) : Int)) (dv_is (dvl_lc (l := nbB (barF s t s') t s' (x.ten a t a')) (enc := PyData.int) (fun t' => (valV kk (Sum.inl t')).isSome) (fun t' => .int (tal x.wd ((x.G s' a' t').map (· + x.q.move * (t' - t).natAbs)) : Int)) (dv_var rfl hv6) (Nat.le_trans (List.length_filter_le _ _) (Nat.le_trans (ten_len hP.st _ _ _) (by decide))) (fun _ => rfl) (fun y _ => nl_int _) (fun y _ u H7 e7 hy => ?_) (fun y _ hyt u H7 e7 hy => ?_)).dv (by rw [List.map_map]; rfl))) fun v H7 e7 hv7 => ?_
    · cases hy.int_inv
      exact et_B (ev_dinI (ev_var rfl) (ev_var rfl) (.inl (e7 _ _ hrow)))
    · cases hy.int_inv
      rcases hval y with h1 | ⟨h1, h2⟩
      · exact dv_i (ev_dgetI (ev_var rfl) (.inl (e7 _ _ hrow)) (ev_var rfl) h1)
      · rw [h1] at hyt
        cases hyt
    · rw [sum_filter hT0] at hv7
      have hP7 := (hP5.mono e6).mono e7
      refine k v H7 hP7 ?_ ?_
      · exact (e1.trans ((cutS_mono e14).trans e5)).trans (cutS_mono (e6.trans e7))
      · rw [hv7.int_inv]
        unfold Pax.lT
        rw [tal_flat]
abbrev nmAl : List Str := ["self", "here", "soprano", "barred", "key", "row", "alto"]
theorem scAl : FnScope nmAl ["self", "here", "soprano"] (defScope sAltoRow) := ⟨rfl, rfl, rfl, by decide +kernel, rfl, by decide +kernel, by decide +kernel⟩
theorem lT_le {K : PySem.W.Frag} {CR CP : Addr} {G : Hp} (h : PaSt K CR CP x G) (s a t s' a' : Int) : (x.lT (barF s t s') a t s' a').length < 2 ^ x.wd := by
  rw [← lsT_lT]
  exact Nat.lt_of_le_of_lt (lsT_len (q := x.q) (e := x.e) (l := x.l) h.n2 s' a') h.few
theorem lA_le {K : PySem.W.Frag} {CR CP : Addr} {G : Hp} (h : PaSt K CR CP x G) (s a t s' : Int) : (x.lA s a t s').length < 2 ^ x.wd :=
  Nat.lt_of_le_of_lt (lsA_len (q := x.q) (e := x.e) (l := x.l) h.n1 h.n2 s') h.few
theorem ok_altoRow (F : Fun K "alto_row" "Passage.alto_row" sAltoRow f fd) (T : PaTxt K CP) (gS : Gi mg "SOPRANO" 0) (gA : Gi mg "ALTO" 1) (gT : Gi mg "TENOR" 2) (gH : Gi mg "HIGHEST_SOUND" 119) (m1 : MtC P w K mg base CP "reach" 5 ["self", "voice", "sound", "lowest", "highest"] (SpP K CR CP (AReach K))) (m2 : MtC P w K mg base CP "moved" 2 ["self", "tally", "sound", "place"] (SpV K CR CP)) (m3 : MtC P w K mg base CP "sum_over_tenors" 7 ["self", "here", "soprano", "alto", "barred"] (SpP K CR CP (ASumT K))) (c1 : Cal P w K mg base "barred_apart" 2 ["one", "other", "next_one"] (SpD K RBarred)) :
    FnOk P w K mg base CX0 8 f fd ["self", "here", "soprano"] (SpP K CR CP (AAltoRow K)) := by
  obtain ⟨f1, fd1, M1, b1, F1⟩ := m1
  obtain ⟨f2, fd2, M2, b2, F2⟩ := m2
  obtain ⟨f3, fd3, M3, b3, F3⟩ := m3
  refine F.ok scAl (fun vs H Q E h => ?_) (fun cdv A outer s H vs Q E hr h => ?_)
  · obtain ⟨x, _, _, _, rfl, _, ⟨_, _, _, _, _, rfl, _⟩, _⟩ := h
    rfl
  · obtain ⟨x, S, _, _, rfl, hP, ⟨hv, s, a, t, s', rfl, hH, hs', rfl⟩, k⟩ := h
    have hr2 : Room 2 _ := hr.mono (by decide : 2 ≤ 7)
    have hr5 : Room 5 _ := hr.mono (by decide : 5 ≤ 7)
    refine ⟨_, pss_cons (ps_set (i := 3) scAl.nd rfl (Or.inl rfl) (pe_cal c1 hr2 (pa_cons (pe_ix ix_tup (pv 1) (pe_gi gS) (fun _ _ => rfl)) (pa_cons (pe_ix ix_tup (pv 1) (pe_gi gT) (fun _ _ => rfl)) (pa_cons (pv 2) pa_nil)))))
      (pss_cons (ps_set (i := 4) scAl.nd rfl (Or.inl rfl) (pe_tup (pa_cons (pe_ix ix_tup (pv 1) (pe_gi gA) (fun _ _ => rfl)) (pa_cons (pe_ix ix_tup (pv 1) (pe_gi gT) (fun _ _ => rfl)) (pa_cons (pv 2) (pa_cons (pv 3) pa_nil))))))
      (pss_cons (ps_if (pt_cmp (pc_dnotin (hu_of hr) (pv 4) (pe_fld (pv 0) rfl)))
        (pss_cons (ps_set (i := 5) scAl.nd rfl (Or.inl rfl) pe_dnewK)
        (pss_cons (ps_for PassesOwn.never rfl (pi_list (pe_meth (pv 0) T.cl M1 F1 hr5 b1 .nil pass0 (pa_cons (pe_gi gA) (pa_cons (pe_ix ix_tup (pv 1) (pe_gi gA) (fun _ _ => rfl)) (pa_cons (pe_ix ix_tup (pv 1) (pe_gi gT) (fun _ _ => rfl)) (pa_cons (pe_gi gH) pa_nil)))))) (pg_name (i := 6) scAl.nd rfl (Or.inl rfl))
          (pss_one (ps_dput (hu_of hr) (pv 5) (pv 6) (pe_meth (pv 0) T.cl M2 F2 hr2 b2 .nil pass0 (pa_cons (pe_meth (pv 0) T.cl M3 F3 hr b3 .nil pass0 (pa_cons (pv 1) (pa_cons (pv 2) (pa_cons (pv 6) (pa_cons (pv 3) pa_nil))))) (pa_cons (pe_ix ix_tup (pv 1) (pe_gi gA) (fun _ _ => rfl)) (pa_cons (pv 6) pa_nil)))) rfl)))
        (pss_one (ps_dput (hu_of hr) (pe_fld (pv 0) rfl) (pv 4) (pv 5) rfl)))) pss_nil)
      (pss_one (ps_ret (pe_dget (hu_of hr) (pe_fld (pv 0) rfl) (pv 4) (fun _ _ => rfl)))))), ?_⟩
    refine q_asgD (K := K) (dv_call (d := .int (barF s t s')) (da_cons (hH.at0 (ev_var rfl)) (da_cons (hH.at2 (ev_var rfl)) (da_cons (dv_vi rfl) da_nil))) ⟨s, t, s', rfl, rfl⟩) fun v3 H0 e0 hv3 => ?_
    cases hv3.int_inv
    have hH0 := hH.mono e0
    have hβ := barF_rng s t s'
    generalize hβ' : barF s t s' = β at *
    refine q_asgU (xs := [a, t, s', β].map V.int) (eu_tup (ea_cons (ev_int (hH0.at1 (ev_var rfl))) (ea_cons (ev_int (hH0.at2 (ev_var rfl))) (ea_cons (ev_var rfl) (ea_cons (ev_var rfl) ea_nil)))) (by show 4 ≤ 100000; decide)) fun kb H1 hkb e1 h1 => ?_
    have hP1 := (hP.mono e0).mono e1
    have hH1 := hH0.mono e1
    have hKey : KeyAt H1 kb [a, t, s', β] := h1
    have fld : ∀ G, PaSt K CR CP x G → ∀ σ : L2.St, σ[0]? = some (some (.ref x.a)) → Ev (tFld K (tVar 0) "alto_rows") σ G (.ref x.c2) := fun G hG σ h0 => ev_fld (ev_var h0) hG.obj T.cl T.n_alto_rows (paF_alto_rows x)
    have hdom : D2 [a, t, s', β] := ⟨a, t, s', β, rfl, hH.2.2.1, hH.2.2.2, hs', hβ.1, hβ.2⟩
    have ret : ∀ H2 (o5 o6 : Option V), PaIn K CR CP x S H2 → Ex (cutS H1 x.S) (cutS H2 x.S) → KeyAt H2 kb [a, t, s', β] → (∃ ks g, H2 x.c2 = some (.dT (dOf ks g)) ∧ [a, t, s', β] ∈ ks ∧ Good2 x (cutS H2 S) [a, t, s', β] (g [a, t, s', β])) →
        tRet (tDGet (tFld K (tVar 0) "alto_rows") (tVar 4)) { nx := fun _ H' => Q .non H', rt := Q } [some (.ref x.a), some hv, some (.int s'), some (.int β), some (.ref kb), o5, o6] H2 := by
      intro H2 o5 o6 hP2 e12 hK2 ⟨ks, g, hc, hin, hg⟩
      refine s_ret (ev_dget (fld _ hP2.full _ rfl) (.inl hc) (ev_var rfl) hK2 (by rw [dOf_val, if_pos hin])) fun H3 e3 => k _ H3 (hP2.mono e3) ?_ ?_
      · exact ((cutS_mono (e0.trans e1)).trans e12).trans (cutS_mono e3)
      · exact (hg.mono (cutS_mono e3)) a t s' β rfl
    obtain ⟨ks, g, hc, nd, hks⟩ := hP1.k2
    refine q_when (b := !decide ([a, t, s', β] ∈ ks)) (et_B (ev_is (ev_dnotin (ev_var rfl) hKey (fld _ hP1.full _ rfl) (.inl hc)) (by
      rw [dOf_val]
      by_cases h : [a, t, s', β] ∈ ks
      · rw [if_pos h, decide_eq_true h]; rfl
      · rw [if_neg h, decide_eq_false h]; rfl))) (fun hb H2 e2 => ?_) (fun hb H2 e2 => ?_)
    · have hP2 := hP1.mono e2
      have hH2 := hH1.mono e2
      have hK2 := hKey.mono e2
      -- row = {}
      intro ro hro
      have hSro : S ro = false := hP2.fresh hro
      have hxro : x.S ro = false := by
        cases q : x.S ro with
        | false => rfl
        | true => rw [hP2.sub _ q] at hSro; cases hSro
      have hPx := hP2.extK (kvs := []) hro
      have eN : Ex H2 (upd H2 ro (.dK [])) := Ex.new hro
      have hHx := hH2.mono eN
      refine f_imeth (Post := fun G u => Dp K G u (.list ((x.rch 1 a t 119).map .int))) (us := [.int 1, .int a, .int t, .int 119]) (ev_var rfl) hPx (paF_no_reach x) (ea_cons ev_c (ea_cons (ev_int (hHx.at1 (ev_var rfl))) (ea_cons (ev_int (hHx.at2 (ev_var rfl))) (ea_cons ev_c ea_nil)))) (fun _ _ => ⟨1, a, t, 119, rfl, by decide, hH.2.2.1, ⟨by have := hH.2.2.2.1; omega, by have := hH.2.2.2.2; omega⟩, ⟨by decide, by decide⟩, rfl⟩) fun u H3 hP3 e3 hu => ?_
      obtain ⟨ra, rs, rfl, hrs, hrd⟩ := hu.lst_inv
      have eri := hrd.ints
      subst eri
      have E23 : Ex (cutS H2 x.S) (cutS H3 x.S) := (cutS_mono eN).trans e3
      have hro3 : H3 ro = some (.dK []) := cutS_le _ _ (e3 ro _ (by rw [cutS_ne hxro]; exact upd_same))
      refine ⟨ra, (x.rch 1 a t 119).map V.int, (fun i σ' H' => ∃ o6 kk, σ' = [some (.ref x.a), some hv, some (.int s'), some (.int β), some (.ref kb), some (.ref ro), o6] ∧ PaIn K CR CP x (also S ro) H' ∧ Ex (cutS H2 x.S) (cutS H' x.S) ∧ Ex (cutS H3 (also S ro)) (cutS H' (also S ro)) ∧ H' ro = some (.dK kk) ∧ kk.length ≤ i ∧ ∀ a', valV kk (Sum.inl a') = if a' ∈ (x.rch 1 a t 119).take i then some (.int (tal x.wd ((x.lT β a t s' a').map (· + x.q.move * (a' - a).natAbs)) : Int)) else none),
        rfl, ⟨none, [], rfl, hP3, E23, Ex.refl _, hro3, Nat.le_refl 0, fun a' => by simp [valV]⟩, (fun i σ' H' ⟨_, _, _, _, _, e, _⟩ => ex_l (e.trans cutS_le) hrs), (fun i y σ' H' hiy ⟨o6, kk, eσ, hP', E2', E3', hro', hkl, hval⟩ => ?_), (fun σ' H' ⟨o6, kk, eσ, hP', E2', E3', hro', hkl, hval⟩ => ?_)⟩
      · subst eσ
        rw [List.getElem?_map] at hiy
        obtain ⟨a', hia, rfl⟩ := Option.map_eq_some_iff.mp hiy
        have ha' : sR a' := hP.st.pr 1 a' (rch_mem (List.mem_of_getElem? hia))
        have hil := (List.getElem?_eq_some_iff.mp hia).1
        have rl := rch_len hP.st 1 a t 119
        have hH' := hH2.stay hP2 E2'
        refine d_put (m_meth (ev_var rfl) hP'.full.obj (paF_no_moved x) fun H4 e4 => c_i (i_meth (Post := fun _ u => u = .int (tal x.wd (x.lT (barF s t s') a t s' a') : Int)) (us := [hv, .int s', .int a', .int (barF s t s')]) (ev_var rfl) (hP'.mono e4) (paF_no_sum_over_tenors x) (ea_cons (ev_var rfl) (ea_cons (ev_var rfl) (ea_cons (ev_var rfl) (ea_cons (by rw [hβ']; exact ev_var rfl) ea_nil)))) (fun H5 e5 => ⟨hv, s, a, t, s', a', rfl, (hH'.mono e4).mono e5, hs', ha', rfl⟩) fun u H5 hP5 e5 hu => ?_))
        subst hu
        have E25 : Ex (cutS H2 x.S) (cutS H5 x.S) := (E2'.trans (cutS_mono e4)).trans e5
        have hH5 := hH2.stay hP2 E25
        refine c_dv (hH5.at1 (ev_var rfl)) fun v1 H6 e6 hv1 => c_ev (ev_var rfl) fun H7 e7 => c_nil ?_
        cases hv1.int_inv
        refine ⟨x, tal x.wd (x.lT (barF s t s') a t s' a'), a, a', rfl, ((hP5.mono e6).mono e7).full.m, fun H8 e8 => ?_⟩
        rw [tal_moved (lT_le hP.st s a t s' a'), hβ']
        have e58 := (e6.trans e7).trans e8
        have hro5 : H5 ro = some (.dK kk) := cutS_le _ _ (e5 ro _ (by rw [cutS_ne hxro]; exact e4 _ _ hro'))
        refine s_dputI (n := a') (ev_var rfl) (e58 _ _ hro5) (ev_var rfl) (by omega) fun H9 e9 => ?_
        have hP9 := (hP5.mono e58).mono e9
        have eS9 : cutS (upd H9 ro (.dK (putK kk (Sum.inl a') (.int (tal x.wd ((x.lT β a t s' a').map (· + x.q.move * (a' - a).natAbs)) : Int))))) (also S ro) = cutS H9 (also S ro) := cutS_upd (also_z S ro)
        refine ⟨_, _, rfl, hP9.updK (also_z S ro) hxro, ?_, ?_, upd_same, Nat.le_trans (length_putK _ _ _) (by omega), fun a1 => ?_⟩
        · intro b o hb
          have hbS : x.S b = false := by
            cases q : x.S b with
            | false => rfl
            | true => rw [cutS_in q] at hb; cases hb
          have hbr : b ≠ ro := fun z => by rw [z, cutS_ne hxro, hro] at hb; cases hb
          rw [cutS_ne hbS, upd_ne hbr]
          have := E25 b o hb
          rw [cutS_ne hbS] at this
          exact e9 _ _ (e58 _ _ this)
        · rw [eS9]
          exact ((E3'.trans (cutS_mono e4)).trans ((hP'.mono e4).stay e5)).trans (cutS_mono (e58.trans e9))
        · rw [valV_put, hval a1, List.take_add_one, hia]
          by_cases h : a1 = a'
          · rw [if_pos (by rw [h]), h, if_pos (by simp)]
          · rw [if_neg fun q => h (Sum.inl.inj q)]
            have : a1 ∈ (x.rch 1 a t 119).take i ++ (some a').toList ↔ a1 ∈ (x.rch 1 a t 119).take i := by simp [h]
            by_cases h2 : a1 ∈ (x.rch 1 a t 119).take i
            · rw [if_pos h2, if_pos (this.mpr h2)]
            · rw [if_neg h2, if_neg fun q => h2 (this.mp q)]
      · subst eσ
        rw [List.length_map, List.take_length] at hval
        have hP9 : PaIn K CR CP x S H' := hP'.less (fun z hz => by
          have : z ≠ ro := fun q => by rw [q, hSro] at hz; cases hz
          rw [also_ne this]; exact hz) hP.sub
        have E19 : Ex (cutS H1 x.S) (cutS H' x.S) := (cutS_mono e2).trans E2'
        have hK9 := hKey.stay hP1 E19
        obtain ⟨ks9, g9, hc9, nd9, hks9⟩ := hP9.k2
        refine ⟨.ref ro, rfl, ?_⟩
        refine s_dputV (fld _ hP9.full _ rfl) hc9 (ev_var rfl) hK9 (few2 nd9 fun z hz => (hks9 z hz).1) fun H10 e10 => ?_
        have hP10 := hP9.mono e10
        have good : Good2 x (cutS H10 S) [a, t, s', β] (.ref ro) := fun a1 t1 s1 β1 ek => by
          simp only [List.cons.injEq, and_true] at ek
          obtain ⟨rfl, rfl, rfl, rfl⟩ := ek
          refine ⟨ro, kk, rfl, by rw [cutS_ne hSro]; exact e10 _ _ hro', fun a' ha' => ?_⟩
          rw [hval a', if_pos ha']
        obtain ⟨hP11, ecut⟩ := hP10.put2 (v := .ref ro) (k := [a, t, s', β]) nd9 (fun z hz => ⟨(hks9 z hz).1, (hks9 z hz).2.mono (cutS_mono e10)⟩) hdom good
        refine ret _ _ _ hP11 (by rw [cutS_upd x.S2]; exact E19.trans (cutS_mono e10)) ?_ ⟨_, _, upd_same, (kStep_mem _ _ _).mpr (.inr rfl), by rw [ecut, if_pos rfl]; exact good⟩
        have hK6 := hK9.mono e10
        have hne : kb ≠ x.c2 := fun z => by
          unfold KeyAt at hK6
          rw [z, e10 _ _ hc9] at hK6
          cases hK6
        unfold KeyAt
        rw [upd_ne hne]
        exact hK6
    · rw [Bool.not_eq_false', decide_eq_true_eq] at hb
      exact ret H2 _ _ (hP1.mono e2) (cutS_mono e2) (hKey.mono e2) ⟨ks, g, e2 _ _ hc, hb, (hks _ hb).2.mono (cutS_mono e2)⟩
end
end Bf

namespace Bf
open PySem PySem.Spec PyProof.Rows L2 Evl
theorem rch_more {x : Pax} {v : Nat} {p lo hi hi' y : Int} (h : y ∈ x.rch v p lo hi) (hh : hi ≤ hi') : y ∈ x.rch v p lo hi' := by
  unfold Pax.rch reachF at h ⊢
  obtain ⟨h1, h2⟩ := List.mem_filter.mp h
  obtain ⟨h3, h4⟩ := List.mem_filter.mp h1
  refine List.mem_filter.mpr ⟨List.mem_filter.mpr ⟨h3, ?_⟩, h2⟩
  simp only [Bool.and_eq_true, decide_eq_true_eq] at h4 ⊢
  omega
theorem sum_cast {α : Type} (T : α → Nat) : ∀ l : List α, (l.map fun t => (T t : Int)).sum = (((l.map T).sum : Nat) : Int)
  | [] => rfl
  | t :: l => by
    rw [List.map_cons, List.map_cons, List.sum_cons, List.sum_cons, sum_cast T l]
    push_cast
    rfl
section
variable {P : Program} {w : World} {K : PySem.W.Frag} {mg : Str → Option Value} {base : Heap} {CR CP f : Addr} {fd : FuncData} {x : Pax} {G H : Hp} {σ : L2.St} {S : Addr → Bool}
abbrev nmSa : List Str := ["self", "here", "soprano", "altos", "row", "barred", "alto"]
theorem scSa : FnScope nmSa ["self", "here", "soprano", "altos"] (defScope sSumA) := ⟨rfl, rfl, rfl, by decide +kernel, rfl, by decide +kernel, by decide +kernel⟩
theorem ok_sumA (F : Fun K "sum_over_altos" "Passage.sum_over_altos" sSumA f fd) (T : PaTxt K CP) (gS : Gi mg "SOPRANO" 0) (gA : Gi mg "ALTO" 1) (gs : mg "sum" = none) (m1 : MtC P w K mg base CP "alto_row" 8 ["self", "here", "soprano"] (SpP K CR CP (AAltoRow K))) (c1 : Cal P w K mg base "barred_apart" 2 ["one", "other", "next_one"] (SpD K RBarred)) (c2 : Cal P w K mg base "places_not_barred" 2 ["barred", "other", "next_one", "places"] (SpD K RNotBar)) :
    FnOk P w K mg base CX0 9 f fd ["self", "here", "soprano", "altos"] (SpP K CR CP (ASumA K)) := by
  obtain ⟨f1, fd1, M1, b1, F1⟩ := m1
  refine F.ok scSa (fun vs H Q E h => ?_) (fun cdv A outer s H vs Q E hr h => ?_)
  · obtain ⟨x, _, _, _, rfl, _, ⟨_, _, _, _, _, _, rfl, _⟩, _⟩ := h
    rfl
  · obtain ⟨x, S, _, _, rfl, hP, ⟨hv, s, a, t, s', al, rfl, hH, hs', hal, rfl⟩, k⟩ := h
    have hr2 : Room 2 _ := hr.mono (by decide : 2 ≤ 8)
    refine ⟨_, pss_cons (ps_set (i := 4) scSa.nd rfl (Or.inr rfl) (pe_meth (pv 0) T.cl M1 F1 hr b1 .nil pass0 (pa_cons (pv 1) (pa_cons (pv 2) pa_nil))))
      (pss_cons (ps_set (i := 5) scSa.nd rfl (Or.inl rfl) (pe_cal c1 hr2 (pa_cons (pe_ix ix_tup (pv 1) (pe_gi gS) (fun _ _ => rfl)) (pa_cons (pe_ix ix_tup (pv 1) (pe_gi gA) (fun _ _ => rfl)) (pa_cons (pv 2) pa_nil)))))
      (pss_one (ps_ret (pe_callB (cr_sum rfl) (by rfl) gs (by decide +kernel) (pa_cons (pe_lc (own := [("alto", 6)]) (g := gName 6) rfl scSa.nd (pi_list (pe_cal c2 hr2 (pa_cons (pv 5) (pa_cons (pe_ix ix_tup (pv 1) (pe_gi gA) (fun _ _ => rfl)) (pa_cons (pv 2) (pa_cons (pv 3) pa_nil)))))) (blkOk_by (own := [("alto", 6)]) (N := nmSa) (sc := defScope sSumA) (by decide +kernel)) (fun _ _ _ _ _ => pg_name (i := 6) scSa.nd rfl (Or.inl rfl)) (fun _ _ _ _ _ => pts_nil) (fun _ _ _ _ _ => pe_dget (hu_of hr) (pv 4) (pv 6) (fun _ _ => rfl))) pa_nil))))), ?_⟩
    refine a_asg (i_meth (Post := fun G u => ∃ r kk, u = .ref r ∧ G r = some (.dK kk) ∧ ∀ a' ∈ x.rch 1 a t 119, valV kk (Sum.inl a') = some (.int (tal x.wd ((x.lT (barF s t s') a t s' a').map (· + x.q.move * (a' - a).natAbs)) : Int))) (us := [hv, .int s']) (ev_var rfl) hP (paF_no_alto_row x) (ea_cons (ev_var rfl) (ea_cons (ev_var rfl) ea_nil)) (fun H1 e1 => ⟨hv, s, a, t, s', rfl, hH.mono e1, hs', rfl⟩) fun u H1 hP1 e1 hu => ?_)
    obtain ⟨r, kk, rfl, hr1, hval⟩ := hu
    have hH1 := hH.stay hP e1
    have hal1 : Dp K H1 al (.list ((x.rch 1 a t s).map .int)) := Dp.mono ((hP.stay e1).trans cutS_le) _ (Dp.monoL hP.lsame _ hal)
    refine q_asgD (K := K) (dv_call (d := .int (barF s a s')) (da_cons (hH1.at0 (ev_var rfl)) (da_cons (hH1.at1 (ev_var rfl)) (da_cons (dv_vi rfl) da_nil))) ⟨s, a, s', rfl, rfl⟩) fun v5 H2 e2 hv5 => ?_
    cases hv5.int_inv
    have hrow : H2 r = some (.dK kk) := e2 _ _ (cutS_le _ _ hr1)
    have hH2 := hH1.mono e2
    have hsub : ∀ y ∈ nbB (barF s a s') a s' (x.rch 1 a t s), y ∈ x.rch 1 a t 119 := fun y hy => rch_more (nb_mem hy) hH.2.1.2
    refine s_retD (K := K) (dv_sum (ns := (nbB (barF s a s') a s' (x.rch 1 a t s)).map fun a' => (tal x.wd ((x.lT (barF s t s') a t s' a').map (· + x.q.move * (a' - a).natAbs)) : Int)) (dv_is (dvl_map (l := nbB (barF s a s') a s' (x.rch 1 a t s)) (enc := PyData.int) (fun a' => .int (tal x.wd ((x.lT (barF s t s') a t s' a').map (· + x.q.move * (a' - a).natAbs)) : Int)) (dv_call (da_cons (dv_vi rfl) (da_cons (hH2.at1 (ev_var rfl)) (da_cons (dv_vi rfl) (da_cons (dv_var rfl (Dp.mono e2 _ hal1)) da_nil)))) ⟨s, a, s', x.rch 1 a t s, rfl, Nat.le_trans (rch_len hP.st _ _ _ _) (by decide), by rw [notBar_B]⟩) (Nat.le_trans (List.length_filter_le _ _) (Nat.le_trans (rch_len hP.st _ _ _ _) (by decide))) (fun _ => rfl) (fun y _ => nl_int _) (fun y hy u H3 e3 hyd => ?_)).dv (by rw [List.map_map]; rfl))) fun v H3 e3 hv3 => ?_
    · cases hyd.int_inv
      exact dv_i (ev_dgetI (ev_var rfl) (.inl (e3 _ _ hrow)) (ev_var rfl) (hval y (hsub y hy)))
    · refine k v H3 ((hP1.mono e2).mono e3) (e1.trans (cutS_mono (e2.trans e3))) ?_
      rw [hv3.int_inv, sum_cast, lA_eq, tal_flat]
abbrev nmTf : List Str := ["self", "here", "altos", "total", "soprano"]
theorem scTf : FnScope nmTf ["self", "here"] (defScope sTally) := ⟨rfl, rfl, rfl, by decide +kernel, rfl, by decide +kernel, by decide +kernel⟩
theorem ok_tally (F : Fun K "tally_from" "Passage.tally_from" sTally f fd) (T : PaTxt K CP) (gS : Gi mg "SOPRANO" 0) (gA : Gi mg "ALTO" 1) (gT : Gi mg "TENOR" 2) (gH : Gi mg "HIGHEST_SOUND" 119) (m1 : MtC P w K mg base CP "reach" 5 ["self", "voice", "sound", "lowest", "highest"] (SpP K CR CP (AReach K))) (m2 : MtC P w K mg base CP "moved" 2 ["self", "tally", "sound", "place"] (SpV K CR CP)) (m3 : MtC P w K mg base CP "sum_over_altos" 9 ["self", "here", "soprano", "altos"] (SpP K CR CP (ASumA K))) :
    FnOk P w K mg base CX0 10 f fd ["self", "here"] (SpP K CR CP (ATally K)) := by
  obtain ⟨f1, fd1, M1, b1, F1⟩ := m1
  obtain ⟨f2, fd2, M2, b2, F2⟩ := m2
  obtain ⟨f3, fd3, M3, b3, F3⟩ := m3
  refine F.ok scTf (fun vs H Q E h => ?_) (fun cdv A outer s H vs Q E hr h => ?_)
  · obtain ⟨x, _, _, _, rfl, _, ⟨_, _, _, _, rfl, _⟩, _⟩ := h
    rfl
  · obtain ⟨x, S, _, _, rfl, hP, ⟨hv, s, a, t, rfl, hH, rfl⟩, k⟩ := h
    have hr2 : Room 2 _ := hr.mono (by decide : 2 ≤ 9)
    have hr5 : Room 5 _ := hr.mono (by decide : 5 ≤ 9)
    refine ⟨_, pss_cons (ps_if (pt_cmpR op_gt (pe_ix ix_tup (pe_fld (pv 0) rfl) pe_int (fun _ _ => rfl)) (pe_ix ix_tup (pv 1) (pe_gi gT) (fun _ _ => rfl)) (nomark _)) (pss_one (ps_ret pe_int)) pss_nil)
      (pss_cons (ps_set (i := 2) scTf.nd rfl (Or.inl rfl) (pe_meth (pv 0) T.cl M1 F1 hr5 b1 .nil pass0 (pa_cons (pe_gi gA) (pa_cons (pe_ix ix_tup (pv 1) (pe_gi gA) (fun _ _ => rfl)) (pa_cons (pe_ix ix_tup (pv 1) (pe_gi gT) (fun _ _ => rfl)) (pa_cons (pe_ix ix_tup (pv 1) (pe_gi gS) (fun _ _ => rfl)) pa_nil))))))
      (pss_cons (ps_set (i := 3) scTf.nd rfl (Or.inl rfl) pe_int)
      (pss_cons (ps_for PassesOwn.never rfl (pi_list (pe_meth (pv 0) T.cl M1 F1 hr5 b1 .nil pass0 (pa_cons (pe_gi gS) (pa_cons (pe_ix ix_tup (pv 1) (pe_gi gS) (fun _ _ => rfl)) (pa_cons (pe_ix ix_tup (pv 1) (pe_gi gA) (fun _ _ => rfl)) (pa_cons (pe_gi gH) pa_nil)))))) (pg_name (i := 4) scTf.nd rfl (Or.inl rfl))
        (pss_one (ps_aug (i := 3) scTf.nd rfl (Or.inl rfl) (pe_meth (pv 0) T.cl M2 F2 hr2 b2 .nil pass0 (pa_cons (pe_meth (pv 0) T.cl M3 F3 hr b3 .nil pass0 (pa_cons (pv 1) (pa_cons (pv 4) (pa_cons (pv 2) pa_nil)))) (pa_cons (pe_ix ix_tup (pv 1) (pe_gi gS) (fun _ _ => rfl)) (pa_cons (pv 4) pa_nil)))) ip_add)))
      (pss_one (ps_ret (pv 3)))))), ?_⟩
    obtain ⟨l0, l1, l2, hl3⟩ := hP.st.ok.l3
    have hL : x.q.leap = [x.L 0, x.L 1, x.L 2] := by
      unfold Pax.L
      rw [hl3]
      rfl
    refine q_when (b := decide (t < x.b')) (dt_test (dv_B (K := K) (hP.full.bass1 T rfl) (hH.at2 (ev_var rfl)))) (fun hb H1 e1 => ?_) (fun hb H1 e1 => ?_)
    · rw [decide_eq_true_eq] at hb
      refine s_ret ev_c fun H2 e2 => k _ H2 ((hP.mono e1).mono e2) (cutS_mono (e1.trans e2)) ?_
      rw [ahead_none (q := x.q) (e := x.e) (l := x.l) hL hb]
      rfl
    · rw [decide_eq_false_iff_not] at hb
      have hbt : x.e.bass.sound ≤ t := Int.not_lt.mp hb
      have hP1 := hP.mono e1
      have hH1 := hH.mono e1
      refine a_asg (i_meth (Post := fun G u => Dp K G u (.list ((x.rch 1 a t s).map .int))) (us := [.int 1, .int a, .int t, .int s]) (ev_var rfl) hP1 (paF_no_reach x) (ea_cons ev_c (ea_cons (ev_int (hH1.at1 (ev_var rfl))) (ea_cons (ev_int (hH1.at2 (ev_var rfl))) (ea_cons (ev_int (hH1.at0 (ev_var rfl))) ea_nil)))) (fun _ _ => ⟨1, a, t, s, rfl, by decide, hH.2.2.1, ⟨by have := hH.2.2.2.1; omega, by have := hH.2.2.2.2; omega⟩, hH.2.1, rfl⟩) fun al H2 hP2 e2 hal => ?_)
      have hH2 := hH1.stay hP1 e2
      refine q_asg ev_c fun H3 e3 => ?_
      have hP3 := hP2.mono e3
      have hH3 := hH2.mono e3
      have hal3 : Dp K (cutS H3 S) al (.list ((x.rch 1 a t s).map .int)) := Dp.mono (cutS_mono e3) _ hal
      refine f_imeth (Post := fun G u => Dp K G u (.list ((x.rch 0 s a 119).map .int))) (us := [.int 0, .int s, .int a, .int 119]) (ev_var rfl) hP3 (paF_no_reach x) (ea_cons ev_c (ea_cons (ev_int (hH3.at0 (ev_var rfl))) (ea_cons (ev_int (hH3.at1 (ev_var rfl))) (ea_cons ev_c ea_nil)))) (fun _ _ => ⟨0, s, a, 119, rfl, by decide, hH.2.1, ⟨by have := hH.2.2.1.1; omega, by have := hH.2.2.1.2; omega⟩, ⟨by decide, by decide⟩, rfl⟩) fun u H4 hP4 e4 hu => ?_
      obtain ⟨ra, rs, rfl, hrs, hrd⟩ := hu.lst_inv
      have eri := hrd.ints
      subst eri
      refine ⟨ra, (x.rch 0 s a 119).map V.int, (fun i σ' H' => ∃ o4, σ' = [some (.ref x.a), some hv, some al, some (.int ((((x.rch 0 s a 119).take i).map fun s' => tal x.wd ((x.lA s a t s').map (· + x.q.move * (s' - s).natAbs))).sum : Nat)), o4] ∧ PaIn K CR CP x S H' ∧ Ex (cutS H3 x.S) (cutS H' x.S) ∧ Ex (cutS H4 S) (cutS H' S)),
        rfl, ⟨none, rfl, hP4, e4, Ex.refl _⟩, (fun i σ' H' ⟨_, _, _, _, e⟩ => ex_l (e.trans cutS_le) hrs), (fun i y σ' H' hiy ⟨o4, eσ, hP', E', E4⟩ => ?_), (fun σ' H' ⟨o4, eσ, hP', E', E4⟩ => ?_)⟩
      · subst eσ
        rw [List.getElem?_map] at hiy
        obtain ⟨s', his, rfl⟩ := Option.map_eq_some_iff.mp hiy
        have hs' : sR s' := hP.st.pr 0 s' (rch_mem (List.mem_of_getElem? his))
        have hH' := hH3.stay hP3 E'
        have hal' : Dp K H' al (.list ((x.rch 1 a t s).map .int)) := Dp.mono ((hP3.stay E').trans cutS_le) _ hal3
        refine ⟨_, rfl, ?_⟩
        refine m_meth (ev_var rfl) hP'.full.obj (paF_no_moved x) fun H5 e5 => c_i (i_meth (Post := fun _ u => u = .int (tal x.wd (x.lA s a t s') : Int)) (us := [hv, .int s', al]) (ev_var rfl) (hP'.mono e5) (paF_no_sum_over_altos x) (ea_cons (ev_var rfl) (ea_cons (ev_var rfl) (ea_cons (ev_var rfl) ea_nil))) (fun H6 e6 => ⟨hv, s, a, t, s', al, rfl, (hH'.mono e5).mono e6, hs', Dp.mono (e5.trans e6) _ hal', rfl⟩) fun u H6 hP6 e6 hu => ?_)
        subst hu
        have E36 : Ex (cutS H3 x.S) (cutS H6 x.S) := (E'.trans (cutS_mono e5)).trans e6
        have hH6 := hH3.stay hP3 E36
        refine c_dv (hH6.at0 (ev_var rfl)) fun v1 H7 e7 hv1 => c_ev (ev_var rfl) fun H8 e8 => c_nil ?_
        cases hv1.int_inv
        refine ⟨x, tal x.wd (x.lA s a t s'), s, s', rfl, ((hP6.mono e7).mono e8).full.m, fun H9 e9 => ?_⟩
        rw [tal_moved (lA_le hP.st s a t s')]
        have e69 := (e7.trans e8).trans e9
        refine ⟨_, _, rfl, rfl, some (.int s'), ?_, hP6.mono e69, E36.trans (cutS_mono e69), ?_⟩
        · show [some (V.ref x.a), some hv, some al, some (V.int _), some (V.int s')] = _
          rw [List.take_add_one, his, List.map_append, List.sum_append]
          congr 4
        · exact (E4.trans (cutS_mono e5)).trans (((hP'.mono e5).stay e6).trans (cutS_mono e69))
      · subst eσ
        rw [List.length_map, List.take_length]
        refine s_ret (ev_var rfl) fun H5 e5 => k _ H5 (hP'.mono e5) ?_ ?_
        · exact (((cutS_mono e1).trans e2).trans (cutS_mono e3)).trans (E'.trans (cutS_mono e5))
        · have h := pass_gs (q := x.q) (e := x.e) (l := x.l) (L0 := x.L 0) (L1 := x.L 1) (L2 := x.L 2) (b := x.b) (P0 := x.P0) (P1 := x.P1) (P2 := x.P2) (s := s) (a := a) (t := t) (wt x.wd) hL hP.st.n0 hP.st.n1 hP.st.n2 hP.st.hp (fun y hy => (hP.st.pr 0 _ (hP.st.hp y hy).1).2) hbt
          have h2 : tal x.wd (x.lS s a t) = tal x.wd (aheadL x.q (x.e :: x.l) [s, a, t, x.b]) := h
          rw [← h2, lS_eq, tal_flat]
end
end Bf

namespace Bf
open PySem PySem.Spec PyProof.Rows L2 Evl
abbrev sRowsOf : Stmt := top 78
/-! ### sorted(set(xs)), told by one list -/
theorem srt_uniq : ∀ {l m : List Int}, l.Pairwise (· < ·) → m.Pairwise (· < ·) → (∀ k, k ∈ l ↔ k ∈ m) → l = m
  | [], [], _, _, _ => rfl
  | [], b :: m, _, _, h => absurd ((h b).mpr List.mem_cons_self) (by simp)
  | a :: l, [], _, _, h => absurd ((h a).mp List.mem_cons_self) (by simp)
  | a :: l, b :: m, hl, hm, h => by
    rw [List.pairwise_cons] at hl hm
    have hab : a = b := by
      rcases List.mem_cons.mp ((h a).mp List.mem_cons_self) with e | e
      · exact e
      · rcases List.mem_cons.mp ((h b).mpr List.mem_cons_self) with e' | e'
        · exact e'.symm
        · have h1 := hm.1 a e
          have h2 := hl.1 b e'
          omega
    subst hab
    congr 1
    refine srt_uniq hl.2 hm.2 fun k => ⟨fun hk => ?_, fun hk => ?_⟩
    · rcases List.mem_cons.mp ((h k).mp (List.mem_cons_of_mem _ hk)) with e | e
      · have := hl.1 k hk
        omega
      · exact e
    · rcases List.mem_cons.mp ((h k).mpr (List.mem_cons_of_mem _ hk)) with e | e
      · have := hm.1 k hk
        omega
      · exact e
open Classical in
noncomputable def srtOf (ks : List Int) : List Int := if h : ∃ l : List Int, l.Pairwise (· < ·) ∧ ∀ k, k ∈ l ↔ k ∈ ks then choose h else []
theorem srtOf_eq {ks ns : List Int} (h1 : ns.Pairwise (· < ·)) (h2 : ∀ k, k ∈ ns ↔ k ∈ ks) : srtOf ks = ns := by
  have h : ∃ l : List Int, l.Pairwise (· < ·) ∧ ∀ k, k ∈ l ↔ k ∈ ks := ⟨ns, h1, h2⟩
  unfold srtOf
  rw [dif_pos h]
  have hc := Classical.choose_spec h
  exact srt_uniq hc.1 h1 fun k => (hc.2 k).trans (h2 k).symm
/-- it is what it should be, if there is one -/
def SrtOk (ks : List Int) : Prop := (srtOf ks).Nodup ∧ ∀ k, k ∈ srtOf ks ↔ k ∈ ks
section
variable {K : PySem.W.Frag} {w : World} {H : Hp} {σ : L2.St} {ta te td : TE}
theorem dvl_srt {ks : List Int} (h : DvL K ta σ H (ks.map .int)) (hl : ks.length ≤ 4000) (few : ∀ L : List Int, L.Nodup → (∀ k ∈ L, k ∈ ks) → L.length < 64) :
    ∀ H1, Ex H H1 → ∀ Q : VK, (SrtOk ks → ∀ p xs H2, H1 p = none → Ex H1 H2 → H2 p = some (.lst xs) → DpAll K H2 xs ((srtOf ks).map .int) → Q (.ref p) H2) → tCB (rSortedSet w) (tCons (tCB (rSetI K w) (tCons ta tNil)) tNil) σ H1 Q := fun H1 e Q q => h H1 e _ fun a xs H2 ha e2 h2 hd => by
  have ei := hd.ints
  subst ei
  refine ⟨a, ks, rfl, sq_of h2, hl, fun p L hp nd mem => ⟨p, _, L.length, rfl, upd_same, few L nd fun k hk => (mem k).mp hk, fun ns r rise mem2 hlen hr => ?_⟩⟩
  have mem3 : ∀ k, k ∈ ns ↔ k ∈ ks := fun k => by rw [mem2 k, decide_eq_true_eq]
  have e3 := srtOf_eq rise mem3
  refine q ⟨by rw [e3]; exact rise.imp fun h => Int.ne_of_lt h, by rw [e3]; exact mem3⟩ r (ns.map V.int) _ (fresh_back (e2.trans (Ex.new hp)) hr) ((e2.trans (Ex.new hp)).trans (Ex.new hr)) upd_same ?_
  rw [e3]
  exact DpAll.ofInts _ _ _
/-- [e for k in d], d locked meanwhile, its keys tuples of ints -/
theorem dvl_lcKeysT {j : Nat} {vs : List Nat} {c : Addr} {ks : List (List Int)} {f : List Int → V} (g : List Int → PyData) (hd : Ev td σ (cutH H c) (.ref c)) (hc : H c = some (.dT (dOf ks f))) (hz : ks.length ≤ 64000) (hw : ∀ x, wipe ((wipe σ vs).set j (some x)) vs = wipe σ vs) (hg : ∀ y ∈ ks, noList (g y) = true)
    (he : ∀ y ∈ ks, ∀ q H1, Ex (cutH H c) H1 → KeyAt H1 q y → Rd H1 c (.dT (dOf ks f)) → Dv K te ((wipe σ vs).set j (some (.ref q))) H1 (g y)) : DvL K (tLockE (tLc (iKeys td) (gName j) tYes te vs)) σ H (ks.map g) := fun H1 e Q q => by
  have hc1 := e _ _ hc
  refine ⟨c, _, hc1, trivial, fun od => ?_⟩
  obtain ⟨HL, hHL⟩ : ∃ HL, HL = upd H1 c (.frz od (.dT (dOf ks f))) := ⟨_, rfl⟩
  rw [← hHL]
  have eL : Ex (cutH H c) HL := by rw [hHL]; exact Ex.mut (cutH_le.trans e) (cutH_same _ _)
  have hLc : HL c = some (.frz od (.dT (dOf ks f))) := by rw [hHL]; exact upd_same
  refine hd HL eL _ fun H2 e2 => ⟨c, od, rfl, .inr ⟨_, e2 _ _ hLc, fun Dl hD => lc_it walk_keysT (Cd K H2 ks (fun _ => true) g Dl) ⟨hD, Ex.new hD, [], upd_same, .nil⟩ (fun i H' _ cd => cd.2.1 _ _ (e2 _ _ hLc)) (fun i y H' H'' hi cd hy => ?_) (fun H' cd => ?_)⟩⟩
  · obtain ⟨rfl, k, v, qa, hk, rfl, hq⟩ := hy
    unfold dOf at hk
    rw [List.getElem?_map] at hk
    obtain ⟨y, hy, hkv⟩ := Option.map_eq_some_iff.mp hk
    obtain ⟨rfl, rfl⟩ := Prod.mk.inj hkv
    have hKA : KeyAt H'' qa y := KeyAt.of hq rfl
    exact ⟨hw _, cd_turn cd hz hy hg et_yes fun _ => he y (List.mem_of_getElem? hy) qa H'' ((eL.trans e2).trans cd.2.1) hKA (.inr ⟨od, cd.2.1 _ _ (e2 _ _ hLc)⟩)⟩
  · obtain ⟨c1, c2, acc, c3, c4⟩ := cd
    rw [dOf_len, List.take_length, filter_true] at c4
    have hcc : H' c = some (.frz od (.dT (dOf ks f))) := c2 _ _ (e2 _ _ hLc)
    refine ⟨hcc, ?_⟩
    have hDc : Dl ≠ c := fun z => by rw [z, e2 _ _ hLc] at c1; cases c1
    have hDL : HL Dl = none := fresh_back e2 c1
    have hD1 : H1 Dl = none := by
      rw [hHL, upd_ne hDc] at hDL
      exact hDL
    refine q Dl acc _ hD1 (fun b o hb => ?_) (by rw [upd_ne hDc]; exact c3) ?_
    · by_cases hbc : b = c
      · rw [hbc, hc1] at hb
        cases hb
        rw [hbc]
        exact upd_same
      · rw [upd_ne hbc]
        exact c2 _ _ (e2 _ _ (by rw [hHL, upd_ne hbc]; exact hb))
    · have nt : ∀ xs, ¬ Rd H' c (.tup xs) := fun xs r => by
        rcases r with r | ⟨o, r⟩ <;> rw [hcc] at r <;> cases r
      exact DpAll.monoT (TSame.upd nt) _ (noListAll_of fun d hd => by
        obtain ⟨y, hy, rfl⟩ := List.mem_map.mp hd
        exact hg y hy) c4
/-- [e for i in range(n)], e a new list -/
theorem dvl_mapNL {ta : TA} {j : Nat} {vs : List Nat} {n : Int} (g : Nat → List PyData) (R : Nat → Prop) (h : DvA K ta σ H [.int n]) (hz : -40000 ≤ n ∧ n ≤ 40000) (hw : ∀ x, wipe ((wipe σ vs).set j (some x)) vs = wipe σ vs) (hg : ∀ i, noListAll (g i) = true)
    (he : ∀ (i : Nat), (i : Int) < n → ∀ H1, Ex H H1 → ∀ Q : VK, (R i → ∀ p xs H2, H1 p = none → Ex H1 H2 → H2 p = some (.lst xs) → DpAll K H2 xs (g i) → Q (.ref p) H2) → te ((wipe σ vs).set j (some (.int (i : Int)))) H1 Q) :
    ∀ H1, Ex H H1 → ∀ Q : VK, ((∀ i : Nat, (i : Int) < n → R i) → ∀ p xs H2, H1 p = none → Ex H1 H2 → H2 p = some (.lst xs) → DpAll K H2 xs ((List.range n.toNat).map fun i => .list (g i)) → Q (.ref p) H2) → tLc (iRng1 ta) (gName j) tYes te vs σ H1 Q := fun H0 e Q q => ea_ints (ns := [n]) h H0 e _ fun H1 e1 => ⟨n, rfl, by omega, by omega, fun Dl hD => by
  refine lc_range (lo := 0) (n := n.toNat) (fun i H' => Cl K H1 (List.range n.toNat) g Dl i H' ∧ ∀ m, m < i → R m) ⟨⟨hD, Ex.new hD, H1, [], Ex.new hD, hD, upd_same, .nil⟩, fun m hm => absurd hm (by omega)⟩ (fun i H' hi ⟨c, hR⟩ => ?_) (fun H' ⟨c, hR⟩ => ?_)
  · have e0 : (0 : Int) + (i : Int) = (i : Int) := Int.zero_add _
    show wipe ((wipe σ vs).set j (some (.int ((0 : Int) + (i : Int))))) vs = wipe σ vs ∧ te ((wipe σ vs).set j (some (.int ((0 : Int) + (i : Int))))) H' fun y H4 => ∃ acc, H4 Dl = some (.lst acc) ∧ acc.length < sizeLine ∧ (Cl K H1 (List.range n.toNat) g Dl (i + 1) (upd H4 Dl (.lst (acc ++ [y]))) ∧ ∀ m, m < i + 1 → R m)
    rw [e0]
    refine ⟨hw _, ?_⟩
    obtain ⟨c1, c2, G, acc, c3, c4, c5, c6⟩ := c
    have hx : (List.range n.toNat)[i]? = some i := by rw [List.getElem?_range hi]
    refine he i (by omega) H' ((e.trans e1).trans c2) _ fun hRi p ys H4 hp e4 h4 hy => ?_
    have h4D : H4 Dl = some (.lst acc) := e4 _ _ c5
    have hne : p ≠ Dl := fun z => by rw [z, c5] at hp; cases hp
    refine ⟨acc, h4D, sz_lt ?_, ⟨c1, Ex.mut (c2.trans e4) c1, cutH H4 Dl, acc ++ [.ref p], cutH_ex, cutH_same _ _, upd_same, ?_⟩, fun m hm => ?_⟩
    · rw [c6.length, List.length_map, List.length_take]
      omega
    · have eG : Ex G (cutH H4 Dl) := fun b o hb => by
        have hb' : b ≠ Dl := fun z => by rw [z, c4] at hb; cases hb
        rw [cutH_ne hb']
        exact e4 _ _ (c3 _ _ hb)
      rw [List.take_add_one, hx, List.map_append]
      refine (DpAll.mono eG _ c6).append (.one (.lst (sq_of (xs := ys) ?_) (DpAll.monoT (cutH_tsame (no_tup_lst h4D)) _ (hg i) hy)))
      rw [cutH_ne hne]
      exact h4
    · by_cases hmi : m = i
      · subst hmi; exact hRi
      · exact hR m (by omega)
  · obtain ⟨c1, c2, G, acc, c3, c4, c5, c6⟩ := c
    rw [List.take_of_length_le (by rw [List.length_range]; exact Nat.le_refl _)] at c6
    exact q (fun i hi => hR i (by omega)) Dl acc H' (fresh_back e1 c1) (e1.trans c2) c5 (DpAll.mono c3 _ c6)⟩
end
/-! ### rows_of -/
theorem kOf_put (f : Int → V) (ts : List Int) (t : Int) : putK (kOf ts f) (Sum.inl t) (f t) = kOf (kStep ts t) f := by
  unfold putK
  rw [valV_any, kOf_val]
  unfold kStep
  by_cases h : t ∈ ts
  · rw [if_pos h, if_pos (show (some (f t)).isSome = true from rfl), if_pos h]
    unfold kOf
    rw [List.map_map]
    apply List.map_congr_left
    intro z _
    show (if (Sum.inl z : Key) = Sum.inl t then (Sum.inl z, f t) else (Sum.inl z, f z)) = (Sum.inl z, f z)
    by_cases e : z = t
    · rw [if_pos (by rw [e]), e]
    · rw [if_neg fun q => e (Sum.inl.inj q)]
  · rw [if_neg h, if_neg (by simp), if_neg h]
    unfold kOf
    rw [List.map_append]
    rfl
structure RwS (B : Hp) (ro : Addr) (T : List Int → Nat) (b' : Int) (M : List (List Int)) (m : Nat) (us : List (List Int)) (ad : List Int → Addr) (tn : List Int → List Int) (H' : Hp) : Prop where
  ex : Ex B H'
  nr : B ro = none
  rows : H' ro = some (.dT (dOf us fun u => .ref (ad u)))
  inn : ∀ u ∈ us, B (ad u) = none ∧ H' (ad u) = some (.dK (kOf (tn u) fun t => .int (T (u ++ [t, b']) : Int)))
  inj : ∀ u ∈ us, ∀ u' ∈ us, ad u = ad u' → u = u'
  ul : us.length ≤ m
  tl : ∀ u ∈ us, (tn u).length ≤ M.length
  mem : ∀ u ∈ us, ∀ t, t ∈ tn u ↔ u ++ [t, b'] ∈ M
  out : ∀ u, u ∉ us → ∀ t, u ++ [t, b'] ∉ M
def RowO (H H' : Hp) (T : List Int → Nat) (b' : Int) (ks : List (List Int)) (s' a' : Int) : Option V → Prop
  | some u => ∃ r ts, u = .ref r ∧ H r = none ∧ H' r = some (.dK (kOf ts fun t => .int (T [s', a', t, b'] : Int))) ∧ ts.length ≤ 4000 ∧ ∀ t, t ∉ ts → [s', a', t, b'] ∉ ks
  | none => ∀ t, [s', a', t, b'] ∉ ks
def SpRows : Sp := fun vs H Q _ => ∃ (d : Addr) (ks : List (List Int)) (T : List Int → Nat) (b' : Int), vs = [.ref d] ∧ H d = some (.dT (dOf ks fun y => .int (T y : Int))) ∧ ks.length ≤ 4000 ∧ (∀ y ∈ ks, ∃ s a t, y = [s, a, t, b']) ∧
  ∀ ro H' kvs, H ro = none → Ex H H' → H' ro = some (.dT kvs) → (∀ s' a', RowO H H' T b' ks s' a' (valV kvs (keyI [s', a']))) → Q (.ref ro) H'
section
variable {P : Program} {w : World} {K : PySem.W.Frag} {mg : Str → Option Value} {base : Heap}
abbrev nmRo : List Str := ["tallies", "rows", "there", "upper"]
theorem scRo : FnScope nmRo ["tallies"] (defScope sRowsOf) := ⟨rfl, rfl, rfl, by decide +kernel, rfl, by decide +kernel, by decide +kernel⟩
theorem cal_rowsOf (D : Def K mg "rows_of" sRowsOf) (gS : Gi mg "SOPRANO" 0) (gA : Gi mg "ALTO" 1) (gT : Gi mg "TENOR" 2) : Cal P w K mg base "rows_of" 1 ["tallies"] SpRows := by
  refine ok_S D scRo (fun vs H Q E h => ?_) (fun _ _ _ _ _ _ us hl => match us, hl with | [_], _ => rfl) (fun f cdv A outer s H vs Q E hr h => ?_)
  · obtain ⟨_, _, _, _, rfl, _⟩ := h
    rfl
  · obtain ⟨d, ks, T, b', rfl, hd, hkl, hk4, k⟩ := h
    refine ⟨_, pss_cons (ps_set (i := 1) scRo.nd rfl (Or.inl rfl) pe_dnewT)
      (pss_cons (ps_lock (ps_for PassesOwn.never rfl (pi_keys (pv 0)) (pg_name (i := 2) scRo.nd rfl (Or.inl rfl))
        (pss_cons (ps_set (i := 3) scRo.nd rfl (Or.inl rfl) (pe_tup (pa_cons (pe_ix ix_tup (pv 2) (pe_gi gS) (fun _ _ => rfl)) (pa_cons (pe_ix ix_tup (pv 2) (pe_gi gA) (fun _ _ => rfl)) pa_nil))))
        (pss_cons (ps_if (pt_cmp (pc_dnotin (hu_of hr) (pv 3) (pv 1))) (pss_one (ps_dput (hu_of hr) (pv 1) (pv 3) pe_dnewK rfl)) pss_nil)
        (pss_one (ps_dput (hu_of hr) (pe_dget (hu_of hr) (pv 1) (pv 3) (fun _ _ => rfl)) (pe_ix ix_tup (pv 2) (pe_gi gT) (fun _ _ => rfl)) (pe_dget (hu_of hr) (pv 0) (pv 2) (fun _ _ => rfl)) rfl))))))
      (pss_one (ps_ret (pv 1)))), ?_⟩
    intro ro hro
    have hrod : ro ≠ d := fun z => by rw [z, hd] at hro; cases hro
    have hd1 : upd H ro (.dT []) d = some (.dT (dOf ks fun y => .int (T y : Int))) := by rw [upd_ne hrod.symm]; exact hd
    refine ⟨d, _, hd1, trivial, fun od => ?_⟩
    obtain ⟨HL, hHL⟩ : ∃ HL, HL = upd (upd H ro (.dT [])) d (.frz od (.dT (dOf ks fun y => .int (T y : Int)))) := ⟨_, rfl⟩
    rw [← hHL]
    have hLro : HL ro = some (.dT []) := by rw [hHL, upd_ne hrod]; exact upd_same
    have hLd : HL d = some (.frz od (.dT (dOf ks fun y => .int (T y : Int)))) := by rw [hHL]; exact upd_same
    have hBd : cutH HL ro d = some (.frz od (.dT (dOf ks fun y => .int (T y : Int)))) := by rw [cutH_ne hrod.symm]; exact hLd
    refine ⟨.ref d, rfl, d, od, rfl, .inr ⟨_, hLd, for_it walk_keysT (fun i σ' H' => ∃ o2 o3 us ad tn, σ' = [some (.ref d), some (.ref ro), o2, o3] ∧ RwS (cutH HL ro) ro T b' (ks.take i) i us ad tn H')
      ⟨none, none, [], fun _ => 0, fun _ => [], rfl, cutH_le, cutH_same _ _, hLro, by simp, by simp, Nat.le_refl 0, by simp, by simp, by simp⟩ (fun i σ' H' _ ⟨_, _, _, _, _, _, r⟩ => r.ex _ _ hBd) (fun i y σ' H' H'' hi ⟨o2, o3, us, ad, tn, eσ, r⟩ hy => ?_) (fun σ' H' ⟨o2, o3, us, ad, tn, eσ, r⟩ => ?_)⟩⟩
    · obtain ⟨rfl, ky, vv, qa, hky, rfl, hqa⟩ := hy
      subst eσ
      unfold dOf at hky
      rw [List.getElem?_map] at hky
      obtain ⟨y, hyi, hkv⟩ := Option.map_eq_some_iff.mp hky
      obtain ⟨rfl, rfl⟩ := Prod.mk.inj hkv
      have hKA : KeyAt H'' qa y := KeyAt.of hqa rfl
      have hym := List.mem_of_getElem? hyi
      have hi' : i < ks.length := by rw [dOf_len] at hi; exact hi
      obtain ⟨s', a', t', rfl⟩ := hk4 y hym
      have hyD : ∀ G, KeyAt G qa [s', a', t', b'] → Dp K G (.ref qa) (.tuple ([s', a', t', b'].map .int)) := fun G h => h.dp
      -- upper = (there[SOPRANO], there[ALTO])
      refine q_asgU (xs := [s', a'].map V.int) (eu_tup (ea_cons (ev_int (K := K) (dv_ixT (j := 0) (dv_var rfl (hyD _ hKA)) dv_int rfl rfl)) (ea_cons (ev_int (K := K) (dv_ixT (j := 1) (dv_var rfl (hyD _ hKA)) dv_int rfl rfl)) ea_nil)) (by show 2 ≤ 100000; decide)) fun kb H1 hkb e1 h1 => ?_
      have hK1 : KeyAt H1 kb [s', a'] := h1
      have htake : ∀ u t, u ++ [t, b'] ∈ ks.take (i + 1) ↔ (u ++ [t, b'] ∈ ks.take i ∨ u ++ [t, b'] = [s', a', t', b']) := fun u t => by
        rw [List.take_add_one, hyi, List.mem_append]
        simp
      -- rows[upper][there[TENOR]] = tallies[there]
      have rest : ∀ (us1 : List (List Int)) (ad1 : List Int → Addr) (tn1 : List Int → List Int) (H2 : Hp), RwS (cutH HL ro) ro T b' (ks.take i) (i + 1) us1 ad1 tn1 H2 → [s', a'] ∈ us1 → KeyAt H2 kb [s', a'] → KeyAt H2 qa [s', a', t', b'] →
          sDPut (tDGet (tVar 1) (tVar 3)) (tOp (rIxT K) (tVar 2) (tC (.int 2))) (tDGet (tVar 0) (tVar 2)) { nx := fun σ' H' => ∃ o2 o3 us ad tn, σ' = [some (.ref d), some (.ref ro), o2, o3] ∧ RwS (cutH HL ro) ro T b' (ks.take (i + 1)) (i + 1) us ad tn H', rt := fun v H' => H' d = some (.frz od (.dT (dOf ks fun y => .int (T y : Int)))) ∧ Q v (upd H' d (.dT (dOf ks fun y => .int (T y : Int)))), bk := fun σ' H' => H' d = some (.frz od (.dT (dOf ks fun y => .int (T y : Int)))) ∧ tRet (tVar 1) { nx := fun _ H' => Q .non H', rt := Q } σ' (upd H' d (.dT (dOf ks fun y => .int (T y : Int)))), ct := fun σ' H' => ∃ o2 o3 us ad tn, σ' = [some (.ref d), some (.ref ro), o2, o3] ∧ RwS (cutH HL ro) ro T b' (ks.take (i + 1)) (i + 1) us ad tn H' } [some (.ref d), some (.ref ro), some (.ref qa), some (.ref kb)] H2 := by
        intro us1 ad1 tn1 H2 r1 hin hK2 hQ2
        have hu := r1.inn _ hin
        refine d_put ?_
        refine (ev_dget (td := tVar 0) (ty := tVar 2) (v := .int (T [s', a', t', b'] : Int)) (ev_var rfl) (.inr ⟨od, r1.ex _ _ hBd⟩) (ev_var rfl) hQ2 (by rw [dOf_val, if_pos hym]) : Ev (tDGet (tVar 0) (tVar 2)) [some (.ref d), some (.ref ro), some (.ref qa), some (.ref kb)] H2 _) H2 (Ex.refl _) _ fun H3 e3 => ?_
        refine s_dputI (n := t') (kvs := kOf (tn1 [s', a']) fun t => .int (T ([s', a'] ++ [t, b']) : Int)) (c := ad1 [s', a']) (ev_dget (ev_var rfl) (.inl (e3 _ _ r1.rows)) (ev_var rfl) (hK2.mono e3) (by rw [dOf_val, if_pos hin])) (e3 _ _ hu.2) (ev_int (K := K) (dv_ixT (j := 2) (dv_var rfl (hyD _ (hQ2.mono e3))) dv_int rfl rfl)) (by rw [kOf_len]; have := r1.tl _ hin; rw [List.length_take] at this; omega) fun H4 e4 => ?_
        have eput : putK (kOf (tn1 [s', a']) fun t => .int (T ([s', a'] ++ [t, b']) : Int)) (Sum.inl t') (.int (T [s', a', t', b'] : Int)) = kOf (kStep (tn1 [s', a']) t') fun t => .int (T ([s', a'] ++ [t, b']) : Int) := kOf_put (fun t => .int (T ([s', a'] ++ [t, b']) : Int)) _ t'
        rw [eput]
        have e34 := e3.trans e4
        have nro : ro ≠ ad1 [s', a'] := fun z => by
          have h9 := r1.rows
          rw [z, hu.2] at h9
          cases h9
        refine ⟨_, _, us1, ad1, fun u => if u = [s', a'] then kStep (tn1 u) t' else tn1 u, rfl, Ex.mut (r1.ex.trans e34) hu.1, r1.nr, ?_, fun u hum => ?_, r1.inj, r1.ul, fun u hum => ?_, fun u hum t => ?_, fun u hum t => ?_⟩
        · rw [upd_ne nro]
          exact e34 _ _ r1.rows
        · have hB := r1.inn u hum
          refine ⟨hB.1, ?_⟩
          show upd H4 (ad1 [s', a']) _ (ad1 u) = some (.dK (kOf (if u = [s', a'] then kStep (tn1 u) t' else tn1 u) fun t => .int (T (u ++ [t, b']) : Int)))
          by_cases h : u = [s', a']
          · subst h
            rw [upd_same, if_pos rfl]
          · rw [if_neg h, upd_ne fun z => h (r1.inj _ hum _ hin z)]
            exact e34 _ _ hB.2
        · show (if u = [s', a'] then kStep (tn1 u) t' else tn1 u).length ≤ (ks.take (i + 1)).length
          have hlen := r1.tl u hum
          rw [List.length_take] at hlen ⊢
          by_cases h : u = [s', a']
          · rw [if_pos h]
            have := kStep_len (tn1 u) t'
            omega
          · rw [if_neg h]
            omega
        · show t ∈ (if u = [s', a'] then kStep (tn1 u) t' else tn1 u) ↔ _
          rw [htake]
          by_cases h : u = [s', a']
          · rw [if_pos h, kStep_mem, r1.mem u hum t, h]
            constructor
            · rintro (q | q)
              · exact .inl q
              · exact .inr (by rw [q]; rfl)
            · rintro (q | q)
              · exact .inl q
              · simp at q
                exact .inr q
          · rw [if_neg h, r1.mem u hum t]
            constructor
            · exact .inl
            · rintro (q | q)
              · exact q
              · exfalso
                apply h
                have e9 : (u ++ [t, b']).take (u.length) = u := by simp
                have hl : u.length = 2 := by
                  have := congrArg List.length q
                  simp at this
                  omega
                rw [q, hl] at e9
                exact e9.symm
        · rw [htake]
          rintro (q | q)
          · exact r1.out u hum t q
          · apply hum
            have e9 : (u ++ [t, b']).take (u.length) = u := by simp
            have hl : u.length = 2 := by
              have := congrArg List.length q
              simp at this
              omega
            rw [q, hl] at e9
            rw [← e9]
            exact hin
      have r1 : RwS (cutH HL ro) ro T b' (ks.take i) i us ad tn H1 := { r with ex := r.ex.trans e1, rows := e1 _ _ r.rows, inn := fun u hu => ⟨(r.inn u hu).1, e1 _ _ (r.inn u hu).2⟩ }
      refine q_when (b := !decide ([s', a'] ∈ us)) (et_B (ev_is (ev_dnotin (ev_var rfl) hK1 (ev_var rfl) (.inl r1.rows)) (by
        rw [dOf_val]
        by_cases h : [s', a'] ∈ us
        · rw [if_pos h, decide_eq_true h]; rfl
        · rw [if_neg h, decide_eq_false h]; rfl))) (fun hb H2 e2 => ?_) (fun hb H2 e2 => ?_)
      · rw [Bool.not_eq_true', decide_eq_false_iff_not] at hb
        -- rows[upper] = {}
        intro nw hnw
        have eN : Ex H2 (upd H2 nw (.dK [])) := Ex.new hnw
        have e12 := e2.trans eN
        refine s_dputV (v := .ref nw) (ev_var rfl) (e12 _ _ r1.rows) (ev_var rfl) (hK1.mono e12) (by have := r1.ul; omega) fun H3 e3 => ?_
        have e13 := e12.trans e3
        have hBn : cutH HL ro nw = none := fresh_back (r1.ex.trans e2) hnw
        have nnr : nw ≠ ro := fun z => by rw [z, e2 _ _ r1.rows] at hnw; cases hnw
        have hnw3 : H3 nw = some (.dK []) := e3 _ _ upd_same
        have nad : ∀ u ∈ us, ad u ≠ nw := fun u hu z => by
          have h9 := e2 _ _ (r1.inn u hu).2
          rw [z, hnw] at h9
          cases h9
        have nar : ∀ u ∈ us, ad u ≠ ro := fun u hu z => by
          have h9 := (r1.inn u hu).2
          rw [z, r1.rows] at h9
          cases h9
        have keyNe : ∀ {b : Addr} {kk : List Int}, KeyAt H3 b kk → KeyAt (upd H3 ro (.dT (dOf (kStep us [s', a']) fun z => if z = [s', a'] then .ref nw else .ref (ad z)))) b kk := fun {b kk} h => by
          have : b ≠ ro := fun z => by
            unfold KeyAt at h
            rw [z, e13 _ _ r1.rows] at h
            cases h
          unfold KeyAt
          rw [upd_ne this]
          exact h
        refine rest (kStep us [s', a']) (fun z => if z = [s', a'] then nw else ad z) (fun z => if z = [s', a'] then [] else tn z) _ ⟨Ex.mut (r1.ex.trans e13) r1.nr, r1.nr, ?_, fun u hu => ?_, fun u hu u' hu' e => ?_, ?_, fun u hu => ?_, fun u hu t => ?_, fun u hu t => ?_⟩ ((kStep_mem _ _ _).mpr (.inr rfl)) (keyNe (hK1.mono e13)) (keyNe (hKA.mono (e1.trans e13)))
        · rw [upd_same]
          congr 2
          apply dOf_congr
          intro z _
          split <;> rfl
        · by_cases h : u = [s', a']
          · subst h
            rw [if_pos rfl, if_pos rfl]
            exact ⟨hBn, by rw [upd_ne nnr]; exact hnw3⟩
          · have hum : u ∈ us := ((kStep_mem _ _ _).mp hu).resolve_right h
            rw [if_neg h, if_neg h]
            exact ⟨(r1.inn u hum).1, by rw [upd_ne (nar u hum)]; exact e13 _ _ (r1.inn u hum).2⟩
        · by_cases h : u = [s', a']
          · by_cases h' : u' = [s', a']
            · rw [h, h']
            · have hum' : u' ∈ us := ((kStep_mem _ _ _).mp hu').resolve_right h'
              simp only [if_pos h, if_neg h'] at e
              exact absurd e.symm (nad u' hum')
          · have hum : u ∈ us := ((kStep_mem _ _ _).mp hu).resolve_right h
            by_cases h' : u' = [s', a']
            · simp only [if_neg h, if_pos h'] at e
              exact absurd e (nad u hum)
            · have hum' : u' ∈ us := ((kStep_mem _ _ _).mp hu').resolve_right h'
              simp only [if_neg h, if_neg h'] at e
              exact r1.inj u hum u' hum' e
        · have := kStep_len us [s', a']
          have := r1.ul
          omega
        · by_cases h : u = [s', a']
          · rw [if_pos h]; exact Nat.zero_le _
          · rw [if_neg h]; exact r1.tl u (((kStep_mem _ _ _).mp hu).resolve_right h)
        · by_cases h : u = [s', a']
          · rw [if_pos h]
            constructor
            · intro q; cases q
            · intro q
              rw [h] at q
              exact absurd q (r1.out _ hb t)
          · rw [if_neg h]; exact r1.mem u (((kStep_mem _ _ _).mp hu).resolve_right h) t
        · exact r1.out u (fun q => hu ((kStep_mem _ _ _).mpr (.inl q))) t
      · rw [Bool.not_eq_false', decide_eq_true_eq] at hb
        refine rest us ad tn H2 ⟨r1.ex.trans e2, r1.nr, e2 _ _ r1.rows, fun u hu => ⟨(r1.inn u hu).1, e2 _ _ (r1.inn u hu).2⟩, r1.inj, by have := r1.ul; omega, r1.tl, r1.mem, r1.out⟩ hb (hK1.mono e2) (hKA.mono (e1.trans e2))
    · subst eσ
      have hd' : H' d = some (.frz od (.dT (dOf ks fun y => .int (T y : Int)))) := r.ex _ _ hBd
      refine ⟨hd', ?_⟩
      have hHN : ∀ z, cutH HL ro z = none → z ≠ ro → H z = none := fun z hz hzr => by
        rw [cutH_ne hzr, hHL] at hz
        by_cases hzd : z = d
        · rw [hzd, upd_same] at hz; cases hz
        · rw [upd_ne hzd, upd_ne hzr] at hz; exact hz
      have e9 : Ex H (upd H' d (.dT (dOf ks fun y => .int (T y : Int)))) := fun b o hb => by
        have hbr : b ≠ ro := fun z => by rw [z, hro] at hb; cases hb
        by_cases hbd : b = d
        · rw [hbd, hd] at hb
          cases hb
          rw [hbd]
          exact upd_same
        · rw [upd_ne hbd]
          exact r.ex b o (by rw [cutH_ne hbr, hHL, upd_ne hbd, upd_ne hbr]; exact hb)
      refine s_ret (ev_var rfl) fun H9 e10 => k ro H9 (dOf us fun u => .ref (ad u)) hro (e9.trans e10) (e10 _ _ (by rw [upd_ne hrod]; exact r.rows)) fun s' a' => ?_
      rw [dOf_len, List.take_length] at r
      rw [dOf_val]
      by_cases h : [s', a'] ∈ us
      · rw [if_pos h]
        have hu := r.inn _ h
        have nar : ad [s', a'] ≠ ro := fun z => by
          have h9 := hu.2
          rw [z, r.rows] at h9
          cases h9
        have nad : ad [s', a'] ≠ d := fun z => by
          have h9 := hu.2
          rw [z, hd'] at h9
          cases h9
        refine ⟨ad [s', a'], tn [s', a'], rfl, hHN _ hu.1 nar, e10 _ _ (by rw [upd_ne nad]; exact hu.2), Nat.le_trans (r.tl _ h) hkl, fun t ht hm => ht ((r.mem _ h t).mpr hm)⟩
      · rw [if_neg h]
        exact fun t => r.out _ h t
end
end Bf

namespace Bf
open PySem PySem.Spec PyProof.Rows L2 Evl
abbrev sPaI : Stmt := inClass (top 79) 0
def groupY (q : Cp05.Rules) (e : Cp05.Chord) (l : List Cp05.Chord) (y : List Int) : List Nat := ((Cp05.settings q e).filter fun x => decide (sndC e x = y)).flatMap fun x => (aheadL q l (sndC e x)).map (· + Cp05.own q e x)
theorem groupL_Y (q : Cp05.Rules) (e : Cp05.Chord) (l : List Cp05.Chord) (s a t : Int) : groupL q e l s a t = groupY q e l [s, a, t, e.bass.sound] := rfl
theorem groupY_nil {q : Cp05.Rules} {e : Cp05.Chord} {l : List Cp05.Chord} {y : List Int} (h : ¬ ∃ s ∈ Cp05.settings q e, sndC e s = y) : groupY q e l y = [] := by
  unfold groupY
  have : (Cp05.settings q e).filter (fun x => decide (sndC e x = y)) = [] := by
    apply List.filter_eq_nil_iff.mpr
    intro s hs
    rw [decide_eq_true_eq]
    exact fun z => h ⟨s, hs, z⟩
  rw [this]
  rfl
/-- a voice's sounds lie in its range -/
theorem snd_rng {q : Cp05.Rules} {e : Cp05.Chord} (okR : RuOk q) (okC : ChOk e) {s : Cp05.Setting} (hs : s ∈ Cp05.settings q e) {i : Nat} (hi : i < 3) : (q.ranges.getD i (0, 0)).1 ≤ fV e i s ∧ fV e i s ≤ (q.ranges.getD i (0, 0)).2 := by
  obtain ⟨a, b, t, rfl, ha, hb, ht, _⟩ := mem_settings hs
  have h1 := (notes_named okC.ok ha).2.2
  have h2 := (notes_named okC.ok hb).2.2
  have h3 := (notes_named okC.ok ht).2.2
  match i, hi with
  | 0, _ => exact h1
  | 1, _ => exact h2
  | 2, _ => exact h3
theorem rng_mem {q : Cp05.Rules} (okR : RuOk q) {i : Nat} (hi : i < 3) : q.ranges.getD i (0, 0) ∈ q.ranges := by
  obtain ⟨x, y, z, e⟩ := okR.r3
  rw [e]
  match i, hi with
  | 0, _ => simp
  | 1, _ => simp
  | 2, _ => simp
theorem few_rng {lo hi : Int} (h : hi - lo ≤ 24) {L : List Int} (nd : L.Nodup) (hL : ∀ k ∈ L, lo ≤ k ∧ k ≤ hi) : L.length < 64 := by
  have hsub : L ⊆ (List.range 25).map fun i : Nat => lo + (i : Int) := fun k hk => by
    obtain ⟨h1, h2⟩ := hL k hk
    exact List.mem_map.mpr ⟨(k - lo).toNat, List.mem_range.mpr (by omega), by omega⟩
  have := List.Nodup.length_le_of_subset nd hsub
  rw [List.length_map, List.length_range] at this
  omega
def spPaI (K : PySem.W.Frag) (CR CP : Addr) : Sp := fun vs H Q _ => ∃ (p dx r d : Addr) (vb : V) (q : Cp05.Rules) (e : Cp05.Chord) (l : List Cp05.Chord) (b : Int) (wd : Nat) (ks : List (List Int)), vs = [.ref p, .ref r, vb, .ref d, .int (wd : Int)] ∧ H p = some (.ins CP dx []) ∧ RuAt K CR H r q ∧ RuOk q ∧ ChOk e ∧ Dp K H vb (tupI [b, e.bass.sound]) ∧
  H d = some (.dT (dOf ks fun y => .int (tal wd (groupY q e l y) : Int))) ∧ (∀ y, y ∈ ks ↔ ∃ s ∈ Cp05.settings q e, sndC e s = y) ∧ ks.length ≤ 4000 ∧ wd ≤ 200 ∧ (allL q e l).length < 2 ^ wd ∧ -2 ≤ b ∧ b ≤ 121 ∧
  ∀ H' x, x.a = p → x.q = q → x.e = e → x.l = l → x.b = b → x.wd = wd → PaIn K CR CP x x.S H' → (∀ z, x.S z = true → H z = none) → Ex (cutH H p) H' → Q .non H'
theorem paP1 (a : V) : putF "rules" a ([] : List (Str × V)) = [(("rules" : Str), a)] := rfl
theorem paP2 (a b : V) : putF "basses" b [(("rules" : Str), a)] = [(("rules" : Str), a), ("basses", b)] := put_new ["rules"] rfl (by decide +kernel)
theorem paP3 (a b c : V) : putF "width" c [(("rules" : Str), a), ("basses", b)] = [(("rules" : Str), a), ("basses", b), ("width", c)] := put_new ["rules", "basses"] rfl (by decide +kernel)
theorem paP4 (a b c d : V) : putF "rows" d [(("rules" : Str), a), ("basses", b), ("width", c)] = [(("rules" : Str), a), ("basses", b), ("width", c), ("rows", d)] := put_new ["rules", "basses", "width"] rfl (by decide +kernel)
theorem paP5 (a b c d e : V) : putF "places" e [(("rules" : Str), a), ("basses", b), ("width", c), ("rows", d)] = [(("rules" : Str), a), ("basses", b), ("width", c), ("rows", d), ("places", e)] := put_new ["rules", "basses", "width", "rows"] rfl (by decide +kernel)
theorem paP6 (a b c d e f : V) : putF "reaches" f [(("rules" : Str), a), ("basses", b), ("width", c), ("rows", d), ("places", e)] = [(("rules" : Str), a), ("basses", b), ("width", c), ("rows", d), ("places", e), ("reaches", f)] := put_new ["rules", "basses", "width", "rows", "places"] rfl (by decide +kernel)
theorem paP7 (a b c d e f g : V) : putF "alto_rows" g [(("rules" : Str), a), ("basses", b), ("width", c), ("rows", d), ("places", e), ("reaches", f)] = [(("rules" : Str), a), ("basses", b), ("width", c), ("rows", d), ("places", e), ("reaches", f), ("alto_rows", g)] := put_new ["rules", "basses", "width", "rows", "places", "reaches"] rfl (by decide +kernel)
theorem paP8 (a b c d e f g h : V) : putF "tenor_rows" h [(("rules" : Str), a), ("basses", b), ("width", c), ("rows", d), ("places", e), ("reaches", f), ("alto_rows", g)] = [(("rules" : Str), a), ("basses", b), ("width", c), ("rows", d), ("places", e), ("reaches", f), ("alto_rows", g), ("tenor_rows", h)] := put_new ["rules", "basses", "width", "rows", "places", "reaches", "alto_rows"] rfl (by decide +kernel)
theorem paP9 (a b c d e f g h i : V) : putF "tenors" i [(("rules" : Str), a), ("basses", b), ("width", c), ("rows", d), ("places", e), ("reaches", f), ("alto_rows", g), ("tenor_rows", h)] = [(("rules" : Str), a), ("basses", b), ("width", c), ("rows", d), ("places", e), ("reaches", f), ("alto_rows", g), ("tenor_rows", h), ("tenors", i)] := put_new ["rules", "basses", "width", "rows", "places", "reaches", "alto_rows", "tenor_rows"] rfl (by decide +kernel)
theorem sfld_i {K : PySem.W.Frag} {σ : L2.St} {H : Hp} {D : Ends} {tz : TS} {ta tv : TE} {f : Str} (h : tv σ H fun y H1 => ta σ H1 fun x H2 => ∃ a C dx fs, x = .ref a ∧ H2 a = some (.ins C dx fs) ∧ Cls K C ∧ NoAttr K C f ∧ fs.length < 1000 ∧ tz D σ (upd H2 a (.ins C dx (putF f y fs)))) : tSeq (sFld K ta tv f) tz D σ H := h
/-- the scope of the places' comprehension -/
abbrev scVo : Scope := { kind := .function, names := [((".0" : Str), .local), ("voice", .cell), ("sorted", .globalImplicit), ("set", .globalImplicit), ("tallies", .cell)], isGenerator := false, isCoroutine := false }
section
variable {P : Program} {w : World} {K : PySem.W.Frag} {mg : Str → Option Value} {base : Heap} {CR CP f : Addr} {fd : FuncData}
abbrev nmPI : List Str := ["self", "rules", "basses", "tallies", "width", "there", "voice"]
theorem scPI : FnScope nmPI ["self", "rules", "basses", "tallies", "width"] (defScope sPaI) := ⟨rfl, rfl, rfl, by decide +kernel, rfl, by decide +kernel, by decide +kernel⟩
theorem ok_paI (F : Fun K "__init__" "Passage.__init__" sPaI f fd) (T : PaTxt K CP) (gB : Gi mg "BASS" 3) (gr : mg "range" = none) (gs : mg "sorted" = none) (gt : mg "set" = none) (c : Cal P w K mg base "rows_of" 1 ["tallies"] SpRows) : FnOk P w K mg base CX0 2 f fd ["self", "rules", "basses", "tallies", "width"] (spPaI K CR CP) := by
  refine F.ok scPI (fun vs H Q E h => ?_) (fun cdv A outer s H vs Q E hr h => ?_)
  · obtain ⟨_, _, _, _, _, _, _, _, _, _, _, rfl, _⟩ := h
    rfl
  · obtain ⟨p, dx, r, d, vb, q, e, l, b, wd, ks, rfl, hp, hR, okR, okC, hvb, hd, hks, hkl, hwd, hfew, hb1, hb2, k⟩ := h
    refine ⟨_, pss_cons (ps_fld (pv 0) (pv 1) rfl) (pss_cons (ps_fld (pv 0) (pv 2) rfl) (pss_cons (ps_fld (pv 0) (pv 4) rfl) (pss_cons (ps_fld (pv 0) (pe_cal c hr (pa_cons (pv 3) pa_nil)) rfl)
      (pss_cons (ps_fld (pv 0) (pe_lc (own := [("voice", 6)]) (g := gName 6) (te := tCB (rSortedSet w) (tCons (tCB (rSetI K w) (tCons (tLockE (tLc (iKeys (tVar 3)) (gName 5) tYes (tOp (rIxT K) (tVar 5) (tVar 6)) [5])) tNil)) tNil)) rfl scPI.nd (pi_range1 (by rfl) gr (pa_cons (pe_gi gB) pa_nil)) (blkOk_by (own := [("voice", 6)]) (N := nmPI) (sc := defScope sPaI) (by decide +kernel)) (fun _ _ _ _ _ => pg_name (i := 6) scPI.nd rfl (Or.inr rfl)) (fun _ _ _ _ _ => pts_nil)
        (fun _ _ _ _ _ => pe_callB (cr_sortedSet rfl) (by rfl) gs (by decide +kernel) (pa_cons (pe_callTy (cr_setI rfl) (by rfl) gt (by decide +kernel) (pa_cons (pe_lock (pe_lc (own := [("there", 5)]) (g := gName 5) (te := tOp (rIxT K) (tVar 5) (tVar 6)) rfl scPI.nd (pi_keys (pv 3)) (blkOk_by (own := [("there", 5)]) (N := nmPI) (sc := scVo) (by decide +kernel)) (fun _ _ _ _ _ => pg_name (i := 5) scPI.nd rfl (Or.inl rfl)) (fun _ _ _ _ _ => pts_nil) (fun _ _ _ _ _ => pe_ix ix_tup (pv 5) (pv 6) (fun _ _ => rfl)))) pa_nil)) pa_nil))) rfl)
      (pss_cons (ps_fld (pv 0) pe_dnewT rfl) (pss_cons (ps_fld (pv 0) pe_dnewT rfl) (pss_cons (ps_fld (pv 0) pe_dnewT rfl) (pss_one (ps_fld (pv 0) pe_dnewT rfl))))))))), ?_⟩
    -- self.rules, self.basses, self.width
    refine ⟨_, rfl, _, rfl, p, CP, dx, _, rfl, hp, T.cl, T.n_rules, (by show 0 < 1000; decide), ?_⟩
    rw [paP1]
    refine ⟨_, rfl, _, rfl, p, CP, dx, _, rfl, upd_same, T.cl, T.n_basses, (by show 1 < 1000; decide), ?_⟩
    rw [paP2]
    refine ⟨_, rfl, _, rfl, p, CP, dx, _, rfl, upd_same, T.cl, T.n_width, (by show 2 < 1000; decide), ?_⟩
    rw [paP3, upd_upd, upd_upd]
    obtain ⟨A3, hA3⟩ : ∃ A3, A3 = upd H p (.ins CP dx [(("rules" : Str), .ref r), ("basses", vb), ("width", .int (wd : Int))]) := ⟨_, rfl⟩
    rw [← hA3]
    have pA3 : A3 p = some (.ins CP dx [(("rules" : Str), .ref r), ("basses", vb), ("width", .int (wd : Int))]) := by rw [hA3]; exact upd_same
    have cA3 : cutH A3 p = cutH H p := by rw [hA3]; exact cutH_upd_eq
    have hdp : d ≠ p := ne_of hd hp fun z => nomatch z
    have dA3 : A3 d = some (.dT (dOf ks fun y => .int (tal wd (groupY q e l y) : Int))) := by rw [hA3, upd_ne hdp]; exact hd
    have hk4 : ∀ y ∈ ks, ∃ s a t, y = [s, a, t, e.bass.sound] := fun y hy => by
      obtain ⟨s, hs, rfl⟩ := (hks y).mp hy
      exact ⟨_, _, _, snd_at hs⟩
    -- self.rows
    refine ⟨_, rfl, ⟨d, ks, fun y => tal wd (groupY q e l y), e.bass.sound, rfl, dA3, hkl, hk4, fun ro H4 kvs hro e4 h4 hrow => ⟨_, rfl, p, CP, dx, _, rfl, e4 _ _ pA3, T.cl, T.n_rows, (by show 3 < 1000; decide), ?_⟩⟩⟩
    rw [paP4]
    have hrop : ro ≠ p := fun z => by rw [z, pA3] at hro; cases hro
    obtain ⟨A4, hA4⟩ : ∃ A4, A4 = upd H4 p (.ins CP dx [(("rules" : Str), .ref r), ("basses", vb), ("width", .int (wd : Int)), ("rows", .ref ro)]) := ⟨_, rfl⟩
    rw [← hA4]
    have pA4 : A4 p = some (.ins CP dx [(("rules" : Str), .ref r), ("basses", vb), ("width", .int (wd : Int)), ("rows", .ref ro)]) := by rw [hA4]; exact upd_same
    have cA4 : cutH A4 p = cutH H4 p := by rw [hA4]; exact cutH_upd_eq
    have dA4 : A4 d = some (.dT (dOf ks fun y => .int (tal wd (groupY q e l y) : Int))) := by rw [hA4, upd_ne hdp]; exact e4 _ _ dA3
    have fewI : ∀ i, i < 3 → ∀ L : List Int, L.Nodup → (∀ k ∈ L, k ∈ ks.map fun y => y.getD i 0) → L.length < 64 := fun i hi L nd hL => by
      refine few_rng (okR.rw _ (rng_mem okR hi)) nd fun k hk => ?_
      obtain ⟨y, hy, rfl⟩ := List.mem_map.mp (hL k hk)
      obtain ⟨s, hs, rfl⟩ := (hks y).mp hy
      exact snd_rng okR okC hs hi
    -- self.places
    refine sfld_i (dvl_mapNL (K := K) (σ := [some (.ref p), some (.ref r), some vb, some (.ref d), some (.int (wd : Int)), none, none]) (H := A4) (n := 3) (fun i => (srtOf (ks.map fun y => y.getD i 0)).map .int) (fun i => SrtOk (ks.map fun y => y.getD i 0)) (da_one dv_int) (by decide) (fun _ => rfl) (fun i => noListAll_map nl_int _) (fun i hi H5 e5 Q5 q5 => ?_) A4 (Ex.refl _) _ fun hSrt pl xs H6 hpl e6 h6 hx => ?_)
    · have hi3 : i < 3 := by omega
      refine dvl_srt (K := K) (H := H5) (ks := ks.map fun y => y.getD i 0) (dvl_is (dvl_lcKeysT (ks := ks) (f := fun y => .int (tal wd (groupY q e l y) : Int)) (fun y => .int (y.getD i 0)) (ev_var rfl) (e5 _ _ dA4) (by omega) (fun _ => rfl) (fun y _ => nl_int _) (fun y hy qa H7 e7 hK hrd => ?_)) (by rw [List.map_map]; rfl)) (by rw [List.length_map]; exact hkl) (fewI i hi3) H5 (Ex.refl _) Q5 q5
      obtain ⟨s1, a1, t1, rfl⟩ := hk4 y hy
      exact dv_ixT (j := i) (ds := [s1, a1, t1, e.bass.sound].map .int) (dv_var rfl hK.dp) (dv_vi rfl) rfl (int_at (getD_at (by show i < 4; omega)))
    refine ⟨_, rfl, p, CP, dx, _, rfl, e6 _ _ pA4, T.cl, T.n_places, (by show 4 < 1000; decide), ?_⟩
    rw [paP5]
    have hplp : pl ≠ p := fun z => by rw [z, pA4] at hpl; cases hpl
    have pH6 := e6 _ _ pA4
    obtain ⟨A5, hA5⟩ : ∃ A5, A5 = upd H6 p (.ins CP dx [(("rules" : Str), .ref r), ("basses", vb), ("width", .int (wd : Int)), ("rows", .ref ro), ("places", .ref pl)]) := ⟨_, rfl⟩
    rw [← hA5]
    have pA5 : A5 p = some (.ins CP dx [(("rules" : Str), .ref r), ("basses", vb), ("width", .int (wd : Int)), ("rows", .ref ro), ("places", .ref pl)]) := by rw [hA5]; exact upd_same
    have nA5 : ∀ b o, b ≠ p → H6 b = some o → A5 b = some o := fun b o hb h => by rw [hA5, upd_ne hb]; exact h
    -- the four
    intro c1 hc1
    have c1p : c1 ≠ p := fun z => by rw [z, pA5] at hc1; cases hc1
    refine ⟨_, rfl, p, CP, dx, _, rfl, (Ex.new hc1) _ _ pA5, T.cl, T.n_reaches, (by show 5 < 1000; decide), ?_⟩
    rw [paP6]
    obtain ⟨A6, hA6⟩ : ∃ A6, A6 = upd (upd A5 c1 (.dT [])) p (.ins CP dx [(("rules" : Str), .ref r), ("basses", vb), ("width", .int (wd : Int)), ("rows", .ref ro), ("places", .ref pl), ("reaches", .ref c1)]) := ⟨_, rfl⟩
    rw [← hA6]
    have pA6 : A6 p = some (.ins CP dx [(("rules" : Str), .ref r), ("basses", vb), ("width", .int (wd : Int)), ("rows", .ref ro), ("places", .ref pl), ("reaches", .ref c1)]) := by rw [hA6]; exact upd_same
    have c1A6 : A6 c1 = some (.dT []) := by rw [hA6, upd_ne c1p]; exact upd_same
    have nA6 : ∀ b o, b ≠ p → A5 b = some o → A6 b = some o := fun b o hb h => by rw [hA6, upd_ne hb]; exact (Ex.new hc1) _ _ h
    intro c2 hc2
    have c2p : c2 ≠ p := fun z => by rw [z, pA6] at hc2; cases hc2
    refine ⟨_, rfl, p, CP, dx, _, rfl, (Ex.new hc2) _ _ pA6, T.cl, T.n_alto_rows, (by show 6 < 1000; decide), ?_⟩
    rw [paP7]
    obtain ⟨A7, hA7⟩ : ∃ A7, A7 = upd (upd A6 c2 (.dT [])) p (.ins CP dx [(("rules" : Str), .ref r), ("basses", vb), ("width", .int (wd : Int)), ("rows", .ref ro), ("places", .ref pl), ("reaches", .ref c1), ("alto_rows", .ref c2)]) := ⟨_, rfl⟩
    rw [← hA7]
    have pA7 : A7 p = some (.ins CP dx [(("rules" : Str), .ref r), ("basses", vb), ("width", .int (wd : Int)), ("rows", .ref ro), ("places", .ref pl), ("reaches", .ref c1), ("alto_rows", .ref c2)]) := by rw [hA7]; exact upd_same
    have c2A7 : A7 c2 = some (.dT []) := by rw [hA7, upd_ne c2p]; exact upd_same
    have nA7 : ∀ b o, b ≠ p → A6 b = some o → A7 b = some o := fun b o hb h => by rw [hA7, upd_ne hb]; exact (Ex.new hc2) _ _ h
    intro c3 hc3
    have c3p : c3 ≠ p := fun z => by rw [z, pA7] at hc3; cases hc3
    refine ⟨_, rfl, p, CP, dx, _, rfl, (Ex.new hc3) _ _ pA7, T.cl, T.n_tenor_rows, (by show 7 < 1000; decide), ?_⟩
    rw [paP8]
    obtain ⟨A8, hA8⟩ : ∃ A8, A8 = upd (upd A7 c3 (.dT [])) p (.ins CP dx [(("rules" : Str), .ref r), ("basses", vb), ("width", .int (wd : Int)), ("rows", .ref ro), ("places", .ref pl), ("reaches", .ref c1), ("alto_rows", .ref c2), ("tenor_rows", .ref c3)]) := ⟨_, rfl⟩
    rw [← hA8]
    have pA8 : A8 p = some (.ins CP dx [(("rules" : Str), .ref r), ("basses", vb), ("width", .int (wd : Int)), ("rows", .ref ro), ("places", .ref pl), ("reaches", .ref c1), ("alto_rows", .ref c2), ("tenor_rows", .ref c3)]) := by rw [hA8]; exact upd_same
    have c3A8 : A8 c3 = some (.dT []) := by rw [hA8, upd_ne c3p]; exact upd_same
    have nA8 : ∀ b o, b ≠ p → A7 b = some o → A8 b = some o := fun b o hb h => by rw [hA8, upd_ne hb]; exact (Ex.new hc3) _ _ h
    intro c4 hc4
    have c4p : c4 ≠ p := fun z => by rw [z, pA8] at hc4; cases hc4
    refine ⟨_, rfl, p, CP, dx, _, rfl, (Ex.new hc4) _ _ pA8, T.cl, T.n_tenors, (by show 8 < 1000; decide), ?_⟩
    rw [paP9]
    obtain ⟨x, hx0⟩ : ∃ x : Pax, x = ⟨q, e, l, b, wd, srtOf (ks.map fun y => y.getD 0 0), srtOf (ks.map fun y => y.getD 1 0), srtOf (ks.map fun y => y.getD 2 0), p, dx, r, ro, c1, c2, c3, c4, vb, .ref pl⟩ := ⟨_, rfl⟩
    obtain ⟨A9, hA9⟩ : ∃ A9, A9 = upd (upd A8 c4 (.dT [])) p (.ins CP dx (paF x)) := ⟨_, rfl⟩
    have hfin : upd (upd A8 c4 (.dT [])) p (.ins CP dx [(("rules" : Str), .ref r), ("basses", vb), ("width", .int (wd : Int)), ("rows", .ref ro), ("places", .ref pl), ("reaches", .ref c1), ("alto_rows", .ref c2), ("tenor_rows", .ref c3), ("tenors", .ref c4)]) = A9 := by rw [hA9, hx0]; rfl
    rw [hfin]
    have pA9 : A9 p = some (.ins CP dx (paF x)) := by rw [hA9]; exact upd_same
    have c4A9 : A9 c4 = some (.dT []) := by rw [hA9, upd_ne c4p]; exact upd_same
    have nA9 : ∀ b o, b ≠ p → A8 b = some o → A9 b = some o := fun b o hb h => by rw [hA9, upd_ne hb]; exact (Ex.new hc4) _ _ h
    have c3A9 := nA9 _ _ c3p c3A8
    have c2A8 := nA8 _ _ c2p c2A7
    have c2A9 := nA9 _ _ c2p c2A8
    have c1A7 := nA7 _ _ c1p c1A6
    have c1A8 := nA8 _ _ c1p c1A7
    have c1A9 := nA9 _ _ c1p c1A8
    have n59 : ∀ b o, b ≠ p → A5 b = some o → A9 b = some o ∧ b ≠ c1 ∧ b ≠ c2 ∧ b ≠ c3 ∧ b ≠ c4 := fun b o hb h5 => by
      have h6' := nA6 b o hb h5
      have h7 := nA7 b o hb h6'
      have h8 := nA8 b o hb h7
      exact ⟨nA9 b o hb h8, ne_of_none h5 hc1, ne_of_none h6' hc2, ne_of_none h7 hc3, ne_of_none h8 hc4⟩
    have xS : ∀ z, x.S z = (decide (z = c1) || (decide (z = c2) || (decide (z = c3) || decide (z = c4)))) := fun z => by rw [hx0]; rfl
    have nS : ∀ b, b ≠ c1 → b ≠ c2 → b ≠ c3 → b ≠ c4 → x.S b = false := fun b h1 h2 h3 h4' => by rw [xS, decide_eq_false h1, decide_eq_false h2, decide_eq_false h3, decide_eq_false h4']; rfl
    have EF : Ex (cutH H6 p) (cutS A9 x.S) := fun z o hz => by
      have hzp : z ≠ p := fun y => by rw [y, cutH_same] at hz; cases hz
      rw [cutH_ne hzp] at hz
      obtain ⟨h9, n1, n2, n3, n4⟩ := n59 z o hzp (nA5 z o hzp hz)
      rw [cutS_ne (nS z n1 n2 n3 n4)]
      exact h9
    have E06 : Ex (cutH H p) (cutH H6 p) := by
      have h1 : Ex (cutH A3 p) (cutH H4 p) := cutH_mono e4
      have h2 : Ex (cutH A4 p) (cutH H6 p) := cutH_mono e6
      rw [cA3] at h1
      rw [cA4] at h2
      exact h1.trans h2
    have E46 : Ex (cutH H4 p) (cutH H6 p) := by
      have h2 : Ex (cutH A4 p) (cutH H6 p) := cutH_mono e6
      rw [cA4] at h2
      exact h2
    have lc0 : LSame H (cutH H p) := LSame.cut (noSeq_ins hp)
    have hRF : RuAt K CR (cutS A9 x.S) r q := by
      obtain ⟨dr, vr, va, vl, r1, r2, r3, r4⟩ := hR
      refine RuAt.mono (E06.trans EF) ⟨dr, vr, va, vl, ?_, Dp.monoL lc0 _ r2, Dp.monoL lc0 _ r3, Dp.monoL lc0 _ r4⟩
      rw [cutH_ne (ne_of r1 hp fun z => by injection z with _ _ h; cases h)]
      exact r1
    have hS0 := hSrt 0 (by decide)
    have hS1 := hSrt 1 (by decide)
    have hS2 := hSrt 2 (by decide)
    have memP : ∀ i, i < 3 → ∀ y ∈ Cp05.settings q e, fV e i y ∈ srtOf (ks.map fun y => y.getD i 0) := fun i hi y hy => by
      have hS := hSrt i (by omega)
      exact (hS.2 _).mpr (List.mem_map.mpr ⟨sndC e y, (hks _).mpr ⟨y, hy, rfl⟩, rfl⟩)
    have rngP : ∀ i, i < 3 → ∀ z ∈ srtOf (ks.map fun y => y.getD i 0), sR z := fun i hi z hz => by
      have hS := hSrt i (by omega)
      obtain ⟨y, hy, rfl⟩ := List.mem_map.mp ((hS.2 _).mp hz)
      obtain ⟨s, hs, rfl⟩ := (hks y).mp hy
      have h1 := snd_rng okR okC hs hi
      have h2 := okR.rb _ (rng_mem okR hi)
      exact ⟨Int.le_trans h2.1 h1.1, Int.le_trans h1.2 h2.2⟩
    have lenP : ∀ i, i < 3 → (srtOf (ks.map fun y => y.getD i 0)).length ≤ 4000 := fun i hi => by
      have hS := hSrt i (by omega)
      have := fewI i hi _ hS.1 fun k hk => (hS.2 k).mp hk
      omega
    have Pv : ∀ v, (v = 0 ∧ x.P v = srtOf (ks.map fun y => y.getD 0 0)) ∨ (v = 1 ∧ x.P v = srtOf (ks.map fun y => y.getD 1 0)) ∨ (v = 2 ∧ x.P v = srtOf (ks.map fun y => y.getD 2 0)) ∨ x.P v = [] := fun v => by
      rw [hx0]
      match v with
      | 0 => exact .inl ⟨rfl, rfl⟩
      | 1 => exact .inr (.inl ⟨rfl, rfl⟩)
      | 2 => exact .inr (.inr (.inl ⟨rfl, rfl⟩))
      | v + 3 => exact .inr (.inr (.inr rfl))
    have hst : PaSt K CR CP x (cutS A9 x.S) := by
      have n1 := nS p c1p.symm c2p.symm c3p.symm c4p.symm
      refine ⟨?_, ?_, ?_, ?_, ?_, ?_, ?_, ?_, ?_, ?_, ?_, ?_, ?_, ?_, ?_, ?_, ?_, ?_, ?_, ?_, ?_⟩
      · have : x.a = p := by rw [hx0]
        rw [this, cutS_ne n1]
        have : x.dx = dx := by rw [hx0]
        rw [this]
        exact pA9
      · have h1 : x.r = r := by rw [hx0]
        have h2 : x.q = q := by rw [hx0]
        rw [h1, h2]
        exact hRF
      · rw [hx0]; exact okR
      · have h1 : x.vb = vb := by rw [hx0]
        have h2 : [x.b, x.b'] = [b, e.bass.sound] := by rw [hx0]; rfl
        rw [h1, h2]
        exact Dp.mono (E06.trans EF) _ (Dp.monoL lc0 _ hvb)
      · have h1 : x.vp = .ref pl := by rw [hx0]
        have h2 : [x.P0, x.P1, x.P2] = [srtOf (ks.map fun y => y.getD 0 0), srtOf (ks.map fun y => y.getD 1 0), srtOf (ks.map fun y => y.getD 2 0)] := by rw [hx0]
        have h3 : Dp K (cutS A9 x.S) (.ref pl) (.list ((List.range 3).map fun i => .list ((srtOf (ks.map fun y => y.getD i 0)).map .int))) := Dp.mono EF _ (.lst (sq_of (by rw [cutH_ne hplp]; exact h6)) (DpAll.monoL (LSame.cut (noSeq_ins pH6)) _ hx))
        rw [h1]
        simp only [List.cons.injEq, and_true] at h2
        rw [h2.1, h2.2.1, h2.2.2]
        exact h3
      · have h1 : x.rw = ro := by rw [hx0]
        refine ⟨kvs, by rw [h1]; exact EF _ _ (E46 _ _ (by rw [cutH_ne hrop]; exact h4)), fun s' a' => ?_⟩
        have hr := hrow s' a'
        have hG : ∀ t, x.G s' a' t = groupY q e l [s', a', t, e.bass.sound] := fun t => by rw [hx0]; rfl
        have hw : x.wd = wd := by rw [hx0]
        have hout : ∀ t, [s', a', t, e.bass.sound] ∉ ks → x.G s' a' t = [] := fun t ht => by
          rw [hG]
          exact groupY_nil fun z => ht ((hks _).mpr z)
        cases hval : valV kvs (keyI [s', a']) with
        | none =>
          rw [hval] at hr
          exact fun t => hout t (hr t)
        | some u =>
          rw [hval] at hr
          obtain ⟨rr, ts, q1, q2, q3, q4, q5⟩ := hr
          have hrp : rr ≠ p := fun z => by rw [z, pA3] at q2; cases q2
          refine ⟨rr, ts, q1, ?_, q4, fun t ht => hout t (q5 t ht)⟩
          have h9 := EF _ _ (E46 rr _ (by rw [cutH_ne hrp]; exact q3))
          rw [h9, hw]
          congr 2
          unfold kOf
          apply List.map_congr_left
          intro t _
          show (Sum.inl t, V.int (tal wd (groupY q e l [s', a', t, e.bass.sound]) : Int)) = (Sum.inl t, V.int (tal wd (x.G s' a' t) : Int))
          rw [hG]
      · rw [hx0]; exact hwd
      · rw [hx0]; exact hfew
      · rw [hx0]; exact hS0.1
      · rw [hx0]; exact hS1.1
      · rw [hx0]; exact hS2.1
      · intro v z hz
        rcases Pv v with ⟨_, h⟩ | ⟨_, h⟩ | ⟨_, h⟩ | h
        · rw [h] at hz; exact rngP 0 (by decide) z hz
        · rw [h] at hz; exact rngP 1 (by decide) z hz
        · rw [h] at hz; exact rngP 2 (by decide) z hz
        · rw [h] at hz; cases hz
      · intro v
        rcases Pv v with ⟨_, h⟩ | ⟨_, h⟩ | ⟨_, h⟩ | h
        · rw [h]; exact lenP 0 (by decide)
        · rw [h]; exact lenP 1 (by decide)
        · rw [h]; exact lenP 2 (by decide)
        · rw [h]; exact Nat.zero_le _
      · have h1 : x.q = q := by rw [hx0]
        have h2 : x.e = e := by rw [hx0]
        intro y hy
        rw [h1, h2] at hy
        rw [h2]
        have e0 : x.P0 = srtOf (ks.map fun y => y.getD 0 0) := by rw [hx0]
        have e1 : x.P1 = srtOf (ks.map fun y => y.getD 1 0) := by rw [hx0]
        have e2 : x.P2 = srtOf (ks.map fun y => y.getD 2 0) := by rw [hx0]
        rw [e0, e1, e2]
        exact ⟨memP 0 (by decide) y hy, memP 1 (by decide) y hy, memP 2 (by decide) y hy⟩
      · rw [hx0]; exact ⟨hb1, hb2⟩
      · rw [hx0]; exact ne_of_none c1A6 hc2
      · rw [hx0]; exact ne_of_none c1A7 hc3
      · rw [hx0]; exact ne_of_none c1A8 hc4
      · rw [hx0]; exact ne_of_none c2A7 hc3
      · rw [hx0]; exact ne_of_none c2A8 hc4
      · rw [hx0]; exact ne_of_none c3A8 hc4
    have xc1 : x.c1 = c1 := by rw [hx0]
    have xc2 : x.c2 = c2 := by rw [hx0]
    have xc3 : x.c3 = c3 := by rw [hx0]
    have xc4 : x.c4 = c4 := by rw [hx0]
    refine k A9 x (by rw [hx0]) (by rw [hx0]) (by rw [hx0]) (by rw [hx0]) (by rw [hx0]) (by rw [hx0]) ⟨fun _ h => h, fun z hz => ?_, hst, ⟨[], fun _ => .non, by rw [xc1]; exact c1A9, List.nodup_nil, by simp⟩, ⟨[], fun _ => .non, by rw [xc2]; exact c2A9, List.nodup_nil, by simp⟩, ⟨[], fun _ => .non, by rw [xc3]; exact c3A9, List.nodup_nil, by simp⟩, ⟨[], fun _ => .non, by rw [xc4]; exact c4A9, List.nodup_nil, by simp⟩⟩ (fun z hz => ?_) ((E06.trans EF).trans cutS_le)
    · rcases x.S_cases hz with h | h | h | h
      · rw [h, xc1]; exact ⟨⟨_, c1A9⟩, noSeq_dT c1A9⟩
      · rw [h, xc2]; exact ⟨⟨_, c2A9⟩, noSeq_dT c2A9⟩
      · rw [h, xc3]; exact ⟨⟨_, c3A9⟩, noSeq_dT c3A9⟩
      · rw [h, xc4]; exact ⟨⟨_, c4A9⟩, noSeq_dT c4A9⟩
    · have back : ∀ c, c ≠ p → A5 c = none → H c = none := fun c hcp h5 => by
        rw [hA5, upd_ne hcp] at h5
        have h4' := fresh_back e6 h5
        rw [hA4, upd_ne hcp] at h4'
        have h3 := fresh_back e4 h4'
        rw [hA3, upd_ne hcp] at h3
        exact h3
      have none6 : ∀ c, c ≠ p → A6 c = none → A5 c = none := fun c hcp h => by
        cases q : A5 c with
        | none => rfl
        | some o => rw [nA6 c o hcp q] at h; cases h
      have none7 : ∀ c, c ≠ p → A7 c = none → A5 c = none := fun c hcp h => by
        cases q : A5 c with
        | none => rfl
        | some o => rw [nA7 c o hcp (nA6 c o hcp q)] at h; cases h
      have none8 : ∀ c, c ≠ p → A8 c = none → A5 c = none := fun c hcp h => by
        cases q : A5 c with
        | none => rfl
        | some o => rw [nA8 c o hcp (nA7 c o hcp (nA6 c o hcp q))] at h; cases h
      rcases x.S_cases hz with h | h | h | h
      · rw [h, xc1]; exact back c1 c1p hc1
      · rw [h, xc2]; exact back c2 c2p (none6 c2 c2p hc2)
      · rw [h, xc3]; exact back c3 c3p (none7 c3 c3p hc3)
      · rw [h, xc4]; exact back c4 c4p (none8 c4 c4p hc4)
end
end Bf

namespace Bf
open PySem PySem.Spec PyProof.Rows L2 Evl
abbrev sCcI : Stmt := inClass (top 82) 0
abbrev sChoices : Stmt := top 83
abbrev sOwnCost : Stmt := top 84
/-! ### a choice: a setting with its sounds and its cost -/
structure CcTxt (K : PySem.W.Frag) (C : Addr) : Prop where
  cl : Cls K C
  nN : NoAttr K C "notes"
  nS : NoAttr K C "sounds"
  nC : NoAttr K C "cost"
def ccF (vn vs : V) (n : Nat) : List (Str × V) := [("notes", vn), ("sounds", vs), ("cost", .int (n : Int))]
theorem ccF_notes (vn vs : V) (n : Nat) : (ccF vn vs n).lookup ("notes" : Str) = some vn := lk_here
theorem ccF_sounds (vn vs : V) (n : Nat) : (ccF vn vs n).lookup ("sounds" : Str) = some vs := (lk_past (by decide +kernel)).trans lk_here
theorem ccF_cost (vn vs : V) (n : Nat) : (ccF vn vs n).lookup ("cost" : Str) = some (.int (n : Int)) := (lk_past (by decide +kernel)).trans ((lk_past (by decide +kernel)).trans lk_here)
theorem ccP2 (a b : V) : putF "sounds" b [(("notes" : Str), a)] = [(("notes" : Str), a), ("sounds", b)] := put_new ["notes"] rfl (by decide +kernel)
theorem ccP3 (a b c : V) : putF "cost" c [(("notes" : Str), a), ("sounds", b)] = [(("notes" : Str), a), ("sounds", b), ("cost", c)] := put_new ["notes", "sounds"] rfl (by decide +kernel)
def CcAt (K : PySem.W.Frag) (CC : Addr) (H : Hp) (a : Addr) (q : Cp05.Rules) (c : Cp05.Chord) (s : Cp05.Setting) : Prop := ∃ dx vn bs, H a = some (.ins CC dx (ccF vn (.ref bs) (Cp05.own q c s))) ∧ Dp K H vn (encSet s) ∧ KeyAt H bs (sndC c s)
theorem CcAt.mono {K : PySem.W.Frag} {CC a : Addr} {H H' : Hp} {q : Cp05.Rules} {c : Cp05.Chord} {s : Cp05.Setting} (e : Ex H H') (h : CcAt K CC H a q c s) : CcAt K CC H' a q c s := by
  obtain ⟨dx, vn, bs, h1, h2, h3⟩ := h
  exact ⟨dx, vn, bs, e _ _ h1, Dp.mono e _ h2, h3.mono e⟩
abbrev CcAll (K : PySem.W.Frag) (CC : Addr) (G : Hp) (q : Cp05.Rules) (c : Cp05.Chord) : List V → List Cp05.Setting → Prop := Paired fun v s => ∃ a, v = .ref a ∧ CcAt K CC G a q c s
theorem CcAll.mono {K : PySem.W.Frag} {CC : Addr} {G G' : Hp} {q : Cp05.Rules} {c : Cp05.Chord} (e : Ex G G') {vs : List V} {ss : List Cp05.Setting} (h : CcAll K CC G q c vs ss) : CcAll K CC G' q c vs ss := Paired.mono (fun v s ⟨a, h1, h2⟩ => ⟨a, h1, h2.mono e⟩) h
theorem paired_at {α β : Type} {F : α → β → Prop} : ∀ {l : List α} {m : List β} {i : Nat} {x : α}, Paired F l m → l[i]? = some x → ∃ y, m[i]? = some y ∧ F x y
  | _, _, _, _, .nil, e => by simp at e
  | _, _, 0, _, .cons h _, e => by simp at e; subst e; exact ⟨_, rfl, h⟩
  | _, _, i + 1, x, .cons _ t, e => by
    obtain ⟨y, h1, h2⟩ := paired_at (i := i) (x := x) t (by simpa using e)
    exact ⟨y, by simpa using h1, h2⟩
/-- rules and chords apart from a new object -/
theorem RuAt.cutN {K : PySem.W.Frag} {C CN p dx a : Addr} {H : Hp} {q : Cp05.Rules} (hp : H p = some (.ins CN dx [])) (h : RuAt K C H a q) : RuAt K C (cutH H p) a q := by
  obtain ⟨dr, vr, va, vl, r1, r2, r3, r4⟩ := h
  have l := LSame.cut (noSeq_ins hp)
  refine ⟨dr, vr, va, vl, ?_, Dp.monoL l _ r2, Dp.monoL l _ r3, Dp.monoL l _ r4⟩
  rw [cutH_ne (ne_of r1 hp fun z => by injection z with _ _ h; cases h)]
  exact r1
theorem ChAt.cutN {K : PySem.W.Frag} {C CN p dx a : Addr} {H : Hp} {c : Cp05.Chord} (hp : H p = some (.ins CN dx [])) (h : ChAt K C H a c) : ChAt K C (cutH H p) a c := by
  obtain ⟨dc, vb, ln, ld, xs, c1, c2, c3, c4, c5⟩ := h
  have l := LSame.cut (noSeq_ins hp)
  refine ⟨dc, vb, ln, ld, xs, ?_, Dp.monoL l _ c2, ?_, DpAll.monoL l _ c4, ?_⟩
  · rw [cutH_ne (ne_of c1 hp fun z => by injection z with _ _ h; cases h)]
    exact c1
  · rw [cutH_ne (ne_of c3 hp fun z => nomatch z)]
    exact c3
  · rw [cutH_ne (ne_of c5 hp fun z => nomatch z)]
    exact c5
def spCcI (K : PySem.W.Frag) (CR C CC : Addr) : Sp := fun vs H Q _ => ∃ (p dx ar ac : Addr) (v : V) (q : Cp05.Rules) (c : Cp05.Chord) (s : Cp05.Setting), vs = [.ref p, .ref ar, .ref ac, v] ∧ H p = some (.ins CC dx []) ∧ RuAt K CR H ar q ∧ RuOk q ∧ ChAt K C H ac c ∧ ChOk c ∧ Dp K H v (encSet s) ∧ s ∈ Cp05.settings q c ∧
  ∀ H', (∀ S, Av S H → S p = false → CcAt K CC (cutS H' S) p q c s) → Ex (cutH H p) H' → Q .non H'
section
variable {P : Program} {w : World} {K : PySem.W.Frag} {mg : Str → Option Value} {base : Heap} {CR C CC f : Addr} {fd : FuncData}
theorem Av_cutH {H H' : Hp} {S : Addr → Bool} {p : Addr} (hS : Av S H) (hSp : S p = false) (e : Ex (cutH H p) H') : Av S H' := Av_cut hS hSp e
abbrev nmCc : List Str := ["self", "rules", "chord", "setting"]
theorem scCc : FnScope nmCc ["self", "rules", "chord", "setting"] (defScope sCcI) := ⟨rfl, rfl, rfl, by decide +kernel, rfl, by decide +kernel, by decide +kernel⟩
theorem ok_ccI (F : Fun K "__init__" "Choice.__init__" sCcI f fd) (T : CcTxt K CC) (c1 : Cal P w K mg base "four_sounds" 1 ["chord", "setting"] (SpFour K C)) (c2 : Cal P w K mg base "setting_cost" 3 ["rules", "chord", "setting"] (SpCost K CR C)) : FnOk P w K mg base CX0 4 f fd ["self", "rules", "chord", "setting"] (spCcI K CR C CC) := by
  refine F.ok scCc (fun vs H Q E h => ?_) (fun cdv A outer s H vs Q E hr h => ?_)
  · obtain ⟨_, _, _, _, _, _, _, _, rfl, _⟩ := h
    rfl
  · obtain ⟨p, dx, ar, ac, v, q, ch, st, rfl, hp, hR, okR, hC, okC, hv, hm, k⟩ := h
    have hr1 : Room 1 _ := hr.mono (by decide : 1 ≤ 3)
    refine ⟨_, pss_cons (ps_fld (pv 0) (pv 3) rfl) (pss_cons (ps_fld (pv 0) (pe_cal c1 hr1 (pa_cons (pv 2) (pa_cons (pv 3) pa_nil))) rfl) (pss_one (ps_fld (pv 0) (pe_cal c2 hr (pa_cons (pv 1) (pa_cons (pv 2) (pa_cons (pv 3) pa_nil)))) rfl))), ?_⟩
    have l0 := LSame.cut (noSeq_ins hp)
    have R0 := hR.cutN hp
    have C0 := hC.cutN hp
    have v0 := Dp.monoL l0 _ hv
    obtain ⟨x, y, z, rfl⟩ := three_of hm
    refine ⟨_, rfl, _, rfl, p, CC, dx, _, rfl, hp, T.cl, T.nN, (by show 0 < 1000; decide), ?_⟩
    have e0 : putF "notes" v [] = [(("notes" : Str), v)] := rfl
    rw [e0]
    have E1 : Ex (cutH H p) (upd H p (.ins CC dx [(("notes" : Str), v)])) := Ex.mut cutH_le (cutH_same _ _)
    -- self.sounds
    refine ⟨_, rfl, _, rfl, ⟨ac, v, ch, x, y, z, rfl, C0.mono E1, Dp.mono E1 _ v0, fun bs H2 hbs e2 h2 => ⟨_, rfl, p, CC, dx, _, rfl, e2 _ _ upd_same, T.cl, T.nS, (by show 1 < 1000; decide), ?_⟩⟩⟩
    rw [ccP2]
    have hbp : bs ≠ p := fun q => by rw [q, upd_same] at hbs; cases hbs
    have E2 : Ex (cutH H p) (cutH H2 p) := by
      have := cutH_mono (p := p) e2
      rw [cutH_upd_eq] at this
      exact this
    have E2' : Ex (cutH H2 p) (upd H2 p (.ins CC dx [(("notes" : Str), v), ("sounds", .ref bs)])) := cutH_ex
    -- self.cost
    refine ⟨_, rfl, _, rfl, _, rfl, ⟨ar, ac, v, q, ch, [x, y, z], rfl, R0.mono (E2.trans E2'), okR, C0.mono (E2.trans E2'), okC, Dp.mono (E2.trans E2') _ v0, hm, fun H3 e3 => ⟨_, rfl, p, CC, dx, _, rfl, e3 _ _ upd_same, T.cl, T.nC, (by show 2 < 1000; decide), ?_⟩⟩⟩
    rw [ccP3]
    have E3 : Ex (cutH H2 p) (cutH H3 p) := by
      have := cutH_mono (p := p) e3
      rw [cutH_upd_eq] at this
      exact this
    have EF : Ex (cutH H p) (upd H3 p (.ins CC dx [(("notes" : Str), v), ("sounds", .ref bs), ("cost", .int (Cp05.own q ch [x, y, z] : Int))])) := (E2.trans E3).trans cutH_ex
    refine k _ (fun S hS hSp => ?_) EF
    have hS' := Av_cut hS hSp EF
    have hSb : S bs = false := hS.fresh (by
      rw [upd_ne hbp] at hbs
      exact hbs)
    refine ⟨dx, v, bs, by rw [cutS_ne hSp, upd_same]; rfl, Dp_cutS hS' (nl_set _) (Dp.mono EF _ v0), ?_⟩
    unfold KeyAt
    rw [cutS_ne hSb, upd_ne hbp]
    exact cutH_le _ _ (E3 _ _ (by rw [cutH_ne hbp]; exact h2))
/-! ### lists of objects -/
theorem Av.also {S : Addr → Bool} {H : Hp} {z : Addr} {xs : List V} (h : Av S H) (hz : H z = some (.lst xs)) : Av (also S z) H := fun b hb => by
  by_cases e : b = z
  · rw [e]; exact ⟨⟨_, hz⟩, no_tup_lst hz⟩
  · rw [also_ne e] at hb; exact h b hb
/-- what stands between the turns: the items made so far, read apart from S and the list itself -/
def Co {α : Type} (H : Hp) (S : Addr → Bool) (l : List α) (Φ : α → V → Hp → Prop) (Dl : Addr) (i : Nat) (H' : Hp) : Prop := H Dl = none ∧ Ex H H' ∧ ∃ acc, H' Dl = some (.lst acc) ∧ Paired (fun y x => Φ x y (cutS H' (Bf.also S Dl))) acc (l.take i)
theorem co_turn {α : Type} {H H' : Hp} {S : Addr → Bool} {l : List α} {Φ : α → V → Hp → Prop} {Dl : Addr} {i : Nat} {σ2 : L2.St} {te : TE} {x : α} (mono : ∀ x y G G', Ex G G' → Φ x y G → Φ x y G') (c : Co H S l Φ Dl i H') (hz : l.length ≤ 64000) (av : Av S H) (hx : l[i]? = some x)
    (he : ∀ S', Av S' H' → ∀ Q : VK, (∀ y H2, Ex H' H2 → Φ x y (cutS H2 S') → Q y H2) → te σ2 H' Q) : te σ2 H' fun y H4 => ∃ acc, H4 Dl = some (.lst acc) ∧ acc.length < sizeLine ∧ Co H S l Φ Dl (i + 1) (upd H4 Dl (.lst (acc ++ [y]))) := by
  obtain ⟨c1, c2, acc, c3, c4⟩ := c
  refine he (Bf.also S Dl) ((av.mono c2).also c3) _ fun y H2 e2 hy => ⟨acc, e2 _ _ c3, sz_lt ?_, c1, Ex.mut (c2.trans e2) c1, acc ++ [y], upd_same, ?_⟩
  · have : acc.length = (l.take i).length := c4.length
    rw [this, List.length_take]
    omega
  · rw [cutS_upd (also_z S Dl), List.take_add_one, hx]
    exact Paired.snoc (Paired.mono (fun y x h => mono x y _ _ (cutS_mono e2) h) c4) hy
/-- [e for x in xs], e a new object, xs a new list of data -/
theorem lc_objD {α : Type} {H : Hp} {S : Addr → Bool} {σ : L2.St} {tl te : TE} {j : Nat} {vs : List Nat} {enc : α → PyData} {l : List α} (Φ : α → V → Hp → Prop) (mono : ∀ x y G G', Ex G G' → Φ x y G → Φ x y G') (h : DvL K tl σ H (l.map enc)) (hz : l.length ≤ 64000) (av : Av S H) (hw : ∀ x, wipe ((wipe σ vs).set j (some x)) vs = wipe σ vs)
    (he : ∀ x ∈ l, ∀ v H1, Ex H H1 → Dp K H1 v (enc x) → ∀ S', Av S' H1 → ∀ Q : VK, (∀ y H2, Ex H1 H2 → Φ x y (cutS H2 S') → Q y H2) → te ((wipe σ vs).set j (some v)) H1 Q) :
    ∀ H1, Ex H H1 → ∀ Q : VK, (∀ p xs H2, H1 p = none → Ex H1 H2 → H2 p = some (.lst xs) → Paired (fun y x => Φ x y (cutS H2 S)) xs l → Q (.ref p) H2) → tLc (iList K tl) (gName j) tYes te vs σ H1 Q := fun H1 e Q q => h H1 e _ fun a xs H2 ha e2 h2 hx => by
  have hlen : xs.length = l.length := by rw [hx.length, List.length_map]
  refine ⟨a, rfl, ⟨xs, sq_of h2⟩, fun Dl hD => lc_list (xs := xs) (Co H2 S l Φ Dl) ⟨hD, Ex.new hD, [], upd_same, .nil⟩ (fun i H' _ c => sq_of (c.2.1 _ _ h2)) (fun i v H' hi c => ⟨hw v, ?_⟩) (fun H' c => ?_)⟩
  · obtain ⟨x, hx', hv⟩ := at_map hx hi
    exact co_turn mono c hz (av.mono (e.trans e2)) hx' fun S' hS' Q' q' => he x (List.mem_of_getElem? hx') v H' ((e.trans e2).trans c.2.1) (Dp.mono c.2.1 _ hv) S' hS' Q' q'
  · obtain ⟨c1, c2, acc, c3, c4⟩ := c
    rw [hlen, List.take_length] at c4
    exact q Dl acc H' (fresh_back e2 c1) (e2.trans c2) c3 (Paired.mono (fun y x h => mono x y _ _ (cutS_sub fun z hz => by
      unfold Bf.also
      rw [hz]
      simp) h) c4)
/-- .. xs a list that stands, its items paired with l -/
theorem lc_objP {α : Type} {H : Hp} {S : Addr → Bool} {σ : L2.St} {tl te : TE} {j : Nat} {vs : List Nat} {l : List α} {a : Addr} {xs : List V} (Φ : α → V → Hp → Prop) (mono : ∀ x y G G', Ex G G' → Φ x y G → Φ x y G') (h : Ev tl σ H (.ref a)) (hs : SqL K H a xs) (hlen : xs.length = l.length) (hz : l.length ≤ 64000) (av : Av S H) (hw : ∀ x, wipe ((wipe σ vs).set j (some x)) vs = wipe σ vs)
    (he : ∀ (i : Nat) v x, xs[i]? = some v → l[i]? = some x → ∀ H1, Ex H H1 → ∀ S', Av S' H1 → ∀ Q : VK, (∀ y H2, Ex H1 H2 → Φ x y (cutS H2 S') → Q y H2) → te ((wipe σ vs).set j (some v)) H1 Q) :
    ∀ H1, Ex H H1 → ∀ Q : VK, (∀ p ys H2, H1 p = none → Ex H1 H2 → H2 p = some (.lst ys) → Paired (fun y x => Φ x y (cutS H2 S)) ys l → Q (.ref p) H2) → tLc (iList K tl) (gName j) tYes te vs σ H1 Q := fun H1 e Q q => h H1 e _ fun H2 e2 => by
  refine ⟨a, rfl, ⟨xs, ex_l (e.trans e2) hs⟩, fun Dl hD => lc_list (xs := xs) (Co H2 S l Φ Dl) ⟨hD, Ex.new hD, [], upd_same, .nil⟩ (fun i H' _ c => ex_l ((e.trans e2).trans c.2.1) hs) (fun i v H' hi c => ⟨hw v, ?_⟩) (fun H' c => ?_)⟩
  · have hil : i < l.length := by rw [← hlen]; exact (List.getElem?_eq_some_iff.mp hi).1
    obtain ⟨x, hx'⟩ : ∃ x, l[i]? = some x := ⟨_, List.getElem?_eq_getElem hil⟩
    exact co_turn mono c hz (av.mono (e.trans e2)) hx' fun S' hS' Q' q' => he i v x hi hx' H' ((e.trans e2).trans c.2.1) S' hS' Q' q'
  · obtain ⟨c1, c2, acc, c3, c4⟩ := c
    rw [hlen, List.take_length] at c4
    exact q Dl acc H' (fresh_back e2 c1) (e2.trans c2) c3 (Paired.mono (fun y x h => mono x y _ _ (cutS_sub fun z hz => by
      unfold Bf.also
      rw [hz]
      simp) h) c4)
def SpChs (K : PySem.W.Frag) (CR C CC : Addr) : Sp := fun vs H Q _ => ∃ (ar ac : Addr) (S : Addr → Bool) (q : Cp05.Rules) (c : Cp05.Chord), vs = [.ref ar, .ref ac] ∧ Av S H ∧ RuAt K CR H ar q ∧ RuOk q ∧ ChAt K C H ac c ∧ ChOk c ∧
  ∀ p xs H', H p = none → Ex H H' → H' p = some (.lst xs) → CcAll K CC (cutS H' S) q c xs (Cp05.settings q c) → Q (.ref p) H'
abbrev nmCo : List Str := ["rules", "chord", "setting"]
theorem scCo : FnScope nmCo ["rules", "chord"] (defScope sChoices) := ⟨rfl, rfl, rfl, by decide +kernel, rfl, by decide +kernel, by decide +kernel⟩
theorem cal_choices (D : Def K mg "choices_of" sChoices) (c1 : Cal P w K mg base "settings_of" 4 ["rules", "chord"] (SpSet K CR C)) (M : MkC P w K mg base "Choice" CC 4 ["self", "rules", "chord", "setting"] (spCcI K CR C CC)) : Cal P w K mg base "choices_of" 6 ["rules", "chord"] (SpChs K CR C CC) := by
  refine ok_S D scCo (fun vs H Q E h => ?_) (fun _ _ _ _ _ _ us hl => match us, hl with | [_, _], _ => rfl) (fun f cdv A outer s H vs Q E hr h => ?_)
  · obtain ⟨_, _, _, _, _, rfl, _⟩ := h
    rfl
  · obtain ⟨ar, ac, S, q, ch, rfl, av, hR, okR, hC, okC, k⟩ := h
    have hr4 : Room 4 _ := hr.mono (by decide : 4 ≤ 5)
    refine ⟨_, pss_one (ps_ret (pe_lc (own := [("setting", 2)]) (g := gName 2) (te := tMake CC (spCcI K CR C CC) [] E0 (tCons (tVar 0) (tCons (tVar 1) (tCons (tVar 2) tNil)))) rfl scCo.nd (pi_list (pe_cal c1 hr4 (pa_cons (pv 0) (pa_cons (pv 1) pa_nil)))) (blkOk_by (own := [("setting", 2)]) (N := nmCo) (sc := defScope sChoices) (by decide +kernel)) (fun _ _ _ _ _ => pg_name (i := 2) scCo.nd rfl (Or.inl rfl)) (fun _ _ _ _ _ => pts_nil) (fun _ _ _ _ _ => pe_mkC M hr (pa_cons (pv 0) (pa_cons (pv 1) (pa_cons (pv 2) pa_nil)))))), ?_⟩
    refine lc_objD (K := K) (S := S) (l := Cp05.settings q ch) (enc := encSet) (fun s y G => ∃ a, y = .ref a ∧ CcAt K CC G a q ch s) (fun s y G G' e ⟨a, h1, h2⟩ => ⟨a, h1, h2.mono e⟩) (dvl_callS (ea_cons (ev_var rfl) (ea_cons (ev_var rfl) ea_nil)) fun H1 e1 Q1 q1 => ⟨ar, ac, q, ch, rfl, hR.mono e1, okR, hC.mono e1, okC, q1⟩) (settings_le okC.ok okC.few) av (fun _ => rfl) (fun st hst v H1 e1 hv S' hS' Q' q' => ?_) H (Ex.refl _) _ k
    refine ⟨_, rfl, _, rfl, _, rfl, fun o dxo no nd ne => ⟨o, dxo, ar, ac, v, q, ch, st, rfl, upd_same, (hR.mono e1).mono (Ex_make no nd), okR, (hC.mono e1).mono (Ex_make no nd), okC, Dp.mono (Ex_make no nd) _ hv, hst, fun H2 hCc hE => ⟨rfl, ?_⟩⟩⟩
    exact q' (.ref o) H2 (Ex_made no nd hE) ⟨o, rfl, hCc S' (hS'.mono (Ex_make no nd)) (hS'.fresh no)⟩
end
end Bf

namespace Bf
open PySem PySem.Spec PyProof.Rows L2 Evl
abbrev sAhead : Stmt := top 85
/-- at most twelve notes a voice, so few settings -/
theorem someNotes3 {r : Int × Int} (hr : r.2 - r.1 ≤ 24) {n : Cp05.Name} (hn : okName n) : (someNotes r n 10).length ≤ 3 := by
  unfold someNotes
  rw [List.filter_map, List.length_map]
  have hs : ∀ i : Nat, (noteN n i).sound = (noteN n 0).sound + 12 * (i : Int) := fun i => by
    unfold noteN Cp05.Note.sound Cp05.white
    have h1 : (n.1 + (i : Int) * 7) / 7 = n.1 / 7 + i := by omega
    have h2 : (n.1 + (i : Int) * 7) % 7 = n.1 % 7 := by omega
    have h3 : (n.1 + ((0 : Nat) : Int) * 7) / 7 = n.1 / 7 := by omega
    have h4 : (n.1 + ((0 : Nat) : Int) * 7) % 7 = n.1 % 7 := by omega
    simp only [h1, h2, h3, h4]
    omega
  generalize hb : (noteN n 0).sound = b at hs
  obtain ⟨m, hm⟩ : ∃ m : Nat, ∀ i : Nat, r.1 ≤ b + 12 * (i : Int) → b + 12 * (i : Int) ≤ r.2 → m ≤ i ∧ i ≤ m + 2 := ⟨((r.1 - b + 11) / 12).toNat, fun i h1 h2 => by omega⟩
  have hsub : (List.range 10).filter (inRange r ∘ noteN n) ⊆ [m, m + 1, m + 2] := fun i hi => by
    have h := (List.mem_filter.mp hi).2
    have h' : inRange r (noteN n i) = true := h
    unfold inRange at h'
    rw [hs i] at h'
    simp only [Bool.and_eq_true, decide_eq_true_eq] at h'
    have := hm i h'.1 h'.2
    simp only [List.mem_cons, List.not_mem_nil, or_false]
    omega
  have := List.Nodup.length_le_of_subset (List.Nodup.sublist List.filter_sublist List.nodup_range) hsub
  exact this
theorem options12 {r : Int × Int} (hr : r.2 - r.1 ≤ 24) {c : Cp05.Chord} (hc : ∀ n ∈ c.names, okName n) (h4 : c.names.length ≤ 4) : (Cp05.options r c).length ≤ 12 := by
  unfold Cp05.options
  rw [List.length_mergeSort]
  have h := flatMap_le (Cp05.notesIn r) 3 c.names fun n hn => by
    rw [notesIn_eq (hc n hn)]
    exact someNotes3 hr (hc n hn)
  omega
theorem settings_few {q : Cp05.Rules} {c : Cp05.Chord} (okR : RuOk q) (okC : ChOk c) : (Cp05.settings q c).length ≤ 1728 := by
  rw [settings_eq]
  refine Nat.le_trans (setA_le _ _ _ _ _ _) ?_
  have h1 := options12 (okR.rw _ (rng_mem okR (i := 0) (by decide))) okC.ok okC.few
  have h2 := options12 (okR.rw _ (rng_mem okR (i := 1) (by decide))) okC.ok okC.few
  have h3 : ((Cp05.options (q.ranges.getD 2 (0, 0)) c).filter fun t => near (q.apart.getD 2 0) t c.bass).length ≤ 12 := Nat.le_trans (List.length_filter_le _ _) (options12 (okR.rw _ (rng_mem okR (i := 2) (by decide))) okC.ok okC.few)
  exact Nat.le_trans (Nat.mul_le_mul h1 (Nat.mul_le_mul h2 h3)) (by decide)
/-- the group so far -/
def grpI (q : Cp05.Rules) (c : Cp05.Chord) (l : List Cp05.Chord) (ss : List Cp05.Setting) (y : List Int) : List Nat := (ss.filter fun x => decide (sndC c x = y)).flatMap fun x => (aheadL q l (sndC c x)).map (· + Cp05.own q c x)
theorem grpI_snoc (q : Cp05.Rules) (c : Cp05.Chord) (l : List Cp05.Chord) (ss : List Cp05.Setting) (s : Cp05.Setting) (y : List Int) : grpI q c l (ss ++ [s]) y = grpI q c l ss y ++ (if sndC c s = y then (aheadL q l y).map (· + Cp05.own q c s) else []) := by
  unfold grpI
  rw [List.filter_append, List.flatMap_append, List.filter_cons, List.filter_nil]
  by_cases h : sndC c s = y
  · rw [if_pos (decide_eq_true h), if_pos h, List.flatMap_cons, List.flatMap_nil, List.append_nil, h]
  · rw [if_neg (by rw [decide_eq_false h]; exact Bool.false_ne_true), if_neg h]
    rfl
theorem grpI_nil {q : Cp05.Rules} {c : Cp05.Chord} {l : List Cp05.Chord} {ss : List Cp05.Setting} {y : List Int} (h : ¬ ∃ s ∈ ss, sndC c s = y) : grpI q c l ss y = [] := by
  unfold grpI
  have : ss.filter (fun x => decide (sndC c x = y)) = [] := by
    apply List.filter_eq_nil_iff.mpr
    intro s hs
    rw [decide_eq_true_eq]
    exact fun z => h ⟨s, hs, z⟩
  rw [this]
  rfl
theorem tal_append (w : Nat) (l m : List Nat) : tal w (l ++ m) = tal w l + tal w m := gs_append _ l m
/-- the choices of a chord, in a list -/
def ChsAt (K : PySem.W.Frag) (CC : Addr) (G : Hp) (lc : Addr) (q : Cp05.Rules) (c : Cp05.Chord) : Prop := ∃ xs, G lc = some (.lst xs) ∧ CcAll K CC G q c xs (Cp05.settings q c)
theorem ChsAt.mono {K : PySem.W.Frag} {CC lc : Addr} {G G' : Hp} {q : Cp05.Rules} {c : Cp05.Chord} (e : Ex G G') (h : ChsAt K CC G lc q c) : ChsAt K CC G' lc q c := by
  obtain ⟨xs, h1, h2⟩ := h
  exact ⟨xs, e _ _ h1, h2.mono e⟩
/-- a dict of tallies by the sounds of a chord's settings -/
def TlAt (G : Hp) (d : Addr) (q : Cp05.Rules) (c : Cp05.Chord) (T : List Int → Nat) : Prop := ∃ ks, G d = some (.dT (dOf ks fun y => .int (T y : Int))) ∧ (∀ y, y ∈ ks ↔ ∃ s ∈ Cp05.settings q c, sndC c s = y) ∧ ks.length ≤ 4000 ∧ ks.Nodup
theorem TlAt.mono {G G' : Hp} {d : Addr} {q : Cp05.Rules} {c : Cp05.Chord} {T : List Int → Nat} (e : Ex G G') (h : TlAt G d q c T) : TlAt G' d q c T := by
  obtain ⟨ks, h1, h2⟩ := h
  exact ⟨ks, e _ _ h1, h2⟩
def SpOwn (K : PySem.W.Frag) (CC : Addr) : Sp := fun vs H Q _ => ∃ (lc d : Addr) (wd : Nat) (q : Cp05.Rules) (c : Cp05.Chord) (l : List Cp05.Chord), vs = [.ref lc, .ref d, .int (wd : Int)] ∧ RuOk q ∧ ChOk c ∧ ChsAt K CC H lc q c ∧ TlAt H d q c (fun y => tal wd (aheadL q l y)) ∧ wd ≤ 200 ∧ prodS q l < 2 ^ wd ∧
  ∀ p H', H p = none → Ex H H' → TlAt H' p q c (fun y => tal wd (groupY q c l y)) → Q (.ref p) H'
section
variable {P : Program} {w : World} {K : PySem.W.Frag} {mg : Str → Option Value} {base : Heap} {CR C CC CP f : Addr} {fd : FuncData}
theorem q_asgE {D : Ends} {tz : TS} {te : TE} {σ : L2.St} {H : Hp} {v : V} {i : Nat} (h : Ev te σ H v) (k : ∀ H1, Ex H H1 → tz D (σ.set i (some v)) H1) : tSeq (tAsg te (gName i)) tz D σ H := q_asg h k
abbrev nmOc : List Str := ["choices", "tallies", "width", "found", "choice", "tally"]
theorem scOc : FnScope nmOc ["choices", "tallies", "width"] (defScope sOwnCost) := ⟨rfl, rfl, rfl, by decide +kernel, rfl, by decide +kernel, by decide +kernel⟩
theorem cal_ownCost (D : Def K mg "with_own_cost" sOwnCost) (T : CcTxt K CC) (c : Cal P w K mg base "made_dearer" 1 ["tally", "cost", "width"] (SpD K RDear)) : Cal P w K mg base "with_own_cost" 2 ["choices", "tallies", "width"] (SpOwn K CC) := by
  refine ok_S D scOc (fun vs H Q E h => ?_) (fun _ _ _ _ _ _ us hl => match us, hl with | [_, _, _], _ => rfl) (fun f cdv A outer s H vs Q E hr h => ?_)
  · obtain ⟨_, _, _, _, _, _, rfl, _⟩ := h
    rfl
  · obtain ⟨lc, d, wd, q, ch, l, rfl, okR, okC, ⟨xs, hlc, hcc⟩, ⟨ks, hd, hks, hkl, _⟩, hwd, hfew, k⟩ := h
    refine ⟨_, pss_cons (ps_set (i := 3) scOc.nd rfl (Or.inl rfl) pe_dnewT)
      (pss_cons (ps_for PassesOwn.never rfl (pi_list (pv 0)) (pg_name (i := 4) scOc.nd rfl (Or.inl rfl))
        (pss_cons (ps_set (i := 5) scOc.nd rfl (Or.inl rfl) (pe_cal c hr (pa_cons (pe_dget (hu_of hr) (pv 1) (pe_fld (pv 4) rfl) (fun _ _ => rfl)) (pa_cons (pe_fld (pv 4) rfl) (pa_cons (pv 2) pa_nil)))))
        (pss_one (ps_dput (hu_of hr) (pv 3) (pe_fld (pv 4) rfl) (pe_op op_add (pe_dget2 (hu_of hr) (pv 3) (pe_fld (pv 4) rfl) pe_int ⟨rfl, rfl, rfl, rfl⟩) (pv 5)) rfl))))
      (pss_one (ps_ret (pv 3)))), ?_⟩
    intro fo hfo
    have hss := settings_few okR okC
    have hxl : xs.length = (Cp05.settings q ch).length := hcc.length
    generalize hst : Cp05.settings q ch = ss at *
    refine q_forLn (a := lc) (xs := xs) (σ := [some (.ref lc), some (.ref d), some (.int (wd : Int)), some (.ref fo), none, none]) (ev_var rfl) (sq_of ((Ex.new hfo) _ _ hlc)) (fun i σ' H' => ∃ o4 o5 kf g, σ' = [some (.ref lc), some (.ref d), some (.int (wd : Int)), some (.ref fo), o4, o5] ∧ Ex H H' ∧ H' fo = some (.dT (dOf kf g)) ∧ (∀ y ∈ kf, g y = .int (tal wd (grpI q ch l (ss.take i) y) : Int)) ∧ (∀ y, y ∈ kf ↔ ∃ s ∈ ss.take i, sndC ch s = y) ∧ kf.length ≤ i ∧ kf.Nodup)
      (fun H1 e1 => ⟨none, none, [], fun _ => .non, rfl, (Ex.new hfo).trans e1, e1 _ _ upd_same, by simp, by simp, Nat.le_refl 0, List.nodup_nil⟩) (fun i σ' H' _ ⟨_, _, _, _, _, e, _⟩ => sq_of (e _ _ hlc)) (fun i x σ' H' hix ⟨o4, o5, kf, g, eσ, e1, hf, hg, hkf, hkl', hnd⟩ => ?_) (fun σ' H' ⟨o4, o5, kf, g, eσ, e1, hf, hg, hkf, hkl', hnd⟩ => ?_)
    · subst eσ
      obtain ⟨st, hsi, ac, rfl, hac⟩ := paired_at hcc hix
      obtain ⟨dc, vn, bs, a1, a2, a3⟩ := hac.mono e1
      have hsm : st ∈ ss := List.mem_of_getElem? hsi
      have hil : i < ss.length := (List.getElem?_eq_some_iff.mp hsi).1
      have hin : sndC ch st ∈ ks := (hks _).mpr ⟨st, hsm, rfl⟩
      have sndE : ∀ G, Ex H' G → ∀ σ : L2.St, σ[4]? = some (some (.ref ac)) → Ev (tFld K (tVar 4) "sounds") σ G (.ref bs) := fun G e σ h4 => ev_fld (ev_var h4) (e _ _ a1) T.cl T.nS (ccF_sounds _ _ _)
      have hal : (aheadL q l (sndC ch st)).length < 2 ^ wd := Nat.lt_of_le_of_lt (aheadL_len q l _) hfew
      -- tally
      refine q_asgD (K := K) (d := natD (tal wd (aheadL q l (sndC ch st)) / 2 ^ (Cp05.own q ch st * wd))) (dv_call (da_cons (dv_i (ev_dget (ev_var rfl) (.inl (e1 _ _ hd)) (sndE _ (Ex.refl _) _ rfl) a3 (by rw [dOf_val, if_pos hin]))) (da_cons (dv_fld (ev_var rfl) a1 T.cl T.nC (ccF_cost _ _ _) (.int _)) (da_cons (dv_vi rfl) da_nil))) ⟨_, _, wd, rfl, hwd, rfl⟩) fun v5 H2 e2 hv5 => ?_
      have hv5' : v5 = .int ((tal wd ((aheadL q l (sndC ch st)).map (· + Cp05.own q ch st)) : Nat) : Int) := by
        rw [← tal_moved hal]
        exact hv5.int_inv
      subst hv5'
      have hget : (valV (dOf kf g) (keyI (sndC ch st))).getD (.int 0) = .int (tal wd (grpI q ch l (ss.take i) (sndC ch st)) : Int) := by
        rw [dOf_val]
        by_cases h : sndC ch st ∈ kf
        · rw [if_pos h, Option.getD_some, hg _ h]
        · rw [if_neg h, Option.getD_none, grpI_nil fun z => h ((hkf _).mpr z)]
          rfl
      -- found[choice.sounds] = found.get(choice.sounds, 0) + tally
      refine d_put ?_
      have hval : Ev (tOp (rI0 fun i j => .int (i + j)) (tDGet2 (tVar 3) (tFld K (tVar 4) "sounds") (tC (.int 0))) (tVar 5)) [some (.ref lc), some (.ref d), some (.int (wd : Int)), some (.ref fo), some (.ref ac), some (.int ((tal wd ((aheadL q l (sndC ch st)).map (· + Cp05.own q ch st)) : Nat) : Int))] H2 (.int ((tal wd (grpI q ch l (ss.take i) (sndC ch st)) : Int) + ((tal wd ((aheadL q l (sndC ch st)).map (· + Cp05.own q ch st)) : Nat) : Int))) := by
        refine ev_op (x := .int (tal wd (grpI q ch l (ss.take i) (sndC ch st)) : Int)) ?_ (ev_var rfl) rv_I0
        rw [← hget]
        exact ev_dget2 (ev_var rfl) (.inl (e2 _ _ hf)) (sndE _ e2 _ rfl) (a3.mono e2) ev_c
      refine hval H2 (Ex.refl _) _ fun H3 e3 => ?_
      have e23 := e2.trans e3
      refine s_dputV (ev_var rfl) (e23 _ _ hf) (sndE _ e23 _ rfl) (a3.mono e23) (by omega) fun H4 e4 => ?_
      have hfoH : H fo = none := hfo
      refine ⟨_, _, _, _, rfl, Ex.mut (e1.trans (e23.trans e4)) hfoH, upd_same, fun y hy => ?_, fun y => ?_, ?_, kStep_nd hnd _⟩
      · have htk : ss.take (i + 1) = ss.take i ++ [st] := by rw [List.take_add_one, hsi]; rfl
        show (if y = sndC ch st then _ else g y) = _
        rw [htk, grpI_snoc]
        by_cases h : y = sndC ch st
        · rw [if_pos h, if_pos h.symm, tal_append, h]
          push_cast
          rfl
        · rw [if_neg h, if_neg fun z => h z.symm, List.append_nil]
          exact hg y (((kStep_mem _ _ _).mp hy).resolve_right h)
      · have htk : ss.take (i + 1) = ss.take i ++ [st] := by rw [List.take_add_one, hsi]; rfl
        rw [kStep_mem, hkf, htk]
        constructor
        · rintro (⟨s1, h1, h2⟩ | h)
          · exact ⟨s1, List.mem_append.mpr (.inl h1), h2⟩
          · exact ⟨st, by simp, h.symm⟩
        · rintro ⟨s1, h1, h2⟩
          rcases List.mem_append.mp h1 with h1 | h1
          · exact .inl ⟨s1, h1, h2⟩
          · rw [List.mem_singleton.mp h1] at h2
            exact .inr h2.symm
      · have := kStep_len kf (sndC ch st)
        omega
    · subst eσ
      rw [hxl, List.take_length] at hg hkf
      refine s_ret (ev_var rfl) fun H2 e2 => k fo H2 hfo (e1.trans e2) ⟨kf, ?_, ?_, by omega, hnd⟩
      · rw [e2 _ _ hf]
        congr 2
        apply dOf_congr
        intro y hy
        rw [hg y hy]
        unfold groupY grpI
        rw [hst]
      · intro y
        rw [hkf, hst]
end
end Bf

namespace Bf
open PySem PySem.Spec PyProof.Rows L2 Evl
theorem bass_rng {c : Cp05.Chord} (h : Cp05.isNote c.bass = true) : -2 ≤ c.bass.sound ∧ c.bass.sound ≤ 121 := by
  unfold Cp05.isNote Cp05.STEPS at h
  simp only [Bool.and_eq_true, decide_eq_true_eq] at h
  unfold Cp05.Note.sound Cp05.white
  have hm := mod7_lt c.bass.d
  have hw : 0 ≤ Cp05.whites.getD (c.bass.d % 7).toNat 0 ∧ Cp05.whites.getD (c.bass.d % 7).toNat 0 ≤ 11 := by
    obtain ⟨n, hn⟩ : ∃ n : Nat, (c.bass.d % 7).toNat = n := ⟨_, rfl⟩
    rw [hn]
    have : n < 7 := by omega
    match n, this with
    | 0, _ => decide
    | 1, _ => decide
    | 2, _ => decide
    | 3, _ => decide
    | 4, _ => decide
    | 5, _ => decide
    | 6, _ => decide
  omega
theorem snd4 {q : Cp05.Rules} {c : Cp05.Chord} (okR : RuOk q) (okC : ChOk c) {s : Cp05.Setting} (hs : s ∈ Cp05.settings q c) : ∃ x y z, sndC c s = [x, y, z, c.bass.sound] ∧ sR x ∧ sR y ∧ sR z := by
  refine ⟨_, _, _, snd_at hs, ?_, ?_, ?_⟩
  · have h1 := snd_rng okR okC hs (i := 0) (by decide)
    have h2 := okR.rb _ (rng_mem okR (i := 0) (by decide))
    exact ⟨Int.le_trans h2.1 h1.1, Int.le_trans h1.2 h2.2⟩
  · have h1 := snd_rng okR okC hs (i := 1) (by decide)
    have h2 := okR.rb _ (rng_mem okR (i := 1) (by decide))
    exact ⟨Int.le_trans h2.1 h1.1, Int.le_trans h1.2 h2.2⟩
  · have h1 := snd_rng okR okC hs (i := 2) (by decide)
    have h2 := okR.rb _ (rng_mem okR (i := 2) (by decide))
    exact ⟨Int.le_trans h2.1 h1.1, Int.le_trans h1.2 h2.2⟩
theorem PaIn.extT {K : PySem.W.Frag} {CR CP : Addr} {x : Pax} {S : Addr → Bool} {H : Hp} (h : PaIn K CR CP x S H) {z : Addr} {kvs : List (List Key × V)} (hz : H z = none) : PaIn K CR CP x (also S z) (upd H z (.dT kvs)) := by
  have e := cutS_also (S := S) (o := .dT kvs) hz
  have nc : ∀ c, x.S c = true → c ≠ z := fun c hc q => by
    obtain ⟨⟨o, ho⟩, _⟩ := h.ns c (h.sub c hc)
    rw [q, hz] at ho
    cases ho
  refine ⟨fun c hc => by rw [also_ne (nc c hc)]; exact h.sub c hc, fun c hc => ?_, by rw [e]; exact h.st, ?_, ?_, ?_, ?_⟩
  · by_cases q : c = z
    · subst q
      exact ⟨⟨_, upd_same⟩, noSeq_dT upd_same⟩
    · rw [also_ne q] at hc
      exact nsUpd h.ns c hc
  · rw [e]; exact h.k1.mono (by rw [upd_ne (nc _ x.S1)]) fun _ _ g => g
  · rw [e]; exact h.k2.mono (by rw [upd_ne (nc _ x.S2)]) fun _ _ g => g
  · rw [e]; exact h.k3.mono (by rw [upd_ne (nc _ x.S3)]) fun _ _ g => g
  · rw [e]; exact h.k4.mono (by rw [upd_ne (nc _ x.S4)]) fun _ _ g => g
def SpAh (K : PySem.W.Frag) (CR CC : Addr) : Sp := fun vs H Q _ => ∃ (r lc d : Addr) (vb : V) (wd : Nat) (q : Cp05.Rules) (c e : Cp05.Chord) (l : List Cp05.Chord), vs = [.ref r, .ref lc, vb, .ref d, .int (wd : Int)] ∧ RuAt K CR H r q ∧ RuOk q ∧ ChOk c ∧ ChOk e ∧ ChsAt K CC H lc q c ∧ Dp K H vb (tupI [c.bass.sound, e.bass.sound]) ∧ TlAt H d q e (fun y => tal wd (groupY q e l y)) ∧ wd ≤ 200 ∧ prodS q (e :: l) < 2 ^ wd ∧
  ∀ p H', H p = none → Ex H H' → TlAt H' p q c (fun y => tal wd (aheadL q (e :: l) y)) → Q (.ref p) H'
section
variable {P : Program} {w : World} {K : PySem.W.Frag} {mg : Str → Option Value} {base : Heap} {CR C CC CP f : Addr} {fd : FuncData}
abbrev nmAh : List Str := ["rules", "choices", "basses", "tallies", "width", "passage", "found", "choice"]
theorem scAh : FnScope nmAh ["rules", "choices", "basses", "tallies", "width"] (defScope sAhead) := ⟨rfl, rfl, rfl, by decide +kernel, rfl, by decide +kernel, by decide +kernel⟩
theorem cal_ahead (D : Def K mg "tallies_ahead" sAhead) (T : CcTxt K CC) (TP : PaTxt K CP) (M : MkC P w K mg base "Passage" CP 2 ["self", "rules", "basses", "tallies", "width"] (spPaI K CR CP)) (m : MtC P w K mg base CP "tally_from" 10 ["self", "here"] (SpP K CR CP (ATally K))) : Cal P w K mg base "tallies_ahead" 11 ["rules", "choices", "basses", "tallies", "width"] (SpAh K CR CC) := by
  obtain ⟨f1, fd1, M1, b1, F1⟩ := m
  refine ok_S D scAh (fun vs H Q E h => ?_) (fun _ _ _ _ _ _ us hl => match us, hl with | [_, _, _, _, _], _ => rfl) (fun f cdv A outer s H vs Q E hr h => ?_)
  · obtain ⟨_, _, _, _, _, _, _, _, _, rfl, _⟩ := h
    rfl
  · obtain ⟨r, lc, d, vb, wd, q, ch, e, l, rfl, hR, okR, okC, okE, ⟨xs, hlc, hcc⟩, hvb, ⟨ks, hd, hks, hkl, _⟩, hwd, hfew, k⟩ := h
    have hr3 : Room 3 _ := hr.mono (by decide : 3 ≤ 10)
    refine ⟨_, pss_cons (ps_set (i := 5) scAh.nd rfl (Or.inl rfl) (pe_mkC M hr3 (pa_cons (pv 0) (pa_cons (pv 2) (pa_cons (pv 3) (pa_cons (pv 4) pa_nil))))))
      (pss_cons (ps_set (i := 6) scAh.nd rfl (Or.inl rfl) pe_dnewT)
      (pss_cons (ps_for PassesOwn.never rfl (pi_list (pv 1)) (pg_name (i := 7) scAh.nd rfl (Or.inl rfl))
        (pss_one (ps_if (pt_cmp (pc_dnotin (hu_of hr) (pe_fld (pv 7) rfl) (pv 6))) (pss_one (ps_dput (hu_of hr) (pv 6) (pe_fld (pv 7) rfl) (pe_meth (pv 5) TP.cl M1 F1 hr b1 .nil pass0 (pa_cons (pe_fld (pv 7) rfl) pa_nil)) rfl)) pss_nil)))
      (pss_one (ps_ret (pv 6))))), ?_⟩
    have hall : (allL q e l).length < 2 ^ wd := Nat.lt_of_le_of_lt (allL_len q e l) hfew
    have hbr := bass_rng okC.bass
    -- passage = Passage(rules, basses, tallies, width)
    refine ⟨_, rfl, _, rfl, _, rfl, _, rfl, fun o dxo no nd ne => ⟨o, dxo, r, d, vb, q, e, l, ch.bass.sound, wd, ks, rfl, upd_same, hR.mono (Ex_make no nd), okR, okE, Dp.mono (Ex_make no nd) _ hvb, (Ex_make no nd) _ _ hd, hks, hkl, hwd, hall, hbr.1, hbr.2, fun H1 x xa xq xe xl xb xw hP1 hxf hE => ⟨rfl, ?_⟩⟩⟩
    have e1 : Ex H H1 := Ex_made no nd hE
    have hxH : ∀ z, x.S z = true → H z = none := fun z hz => fresh_back (Ex_make (C := CP) no nd) (hxf z hz)
    -- found = {}
    intro fo hfo
    have hfoH : H fo = none := fresh_back e1 hfo
    have hxfo : x.S fo = false := hP1.fresh hfo
    have hP2 := hP1.extT (kvs := []) hfo
    have hss := settings_few okR okC
    have hxl : xs.length = (Cp05.settings q ch).length := hcc.length
    have EB0 : Ex H (cutS (upd H1 fo (.dT [])) (also x.S fo)) := fun z u hz => by
      have hzf : z ≠ fo := ne_of_none hz hfoH
      have hzx : x.S z = false := by
        cases y : x.S z with
        | false => rfl
        | true => rw [hxH z y] at hz; cases hz
      rw [cutS_ne (by rw [also_ne hzf]; exact hzx), upd_ne hzf]
      exact e1 _ _ hz
    refine q_forLn (a := lc) (xs := xs) (σ := [some (.ref r), some (.ref lc), some vb, some (.ref d), some (.int (wd : Int)), some (.ref o), some (.ref fo), none]) (ev_var rfl) (sq_of (cutS_le _ _ (EB0 _ _ hlc))) (fun i σ' H' => ∃ o7 kf, σ' = [some (.ref r), some (.ref lc), some vb, some (.ref d), some (.int (wd : Int)), some (.ref o), some (.ref fo), o7] ∧ PaIn K CR CP x (also x.S fo) H' ∧ Ex H (cutS H' (also x.S fo)) ∧ H' fo = some (.dT (dOf kf fun y => .int (tal wd (aheadL q (e :: l) y) : Int))) ∧ (∀ y, y ∈ kf ↔ ∃ s ∈ (Cp05.settings q ch).take i, sndC ch s = y) ∧ kf.length ≤ i ∧ kf.Nodup)
      (fun H2 e2 => ⟨none, [], rfl, hP2.mono e2, EB0.trans (cutS_mono e2), e2 _ _ upd_same, by simp, Nat.le_refl 0, List.nodup_nil⟩) (fun i σ' H' _ ⟨_, _, _, _, e, _⟩ => sq_of (cutS_le _ _ (e _ _ hlc))) (fun i y σ' H' hiy ⟨o7, kf, eσ, hP', EB, hf, hkf, hkl', hnd⟩ => ?_) (fun σ' H' ⟨o7, kf, eσ, hP', EB, hf, hkf, hkl', hnd⟩ => ?_)
    · subst eσ
      obtain ⟨st, hsi, ac, rfl, hac⟩ := paired_at hcc hiy
      have EBH := EB.trans cutS_le
      obtain ⟨dc, vn, bs, a1, a2, a3⟩ := hac.mono EBH
      have hsm : st ∈ Cp05.settings q ch := List.mem_of_getElem? hsi
      have hil : i < (Cp05.settings q ch).length := (List.getElem?_eq_some_iff.mp hsi).1
      have htk : (Cp05.settings q ch).take (i + 1) = (Cp05.settings q ch).take i ++ [st] := by rw [List.take_add_one, hsi]; rfl
      have sndE : ∀ G, CcAt K CC G ac q ch st → ∀ σ : L2.St, σ[7]? = some (some (.ref ac)) → ∃ bs, Ev (tFld K (tVar 7) "sounds") σ G (.ref bs) ∧ KeyAt G bs (sndC ch st) := fun G h σ h7 => by
        obtain ⟨dc, vn, bs, a1, a2, a3⟩ := h
        exact ⟨bs, ev_fld (ev_var h7) a1 T.cl T.nS (ccF_sounds _ _ _), a3⟩
      obtain ⟨sx, sy, sz, hsnd, rx, ry, rz⟩ := snd4 okR okC hsm
      refine s_when (b := !decide (sndC ch st ∈ kf)) (et_B (ev_is (ev_dnotin (ev_fld (ev_var rfl) a1 T.cl T.nS (ccF_sounds _ _ _)) a3 (ev_var rfl) (.inl hf)) (by
        rw [dOf_val]
        by_cases h : sndC ch st ∈ kf
        · rw [if_pos h, decide_eq_true h]; rfl
        · rw [if_neg h, decide_eq_false h]; rfl))) (fun hb H2 e2 => ?_) (fun hb H2 e2 => ?_)
      · have hP2' := hP'.mono e2
        have a1' := e2 _ _ a1
        have a3' := a3.mono e2
        have hD : Dp K H2 (.ref bs) (tupI [sx, sy, sz, x.b]) := by
          rw [xb, ← hsnd]
          exact a3'.dp
        refine d_put (i_meth (x := x) (Post := fun _ u => u = .int (tal x.wd (aheadL x.q (x.e :: x.l) [sx, sy, sz, x.b]) : Int)) (us := [.ref bs]) (by rw [xa]; exact ev_var rfl) hP2' (paF_no_tally_from x) (ea_cons (ev_fld (ev_var rfl) a1' T.cl T.nS (ccF_sounds _ _ _)) ea_nil) (fun H3 e3 => ⟨.ref bs, sx, sy, sz, rfl, ⟨Dp.mono e3 _ hD, rx, ry, rz⟩, rfl⟩) fun u H3 hP3 e3 hu => ?_)
        subst hu
        have ESt : Ex (cutS H2 (also x.S fo)) (cutS H3 (also x.S fo)) := hP2'.stay e3
        have EB3 := (EB.trans (cutS_mono e2)).trans ESt
        have EB3H := EB3.trans cutS_le
        obtain ⟨bs3, ev3, key3⟩ := sndE H3 (hac.mono EB3H) [some (.ref r), some (.ref lc), some vb, some (.ref d), some (.int (wd : Int)), some (.ref o), some (.ref fo), some (.ref ac)] rfl
        have hf3 : H3 fo = some (.dT (dOf kf fun y => .int (tal wd (aheadL q (e :: l) y) : Int))) := cutS_le _ _ (e3 fo _ (by rw [cutS_ne hxfo]; exact e2 _ _ hf))
        refine s_dputV (ev_var rfl) hf3 ev3 key3 (by omega) fun H4 e4 => ?_
        have hP4 := hP3.mono e4
        have hval : (V.int (tal x.wd (aheadL x.q (x.e :: x.l) [sx, sy, sz, x.b]) : Int)) = .int (tal wd (aheadL q (e :: l) (sndC ch st)) : Int) := by rw [xw, xq, xe, xl, xb, hsnd]
        have hdic : dOf (kStep kf (sndC ch st)) (fun z => if z = sndC ch st then (V.int (tal x.wd (aheadL x.q (x.e :: x.l) [sx, sy, sz, x.b]) : Int)) else .int (tal wd (aheadL q (e :: l) z) : Int)) = dOf (kStep kf (sndC ch st)) fun y => .int (tal wd (aheadL q (e :: l) y) : Int) := by
          apply dOf_congr
          intro z _
          by_cases h : z = sndC ch st
          · rw [if_pos h, hval, h]
          · rw [if_neg h]
        rw [hdic]
        refine ⟨_, _, rfl, hP4.updT (also_z _ _) hxfo, ?_, upd_same, fun y => ?_, ?_, kStep_nd hnd _⟩
        · rw [cutS_upd (also_z x.S fo)]
          exact EB3.trans (cutS_mono e4)
        · rw [kStep_mem, hkf, htk]
          constructor
          · rintro (⟨s1, h1, h2⟩ | h)
            · exact ⟨s1, List.mem_append.mpr (.inl h1), h2⟩
            · exact ⟨st, by simp, h.symm⟩
          · rintro ⟨s1, h1, h2⟩
            rcases List.mem_append.mp h1 with h1 | h1
            · exact .inl ⟨s1, h1, h2⟩
            · rw [List.mem_singleton.mp h1] at h2
              exact .inr h2.symm
        · have := kStep_len kf (sndC ch st)
          omega
      · rw [Bool.not_eq_false', decide_eq_true_eq] at hb
        refine ⟨_, kf, rfl, hP'.mono e2, EB.trans (cutS_mono e2), e2 _ _ hf, fun y => ?_, by omega, hnd⟩
        rw [hkf, htk]
        constructor
        · rintro ⟨s1, h1, h2⟩
          exact ⟨s1, List.mem_append.mpr (.inl h1), h2⟩
        · rintro ⟨s1, h1, h2⟩
          rcases List.mem_append.mp h1 with h1 | h1
          · exact ⟨s1, h1, h2⟩
          · rw [List.mem_singleton.mp h1] at h2
            rw [← h2]
            exact (hkf _).mp hb
    · subst eσ
      rw [hxl, List.take_length] at hkf
      exact s_ret (ev_var rfl) fun H2 e2 => k fo H2 hfoH ((EB.trans cutS_le).trans e2) ⟨kf, e2 _ _ hf, hkf, by omega, hnd⟩
end
end Bf

namespace Bf
open PySem PySem.Spec PyProof.Rows L2 Evl
abbrev sOnward : Stmt := inClass (top 86) 1
abbrev ChL (K : PySem.W.Frag) (CC : Addr) (G : Hp) (q : Cp05.Rules) : List V → List Cp05.Chord → Prop := Paired fun v c => ∃ lc, v = .ref lc ∧ ChsAt K CC G lc q c
theorem ChL.mono {K : PySem.W.Frag} {CC : Addr} {G G' : Hp} {q : Cp05.Rules} (e : Ex G G') {vs : List V} {l : List Cp05.Chord} (h : ChL K CC G q vs l) : ChL K CC G' q vs l := Paired.mono (fun v c ⟨a, h1, h2⟩ => ⟨a, h1, h2.mono e⟩) h
theorem paired_get2 {α β : Type} {F : α → β → Prop} : ∀ {l : List α} {m : List β} {i : Nat} {y : β}, Paired F l m → m[i]? = some y → ∃ x, l[i]? = some x ∧ F x y
  | _, _, _, _, .nil, e => by simp at e
  | _, _, 0, _, .cons h _, e => by simp at e; subst e; exact ⟨_, rfl, h⟩
  | _, _, i + 1, x, .cons _ t, e => by
    obtain ⟨y, h1, h2⟩ := paired_get2 (i := i) t (by simpa using e)
    exact ⟨y, by simpa using h1, h2⟩
/-- the tallies onward, chord by chord -/
inductive OnL (ok : Addr → Prop) (G : Hp) (q : Cp05.Rules) (wd : Nat) : List V → List Cp05.Chord → Prop
  | nil : OnL ok G q wd [] []
  | cons {d : Addr} {vs : List V} {c : Cp05.Chord} {l : List Cp05.Chord} : ok d → TlAt G d q c (fun y => tal wd (aheadL q l y)) → OnL ok G q wd vs l → OnL ok G q wd (.ref d :: vs) (c :: l)
theorem OnL.mono {ok ok' : Addr → Prop} {G G' : Hp} {q : Cp05.Rules} {wd : Nat} (hok : ∀ d, ok d → ok' d) (e : ∀ d c T, ok d → TlAt G d q c T → TlAt G' d q c T) : ∀ {vs : List V} {l : List Cp05.Chord}, OnL ok G q wd vs l → OnL ok' G' q wd vs l
  | _, _, .nil => .nil
  | _, _, .cons h1 h2 h3 => .cons (hok _ h1) (e _ _ _ h1 h2) (OnL.mono hok e h3)
theorem OnL.ex {ok : Addr → Prop} {G G' : Hp} {q : Cp05.Rules} {wd : Nat} (e : Ex G G') {vs : List V} {l : List Cp05.Chord} (h : OnL ok G q wd vs l) : OnL ok G' q wd vs l := h.mono (fun _ h => h) fun _ _ _ _ h => h.mono e
theorem OnL.get {ok : Addr → Prop} {G : Hp} {q : Cp05.Rules} {wd : Nat} : ∀ {vs : List V} {l : List Cp05.Chord} {i : Nat} {c : Cp05.Chord}, OnL ok G q wd vs l → l[i]? = some c → ∃ d, vs[i]? = some (.ref d) ∧ ok d ∧ TlAt G d q c (fun y => tal wd (aheadL q (l.drop (i + 1)) y))
  | _, _, _, _, .nil, e => by simp at e
  | _, _, 0, _, .cons h1 h2 h3, e => by simp at e; subst e; exact ⟨_, rfl, h1, h2⟩
  | _, _, i + 1, c, .cons _ _ h3, e => by
    obtain ⟨d, q1, q2, q3⟩ := OnL.get (i := i) (c := c) h3 (by simpa using e)
    exact ⟨d, by simpa using q1, q2, q3⟩
theorem OnL.length {ok : Addr → Prop} {G : Hp} {q : Cp05.Rules} {wd : Nat} : ∀ {vs : List V} {l : List Cp05.Chord}, OnL ok G q wd vs l → vs.length = l.length
  | _, _, .nil => rfl
  | _, _, .cons _ _ h => by rw [List.length_cons, List.length_cons, h.length]
structure WaTxt (K : PySem.W.Frag) (C : Addr) : Prop where
  cl : Cls K C
  nR : NoAttr K C "rules"
  nC : NoAttr K C "choices"
  nW : NoAttr K C "width"
  nO : NoAttr K C "onward"
  nN : NoAttr K C "numbers"
def SpOn (K : PySem.W.Frag) (CR C CC CW : Addr) : Sp := fun vs H Q _ => ∃ (a dx lc r cl : Addr) (wd : Nat) (q : Cp05.Rules) (l : List Cp05.Chord) (cs ys : List V), vs = [.ref a, .ref lc] ∧ H a = some (.ins CW dx [("rules", .ref r), ("choices", .ref cl), ("width", .int (wd : Int))]) ∧ RuAt K CR H r q ∧ RuOk q ∧ H lc = some (.lst cs) ∧ ChAll K C H cs l ∧ (∀ c ∈ l, ChOk c) ∧ H cl = some (.lst ys) ∧ ChL K CC H q ys l ∧ l ≠ [] ∧ l.length ≤ 8 ∧ wd ≤ 200 ∧ prodS q l < 2 ^ wd ∧
  ∀ p vs H', H p = none → Ex H H' → H' p = some (.lst vs) → OnL (fun d => H d = none) H' q wd vs l → Q (.ref p) H'
section
variable {P : Program} {w : World} {K : PySem.W.Frag} {mg : Str → Option Value} {base : Heap} {CR C CC CP CW f : Addr} {fd : FuncData}
theorem wF_rules (r cl : Addr) (wd : Nat) : ([(("rules" : Str), V.ref r), ("choices", .ref cl), ("width", .int (wd : Int))]).lookup ("rules" : Str) = some (.ref r) := lk_here
theorem wF_choices (r cl : Addr) (wd : Nat) : ([(("rules" : Str), V.ref r), ("choices", .ref cl), ("width", .int (wd : Int))]).lookup ("choices" : Str) = some (.ref cl) := (lk_past (by decide +kernel)).trans lk_here
theorem wF_width (r cl : Addr) (wd : Nat) : ([(("rules" : Str), V.ref r), ("choices", .ref cl), ("width", .int (wd : Int))]).lookup ("width" : Str) = some (.int (wd : Int)) := (lk_past (by decide +kernel)).trans ((lk_past (by decide +kernel)).trans lk_here)
theorem wF_no (r cl : Addr) (wd : Nat) (m : Str) (h1 : (m == ("rules" : Str)) = false) (h2 : (m == ("choices" : Str)) = false) (h3 : (m == ("width" : Str)) = false) : ([(("rules" : Str), V.ref r), ("choices", .ref cl), ("width", .int (wd : Int))]).lookup m = none := (lk_past h1).trans ((lk_past h2).trans ((lk_past h3).trans rfl))
/-- xs[-1] -/
theorem ev_last {σ : L2.St} {H : Hp} {ta : TE} {a : Addr} {xs : List V} {v : V} (ha : Ev ta σ H (.ref a)) (hs : SqL K H a xs) (h : xs[xs.length - 1]? = some v) : Ev (tOp (rIxL K) ta (tUn (rU fun i => .int (-i)) (tC (.int 1)))) σ H v := by
  refine ev_op ha (ev_is (ev_un ev_c ru_neg) rfl) (rv_ixL hs ?_)
  have hl : xs.length - 1 < xs.length := (List.getElem?_eq_some_iff.mp h).1
  have e : ixN xs.length (-1) = some (xs.length - 1) := by
    unfold ixN
    rw [if_neg (by decide), if_pos (by omega)]
    congr 1
    omega
  show (ixN xs.length (-1)).bind (fun j => xs[j]?) = some v
  rw [e]
  exact h
theorem app_i {σ : L2.St} {H : Hp} {D : Ends} {ta te : TE} {l : Addr} {xs : List V} (hl : H l = some (.lst xs)) (ha : Ev ta σ H (.ref l)) (hz : xs.length < 100000) (h : ∀ H1, Ex H H1 → te σ H1 fun v H2 => H2 l = some (.lst xs) ∧ D.nx σ (upd H2 l (.lst (xs ++ [v])))) (mono : ∀ H1 (Q Q' : VK), (∀ v H2, Q v H2 → Q' v H2) → te σ H1 Q → te σ H1 Q') : tDrop (tBM K "list" rAppend ta (tCons te tNil)) D σ H := ha H (Ex.refl H) _ fun H1 e1 =>
  ⟨Or.inl ⟨rfl, xs, sq_of (e1 l _ hl)⟩, mono H1 _ _ (fun v H2 ⟨h1, h2⟩ => ⟨l, xs, v, rfl, rfl, h1, sz_lt hz, h2⟩) (h H1 e1)⟩
theorem q_revL {σ : L2.St} {H : Hp} {D : Ends} {tz : TS} {ta : TE} {l : Addr} {xs : List V} (hl : H l = some (.lst xs)) (ha : Ev ta σ H (.ref l)) (k : ∀ H1, Ex H H1 → tz D σ (upd H1 l (.lst xs.reverse))) : tSeq (tDrop (tBM0 K "list" rReverse ta)) tz D σ H := ha H (Ex.refl H) _ fun H1 e1 =>
  ⟨Or.inl ⟨rfl, xs, sq_of (e1 l _ hl)⟩, l, xs, rfl, rfl, e1 _ _ hl, k H1 e1⟩
theorem rev_last {α : Type} {l r : List α} {x : α} (h : l.reverse = x :: r) : l[l.length - 1]? = some x := by
  have : l = r.reverse ++ [x] := by
    have h2 := congrArg List.reverse h
    rw [List.reverse_reverse, List.reverse_cons] at h2
    exact h2
  rw [this]
  simp
theorem TlAt.upd {H : Hp} {d fl : Addr} {q : Cp05.Rules} {c : Cp05.Chord} {T : List Int → Nat} (h : TlAt H d q c T) (hne : d ≠ fl) : TlAt (cutH H fl) d q c T := by
  obtain ⟨ks, h1, h2⟩ := h
  exact ⟨ks, by rw [cutH_ne hne]; exact h1, h2⟩
abbrev nmOn : List Str := ["self", "chords", "behind_last", "choice", "found", "at", "basses", "tallies"]
theorem scOn : FnScope nmOn ["self", "chords"] (defScope sOnward) := ⟨rfl, rfl, rfl, by decide +kernel, rfl, by decide +kernel, by decide +kernel⟩
theorem ok_onward (F : Fun K "tallies_onward" "Ways.tallies_onward" sOnward f fd) (TW : WaTxt K CW) (TC : ChTxt K C) (T : CcTxt K CC) (gl : mg "len" = none) (gr : mg "range" = none) (c1 : Cal P w K mg base "one_free_way" 1 ["width"] (SpD K RFree)) (c2 : Cal P w K mg base "with_own_cost" 2 ["choices", "tallies", "width"] (SpOwn K CC)) (c3 : Cal P w K mg base "tallies_ahead" 11 ["rules", "choices", "basses", "tallies", "width"] (SpAh K CR CC)) :
    FnOk P w K mg base CX0 12 f fd ["self", "chords"] (SpOn K CR C CC CW) := by
  refine F.ok scOn (fun vs H Q E h => ?_) (fun cdv A outer s H vs Q E hr h => ?_)
  · obtain ⟨_, _, _, _, _, _, _, _, _, _, rfl, _⟩ := h
    rfl
  · obtain ⟨a, dx, lc, r, cl, wd, q, l, cs, ys, rfl, ha, hR, okR, hlc, hCh, okCs, hcl, hCL, hne, hl8, hwd, hfew, k⟩ := h
    have hr1 : Room 1 _ := hr.mono (by decide : 1 ≤ 11)
    have hr2 : Room 2 _ := hr.mono (by decide : 2 ≤ 11)
    refine ⟨_, pss_cons (ps_set (i := 2) scOn.nd rfl (Or.inl rfl) pe_dnewT)
      (pss_cons (ps_for PassesOwn.never rfl (pi_list (pe_ix ix_list (pe_fld (pv 0) rfl) (pe_un un_neg pe_int) (fun _ _ => rfl))) (pg_name (i := 3) scOn.nd rfl (Or.inl rfl))
        (pss_one (ps_dput (hu_of hr) (pv 2) (pe_fld (pv 3) rfl) (pe_cal c1 hr1 (pa_cons (pe_fld (pv 0) rfl) pa_nil)) rfl)))
      (pss_cons (ps_set (i := 4) scOn.nd rfl (Or.inl rfl) (pe_lst (pa_cons (pv 2) pa_nil)))
      (pss_cons (ps_for PassesOwn.never rfl (pi_range3 (by rfl) gr (pa_cons (pe_op op_sub (pe_callB call_len_seq (by rfl) gl PySem.boot_len (pa_cons (pv 1) pa_nil)) pe_int) (pa_cons (pe_un un_neg pe_int) (pa_cons (pe_un un_neg pe_int) pa_nil)))) (pg_name (i := 5) scOn.nd rfl (Or.inl rfl))
        (pss_cons (ps_set (i := 6) scOn.nd rfl (Or.inl rfl) (pe_tup (pa_cons (pe_ix ix_tup (pe_fld (pe_ix ix_list (pv 1) (pv 5) (fun _ _ => rfl)) rfl) pe_int (fun _ _ => rfl)) (pa_cons (pe_ix ix_tup (pe_fld (pe_ix ix_list (pv 1) (pe_op op_add (pv 5) pe_int) (fun _ _ => rfl)) rfl) pe_int (fun _ _ => rfl)) pa_nil))))
        (pss_cons (ps_set (i := 7) scOn.nd rfl (Or.inl rfl) (pe_cal c2 hr2 (pa_cons (pe_ix ix_list (pe_fld (pv 0) rfl) (pe_op op_add (pv 5) pe_int) (fun _ _ => rfl)) (pa_cons (pe_ix ix_list (pv 4) (pe_un un_neg pe_int) (fun _ _ => rfl)) (pa_cons (pe_fld (pv 0) rfl) pa_nil)))))
        (pss_one (ps_expr (pe_bm PySem.F.plainAttrs_list PySem.F.slot_list_append PySem.F.type_list_append mt_append (pv 4) (pa_cons (pe_cal c3 hr (pa_cons (pe_fld (pv 0) rfl) (pa_cons (pe_ix ix_list (pe_fld (pv 0) rfl) (pv 5) (fun _ _ => rfl)) (pa_cons (pv 6) (pa_cons (pv 7) (pa_cons (pe_fld (pv 0) rfl) pa_nil)))))) pa_nil)))))))
      (pss_cons (ps_expr (pe_bm0 PySem.F.plainAttrs_list PySem.F.slot_list_reverse PySem.F.type_list_reverse mt_reverse (pv 4)))
      (pss_one (ps_ret (pv 4))))))), ?_⟩
    intro bl hbl
    have hn : 0 < l.length := List.length_pos_iff.mpr hne
    have hysl : ys.length = l.length := hCL.length
    have hcsl : cs.length = l.length := hCh.length
    -- the fields
    have chE : ∀ G, Ex H G → ∀ σ : L2.St, σ[0]? = some (some (.ref a)) → Ev (tFld K (tVar 0) "choices") σ G (.ref cl) := fun G e σ h0 => ev_fld (ev_var h0) (e _ _ ha) TW.cl TW.nC (wF_choices _ _ _)
    have wdE : ∀ G, Ex H G → ∀ σ : L2.St, σ[0]? = some (some (.ref a)) → Ev (tFld K (tVar 0) "width") σ G (.int (wd : Int)) := fun G e σ h0 => ev_fld (ev_var h0) (e _ _ ha) TW.cl TW.nW (wF_width _ _ _)
    have ruE : ∀ G, Ex H G → ∀ σ : L2.St, σ[0]? = some (some (.ref a)) → Ev (tFld K (tVar 0) "rules") σ G (.ref r) := fun G e σ h0 => ev_fld (ev_var h0) (e _ _ ha) TW.cl TW.nR (wF_rules _ _ _)
    -- the last chord
    obtain ⟨cn, hcn⟩ : ∃ cn, l[l.length - 1]? = some cn := ⟨_, List.getElem?_eq_getElem (by omega)⟩
    have okN := okCs cn (List.mem_of_getElem? hcn)
    obtain ⟨yn, hyn, ln, rfl, xs, hln, hcc⟩ := paired_get2 hCL hcn
    have hss := settings_few okR okN
    have hxl : xs.length = (Cp05.settings q cn).length := hcc.length
    have eN : Ex H (upd H bl (.dT [])) := Ex.new hbl
    refine q_forLn (a := ln) (xs := xs) (σ := [some (.ref a), some (.ref lc), some (.ref bl), none, none, none, none, none]) (ev_last (chE _ eN _ rfl) (sq_of (eN _ _ hcl)) (by rw [hysl]; exact hyn)) (sq_of (eN _ _ hln)) (fun i σ' H' => ∃ o3 kf, σ' = [some (.ref a), some (.ref lc), some (.ref bl), o3, none, none, none, none] ∧ Ex H H' ∧ H' bl = some (.dT (dOf kf fun y => .int (tal wd (aheadL q [] y) : Int))) ∧ (∀ y, y ∈ kf ↔ ∃ s ∈ (Cp05.settings q cn).take i, sndC cn s = y) ∧ kf.length ≤ i ∧ kf.Nodup)
      (fun H1 e1 => ⟨none, [], rfl, eN.trans e1, e1 _ _ upd_same, by simp, Nat.le_refl 0, List.nodup_nil⟩) (fun i σ' H' _ ⟨_, _, _, e, _⟩ => sq_of (e _ _ hln)) (fun i x σ' H' hix ⟨o3, kf, eσ, e1, hf, hkf, hkl', hnd⟩ => ?_) (fun σ' H' ⟨o3, kf, eσ, e1, hf, hkf, hkl', hnd⟩ => ?_)
    · subst eσ
      obtain ⟨st, hsi, ac, rfl, hac⟩ := paired_at hcc hix
      obtain ⟨dc, vn, bs, a1, a2, a3⟩ := hac.mono e1
      have hil : i < (Cp05.settings q cn).length := (List.getElem?_eq_some_iff.mp hsi).1
      have htk : (Cp05.settings q cn).take (i + 1) = (Cp05.settings q cn).take i ++ [st] := by rw [List.take_add_one, hsi]; rfl
      refine d_put ?_
      have hval : Dv K (tCall (SpD K RFree) [] E0 (tCons (tFld K (tVar 0) "width") tNil)) [some (.ref a), some (.ref lc), some (.ref bl), some (.ref ac), none, none, none, none] H' (natD (2 ^ (119 * wd))) := dv_call (da_one (dv_i (wdE _ e1 _ rfl))) ⟨wd, rfl, hwd, rfl⟩
      refine hval H' (Ex.refl _) _ fun u H2 e2 hu => ?_
      have hu' : u = .int ((tal wd (aheadL q [] (sndC cn st)) : Nat) : Int) := by
        have h9 : u = .int ((2 ^ (119 * wd) : Nat) : Int) := hu.int_inv
        rw [h9]
        show _ = V.int ((tal wd [0] : Nat) : Int)
        rw [tal_nothing]
      subst hu'
      refine s_dputV (ev_var rfl) (e2 _ _ hf) (ev_fld (ev_var rfl) (e2 _ _ a1) T.cl T.nS (ccF_sounds _ _ _)) (a3.mono e2) (by omega) fun H3 e3 => ?_
      have hdic : dOf (kStep kf (sndC cn st)) (fun z => if z = sndC cn st then (V.int ((tal wd (aheadL q [] (sndC cn st)) : Nat) : Int)) else .int (tal wd (aheadL q [] z) : Int)) = dOf (kStep kf (sndC cn st)) fun y => .int (tal wd (aheadL q [] y) : Int) := by
        apply dOf_congr
        intro z _
        by_cases h : z = sndC cn st
        · rw [if_pos h, h]
        · rw [if_neg h]
      rw [hdic]
      refine ⟨_, _, rfl, Ex.mut (e1.trans (e2.trans e3)) hbl, upd_same, fun y => ?_, ?_, kStep_nd hnd _⟩
      · rw [kStep_mem, hkf, htk]
        constructor
        · rintro (⟨s1, h1, h2⟩ | h)
          · exact ⟨s1, List.mem_append.mpr (.inl h1), h2⟩
          · exact ⟨st, by simp, h.symm⟩
        · rintro ⟨s1, h1, h2⟩
          rcases List.mem_append.mp h1 with h1 | h1
          · exact .inl ⟨s1, h1, h2⟩
          · rw [List.mem_singleton.mp h1] at h2
            exact .inr h2.symm
      · have := kStep_len kf (sndC cn st)
        omega
    · subst eσ
      rw [hxl, List.take_length] at hkf
      -- found = [behind_last]
      refine q_asgL (xs := [V.ref bl]) (el_lst (ea_cons (ev_var rfl) ea_nil) (by show 1 ≤ 100000; decide)) fun fl H1 hfl e2 h1 => ?_
      have hblfl : bl ≠ fl := fun z => by rw [← z, hf] at hfl; cases hfl
      have hflH : H fl = none := fresh_back e1 hfl
      have e12 := e1.trans e2
      have hlast : l.drop (l.length - 1) = [cn] := by
        rw [drop_at' hcn, List.drop_eq_nil_of_le (by omega)]
      have on1 : OnL (fun d => H d = none) (cutH H1 fl) q wd [V.ref bl] [cn] := .cons hbl ⟨kf, by rw [cutH_ne hblfl]; exact e2 _ _ hf, hkf, by omega, hnd⟩ .nil
      refine q_forR3 (K := K) (lo := (l.length : Int) - 2) (hi := -1) (c := -1) (n := l.length - 1) (da_cons (dv_is (dv_I (dv_i (ev_len (ev_var rfl) (sq_of (e12 _ _ hlc)))) dv_int) (by rw [hcsl])) (da_cons (dv_is (dv_neg dv_int) rfl) (da_cons (dv_is (dv_neg dv_int) rfl) da_nil))) (by
          have h := RgC.neg (i := (l.length : Int) - 2) (j := -1) (by have : (2 : Int) ^ 62 = 4611686018427387904 := by decide
                                                                      omega) (by have : (2 : Int) ^ 62 = 4611686018427387904 := by decide
                                                                                 omega) (by decide) (by decide)
          have e9 : ((l.length : Int) - 2 - -1).toNat = l.length - 1 := by omega
          rw [e9] at h
          exact h)
        (fun i σ' H' => ∃ o3 o5 o6 o7 vs, σ' = [some (.ref a), some (.ref lc), some (.ref bl), o3, some (.ref fl), o5, o6, o7] ∧ Ex H H' ∧ H' fl = some (.lst vs) ∧ OnL (fun d => H d = none) (cutH H' fl) q wd vs.reverse (l.drop (l.length - 1 - i)))
        (fun H2 e3 => ⟨_, none, none, none, [V.ref bl], rfl, e12.trans e3, e3 _ _ h1, by rw [Nat.sub_zero, hlast]; exact on1.ex (cutH_mono e3)⟩) (fun i σ' H' hi ⟨o3, o5, o6, o7, vs, eσ, e3, hfv, hon⟩ => ?_) (fun σ' H' ⟨o3, o5, o6, o7, vs, eσ, e3, hfv, hon⟩ => ?_)
      · subst eσ
        obtain ⟨n0, hn0⟩ : ∃ n0 : Nat, l.length - 2 - i = n0 := ⟨_, rfl⟩
        have hat : (l.length : Int) - 2 + (i : Int) * -1 = (n0 : Int) := by omega
        rw [hat]
        obtain ⟨c0, hc0⟩ : ∃ c0, l[n0]? = some c0 := ⟨_, List.getElem?_eq_getElem (by omega)⟩
        obtain ⟨c1', hc1⟩ : ∃ c1', l[n0 + 1]? = some c1' := ⟨_, List.getElem?_eq_getElem (by omega)⟩
        have ok0 := okCs c0 (List.mem_of_getElem? hc0)
        have ok1 := okCs c1' (List.mem_of_getElem? hc1)
        have hd1 : l.drop (l.length - 1 - i) = c1' :: l.drop (n0 + 2) := by
          have : l.length - 1 - i = n0 + 1 := by omega
          rw [this, drop_at' hc1]
        rw [hd1] at hon
        obtain ⟨ac0, hac0, hC0⟩ := (hCh.mono e3).get hc0
        obtain ⟨ac1, hac1, hC1⟩ := (hCh.mono e3).get hc1
        obtain ⟨y0, hy0, l0, rfl, hL0⟩ := paired_get2 hCL hc0
        obtain ⟨y1, hy1, l1, rfl, hL1⟩ := paired_get2 hCL hc1
        have hrev : ∃ d1 rest, vs.reverse = .ref d1 :: rest ∧ H d1 = none ∧ TlAt (cutH H' fl) d1 q c1' (fun y => tal wd (aheadL q (l.drop (n0 + 2)) y)) := by
          generalize hvr : vs.reverse = vr at hon
          cases hon with
          | cons h1 h2 h3 => exact ⟨_, _, rfl, h1, h2⟩
        obtain ⟨d1, rest, hvr, hd1n, hT1⟩ := hrev
        have hlastv := rev_last hvr
        -- basses
        obtain ⟨dc0, vb0, _, _, _, p1, p2, _, _, _⟩ := hC0
        obtain ⟨dc1, vb1, _, _, _, q1, q2, _, _, _⟩ := hC1
        refine q_asgD (K := K) (d := tupI [c0.bass.sound, c1'.bass.sound]) (dv_tup (da_cons (dv_ixT (j := 0) (dv_fld (ev_ixL (ev_var rfl) (sq_of (e3 _ _ hlc)) (ev_var rfl) rfl hac0) p1 TC.cl TC.nB (chF_bass _ _ _) p2) dv_int rfl rfl) (da_cons (dv_ixT (j := 0) (dv_fld (ev_ixL (ev_var rfl) (sq_of (e3 _ _ hlc)) (ev_int (K := K) (dv_I (dv_vi rfl) dv_int)) (by push_cast; rfl) hac1) q1 TC.cl TC.nB (chF_bass _ _ _) q2) dv_int rfl rfl) da_nil)) (by show 2 ≤ 100000; decide)) fun v6 H2 e4 hv6 => ?_
        have e34 := e3.trans e4
        have pf2 : prodS q (c1' :: l.drop (n0 + 2)) < 2 ^ wd := by
          rw [← drop_at' hc1]
          exact Nat.lt_of_le_of_lt (prodS_drop q l (n0 + 1)) hfew
        have pf1 : prodS q (l.drop (n0 + 2)) < 2 ^ wd := Nat.lt_of_le_of_lt (prodS_drop q l (n0 + 2)) hfew
        -- tallies
        refine a_asg (k_call ((ea_cons (ev_ixL (j := n0 + 1) (chE _ e34 _ rfl) (sq_of (e34 _ _ hcl)) (ev_int (K := K) (dv_I (dv_vi rfl) dv_int)) (by push_cast; rfl) hy1) (ea_cons (ev_last (ev_var rfl) (sq_of (e4 _ _ hfv)) hlastv) (ea_cons (wdE _ e34 _ rfl) ea_nil))) H2 (Ex.refl _) _ fun H3 e5 => ⟨l1, d1, wd, q, c1', l.drop (n0 + 2), rfl, okR, ok1, hL1.mono (e34.trans e5), (hT1.mono cutH_le).mono (e4.trans e5), hwd, pf1, fun td H4 htd e6 hTd => ?_⟩))
        have e46 := (e4.trans e5).trans e6
        have e36 := e3.trans e46
        -- found.append(..)
        refine ⟨_, rfl, Or.inl ⟨rfl, vs, sq_of (e46 _ _ hfv)⟩, ?_⟩
        refine c_i (k_call ((ea_cons (ruE _ e36 _ rfl) (ea_cons (ev_ixL (j := n0) (chE _ e36 _ rfl) (sq_of (e36 _ _ hcl)) (ev_var rfl) rfl hy0) (ea_cons (ev_var rfl) (ea_cons (ev_var rfl) (ea_cons (wdE _ e36 _ rfl) ea_nil))))) H4 (Ex.refl _) _ fun H5 e7 => ⟨r, l0, td, v6, wd, q, c0, c1', l.drop (n0 + 2), rfl, hR.mono (e36.trans e7), okR, ok0, ok1, hL0.mono (e36.trans e7), Dp.mono ((e5.trans e6).trans e7) _ hv6, hTd.mono e7, hwd, pf2, fun nw H6 hnw e8 hTn => c_nil ?_⟩))
        have e48 := (e46.trans e7).trans e8
        have hvl : vs.length ≤ 8 := by
          have h9 := hon.length
          rw [List.length_reverse, ← hd1, List.length_drop] at h9
          omega
        refine ⟨fl, vs, .ref nw, rfl, rfl, e48 _ _ hfv, sz_lt (by omega), ?_⟩
        have hndH : H nw = none := fresh_back (e36.trans e7) hnw
        have hndfl : nw ≠ fl := fun z => by rw [z, (e46.trans e7) _ _ hfv] at hnw; cases hnw
        refine ⟨_, _, _, _, vs ++ [.ref nw], rfl, Ex.mut (e3.trans e48) hflH, upd_same, ?_⟩
        have hd0 : l.drop (l.length - 1 - (i + 1)) = c0 :: (c1' :: l.drop (n0 + 2)) := by
          have : l.length - 1 - (i + 1) = n0 := by omega
          rw [this, drop_at' hc0, drop_at' hc1]
        rw [cutH_upd_eq, hd0, List.reverse_append]
        exact .cons hndH (hTn.upd hndfl) (hon.ex (cutH_mono e48))
      · subst eσ
        refine q_revL (K := K) hfv (ev_var rfl) fun H2 e4 => ?_
        have h0 : l.length - 1 - (l.length - 1) = 0 := by omega
        rw [h0, List.drop_zero] at hon
        refine s_ret (ev_var rfl) fun H3 e5 => k fl vs.reverse H3 hflH ((Ex.mut (e3.trans e4) hflH).trans e5) (e5 _ _ upd_same) ?_
        have h9 := hon.ex (cutH_mono (p := fl) e4)
        exact (h9.ex (G' := upd H2 fl (.lst vs.reverse)) cutH_ex).ex e5
end
end Bf

namespace Bf
open PySem PySem.Spec PyProof.Rows L2 Evl
abbrev sWaI : Stmt := inClass (top 86) 0
def allW (q : Cp05.Rules) : List Cp05.Chord → List Nat
  | [] => []
  | c :: l => allL q c l
def waF (r cl ol nl : Addr) (wd : Nat) : List (Str × V) := [("rules", .ref r), ("choices", .ref cl), ("width", .int (wd : Int)), ("onward", .ref ol), ("numbers", .ref nl)]
section
variable (r cl ol nl : Addr) (wd : Nat)
theorem waF_rules : (waF r cl ol nl wd).lookup ("rules" : Str) = some (.ref r) := lk_here
theorem waF_choices : (waF r cl ol nl wd).lookup ("choices" : Str) = some (.ref cl) := (lk_past (by decide +kernel)).trans lk_here
theorem waF_width : (waF r cl ol nl wd).lookup ("width" : Str) = some (.int (wd : Int)) := (lk_past (by decide +kernel)).trans ((lk_past (by decide +kernel)).trans lk_here)
theorem waF_onward : (waF r cl ol nl wd).lookup ("onward" : Str) = some (.ref ol) := (lk_past (by decide +kernel)).trans ((lk_past (by decide +kernel)).trans ((lk_past (by decide +kernel)).trans lk_here))
theorem waF_numbers : (waF r cl ol nl wd).lookup ("numbers" : Str) = some (.ref nl) := (lk_past (by decide +kernel)).trans ((lk_past (by decide +kernel)).trans ((lk_past (by decide +kernel)).trans ((lk_past (by decide +kernel)).trans lk_here)))
theorem waF_no (m : Str) (h1 : (m == ("rules" : Str)) = false) (h2 : (m == ("choices" : Str)) = false) (h3 : (m == ("width" : Str)) = false) (h4 : (m == ("onward" : Str)) = false) (h5 : (m == ("numbers" : Str)) = false) : (waF r cl ol nl wd).lookup m = none := (lk_past h1).trans ((lk_past h2).trans ((lk_past h3).trans ((lk_past h4).trans ((lk_past h5).trans rfl))))
end
theorem waP1 (a : V) : putF "rules" a ([] : List (Str × V)) = [(("rules" : Str), a)] := rfl
theorem waP2 (a b : V) : putF "choices" b [(("rules" : Str), a)] = [(("rules" : Str), a), ("choices", b)] := put_new ["rules"] rfl (by decide +kernel)
theorem waP3 (a b c : V) : putF "width" c [(("rules" : Str), a), ("choices", b)] = [(("rules" : Str), a), ("choices", b), ("width", c)] := put_new ["rules", "choices"] rfl (by decide +kernel)
theorem waP4 (a b c d : V) : putF "onward" d [(("rules" : Str), a), ("choices", b), ("width", c)] = [(("rules" : Str), a), ("choices", b), ("width", c), ("onward", d)] := put_new ["rules", "choices", "width"] rfl (by decide +kernel)
theorem waP5 (a b c d e : V) : putF "numbers" e [(("rules" : Str), a), ("choices", b), ("width", c), ("onward", d)] = [(("rules" : Str), a), ("choices", b), ("width", c), ("onward", d), ("numbers", e)] := put_new ["rules", "choices", "width", "onward"] rfl (by decide +kernel)
structure WaD where
  dx : Addr
  r : Addr
  cl : Addr
  ol : Addr
  nl : Addr
  wd : Nat
  ys : List V
  vs : List V
structure WaS (K : PySem.W.Frag) (CR CC CW : Addr) (G : Hp) (a : Addr) (q : Cp05.Rules) (l : List Cp05.Chord) (x : WaD) : Prop where
  obj : G a = some (.ins CW x.dx (waF x.r x.cl x.ol x.nl x.wd))
  ru : RuAt K CR G x.r q
  ok : RuOk q
  cl : G x.cl = some (.lst x.ys)
  chl : ChL K CC G q x.ys l
  ol : G x.ol = some (.lst x.vs)
  onl : OnL (fun _ => True) G q x.wd x.vs l
  num : Dp K G (.ref x.nl) (.list ((List.range 120).map fun p => natD ((allW q l).count p)))
  wd : x.wd ≤ 200
  few : prodS q l < 2 ^ x.wd
  chs : ∀ c ∈ l, ChOk c
  len : l.length ≤ 8
def WaAt (K : PySem.W.Frag) (CR CC CW : Addr) (G : Hp) (a : Addr) (q : Cp05.Rules) (l : List Cp05.Chord) : Prop := ∃ x, WaS K CR CC CW G a q l x
theorem WaS.mono {K : PySem.W.Frag} {CR CC CW : Addr} {G G' : Hp} {a : Addr} {q : Cp05.Rules} {l : List Cp05.Chord} {x : WaD} (e : Ex G G') (h : WaS K CR CC CW G a q l x) : WaS K CR CC CW G' a q l x := { h with obj := e _ _ h.obj, ru := h.ru.mono e, cl := e _ _ h.cl, chl := h.chl.mono e, ol := e _ _ h.ol, onl := h.onl.ex e, num := Dp.mono e _ h.num }
theorem WaAt.mono {K : PySem.W.Frag} {CR CC CW : Addr} {G G' : Hp} {a : Addr} {q : Cp05.Rules} {l : List Cp05.Chord} (e : Ex G G') (h : WaAt K CR CC CW G a q l) : WaAt K CR CC CW G' a q l := by
  obtain ⟨x, h⟩ := h
  exact ⟨x, h.mono e⟩
/-! ### each group once -/
theorem sm_oneG {α : Type} [DecidableEq α] {z : α} {F : Nat} : ∀ {l : List α}, l.Nodup → z ∈ l → sm l (fun y => if z = y then F else 0) = F
  | [], _, h => by cases h
  | x :: l, h, hz => by
    rw [List.nodup_cons] at h
    rw [sm_cons]
    by_cases e : z = x
    · have h0 : sm l (fun y => if z = y then F else 0) = 0 := by
        refine (sm_congr fun y hy => ?_).trans (sm_zero l)
        rw [if_neg]
        rintro rfl
        exact h.1 (e ▸ hy)
      rw [if_pos e, h0, Nat.add_zero]
    · rw [if_neg e, Nat.zero_add]
      refine sm_oneG h.2 ?_
      rcases List.mem_cons.mp hz with h' | h'
      · exact absurd h' e
      · exact h'
theorem groups_sum (q : Cp05.Rules) (c : Cp05.Chord) (l : List Cp05.Chord) (wd : Nat) {ks : List (List Int)} (nd : ks.Nodup) (hks : ∀ y, y ∈ ks ↔ ∃ s ∈ Cp05.settings q c, sndC c s = y) : (ks.map fun y => tal wd (groupY q c l y)).sum = tal wd (allL q c l) := by
  have e1 : ∀ y, tal wd (groupY q c l y) = sm (Cp05.settings q c) fun s => if sndC c s = y then tal wd ((aheadL q l (sndC c s)).map (· + Cp05.own q c s)) else 0 := fun y => by
    unfold groupY
    rw [tal_flat]
    show sm _ _ = _
    rw [sm_filter]
    apply sm_congr
    intro s _
    by_cases h : sndC c s = y
    · rw [if_pos h, if_pos (decide_eq_true h)]
    · rw [if_neg h, if_neg (by rw [decide_eq_false h]; exact Bool.false_ne_true)]
  have e2 : (ks.map fun y => tal wd (groupY q c l y)).sum = sm ks fun y => sm (Cp05.settings q c) fun s => if sndC c s = y then tal wd ((aheadL q l (sndC c s)).map (· + Cp05.own q c s)) else 0 := sm_congr fun y _ => e1 y
  rw [e2, sm_swap]
  unfold allL
  rw [tal_flat]
  apply sm_congr
  intro s hs
  exact sm_oneG nd ((hks _).mpr ⟨s, hs, rfl⟩)
theorem cutS_alsoH {H : Hp} {S : Addr → Bool} {p : Addr} : cutS H (also S p) = cutH (cutS H S) p := by
  funext b
  by_cases e : b = p
  · subst e
    rw [cutS_in (also_z S b), cutH_same]
  · rw [cutH_ne e]
    cases q : S b with
    | true => rw [cutS_in q, cutS_in (by rw [also_ne e]; exact q)]
    | false => rw [cutS_ne q, cutS_ne (by rw [also_ne e]; exact q)]
theorem Av.alsoI {S : Addr → Bool} {H : Hp} {z C dx : Addr} {fs : List (Str × V)} (h : Av S H) (hz : H z = some (.ins C dx fs)) : Av (Bf.also S z) H := fun b hb => by
  by_cases e : b = z
  · rw [e]; exact ⟨⟨_, hz⟩, no_tup_ins hz⟩
  · rw [also_ne e] at hb; exact h b hb
theorem TlAt.cutS {H : Hp} {S : Addr → Bool} {d : Addr} {q : Cp05.Rules} {c : Cp05.Chord} {T : List Int → Nat} (h : TlAt H d q c T) (hs : S d = false) : TlAt (Bf.cutS H S) d q c T := by
  obtain ⟨ks, h1, h2⟩ := h
  exact ⟨ks, by rw [cutS_ne hs]; exact h1, h2⟩
section
variable {K : PySem.W.Frag}
/-- [e for x in xs], xs a list that stands, e no list -/
theorem dvl_mapP {α : Type} {H : Hp} {σ : L2.St} {tl te : TE} {j : Nat} {vs : List Nat} {l : List α} {a : Addr} {xs : List V} (g : α → PyData) (h : Ev tl σ H (.ref a)) (hs : SqL K H a xs) (hlen : xs.length = l.length) (hz : l.length ≤ 64000) (hw : ∀ x, wipe ((wipe σ vs).set j (some x)) vs = wipe σ vs) (hg : ∀ x ∈ l, noList (g x) = true)
    (he : ∀ (i : Nat) v x, xs[i]? = some v → l[i]? = some x → ∀ H1, Ex H H1 → Dv K te ((wipe σ vs).set j (some v)) H1 (g x)) : DvL K (tLc (iList K tl) (gName j) tYes te vs) σ H (l.map g) := fun H1 e Q q => h H1 e _ fun H2 e2 => by
  refine ⟨a, rfl, ⟨xs, ex_l (e.trans e2) hs⟩, fun Dl hD => lc_list (xs := xs) (Cd K H2 l (fun _ => true) g Dl) ⟨hD, Ex.new hD, [], upd_same, .nil⟩ (fun i H' _ c => ex_l ((e.trans e2).trans c.2.1) hs) (fun i v H' hi c => ⟨hw v, ?_⟩) (fun H' c => ?_)⟩
  · have hil : i < l.length := by rw [← hlen]; exact (List.getElem?_eq_some_iff.mp hi).1
    obtain ⟨x, hx'⟩ : ∃ x, l[i]? = some x := ⟨_, List.getElem?_eq_getElem hil⟩
    exact cd_turn c hz hx' hg et_yes fun _ => he i v x hi hx' H' ((e.trans e2).trans c.2.1)
  · obtain ⟨c1, c2, acc, c3, c4⟩ := c
    rw [hlen, List.take_length, filter_true] at c4
    exact q Dl acc H' (fresh_back e2 c1) (e2.trans c2) c3 c4
end
def spWaI (K : PySem.W.Frag) (CR C CC CW : Addr) : Sp := fun vs H Q _ => ∃ (p dx r lc : Addr) (S : Addr → Bool) (q : Cp05.Rules) (l : List Cp05.Chord) (cs : List V), vs = [.ref p, .ref r, .ref lc] ∧ H p = some (.ins CW dx []) ∧ Av S H ∧ S p = false ∧ RuAt K CR (cutS H S) r q ∧ RuOk q ∧ H lc = some (.lst cs) ∧ ChAll K C (cutS H S) cs l ∧ (∀ c ∈ l, ChOk c) ∧ l ≠ [] ∧ l.length ≤ 8 ∧
  ∀ H', WaAt K CR CC CW (cutS H' S) p q l → Ex (cutH H p) H' → Q .non H'
section
variable {P : Program} {w : World} {K : PySem.W.Frag} {mg : Str → Option Value} {base : Heap} {CR C CC CP CW f : Addr} {fd : FuncData}
abbrev nmWI : List Str := ["self", "rules", "chords", "whole", "chord", "choices", "sounds"]
theorem scWI : FnScope nmWI ["self", "rules", "chords"] (defScope sWaI) := ⟨rfl, rfl, rfl, by decide +kernel, rfl, by decide +kernel, by decide +kernel⟩
theorem ok_waI (F : Fun K "__init__" "Ways.__init__" sWaI f fd) (TW : WaTxt K CW) (gl : mg "len" = none) (gs : mg "sum" = none) (c1 : Cal P w K mg base "choices_of" 6 ["rules", "chord"] (SpChs K CR C CC)) (c2 : Cal P w K mg base "width_for" 1 ["how_many"] (SpD K RWidth)) (m : MtC P w K mg base CW "tallies_onward" 12 ["self", "chords"] (SpOn K CR C CC CW)) (c3 : Cal P w K mg base "with_own_cost" 2 ["choices", "tallies", "width"] (SpOwn K CC)) (c4 : Cal P w K mg base "by_cost" 2 ["tally", "width"] (SpDL K RByCost)) :
    FnOk P w K mg base CX0 13 f fd ["self", "rules", "chords"] (spWaI K CR C CC CW) := by
  obtain ⟨f1, fd1, M1, b1, F1⟩ := m
  refine F.ok scWI (fun vs H Q E h => ?_) (fun cdv A outer s H vs Q E hr h => ?_)
  · obtain ⟨_, _, _, _, _, _, _, _, rfl, _⟩ := h
    rfl
  · obtain ⟨p, dx, r, lc, S, q, l, cs, rfl, hp, av, hSp, hR, okR, hlc, hCh, okCs, hne, hl8, k⟩ := h
    have hr1 : Room 1 _ := hr.mono (by decide : 1 ≤ 12)
    have hr2 : Room 2 _ := hr.mono (by decide : 2 ≤ 12)
    have hr6 : Room 6 _ := hr.mono (by decide : 6 ≤ 12)
    refine ⟨_, pss_cons (ps_fld (pv 0) (pv 1) rfl)
      (pss_cons (ps_fld (pv 0) (pe_lc (own := [("chord", 4)]) (g := gName 4) (te := tCall (SpChs K CR C CC) [] E0 (tCons (tVar 1) (tCons (tVar 4) tNil))) rfl scWI.nd (pi_list (pv 2)) (blkOk_by (own := [("chord", 4)]) (N := nmWI) (sc := defScope sWaI) (by decide +kernel)) (fun _ _ _ _ _ => pg_name (i := 4) scWI.nd rfl (Or.inl rfl)) (fun _ _ _ _ _ => pts_nil) (fun _ _ _ _ _ => pe_cal c1 hr6 (pa_cons (pv 1) (pa_cons (pv 4) pa_nil)))) rfl)
      (pss_cons (ps_fld (pv 0) (pe_cal c2 hr1 (pa_cons (pe_lc (own := [("choices", 5)]) (g := gName 5) (te := tCB (rLenS K) (tCons (tVar 5) tNil)) rfl scWI.nd (pi_list (pe_fld (pv 0) rfl)) (blkOk_by (own := [("choices", 5)]) (N := nmWI) (sc := defScope sWaI) (by decide +kernel)) (fun _ _ _ _ _ => pg_name (i := 5) scWI.nd rfl (Or.inl rfl)) (fun _ _ _ _ _ => pts_nil) (fun _ _ _ _ _ => pe_callB call_len_seq (by rfl) gl PySem.boot_len (pa_cons (pv 5) pa_nil))) pa_nil)) rfl)
      (pss_cons (ps_fld (pv 0) (pe_meth (pv 0) TW.cl M1 F1 hr b1 .nil pass0 (pa_cons (pv 2) pa_nil)) rfl)
      (pss_cons (ps_set (i := 3) scWI.nd rfl (Or.inr rfl) (pe_cal c3 hr2 (pa_cons (pe_ix ix_list (pe_fld (pv 0) rfl) pe_int (fun _ _ => rfl)) (pa_cons (pe_ix ix_list (pe_fld (pv 0) rfl) pe_int (fun _ _ => rfl)) (pa_cons (pe_fld (pv 0) rfl) pa_nil)))))
      (pss_one (ps_fld (pv 0) (pe_cal c4 hr2 (pa_cons (pe_callB (cr_sum rfl) (by rfl) gs (by decide +kernel) (pa_cons (pe_lock (pe_lc (own := [("sounds", 6)]) (g := gName 6) rfl scWI.nd (pi_keys (pv 3)) (blkOk_by (own := [("sounds", 6)]) (N := nmWI) (sc := defScope sWaI) (by decide +kernel)) (fun _ _ _ _ _ => pg_name (i := 6) scWI.nd rfl (Or.inl rfl)) (fun _ _ _ _ _ => pts_nil) (fun _ _ _ _ _ => pe_dget (hu_of hr) (pv 3) (pv 6) (fun _ _ => rfl)))) pa_nil)) (pa_cons (pe_fld (pv 0) rfl) pa_nil))) rfl)))))), ?_⟩
    -- apart from S and p
    have hpS : cutS H S p = some (.ins CW dx []) := by rw [cutS_ne hSp]; exact hp
    have B0 : cutS H (also S p) = cutH (cutS H S) p := cutS_alsoH
    have RB : RuAt K CR (cutS H (also S p)) r q := by rw [B0]; exact hR.cutN hpS
    have CB : ChAll K C (cutS H (also S p)) cs l := by
      rw [B0]
      exact Paired.mono (fun v c ⟨a, h1, h2⟩ => ⟨a, h1, h2.cutN hpS⟩) hCh
    have hlcp : lc ≠ p := ne_of hlc hp fun z => nomatch z
    have hcsl : cs.length = l.length := hCh.length
    have hz1 := also_z S p
    -- self.rules = rules
    refine ⟨_, rfl, _, rfl, p, CW, dx, _, rfl, hp, TW.cl, TW.nR, (by show 0 < 1000; decide), ?_⟩
    rw [waP1]
    obtain ⟨A1, hA1⟩ : ∃ A1, A1 = upd H p (.ins CW dx [(("rules" : Str), .ref r)]) := ⟨_, rfl⟩
    rw [← hA1]
    have pA1 : A1 p = some (.ins CW dx [(("rules" : Str), .ref r)]) := by rw [hA1]; exact upd_same
    have s1 : cutS A1 (also S p) = cutS H (also S p) := by rw [hA1]; exact cutS_upd hz1
    have lcA1 : A1 lc = some (.lst cs) := by rw [hA1, upd_ne hlcp]; exact hlc
    have av1 : Av (also S p) A1 := by
      refine Av.alsoI (C := CW) (dx := dx) (fs := [(("rules" : Str), .ref r)]) (fun b hb => ?_) pA1
      have hbp : b ≠ p := fun z => by rw [z, hSp] at hb; cases hb
      obtain ⟨⟨o, ho⟩, h2⟩ := av b hb
      refine ⟨⟨o, by rw [hA1, upd_ne hbp]; exact ho⟩, fun xs rr => h2 xs ?_⟩
      unfold Rd at rr ⊢
      rw [hA1, upd_ne hbp] at rr
      exact rr
    have BA1 : Ex (cutS H (also S p)) A1 := by rw [← s1]; exact cutS_le
    -- self.choices
    refine sfld_i (lc_objP (K := K) (S := also S p) (H := A1) (l := l) (a := lc) (xs := cs) (fun c y G => ∃ lcx, y = .ref lcx ∧ ChsAt K CC G lcx q c) (fun c y G G' e ⟨a, h1, h2⟩ => ⟨a, h1, h2.mono e⟩) (ev_var rfl) (sq_of lcA1) hcsl (by omega) av1 (fun _ => rfl) (fun i v c hv hc H1 e1 S' hS' Q' q' => ?_) A1 (Ex.refl _) _ fun cl ys H2 hcl e2 h2 hCL => ?_)
    · obtain ⟨ac, hac, hC⟩ := CB.get hc
      rw [hv] at hac
      cases hac
      refine ⟨_, rfl, _, rfl, ⟨r, ac, S', q, c, rfl, hS', RB.mono (BA1.trans e1), okR, hC.mono (BA1.trans e1), okCs c (List.mem_of_getElem? hc), fun lx zs H3 hlx e3 h3 hcc => q' (.ref lx) H3 e3 ⟨lx, rfl, zs, ?_, hcc⟩⟩⟩
      rw [cutS_ne (hS'.fresh hlx)]
      exact h3
    refine ⟨_, rfl, p, CW, dx, _, rfl, e2 _ _ pA1, TW.cl, TW.nC, (by show 1 < 1000; decide), ?_⟩
    rw [waP2]
    have hclp : cl ≠ p := fun z => by rw [z, pA1] at hcl; cases hcl
    have hclS : also S p cl = false := av1.fresh hcl
    obtain ⟨A2, hA2⟩ : ∃ A2, A2 = upd H2 p (.ins CW dx [(("rules" : Str), .ref r), ("choices", .ref cl)]) := ⟨_, rfl⟩
    rw [← hA2]
    have pA2 : A2 p = some (.ins CW dx [(("rules" : Str), .ref r), ("choices", .ref cl)]) := by rw [hA2]; exact upd_same
    have s2 : cutS A2 (also S p) = cutS H2 (also S p) := by rw [hA2]; exact cutS_upd hz1
    have E12 : Ex (cutS H (also S p)) (cutS A2 (also S p)) := by rw [s2, ← s1]; exact cutS_mono e2
    have CL2 : ChL K CC (cutS A2 (also S p)) q ys l := by rw [s2]; exact hCL
    have cl2 : cutS A2 (also S p) cl = some (.lst ys) := by rw [s2, cutS_ne hclS]; exact h2
    have hysl : ys.length = l.length := hCL.length
    -- self.width
    have hprod : prodL (l.map fun c => (Cp05.settings q c).length) = prodS q l := (prodS_L q l).symm
    have hsm : ∀ n ∈ l.map (fun c => (Cp05.settings q c).length), n ≤ 64000 := fun n hn => by
      obtain ⟨c, hc, rfl⟩ := List.mem_map.mp hn
      exact settings_le (okCs c hc).ok (okCs c hc).few
    have hwd : wid (prodS q l) ≤ 200 := by
      have h9 := prodL_lt _ hsm
      rw [hprod, List.length_map] at h9
      have := wid_le (prodS_pos q l) h9
      omega
    have hfew : prodS q l < 2 ^ wid (prodS q l) := wid_lt _
    generalize hwdg : wid (prodS q l) = wd at *
    refine q_fldD (K := K) (d := .int (wd : Int)) (dv_call (da_one (dv_is (dvl_mapP (K := K) (l := l) (a := cl) (xs := ys) (fun c => natD (Cp05.settings q c).length) (ev_fld (ev_var rfl) pA2 TW.cl TW.nC ((lk_past (by decide +kernel)).trans lk_here)) (sq_of (cutS_le _ _ cl2)) hysl (by omega) (fun _ => rfl) (fun c _ => nl_int _) (fun i v c hv hc H3 e3 => ?_)).dv (by
        show PyData.list (l.map fun c => natD (Cp05.settings q c).length) = .list ((l.map fun c => (Cp05.settings q c).length).map natD)
        rw [List.map_map]; rfl))) ⟨l.map fun c => (Cp05.settings q c).length, rfl, by rw [List.length_map]; exact hl8, hsm, by rw [hprod, hwdg]; rfl⟩) (ev_var rfl) pA2 TW.cl TW.nW (by show 2 < 1000; decide) fun v3 H3 e3 hv3 => ?_
    · obtain ⟨lx, rfl, zs, hz, hcc⟩ : ∃ lx, v = .ref lx ∧ ∃ zs, cutS A2 (also S p) lx = some (.lst zs) ∧ CcAll K CC (cutS A2 (also S p)) q c zs (Cp05.settings q c) := by
        obtain ⟨y, hy, lx, rfl, zs, hz, hcc⟩ := paired_get2 CL2 hc
        rw [hv] at hy
        cases hy
        exact ⟨lx, rfl, zs, hz, hcc⟩
      have e9 : zs.length = (Cp05.settings q c).length := hcc.length
      exact dv_is (dv_i (ev_len (ev_var rfl) (sq_of (e3 _ _ (cutS_le _ _ hz))))) (by rw [e9]; rfl)
    cases hv3.int_inv
    rw [waP3]
    obtain ⟨A3, hA3⟩ : ∃ A3, A3 = upd H3 p (.ins CW dx [(("rules" : Str), .ref r), ("choices", .ref cl), ("width", .int (wd : Int))]) := ⟨_, rfl⟩
    rw [← hA3]
    have pA3 : A3 p = some (.ins CW dx [(("rules" : Str), .ref r), ("choices", .ref cl), ("width", .int (wd : Int))]) := by rw [hA3]; exact upd_same
    have s3 : cutS A3 (also S p) = cutS H3 (also S p) := by rw [hA3]; exact cutS_upd hz1
    have E23 : Ex (cutS A2 (also S p)) (cutS A3 (also S p)) := by rw [s3]; exact cutS_mono e3
    have E13 := E12.trans E23
    have lcA : ∀ G, Ex A1 G → G lc = some (.lst cs) := fun G e => e _ _ lcA1
    have lcA3 : A3 lc = some (.lst cs) := by
      rw [hA3, upd_ne hlcp]
      refine e3 _ _ ?_
      rw [hA2, upd_ne hlcp]
      exact e2 _ _ lcA1
    have cl3 := E23 _ _ cl2
    have CL3 := CL2.mono E23
    have av3 : Av (also S p) A3 := by
      intro b hb
      by_cases hbp : b = p
      · rw [hbp]; exact ⟨⟨_, pA3⟩, no_tup_ins pA3⟩
      · have h9 := av1.mono e2 b hb
        have h10 : (∃ o, A2 b = some o) ∧ ∀ xs, ¬ Rd A2 b (.tup xs) := by
          obtain ⟨⟨o, ho⟩, hn⟩ := h9
          refine ⟨⟨o, by rw [hA2, upd_ne hbp]; exact ho⟩, fun xs rr => hn xs ?_⟩
          unfold Rd at rr ⊢
          rw [hA2, upd_ne hbp] at rr
          exact rr
        obtain ⟨⟨o, ho⟩, hn⟩ := h10
        have ho3 := e3 _ _ ho
        refine ⟨⟨o, by rw [hA3, upd_ne hbp]; exact ho3⟩, fun xs rr => hn xs ?_⟩
        unfold Rd at rr ⊢
        rw [hA3, upd_ne hbp, ho3] at rr
        rw [ho]
        exact rr
    -- self.onward
    refine sfld_i (m_meth (ev_var rfl) pA3 (wF_no _ _ _ _ (by decide +kernel) (by decide +kernel) (by decide +kernel)) fun H4 e4 => c_ev (ev_var rfl) fun H5 e5 => c_nil ?_)
    have e35 := e4.trans e5
    have X35 : Ex (cutS A3 (also S p)) H5 := cutS_le.trans e35
    refine ⟨p, dx, lc, r, cl, wd, q, l, cs, ys, rfl, e35 _ _ pA3, RB.mono (E13.trans X35), okR, e35 _ _ lcA3, CB.mono (E13.trans X35), okCs, X35 _ _ cl3, CL3.mono X35, hne, hl8, hwd, hfew, fun ol vs H6 hol e6 h6 hon => ?_⟩
    have e36 := e35.trans e6
    refine ⟨_, rfl, p, CW, dx, _, rfl, e36 _ _ pA3, TW.cl, TW.nO, (by show 3 < 1000; decide), ?_⟩
    rw [waP4]
    have av5 := av3.mono e35
    have holp : ol ≠ p := fun z => by rw [z, e35 _ _ pA3] at hol; cases hol
    have holS : also S p ol = false := av5.fresh hol
    obtain ⟨A4, hA4⟩ : ∃ A4, A4 = upd H6 p (.ins CW dx [(("rules" : Str), .ref r), ("choices", .ref cl), ("width", .int (wd : Int)), ("onward", .ref ol)]) := ⟨_, rfl⟩
    rw [← hA4]
    have pA4 : A4 p = some (.ins CW dx [(("rules" : Str), .ref r), ("choices", .ref cl), ("width", .int (wd : Int)), ("onward", .ref ol)]) := by rw [hA4]; exact upd_same
    have s4 : cutS A4 (also S p) = cutS H6 (also S p) := by rw [hA4]; exact cutS_upd hz1
    have E34 : Ex (cutS A3 (also S p)) (cutS A4 (also S p)) := by rw [s4]; exact cutS_mono e36
    have on4 : OnL (fun _ => True) (cutS A4 (also S p)) q wd vs l := by
      rw [s4]
      exact hon.mono (fun _ _ => trivial) fun d c T hd ht => ht.cutS (av5.fresh hd)
    have ol4 : cutS A4 (also S p) ol = some (.lst vs) := by rw [s4, cutS_ne holS]; exact h6
    have cl4 := E34 _ _ cl3
    have CL4 := CL3.mono E34
    have av4 : Av (also S p) A4 := by
      intro b hb
      by_cases hbp : b = p
      · rw [hbp]; exact ⟨⟨_, pA4⟩, no_tup_ins pA4⟩
      · obtain ⟨⟨o, ho⟩, hn⟩ := (av5.mono e6) b hb
        refine ⟨⟨o, by rw [hA4, upd_ne hbp]; exact ho⟩, fun xs rr => hn xs ?_⟩
        unfold Rd at rr ⊢
        rw [hA4, upd_ne hbp] at rr
        exact rr
    -- whole
    obtain ⟨c0, l0, hl0⟩ := List.exists_cons_of_ne_nil hne
    have hc0 : l[0]? = some c0 := by rw [hl0]; rfl
    have ok0 := okCs c0 (List.mem_of_getElem? hc0)
    obtain ⟨y0, hy0, lx0, rfl, hL0⟩ := paired_get2 CL4 hc0
    obtain ⟨d0, hd0, _, hT0⟩ := on4.get hc0
    have hdr : l.drop (0 + 1) = l0 := by rw [hl0]; rfl
    rw [hdr] at hT0
    have fewl0 : prodS q l0 < 2 ^ wd := by
      refine Nat.lt_of_le_of_lt ?_ hfew
      rw [hl0]
      exact prodS_tail q c0 l0
    refine a_asg (k_call ((ea_cons (ev_ixL (j := 0) (K := K) (ev_fld (ev_var rfl) pA4 TW.cl TW.nC ((lk_past (by decide +kernel)).trans lk_here)) (sq_of (cutS_le _ _ cl4)) ev_c rfl hy0) (ea_cons (ev_ixL (j := 0) (K := K) (ev_fld (ev_var rfl) pA4 TW.cl TW.nO ((lk_past (by decide +kernel)).trans ((lk_past (by decide +kernel)).trans ((lk_past (by decide +kernel)).trans lk_here)))) (sq_of (cutS_le _ _ ol4)) ev_c rfl hd0) (ea_cons (ev_fld (ev_var rfl) pA4 TW.cl TW.nW ((lk_past (by decide +kernel)).trans ((lk_past (by decide +kernel)).trans lk_here))) ea_nil))) A4 (Ex.refl _) _ fun H7 e7 => ⟨lx0, d0, wd, q, c0, l0, rfl, okR, ok0, (hL0.mono cutS_le).mono e7, (hT0.mono cutS_le).mono e7, hwd, fewl0, fun wh H8 hwh e8 hTw => ?_⟩))
    obtain ⟨ks, hwh8, hks, hkl, hnd⟩ := hTw
    have e48 := e7.trans e8
    have hwhp : wh ≠ p := fun z => by rw [z, e7 _ _ pA4] at hwh; cases hwh
    have hallW : allW q l = allL q c0 l0 := by rw [hl0]; rfl
    -- self.numbers
    refine s_fldL (K := K) (ds := (List.range 120).map fun x => natD ((allL q c0 l0).count x)) (dvl_call (da_cons (dv_is (dv_sum (ns := ks.map fun y => (tal wd (groupY q c0 l0 y) : Int)) (dv_is (dvl_lcKeysT (K := K) (c := wh) (ks := ks) (f := fun y => .int (tal wd (groupY q c0 l0 y) : Int)) (fun y => .int (tal wd (groupY q c0 l0 y) : Int)) (ev_var rfl) hwh8 (by omega) (fun _ => rfl) (fun y _ => nl_int _) (fun y hy qa H9 e9 hK hrd => dv_i (ev_dget (ev_var rfl) hrd (ev_var rfl) hK (by rw [dOf_val, if_pos hy])))).dv (by rw [List.map_map]; rfl))) (d' := natD (tal wd (allL q c0 l0))) (by rw [sum_cast, groups_sum q c0 l0 wd hnd hks]; rfl)) (da_one (dv_i (ev_fld (ev_var rfl) (e48 _ _ pA4) TW.cl TW.nW ((lk_past (by decide +kernel)).trans ((lk_past (by decide +kernel)).trans lk_here)))))) ⟨wd, allL q c0 l0, rfl, hwd, Nat.lt_of_le_of_lt (allL_len q c0 l0) (by rw [← hl0]; exact hfew), rfl⟩) (ev_var rfl) (e48 _ _ pA4) TW.cl TW.nN (by show 4 < 1000; decide) fun nl xs H9 hnl e9 h9 hx => ?_
    rw [waP5]
    have e49 := e48.trans e9
    have hnlp : nl ≠ p := fun z => by rw [z, e48 _ _ pA4] at hnl; cases hnl
    have hnlS : also S p nl = false := (av4.mono e48).fresh hnl
    obtain ⟨A5, hA5⟩ : ∃ A5, A5 = upd H9 p (.ins CW dx (waF r cl ol nl wd)) := ⟨_, rfl⟩
    show Q .non (upd H9 p (.ins CW dx (waF r cl ol nl wd)))
    rw [← hA5]
    have s5 : cutS A5 (also S p) = cutS H9 (also S p) := by rw [hA5]; exact cutS_upd hz1
    have E45 : Ex (cutS A4 (also S p)) (cutS A5 (also S p)) := by rw [s5]; exact cutS_mono e49
    have sub : Ex (cutS A5 (also S p)) (cutS A5 S) := cutS_sub fun z hz => by
      unfold also
      rw [hz]
      simp
    have EF := E45.trans sub
    have hnum : Dp K (cutS A5 (also S p)) (.ref nl) (.list ((List.range 120).map fun x => natD ((allL q c0 l0).count x))) := by
      rw [s5]
      refine .lst (sq_of (by rw [cutS_ne hnlS]; exact h9)) (DpAll.monoT (cutS_tsame ((av4.mono e48).mono e9)) _ (noListAll_map (fun x => nl_int _) _) hx)
    refine k A5 ⟨⟨dx, r, cl, ol, nl, wd, ys, vs⟩, ?_, ?_, okR, EF _ _ cl4, CL4.mono EF, EF _ _ ol4, on4.ex EF, ?_, hwd, hfew, okCs, hl8⟩ ?_
    · rw [cutS_ne hSp, hA5]
      exact upd_same
    · exact RB.mono (E13.trans (E34.trans EF))
    · rw [hallW]
      exact Dp.mono sub _ hnum
    · intro b o hb
      have hbp : b ≠ p := fun z => by rw [z, cutH_same] at hb; cases hb
      rw [cutH_ne hbp] at hb
      rw [hA5, upd_ne hbp]
      refine e49 _ _ ?_
      rw [hA4, upd_ne hbp]
      refine e36 _ _ ?_
      rw [hA3, upd_ne hbp]
      refine e3 _ _ ?_
      rw [hA2, upd_ne hbp]
      refine e2 _ _ ?_
      rw [hA1, upd_ne hbp]
      exact hb
end
end Bf

/-! # Which way is number n, in numbers -/
namespace Bf
open Cp05
def priceN (q : Cp05.Rules) (b : Option (List Int)) (c : Cp05.Chord) (s : Setting) : Nat := own q c s + (match b with | none => 0 | some y => q.move * movS 1 y (sndC c s))
def okB (q : Cp05.Rules) (b : Option (List Int)) (c : Cp05.Chord) (s : Setting) : Bool := match b with | none => true | some y => okS q.leap y (sndC c s)
def manyN (q : Cp05.Rules) (l : List Cp05.Chord) (b : Option (List Int)) (c : Cp05.Chord) (s : Setting) (p : Nat) : Nat := if okB q b c s = true then (if p < priceN q b c s then 0 else (aheadL q l (sndC c s)).count (p - priceN q b c s)) else 0
theorem ahead_many (q : Cp05.Rules) (l : List Cp05.Chord) (e : Cp05.Chord) (y : List Int) (p : Nat) : (aheadL q (e :: l) y).count p = ((settings q e).map fun t => manyN q l (some y) e t p).sum := by
  show (((settings q e).filter fun t => okS q.leap y (sndC e t)).flatMap fun t => (aheadL q l (sndC e t)).map (· + (own q e t + movS q.move y (sndC e t)))).count p = _
  rw [count_flatMap]
  show sm _ _ = sm _ _
  rw [sm_filter]
  apply sm_congr
  intro t _
  unfold manyN okB priceN
  simp only
  cases okS q.leap y (sndC e t) with
  | true =>
    rw [if_pos rfl, if_pos rfl, count_map_add, movS_mul q.move]
  | false => rw [if_neg Bool.false_ne_true, if_neg Bool.false_ne_true]
theorem all_many (q : Cp05.Rules) (l : List Cp05.Chord) (c : Cp05.Chord) (p : Nat) : (allL q c l).count p = ((settings q c).map fun t => manyN q l none c t p).sum := by
  unfold allL
  rw [count_flatMap]
  apply sum_congr
  intro t _
  unfold manyN okB priceN
  simp only [Nat.add_zero]
  rw [if_pos trivial, count_map_add]
/-- the way's settings, one by one -/
def selL (q : Cp05.Rules) : List Cp05.Chord → Option (List Int) → Nat → Nat → List Setting
  | [], _, _, _ => []
  | c :: l, b, p, n => match pick ((settings q c).map fun s => (manyN q l b c s p, s)) n with
    | none => []
    | some x => x.1 :: selL q l (some (sndC c x.1)) (p - priceN q b c x.1) x.2
theorem pick_filterMap {α β : Type} (h : α → Option (Nat × β)) (f : α → Nat) (h0 : ∀ s, h s = none → f s = 0) (h1 : ∀ s k b, h s = some (k, b) → f s = k) : ∀ (L : List α) (n : Nat), pick (L.filterMap h) n = match pick (L.map fun s => (f s, s)) n with
    | none => none
    | some x => (h x.1).map fun (z : Nat × β) => (z.2, x.2)
  | [], n => rfl
  | s :: L, n => by
    have ih := pick_filterMap h f h0 h1 L
    rw [List.filterMap_cons, List.map_cons]
    cases hs : h s with
    | none =>
      have hf := h0 s hs
      simp only
      rw [ih n]
      show _ = match (if n < f s then some (s, n) else pick (L.map fun s => (f s, s)) (n - f s)) with
        | none => none
        | some x => (h x.1).map fun (z : Nat × β) => (z.2, x.2)
      rw [hf, if_neg (by omega), Nat.sub_zero]
    | some kb =>
      obtain ⟨k, b⟩ := kb
      have hf := h1 s k b hs
      simp only
      show (if n < k then some (b, n) else pick (L.filterMap h) (n - k)) = match (if n < f s then some (s, n) else pick (L.map fun s => (f s, s)) (n - f s)) with
        | none => none
        | some x => (h x.1).map fun (z : Nat × β) => (z.2, x.2)
      rw [hf]
      by_cases hk : n < k
      · rw [if_pos hk, if_pos hk]
        simp only [hs, Option.map_some]
      · rw [if_neg hk, if_neg hk, ih]
def sndB : Option (Cp05.Chord × Setting) → Option (List Int)
  | none => none
  | some y => some (sndC y.1 y.2)
theorem nthFrom_sel (q : Cp05.Rules) : ∀ (l : List Cp05.Chord) (b : Option (Cp05.Chord × Setting)) (p n : Nat), p < 120 → (∀ y, b = some y → ∃ a b t, y.2 = [a, b, t]) → nthFrom q l (rowsOf q l) b p n = selL q l (sndB b) p n
  | [], b, p, n, _, _ => by
    cases b <;> rfl
  | c :: l, b, p, n, hp, h3 => by
    rw [rowsOf_cons]
    have hrow : ∀ s ∈ settings q c, ∀ p', p' < 120 → (tailW q l c s).getD p' 0 = if p' < own q c s then 0 else (aheadL q l (sndC c s)).count (p' - own q c s) := fun s hs p' hp' => by
      rw [tailW_at q l c s p' hp', numW_ahead q l c s p' hs, count_map_add]
    let hh : Setting → Option (Nat × (Setting × Nat)) := fun s => match b with
      | none => some ((tailW q l c s).getD p 0, (s, p))
      | some y => if (wrongs q y.1 c y.2 s).isEmpty = false ∨ p < moved q y.2 s then none else some ((tailW q l c s).getD (p - moved q y.2 s) 0, (s, p - moved q y.2 s))
    have hways : (((settings q c).map fun s => (s, tailW q l c s)).filterMap fun x => match b with
      | none => some (x.2.getD p 0, (x.1, p))
      | some y => if (wrongs q y.1 c y.2 x.1).isEmpty = false ∨ p < moved q y.2 x.1 then none else some (x.2.getD (p - moved q y.2 x.1) 0, (x.1, p - moved q y.2 x.1))) = (settings q c).filterMap hh := by
      rw [List.filterMap_map]
      cases b <;> rfl
    have hstep : nthFrom q (c :: l) (((settings q c).map fun s => (s, tailW q l c s)) :: rowsOf q l) b p n = match pick ((settings q c).filterMap hh) n with
        | none => []
        | some x => x.1.1 :: nthFrom q l (rowsOf q l) (some (c, x.1.1)) (x.1.2 - own q c x.1.1) x.2 := by
      rw [← hways]
      cases b <;> rfl
    rw [hstep]
    -- the numbers, by many
    let ff : Setting → Nat := fun s => if s ∈ settings q c then manyN q l (sndB b) c s p else (match hh s with | none => 0 | some z => z.1)
    have hmem : ∀ s ∈ settings q c, (hh s = none → manyN q l (sndB b) c s p = 0) ∧ ∀ k z, hh s = some (k, z) → manyN q l (sndB b) c s p = k := fun s hs => by
      cases b with
      | none =>
        refine ⟨fun h => (by cases h), fun k z h => ?_⟩
        have h' : some ((tailW q l c s).getD p 0, (s, p)) = some (k, z) := h
        cases h'
        rw [hrow s hs p hp]
        unfold manyN okB priceN sndB
        simp only [Nat.add_zero]
        rw [if_pos trivial]
      | some y =>
        obtain ⟨c0, s0⟩ := y
        obtain ⟨a0, b0, t0, hs0⟩ := h3 (c0, s0) rfl
        simp only at hs0
        subst hs0
        obtain ⟨x1, y1, z1, rfl⟩ := three_of hs
        have hw : (wrongs q c0 c [a0, b0, t0] [x1, y1, z1]).isEmpty = okS q.leap (sndC c0 [a0, b0, t0]) (sndC c [x1, y1, z1]) := by
          rw [wrongs_snd]
          rfl
        have hm := moved_snd q c0 c a0 b0 t0 x1 y1 z1
        have hhs : hh [x1, y1, z1] = if okS q.leap (sndC c0 [a0, b0, t0]) (sndC c [x1, y1, z1]) = false ∨ p < movS q.move (sndC c0 [a0, b0, t0]) (sndC c [x1, y1, z1]) then none else some ((tailW q l c [x1, y1, z1]).getD (p - movS q.move (sndC c0 [a0, b0, t0]) (sndC c [x1, y1, z1])) 0, ([x1, y1, z1], p - movS q.move (sndC c0 [a0, b0, t0]) (sndC c [x1, y1, z1]))) := by
          show (if (wrongs q c0 c [a0, b0, t0] [x1, y1, z1]).isEmpty = false ∨ p < moved q [a0, b0, t0] [x1, y1, z1] then none else some ((tailW q l c [x1, y1, z1]).getD (p - moved q [a0, b0, t0] [x1, y1, z1]) 0, ([x1, y1, z1], p - moved q [a0, b0, t0] [x1, y1, z1]))) = _
          rw [hw, hm]
        have hman : manyN q l (sndB (some (c0, [a0, b0, t0]))) c [x1, y1, z1] p = if okS q.leap (sndC c0 [a0, b0, t0]) (sndC c [x1, y1, z1]) = true then (if p < own q c [x1, y1, z1] + movS q.move (sndC c0 [a0, b0, t0]) (sndC c [x1, y1, z1]) then 0 else (aheadL q l (sndC c [x1, y1, z1])).count (p - (own q c [x1, y1, z1] + movS q.move (sndC c0 [a0, b0, t0]) (sndC c [x1, y1, z1])))) else 0 := by
          unfold manyN okB priceN sndB
          simp only
          rw [← movS_mul]
        rw [hhs, hman]
        generalize movS q.move (sndC c0 [a0, b0, t0]) (sndC c [x1, y1, z1]) = m
        cases hok : okS q.leap (sndC c0 [a0, b0, t0]) (sndC c [x1, y1, z1]) with
        | false =>
          rw [if_pos (.inl rfl), if_neg Bool.false_ne_true]
          exact ⟨fun _ => rfl, fun k z h => (by cases h)⟩
        | true =>
          rw [if_pos rfl]
          by_cases hpm : p < m
          · rw [if_pos (.inr hpm), if_pos (by omega)]
            exact ⟨fun _ => rfl, fun k z h => (by cases h)⟩
          · rw [if_neg (by rintro (h | h); cases h; exact hpm h)]
            refine ⟨fun h => (by cases h), fun k z h => ?_⟩
            cases h
            rw [hrow _ hs (p - m) (by omega)]
            by_cases h2 : p - m < own q c [x1, y1, z1]
            · rw [if_pos h2, if_pos (by omega)]
            · rw [if_neg h2, if_neg (by omega)]
              congr 1
              omega
    have hpk := pick_filterMap hh ff (fun s hs => by
      show (if s ∈ settings q c then manyN q l (sndB b) c s p else (match hh s with | none => 0 | some z => z.1)) = 0
      by_cases hm : s ∈ settings q c
      · rw [if_pos hm]; exact (hmem s hm).1 hs
      · rw [if_neg hm, hs]) (fun s k z hs => by
      show (if s ∈ settings q c then manyN q l (sndB b) c s p else (match hh s with | none => 0 | some z => z.1)) = k
      by_cases hm : s ∈ settings q c
      · rw [if_pos hm]; exact (hmem s hm).2 k z hs
      · rw [if_neg hm, hs]) (settings q c) n
    have hmap : (settings q c).map (fun s => (ff s, s)) = (settings q c).map fun s => (manyN q l (sndB b) c s p, s) := by
      apply List.map_congr_left
      intro s hs
      show (if s ∈ settings q c then manyN q l (sndB b) c s p else (match hh s with | none => 0 | some z => z.1), s) = _
      rw [if_pos hs]
    rw [hmap] at hpk
    rw [hpk]
    show _ = match pick ((settings q c).map fun s => (manyN q l (sndB b) c s p, s)) n with
      | none => []
      | some x => x.1 :: selL q l (some (sndC c x.1)) (p - priceN q (sndB b) c x.1) x.2
    cases hpp : pick ((settings q c).map fun s => (manyN q l (sndB b) c s p, s)) n with
    | none => rfl
    | some x =>
      obtain ⟨s, n'⟩ := x
      obtain ⟨i, z, hi, hz2, _, _, hlt⟩ := (pick_some _ _ _ _).mp hpp
      rw [List.getElem?_map] at hi
      obtain ⟨s', hs', rfl⟩ := Option.map_eq_some_iff.mp hi
      simp only at hz2 hlt
      subst hz2
      have hsm : s' ∈ settings q c := List.mem_of_getElem? hs'
      simp only
      cases hhs : hh s' with
      | none =>
        have := (hmem s' hsm).1 hhs
        omega
      | some kz =>
        obtain ⟨k, st, pm⟩ := kz
        simp only [Option.map_some]
        have hst : st = s' ∧ pm - own q c s' = p - priceN q (sndB b) c s' ∧ pm < 120 := by
          cases b with
          | none =>
            have h' : some ((tailW q l c s').getD p 0, (s', p)) = some (k, (st, pm)) := hhs
            cases h'
            exact ⟨rfl, rfl, hp⟩
          | some y =>
            obtain ⟨c0, s0⟩ := y
            obtain ⟨a0, b0, t0, hs0⟩ := h3 (c0, s0) rfl
            simp only at hs0
            subst hs0
            obtain ⟨x1, y1, z1, rfl⟩ := three_of hsm
            have h' : (if (wrongs q c0 c [a0, b0, t0] [x1, y1, z1]).isEmpty = false ∨ p < moved q [a0, b0, t0] [x1, y1, z1] then none else some ((tailW q l c [x1, y1, z1]).getD (p - moved q [a0, b0, t0] [x1, y1, z1]) 0, ([x1, y1, z1], p - moved q [a0, b0, t0] [x1, y1, z1]))) = some (k, (st, pm)) := hhs
            by_cases hc : (wrongs q c0 c [a0, b0, t0] [x1, y1, z1]).isEmpty = false ∨ p < moved q [a0, b0, t0] [x1, y1, z1]
            · rw [if_pos hc] at h'; cases h'
            · rw [if_neg hc] at h'
              cases h'
              refine ⟨rfl, ?_, by omega⟩
              rw [moved_snd q c0 c]
              unfold priceN sndB
              simp only
              rw [← movS_mul]
              omega
        obtain ⟨rfl, hpe, hpm⟩ := hst
        rw [hpe]
        congr 1
        exact nthFrom_sel q l (some (c, st)) (p - priceN q (sndB b) c st) n' (by omega) fun y hy => by
          cases hy
          exact three_of hsm
theorem counts_list (q : Cp05.Rules) (c : Cp05.Chord) (l : List Cp05.Chord) : counts q (c :: l) = (List.range 120).map fun p => (allL q c l).count p := by
  refine getD_all (counts_len q _) (by rw [List.length_map, List.length_range]) fun p hp => ?_
  rw [counts_all q c l hp, List.getD_eq_getElem?_getD, List.getElem?_map, List.getElem?_range hp]
  rfl
end Bf

namespace Bf
open PySem PySem.Spec PyProof.Rows L2 Evl
abbrev sWaMany : Stmt := inClass (top 86) 2
abbrev sNth : Stmt := inClass (top 86) 3
abbrev sSetAt : Stmt := inClass (top 86) 4
abbrev sThrough : Stmt := inClass (top 86) 5
abbrev sPrice : Stmt := inClass (top 86) 6
def hereD : Option (List Int) → PyData
  | none => tupI []
  | some y => tupI y
def HereOk (b : Option (List Int)) : Prop := ∀ y, b = some y → ∃ s a t u, y = [s, a, t, u]
theorem shaped4 (s a t u : Int) : SeqAt.shaped (tupI [s, a, t, u]) = true := by simp [SeqAt.shaped, tupI, PyData.canLay0, PyData.canLayAll0, PyData.depth, PyData.depthAll]
theorem shaped0 : SeqAt.shaped (tupI []) = true := by simp [SeqAt.shaped, tupI, PyData.canLay0, PyData.canLayAll0, PyData.depth, PyData.depthAll]
theorem here_shaped {b : Option (List Int)} (h : HereOk b) : SeqAt.shaped (hereD b) = true := by
  cases b with
  | none => exact shaped0
  | some y =>
    obtain ⟨s, a, t, u, rfl⟩ := h y rfl
    exact shaped4 s a t u
theorem here_eq {b : Option (List Int)} (h : HereOk b) : PyData.eqv (hereD b) (tupI []) = b.isNone := by
  cases b with
  | none => simp [hereD, tupI, PyData.eqv, PyData.eqvAll]
  | some y =>
    obtain ⟨s, a, t, u, rfl⟩ := h y rfl
    simp [hereD, tupI, PyData.eqv, PyData.eqvAll]
theorem ws_lay : ∀ l : List (Nat × Nat × Nat), PyData.canLayAll0 (l.map encW) = true ∧ PyData.depthAll (l.map encW) ≤ 1
  | [] => by simp [PyData.canLayAll0, PyData.depthAll]
  | n :: l => by
    obtain ⟨h1, h2⟩ := ws_lay l
    have e : (n :: l).map encW = encW n :: l.map encW := rfl
    rw [e]
    constructor
    · rw [PyData.canLayAll0, h1]
      simp [encW, PyData.canLay0, PyData.canLayAll0]
    · rw [PyData.depthAll]
      have : (encW n).depth = 1 := by simp [encW, PyData.depth, PyData.depthAll]
      omega
theorem shaped_ws (l : List (Nat × Nat × Nat)) : SeqAt.shaped (.list (l.map encW)) = true := by
  obtain ⟨h1, h2⟩ := ws_lay l
  unfold SeqAt.shaped
  rw [PyData.canLay0, h1, PyData.depth]
  simp
  omega
theorem shaped_nil : SeqAt.shaped (.list []) = true := by simp [SeqAt.shaped, PyData.canLay0, PyData.canLayAll0, PyData.depth, PyData.depthAll]
theorem ws_eq (l : List (Nat × Nat × Nat)) : PyData.eqv (.list (l.map encW)) (.list []) = l.isEmpty := by
  cases l with
  | nil => simp [PyData.eqv, PyData.eqvAll]
  | cons a l => simp [PyData.eqv, PyData.eqvAll]
section
variable {P : Program} {w : World} {K : PySem.W.Frag} {mg : Str → Option Value} {base : Heap} {CR C CC CW f : Addr} {fd : FuncData} {G H : Hp} {a : Addr} {q : Cp05.Rules} {l : List Cp05.Chord} {x : WaD} {σ : L2.St}
theorem WaS.rules_ (h : WaS K CR CC CW G a q l x) (T : WaTxt K CW) (h0 : σ[0]? = some (some (.ref a))) : Ev (tFld K (tVar 0) "rules") σ G (.ref x.r) := ev_fld (ev_var h0) h.obj T.cl T.nR (waF_rules _ _ _ _ _)
theorem WaS.choices_ (h : WaS K CR CC CW G a q l x) (T : WaTxt K CW) (h0 : σ[0]? = some (some (.ref a))) : Ev (tFld K (tVar 0) "choices") σ G (.ref x.cl) := ev_fld (ev_var h0) h.obj T.cl T.nC (waF_choices _ _ _ _ _)
theorem WaS.width_ (h : WaS K CR CC CW G a q l x) (T : WaTxt K CW) (h0 : σ[0]? = some (some (.ref a))) : Ev (tFld K (tVar 0) "width") σ G (.int (x.wd : Int)) := ev_fld (ev_var h0) h.obj T.cl T.nW (waF_width _ _ _ _ _)
theorem WaS.onward_ (h : WaS K CR CC CW G a q l x) (T : WaTxt K CW) (h0 : σ[0]? = some (some (.ref a))) : Ev (tFld K (tVar 0) "onward") σ G (.ref x.ol) := ev_fld (ev_var h0) h.obj T.cl T.nO (waF_onward _ _ _ _ _)
theorem WaS.numbers_ (h : WaS K CR CC CW G a q l x) (T : WaTxt K CW) (h0 : σ[0]? = some (some (.ref a))) : Dv K (tFld K (tVar 0) "numbers") σ G (.list ((List.range 120).map fun p => natD ((allW q l).count p))) := dv_fld (ev_var h0) h.obj T.cl T.nN (waF_numbers _ _ _ _ _) h.num
def SpHm (K : PySem.W.Frag) (CR CC CW : Addr) : Sp := fun vs H Q _ => ∃ (a : Addr) (q : Cp05.Rules) (l : List Cp05.Chord), vs = [.ref a] ∧ WaAt K CR CC CW H a q l ∧ ∀ H', Ex H H' → Q (.int ((((List.range 120).map fun p => (allW q l).count p).sum : Nat) : Int)) H'
theorem scWm : FnScope ["self"] ["self"] (defScope sWaMany) := ⟨rfl, rfl, rfl, by decide +kernel, rfl, by decide +kernel, by decide +kernel⟩
theorem ok_waMany (F : Fun K "how_many" "Ways.how_many" sWaMany f fd) (T : WaTxt K CW) (gs : mg "sum" = none) : FnOk P w K mg base CX0 1 f fd ["self"] (SpHm K CR CC CW) := by
  refine F.ok scWm (fun vs H Q E h => ?_) (fun cdv A outer s H vs Q E hr h => ?_)
  · obtain ⟨_, _, _, rfl, _⟩ := h
    rfl
  · obtain ⟨a, q, l, rfl, ⟨x, hW⟩, k⟩ := h
    refine ⟨_, pss_one (ps_ret (pe_callB (cr_sum rfl) (by rfl) gs (by decide +kernel) (pa_cons (pe_fld (pv 0) rfl) pa_nil))), ?_⟩
    refine s_retD (K := K) (dv_sum (ns := (List.range 120).map fun p => ((allW q l).count p : Int)) (dv_is (hW.numbers_ T rfl) (by rw [List.map_map]; rfl))) fun v H1 e1 hv => ?_
    rw [hv.int_inv, sum_cast]
    exact k H1 e1
def SpPr (K : PySem.W.Frag) (CR CC CW : Addr) : Sp := fun vs H Q _ => ∃ (a ac : Addr) (vh : V) (q : Cp05.Rules) (l : List Cp05.Chord) (b : Option (List Int)) (c : Cp05.Chord) (s : Cp05.Setting), vs = [.ref a, vh, .ref ac] ∧ WaAt K CR CC CW H a q l ∧ Dp K H vh (hereD b) ∧ HereOk b ∧ CcAt K CC H ac q c s ∧ s ∈ Cp05.settings q c ∧ ∀ H', Ex H H' → Q (.int (priceN q b c s : Int)) H'
abbrev nmPr : List Str := ["self", "here", "choice"]
theorem scPr : FnScope nmPr ["self", "here", "choice"] (defScope sPrice) := ⟨rfl, rfl, rfl, by decide +kernel, rfl, by decide +kernel, by decide +kernel⟩
theorem ok_price (F : Fun K "price_to" "Ways.price_to" sPrice f fd) (TW : WaTxt K CW) (TC : CcTxt K CC) (TR : RuTxt K CR) (gN : TupT K mg "NOWHERE" []) (c1 : Cal P w K mg base "semitones_moved" 1 ["here", "there"] (SpD K RMovedS)) : FnOk P w K mg base CX0 2 f fd ["self", "here", "choice"] (SpPr K CR CC CW) := by
  obtain ⟨aN, hN, dN⟩ := gN
  refine F.ok scPr (fun vs H Q E h => ?_) (fun cdv A outer s H vs Q E hr h => ?_)
  · obtain ⟨_, _, _, _, _, _, _, _, rfl, _⟩ := h
    rfl
  · obtain ⟨a, ac, vh, q, l, b, ch, st, rfl, ⟨x, hW⟩, hh, hb, hc, hs, k⟩ := h
    refine ⟨_, pss_cons (ps_if (pt_cmpR (op_eqD (hu64 hr)) (pv 1) (pe_glob (v := .ref aN) (by rfl) hN rfl) (nomark _)) (pss_one (ps_ret (pe_fld (pv 2) rfl))) pss_nil)
      (pss_one (ps_ret (pe_op op_add (pe_fld (pv 2) rfl) (pe_op op_mul (pe_fld (pe_fld (pv 0) rfl) rfl) (pe_cal c1 hr (pa_cons (pv 1) (pa_cons (pe_fld (pv 2) rfl) pa_nil))))))), ?_⟩
    obtain ⟨dc, vn, bs, a1, a2, a3⟩ := hc
    refine q_when (b := b.isNone) (dt_test (dv_is (dv_eqD (K := K) (dv_var rfl hh) (dv_c (dN _)) (here_shaped hb) shaped0) (congrArg PyData.bool (here_eq hb)))) (fun hbn H1 e1 => ?_) (fun hbn H1 e1 => ?_)
    · refine s_ret (ev_fld (ev_var rfl) (e1 _ _ a1) TC.cl TC.nC (ccF_cost _ _ _)) fun H2 e2 => ?_
      have := k H2 (e1.trans e2)
      cases b with
      | none => exact this
      | some y => cases hbn
    · cases b with
      | none => cases hbn
      | some y =>
        obtain ⟨y1, y2, y3, y4, rfl⟩ := hb y rfl
        obtain ⟨dr, vr, va, vl, r1, r2, r3, r4⟩ := hW.ru.mono e1
        have hm := hW.ok.m20
        have h4 : (sndC ch st).length = 4 := by
          obtain ⟨n1, n2, n3, rfl⟩ := three_of hs
          rfl
        refine s_retD (K := K) (dv_I (dv_fld (ev_var rfl) (e1 _ _ a1) TC.cl TC.nC (ccF_cost _ _ _) (.int _)) (dv_IC (dv_fld ((hW.mono e1).rules_ TW rfl) r1 TR.cl TR.nM (ruF_move _ _ _ _) (.int _)) (dv_call (d := .int (movS 1 [y1, y2, y3, y4] (sndC ch st) : Int)) (da_cons (dv_var rfl (Dp.mono e1 _ hh)) (da_cons (dv_ev (ev_fld (ev_var rfl) (e1 _ _ a1) TC.cl TC.nS (ccF_sounds _ _ _)) (a3.mono e1).dp) da_nil)) ⟨[y1, y2, y3, y4], sndC ch st, rfl, rfl, h4, rfl⟩) (mul_smallL (by omega) (by omega)))) fun v H2 e2 hv => ?_
        rw [hv.int_inv]
        have := k H2 (e1.trans e2)
        unfold priceN at this
        push_cast at this
        exact this
def SpTh (K : PySem.W.Frag) (CR CC CW : Addr) : Sp := fun vs H Q _ => ∃ (a ac : Addr) (vh : V) (q : Cp05.Rules) (l : List Cp05.Chord) (b : Option (List Int)) (i p : Nat) (c : Cp05.Chord) (s : Cp05.Setting), vs = [.ref a, .int (i : Int), vh, .ref ac, .int (p : Int)] ∧ WaAt K CR CC CW H a q l ∧ l[i]? = some c ∧ Dp K H vh (hereD b) ∧ HereOk b ∧ CcAt K CC H ac q c s ∧ s ∈ Cp05.settings q c ∧ p ≤ 119 ∧ ∀ H', Ex H H' → Q (.int (manyN q (l.drop (i + 1)) b c s p : Int)) H'
abbrev nmTh : List Str := ["self", "at", "here", "choice", "cost", "many"]
theorem scTh : FnScope nmTh ["self", "at", "here", "choice", "cost"] (defScope sThrough) := ⟨rfl, rfl, rfl, by decide +kernel, rfl, by decide +kernel, by decide +kernel⟩
theorem ok_through (F : Fun K "many_through" "Ways.many_through" sThrough f fd) (TW : WaTxt K CW) (TC : CcTxt K CC) (gN : TupT K mg "NOWHERE" []) (m : MtC P w K mg base CW "price_to" 2 ["self", "here", "choice"] (SpPr K CR CC CW)) (c1 : Cal P w K mg base "how_many_at" 1 ["tally", "cost", "width"] (SpD K RHowMany)) (c2 : Cal P w K mg base "wrong_moves" 5 ["rules", "here", "there"] (SpRH K CR gWrong)) : FnOk P w K mg base CX0 6 f fd ["self", "at", "here", "choice", "cost"] (SpTh K CR CC CW) := by
  obtain ⟨aN, hN, dN⟩ := gN
  obtain ⟨f1, fd1, M1, b1, F1⟩ := m
  refine F.ok scTh (fun vs H Q E h => ?_) (fun cdv A outer s H vs Q E hr h => ?_)
  · obtain ⟨_, _, _, _, _, _, _, _, _, _, rfl, _⟩ := h
    rfl
  · obtain ⟨a, ac, vh, q, l, b, i, p, ch, st, rfl, ⟨x, hW⟩, hli, hh, hb, hc, hs, hp, k⟩ := h
    have hr1 : Room 1 _ := hr.mono (by decide : 1 ≤ 5)
    have hr2 : Room 2 _ := hr.mono (by decide : 2 ≤ 5)
    refine ⟨_, pss_cons (ps_set (i := 5) scTh.nd rfl (Or.inl rfl) (pe_cal c1 hr1 (pa_cons (pe_dget (hu_of hr) (pe_ix ix_list (pe_fld (pv 0) rfl) (pv 1) (fun _ _ => rfl)) (pe_fld (pv 3) rfl) (fun _ _ => rfl)) (pa_cons (pe_op op_sub (pv 4) (pe_meth (pv 0) TW.cl M1 F1 hr2 b1 .nil pass0 (pa_cons (pv 2) (pa_cons (pv 3) pa_nil)))) (pa_cons (pe_fld (pv 0) rfl) pa_nil)))))
      (pss_cons (ps_if (PW.pt (pw_and (pt_cmpR op_gt (pv 5) pe_int (nomark _)) (pw_and (pt_cmpR (op_neD (hu64 hr)) (pv 2) (pe_glob (v := .ref aN) (by rfl) hN rfl) (nomark _)) (pw_and1 (pt_cmpR (op_neD (hu64 hr)) (pe_cal c2 hr (pa_cons (pe_fld (pv 0) rfl) (pa_cons (pv 2) (pa_cons (pe_fld (pv 3) rfl) pa_nil)))) (pe_lst pa_nil) (nomark _)))))) (pss_one (ps_ret pe_int)) pss_nil)
      (pss_one (ps_ret (pv 5)))), ?_⟩
    obtain ⟨dc, vn, bs, a1, a2, a3⟩ := id hc
    obtain ⟨d, hd, _, ks, hdd, hks, hkl, hnd⟩ := hW.onl.get hli
    have hin : sndC ch st ∈ ks := (hks _).mpr ⟨st, hs, rfl⟩
    have hal : (aheadL q (l.drop (i + 1)) (sndC ch st)).length < 2 ^ x.wd := Nat.lt_of_le_of_lt (aheadL_len q _ _) (Nat.lt_of_le_of_lt (prodS_drop q l (i + 1)) hW.few)
    have h4 : (sndC ch st).length = 4 := by
      obtain ⟨n1, n2, n3, rfl⟩ := three_of hs
      rfl
    refine q_asgD (K := K) (d := natD (if (p : Int) - (priceN q b ch st : Int) < 0 then 0 else (aheadL q (l.drop (i + 1)) (sndC ch st)).count ((p : Int) - (priceN q b ch st : Int)).toNat)) (dv_call (da_cons (dv_i (ev_dget (ev_ixL (j := i) (hW.onward_ TW rfl) (sq_of hW.ol) (ev_var rfl) rfl hd) (.inl hdd) (ev_fld (ev_var rfl) a1 TC.cl TC.nS (ccF_sounds _ _ _)) a3 (by rw [dOf_val, if_pos hin]))) (da_cons (dv_I (dv_vi rfl) (dv_methX (d := .int (priceN q b ch st : Int)) (ev_var rfl) hW.obj (waF_no _ _ _ _ _ _ (by decide +kernel) (by decide +kernel) (by decide +kernel) (by decide +kernel) (by decide +kernel)) (mx_v (ev_var rfl) (mx_v (ev_var rfl) mx_nil)) fun vs H1 e1 hv Q1 q1 => by
        have ev := asV (xs := [vh, .ref ac]) hv
        subst ev
        exact ⟨a, ac, vh, q, l, b, ch, st, rfl, ⟨x, hW.mono e1⟩, Dp.mono e1 _ hh, hb, hc.mono e1, hs, fun H2 e2 => q1 _ H2 e2 (.int _)⟩)) (da_cons (dv_i (hW.width_ TW rfl)) da_nil))) ⟨x.wd, _, _, rfl, hW.wd, hal, by omega, rfl⟩) fun v5 H1 e1 hv5 => ?_
    have hmm : (if (p : Int) - (priceN q b ch st : Int) < 0 then 0 else (aheadL q (l.drop (i + 1)) (sndC ch st)).count ((p : Int) - (priceN q b ch st : Int)).toNat) = if p < priceN q b ch st then 0 else (aheadL q (l.drop (i + 1)) (sndC ch st)).count (p - priceN q b ch st) := by
      by_cases h : p < priceN q b ch st
      · rw [if_pos h, if_pos (by omega)]
      · rw [if_neg h, if_neg (by omega)]
        congr 1
        omega
    rw [hmm] at hv5
    have hv5' : v5 = .int (((if p < priceN q b ch st then 0 else (aheadL q (l.drop (i + 1)) (sndC ch st)).count (p - priceN q b ch st) : Nat)) : Int) := hv5.int_inv
    subst hv5'
    generalize hmg : (if p < priceN q b ch st then 0 else (aheadL q (l.drop (i + 1)) (sndC ch st)).count (p - priceN q b ch st)) = mm at *
    have hman : manyN q (l.drop (i + 1)) b ch st p = if okB q b ch st = true then mm else 0 := by
      unfold manyN
      rw [hmg]
    have hW1 := hW.mono e1
    refine q_when (b := decide ((0 : Int) < (mm : Int)) && (!b.isNone && !okB q b ch st)) (et_and (dt_test (dv_B (K := K) (dv_vi rfl) dv_int)) fun _ => et_and (dt_test (dv_is (dv_neD (K := K) (dv_var rfl (Dp.mono e1 _ hh)) (dv_c (dN _)) (here_shaped hb) shaped0) (congrArg (fun z => PyData.bool (!z)) (here_eq hb)))) fun hbs => ?_) (fun hb2 H2 e2 => ?_) (fun hb2 H2 e2 => ?_)
    · cases b with
      | none => cases hbs
      | some y =>
        obtain ⟨y1, y2, y3, y4, rfl⟩ := hb y rfl
        refine dt_test (dv_is (dv_neD (K := K) (d := .list ((wrongsS q.leap [y1, y2, y3, y4] (sndC ch st)).map encW)) (d' := .list []) (dvl_callX (es := gWrong q [y1, y2, y3, y4] (sndC ch st)) (mx_v (hW1.rules_ TW rfl) (mx_v (ev_var rfl) (mx_v (ev_fld (ev_var rfl) (e1 _ _ a1) TC.cl TC.nS (ccF_sounds _ _ _)) mx_nil))) fun vs H2 e2 hv Q2 q2 => ?_).dv (dvl_lst da_nil (by decide)).dv (shaped_ws _) shaped_nil) ?_)
        · have ev := asV (xs := [.ref x.r, vh, .ref bs]) hv
          subst ev
          exact ⟨x.r, vh, .ref bs, q, [y1, y2, y3, y4], sndC ch st, rfl, hW1.ru.mono e2, hW.ok, Dp.mono (e1.trans e2) _ hh, (a3.mono (e1.trans e2)).dp, rfl, h4, q2⟩
        · rw [ws_eq]
          rfl
    · refine s_ret ev_c fun H3 e3 => ?_
      have hk := k H3 ((e1.trans e2).trans e3)
      rw [hman] at hk
      simp only [Bool.and_eq_true, Bool.not_eq_true'] at hb2
      rw [hb2.2.2, if_neg Bool.false_ne_true] at hk
      exact hk
    · refine s_ret (ev_var rfl) fun H3 e3 => ?_
      have hk := k H3 ((e1.trans e2).trans e3)
      have : manyN q (l.drop (i + 1)) b ch st p = mm := by
        rw [hman]
        cases hok : okB q b ch st with
        | true => rw [if_pos rfl]
        | false =>
          rw [if_neg Bool.false_ne_true]
          rw [hok] at hb2
          cases b with
          | none => unfold okB at hok; cases hok
          | some y =>
            simp at hb2
            omega
      rw [this] at hk
      exact hk
end
end Bf

namespace Bf
open PySem PySem.Spec PyProof.Rows L2 Evl
theorem sel_step {q : Cp05.Rules} {l : List Cp05.Chord} {i j p n k : Nat} {c : Cp05.Chord} {b : Option (List Int)} {s : Cp05.Setting} (hc : l[i]? = some c) (hs : (Cp05.settings q c)[j]? = some s) (hn : n = (((Cp05.settings q c).take j).map fun s => manyN q (l.drop (i + 1)) b c s p).sum + k) (hk : k < manyN q (l.drop (i + 1)) b c s p) :
    selL q (l.drop i) b p n = s :: selL q (l.drop (i + 1)) (some (sndC c s)) (p - priceN q b c s) k ∧ priceN q b c s ≤ p ∧ ∀ c', l[i + 1]? = some c' → k < ((Cp05.settings q c').map fun t => manyN q (l.drop (i + 2)) (some (sndC c s)) c' t (p - priceN q b c s)).sum := by
  have hok : okB q b c s = true := by
    cases h : okB q b c s with
    | true => rfl
    | false =>
      unfold manyN at hk
      rw [h, if_neg Bool.false_ne_true] at hk
      omega
  have hp : ¬ p < priceN q b c s := fun h => by
    unfold manyN at hk
    rw [if_pos hok, if_pos h] at hk
    omega
  have hcnt : manyN q (l.drop (i + 1)) b c s p = (aheadL q (l.drop (i + 1)) (sndC c s)).count (p - priceN q b c s) := by
    unfold manyN
    rw [if_pos hok, if_neg hp]
  refine ⟨?_, by omega, fun c' hc' => ?_⟩
  · rw [drop_at' hc]
    have hpk : Cp05.pick ((Cp05.settings q c).map fun s => (manyN q (l.drop (i + 1)) b c s p, s)) n = some (s, k) := by
      refine (pick_some _ _ _ _).mpr ⟨j, (manyN q (l.drop (i + 1)) b c s p, s), by rw [List.getElem?_map, hs]; rfl, rfl, ?_, ?_, hk⟩
      · rw [← List.map_take, List.map_map]
        show (((Cp05.settings q c).take j).map fun s => manyN q (l.drop (i + 1)) b c s p).sum ≤ n
        omega
      · rw [← List.map_take, List.map_map]
        exact hn
    show (match Cp05.pick ((Cp05.settings q c).map fun s => (manyN q (l.drop (i + 1)) b c s p, s)) n with
      | none => []
      | some x => x.1 :: selL q (l.drop (i + 1)) (some (sndC c x.1)) (p - priceN q b c x.1) x.2) = _
    rw [hpk]
  · rw [hcnt, drop_at' hc', ahead_many] at hk
    exact hk
section
variable {P : Program} {w : World} {K : PySem.W.Frag} {mg : Str → Option Value} {base : Heap} {CR C CC CW f : Addr} {fd : FuncData}
def SpSa (K : PySem.W.Frag) (CR CC CW : Addr) : Sp := fun vs H Q _ => ∃ (a : Addr) (q : Cp05.Rules) (l : List Cp05.Chord) (p n : Nat), vs = [.ref a, .int (p : Int), .int (n : Int)] ∧ WaAt K CR CC CW H a q l ∧ p ≤ 119 ∧ n < (allW q l).count p ∧ ∀ fl acc H', H fl = none → Ex H H' → H' fl = some (.lst acc) → DpAll K H' acc ((selL q l none p n).map encSet) → Q (.ref fl) H'
abbrev nmWst : List Str := ["self", "cost", "n", "found", "here", "at", "choice", "many"]
theorem scWst : FnScope nmWst ["self", "cost", "n"] (defScope sSetAt) := ⟨rfl, rfl, rfl, by decide +kernel, rfl, by decide +kernel, by decide +kernel⟩
theorem ok_setAt (F : Fun K "settings_at" "Ways.settings_at" sSetAt f fd) (TW : WaTxt K CW) (TC : CcTxt K CC) (gN : TupT K mg "NOWHERE" []) (gl : mg "len" = none) (gr : mg "range" = none) (m1 : MtC P w K mg base CW "many_through" 6 ["self", "at", "here", "choice", "cost"] (SpTh K CR CC CW)) (m2 : MtC P w K mg base CW "price_to" 2 ["self", "here", "choice"] (SpPr K CR CC CW)) : FnOk P w K mg base CX0 7 f fd ["self", "cost", "n"] (SpSa K CR CC CW) := by
  obtain ⟨aN, hN, dN⟩ := gN
  obtain ⟨f1, fd1, M1, b1, F1⟩ := m1
  obtain ⟨f2, fd2, M2, b2, F2⟩ := m2
  refine F.ok scWst (fun vs H Q E h => ?_) (fun cdv A outer s H vs Q E hr h => ?_)
  · obtain ⟨_, _, _, _, _, rfl, _⟩ := h
    rfl
  · obtain ⟨a, q, l, p, n, rfl, ⟨x, hW⟩, hp, hn, k⟩ := h
    have hr2 : Room 2 _ := hr.mono (by decide : 2 ≤ 6)
    refine ⟨_, pss_cons (ps_set (i := 3) scWst.nd rfl (Or.inl rfl) (pe_lst pa_nil))
      (pss_cons (ps_set (i := 4) scWst.nd rfl (Or.inl rfl) (pe_glob (v := .ref aN) (by rfl) hN rfl))
      (pss_cons (ps_for PassesOwn.never rfl (pi_range1 (by rfl) gr (pa_cons (pe_callB call_len_seq (by rfl) gl PySem.boot_len (pa_cons (pe_fld (pv 0) rfl) pa_nil)) pa_nil)) (pg_name (i := 5) scWst.nd rfl (Or.inl rfl))
        (pss_cons (ps_for PassesOwn.never rfl (pi_list (pe_ix ix_list (pe_fld (pv 0) rfl) (pv 5) (fun _ _ => rfl))) (pg_name (i := 6) scWst.nd rfl (Or.inl rfl))
          (pss_cons (ps_set (i := 7) scWst.nd rfl (Or.inl rfl) (pe_meth (pv 0) TW.cl M1 F1 hr b1 .nil pass0 (pa_cons (pv 5) (pa_cons (pv 4) (pa_cons (pv 6) (pa_cons (pv 1) pa_nil))))))
          (pss_cons (ps_if (pt_cmpR op_lt (pv 2) (pv 7) (nomark _)) (pss_one ps_break) pss_nil)
          (pss_one (ps_aug (i := 2) scWst.nd rfl (Or.inl rfl) (pv 7) ip_sub)))))
        (pss_cons (ps_expr (pe_bm PySem.F.plainAttrs_list PySem.F.slot_list_append PySem.F.type_list_append mt_append (pv 3) (pa_cons (pe_fld (pv 6) rfl) pa_nil)))
        (pss_cons (ps_aug (i := 1) scWst.nd rfl (Or.inl rfl) (pe_meth (pv 0) TW.cl M2 F2 hr2 b2 .nil pass0 (pa_cons (pv 4) (pa_cons (pv 6) pa_nil))) ip_sub)
        (pss_one (ps_set (i := 4) scWst.nd rfl (Or.inl rfl) (pe_fld (pv 6) rfl)))))))
      (pss_one (ps_ret (pv 3))))), ?_⟩
    have hyl : x.ys.length = l.length := hW.chl.length
    have hl8 := hW.len
    have hchs : ∀ (i : Nat) c, l[i]? = some c → ∃ lx, x.ys[i]? = some (.ref lx) ∧ ∃ xs, H lx = some (.lst xs) ∧ CcAll K CC H q c xs (Cp05.settings q c) := fun i c hc => by
      obtain ⟨y, hy, lx, rfl, hL⟩ := paired_get2 hW.chl hc
      exact ⟨lx, hy, hL⟩
    have hn0 : ∀ c, l[0]? = some c → n < ((Cp05.settings q c).map fun t => manyN q (l.drop 1) none c t p).sum := fun c hc => by
      have e : l = c :: l.drop 1 := drop_at' hc
      have h9 := hn
      rw [e] at h9
      show n < ((Cp05.settings q c).map fun t => manyN q (l.drop 1) none c t p).sum
      rw [← all_many]
      exact h9
    refine q_asgL (xs := ([] : List V)) (el_lst ea_nil (by decide)) fun fl H1 hfl e1 h1 => ?_
    refine q_asgE (v := .ref aN) ev_c fun H2 e2 => ?_
    have e12 := e1.trans e2
    refine q_forR1 (n := (l.length : Int)) (σ := [some (.ref a), some (.int (p : Int)), some (.int (n : Int)), some (.ref fl), some (.ref aN), none, none, none]) (ea_cons (ev_is (ev_len ((hW.mono e12).choices_ TW rfl) (sq_of (e12 _ _ hW.cl))) (by rw [hyl])) ea_nil) (by omega)
      (fun i σ' H' => ∃ (p' n' : Nat) (vh : V) (b : Option (List Int)) (o5 o6 o7 : Option V) (acc : List V) (sel : List Cp05.Setting), σ' = [some (.ref a), some (.int (p' : Int)), some (.int (n' : Int)), some (.ref fl), some vh, o5, o6, o7] ∧ Ex H H' ∧ H' fl = some (.lst acc) ∧ DpAll K H acc (sel.map encSet) ∧ sel.length = i ∧ Dp K H vh (hereD b) ∧ HereOk b ∧ p' ≤ 119 ∧ selL q l none p n = sel ++ selL q (l.drop i) b p' n' ∧ ∀ c, l[i]? = some c → n' < ((Cp05.settings q c).map fun t => manyN q (l.drop (i + 1)) b c t p').sum)
      (fun H3 e3 => ⟨p, n, .ref aN, none, none, none, none, [], [], rfl, e12.trans e3, (e2.trans e3) _ _ h1, .nil, rfl, dN _, (fun y hy => by cases hy), hp, rfl, hn0⟩) (fun i σ' H' hi ⟨p', n', vh, b, o5, o6, o7, acc, sel, eσ, e3, hf, hacc, hsl, hvh, hb, hp', hsel, hnn⟩ => ?_) (fun σ' H' ⟨p', n', vh, b, o5, o6, o7, acc, sel, eσ, e3, hf, hacc, hsl, hvh, hb, hp', hsel, hnn⟩ => ?_)
    · subst eσ
      obtain ⟨c, hc⟩ : ∃ c, l[i]? = some c := ⟨_, List.getElem?_eq_getElem (by omega)⟩
      obtain ⟨lx, hlx, xs, hxs, hcc⟩ := hchs i c hc
      have hn' := hnn c hc
      have hxl : xs.length = (Cp05.settings q c).length := hcc.length
      refine q_forLn (a := lx) (xs := xs) (σ := [some (.ref a), some (.int (p' : Int)), some (.int (n' : Int)), some (.ref fl), some vh, some (.int (i : Int)), o6, o7]) (ev_ixL (j := i) ((hW.mono e3).choices_ TW rfl) (sq_of (e3 _ _ hW.cl)) (ev_var rfl) rfl hlx) (sq_of (e3 _ _ hxs))
        (fun j σ' H' => ∃ (nj : Nat) (o6 o7 : Option V), σ' = [some (.ref a), some (.int (p' : Int)), some (.int (nj : Int)), some (.ref fl), some vh, some (.int (i : Int)), o6, o7] ∧ Ex H H' ∧ H' fl = some (.lst acc) ∧ n' = (((Cp05.settings q c).take j).map fun s => manyN q (l.drop (i + 1)) b c s p').sum + nj)
        (fun H3 e4 => ⟨n', o6, o7, rfl, e3.trans e4, e4 _ _ hf, by simp⟩) (fun j σ' H' _ ⟨_, _, _, _, e, _⟩ => sq_of (e _ _ hxs)) (fun j v σ' H3 hj ⟨nj, o6, o7, eσ, e4, hf4, hnj⟩ => ?_) (fun σ' H3 ⟨nj, o6, o7, eσ, e4, hf4, hnj⟩ => ?_)
      · subst eσ
        obtain ⟨st, hst, ac, rfl, hac⟩ := paired_at hcc hj
        have hsm : st ∈ Cp05.settings q c := List.mem_of_getElem? hst
        have hjl : j < (Cp05.settings q c).length := (List.getElem?_eq_some_iff.mp hst).1
        obtain ⟨mm, hmm⟩ : ∃ mm, manyN q (l.drop (i + 1)) b c st p' = mm := ⟨_, rfl⟩
        have htk : (((Cp05.settings q c).take (j + 1)).map fun s => manyN q (l.drop (i + 1)) b c s p').sum = (((Cp05.settings q c).take j).map fun s => manyN q (l.drop (i + 1)) b c s p').sum + mm := by
          rw [List.take_add_one, hst, List.map_append, List.sum_append]
          show _ + (manyN q (l.drop (i + 1)) b c st p' + 0) = _
          rw [hmm]
          omega
        have hW4 := hW.mono e4
        refine q_asgE (v := .int (mm : Int)) (ev_int (K := K) (dv_methX (d := .int (mm : Int)) (ev_var rfl) hW4.obj (waF_no _ _ _ _ _ _ (by decide +kernel) (by decide +kernel) (by decide +kernel) (by decide +kernel) (by decide +kernel)) (mx_v (ev_var rfl) (mx_v (ev_var rfl) (mx_v (ev_var rfl) (mx_v (ev_var rfl) mx_nil)))) fun vs H5 e5 hv Q1 q1 => by
          have ev := asV (xs := [V.int (i : Int), vh, .ref ac, .int (p' : Int)]) hv
          subst ev
          refine ⟨a, ac, vh, q, l, b, i, p', c, st, rfl, ⟨x, hW4.mono e5⟩, hc, Dp.mono (e4.trans e5) _ hvh, hb, hac.mono (e4.trans e5), hsm, hp', fun H6 e6 => ?_⟩
          rw [hmm]
          exact q1 _ H6 e6 (.int _))) fun H5 e5 => ?_
        have e45 := e4.trans e5
        refine q_when (b := decide ((nj : Int) < (mm : Int))) (dt_test (dv_B (K := K) (dv_vi rfl) (dv_vi rfl))) (fun hb5 H6 e6 => ?_) (fun hb5 H6 e6 => ?_)
        · rw [decide_eq_true_eq] at hb5
          obtain ⟨hstep, hpr, hnx⟩ := sel_step hc hst hnj (by rw [hmm]; omega)
          obtain ⟨dc, vn, bs, a1, a2, a3⟩ := id hac
          have e46 := e45.trans e6
          have hfl6 := (e5.trans e6) _ _ hf4
          have hal : acc.length ≤ 8 := by
            rw [hacc.length, List.length_map, hsl]
            omega
          have h4 : ∃ s a t u, sndC c st = [s, a, t, u] := by
            obtain ⟨n1, n2, n3, rfl⟩ := three_of hsm
            exact ⟨_, _, _, _, rfl⟩
          show tSeq _ _ _ _ H6
          refine q_app (K := K) (v := vn) hfl6 (ev_var rfl) (ev_fld (ev_var rfl) (e46 _ _ a1) TC.cl TC.nN (ccF_notes _ _ _)) (by omega) fun H7 e7 => ?_
          have eU : Ex H (upd H7 fl (.lst (acc ++ [vn]))) := Ex.mut (e46.trans e7) hfl
          have hWU := hW.mono eU
          refine q_aug (a := (p' : Int)) (b := (priceN q b c st : Int)) rfl (ev_int (K := K) (dv_methX (d := .int (priceN q b c st : Int)) (ev_var rfl) hWU.obj (waF_no _ _ _ _ _ _ (by decide +kernel) (by decide +kernel) (by decide +kernel) (by decide +kernel) (by decide +kernel)) (mx_v (ev_var rfl) (mx_v (ev_var rfl) mx_nil)) fun vs H8 e8 hv Q1 q1 => by
            have ev := asV (xs := [vh, .ref ac]) hv
            subst ev
            exact ⟨a, ac, vh, q, l, b, c, st, rfl, ⟨x, hWU.mono e8⟩, Dp.mono (eU.trans e8) _ hvh, hb, hac.mono (eU.trans e8), hsm, fun H9 e9 => q1 _ H9 e9 (.int _)⟩)) fun H8 e8 => ?_
          refine s_asg (v := .ref bs) (ev_fld (ev_var rfl) ((eU.trans e8) _ _ a1) TC.cl TC.nS (ccF_sounds _ _ _)) fun H9 e9 => ?_
          refine ⟨p' - priceN q b c st, nj, .ref bs, some (sndC c st), some (.int (i : Int)), some (.ref ac), some (.int (mm : Int)), acc ++ [vn], sel ++ [st], ?_, eU.trans (e8.trans e9), (e8.trans e9) _ _ upd_same, ?_, ?_, a3.dp, ?_, by omega, ?_, hnx⟩
          · have e0 : (p' : Int) - (priceN q b c st : Int) = ((p' - priceN q b c st : Nat) : Int) := by omega
            rw [← e0]
            rfl
          · rw [List.map_append]
            exact hacc.append (.cons a2 .nil)
          · rw [List.length_append, hsl]; rfl
          · intro y hy
            cases hy
            exact h4
          · rw [hsel, hstep, List.append_assoc]
            rfl
        · rw [decide_eq_false_iff_not] at hb5
          refine s_aug (a := (nj : Int)) (b := (mm : Int)) rfl (ev_var rfl) fun H7 e7 => ?_
          refine ⟨nj - mm, some (.ref ac), some (.int (mm : Int)), ?_, (e45.trans e6).trans e7, ((e5.trans e6).trans e7) _ _ hf4, ?_⟩
          · have e0 : (nj : Int) - (mm : Int) = ((nj - mm : Nat) : Int) := by omega
            rw [← e0]
            rfl
          · rw [htk]
            omega
      · exfalso
        rw [hxl, List.take_length] at hnj
        omega
    · subst eσ
      have hll : ((l.length : Int)).toNat = l.length := by omega
      rw [hll] at hsel
      rw [List.drop_length] at hsel
      have h0 : selL q [] b p' n' = [] := rfl
      rw [h0, List.append_nil] at hsel
      refine s_ret (ev_var rfl) fun H4 e4 => k fl acc H4 hfl (e3.trans e4) (e4 _ _ hf) ?_
      rw [hsel]
      exact DpAll.mono (e3.trans e4) _ hacc
theorem upto_succ (f : Nat → Nat) (i : Nat) : ((List.range (i + 1)).map f).sum = ((List.range i).map f).sum + f i := by
  rw [List.range_succ, List.map_append, List.sum_append]
  show _ + (f i + 0) = _
  omega
theorem upto_mono (f : Nat → Nat) {i : Nat} : ∀ {j : Nat}, i ≤ j → ((List.range i).map f).sum ≤ ((List.range j).map f).sum
  | 0, h => by
    have : i = 0 := by omega
    rw [this]
    exact Nat.le_refl _
  | j + 1, h => by
    by_cases e : i = j + 1
    · rw [e]
      exact Nat.le_refl _
    · have := upto_mono f (i := i) (j := j) (by omega)
      rw [upto_succ]
      omega
def SpNth (K : PySem.W.Frag) (CR CC CW : Addr) : Sp := fun vs H Q _ => ∃ (a : Addr) (q : Cp05.Rules) (l : List Cp05.Chord) (p k n : Nat), vs = [.ref a, .int (n : Int)] ∧ WaAt K CR CC CW H a q l ∧ p ≤ 119 ∧ n = ((List.range p).map fun i => (allW q l).count i).sum + k ∧ k < (allW q l).count p ∧ ∀ v H', Ex H H' → Dp K H' v (.tuple [.int (p : Int), .list ((selL q l none p k).map encSet)]) → Q v H'
abbrev nmNt : List Str := ["self", "n", "cost"]
theorem scNt : FnScope nmNt ["self", "n"] (defScope sNth) := ⟨rfl, rfl, rfl, by decide +kernel, rfl, by decide +kernel, by decide +kernel⟩
theorem ok_nth (F : Fun K "nth" "Ways.nth" sNth f fd) (TW : WaTxt K CW) (m : MtC P w K mg base CW "settings_at" 7 ["self", "cost", "n"] (SpSa K CR CC CW)) : FnOk P w K mg base CX0 8 f fd ["self", "n"] (SpNth K CR CC CW) := by
  obtain ⟨f1, fd1, M1, b1, F1⟩ := m
  refine F.ok scNt (fun vs H Q E h => ?_) (fun cdv A outer s H vs Q E hr h => ?_)
  · obtain ⟨_, _, _, _, _, _, rfl, _⟩ := h
    rfl
  · obtain ⟨a, q, l, p, kk, n, rfl, ⟨x, hW⟩, hp, hn, hk, k⟩ := h
    refine ⟨_, pss_cons (ps_set (i := 2) scNt.nd rfl (Or.inl rfl) pe_int)
      (pss_cons (ps_while PassesOwn.never (pt_cmpR op_ge (pv 1) (pe_ix ix_list (pe_fld (pv 0) rfl) (pv 2) (fun _ _ => rfl)) (nomark _))
        (pss_cons (ps_aug (i := 1) scNt.nd rfl (Or.inl rfl) (pe_ix ix_list (pe_fld (pv 0) rfl) (pv 2) (fun _ _ => rfl)) ip_sub)
        (pss_one (ps_aug (i := 2) scNt.nd rfl (Or.inl rfl) pe_int ip_add))))
      (pss_one (ps_ret (pe_tup (pa_cons (pv 2) (pa_cons (pe_meth (pv 0) TW.cl M1 F1 hr b1 .nil pass0 (pa_cons (pv 2) (pa_cons (pv 1) pa_nil))) pa_nil)))))), ?_⟩
    refine q_asgE (v := .int 0) ev_c fun H1 e1 => ?_
    have numE : ∀ G, Ex H G → ∀ (σ : L2.St) (i : Nat), σ[0]? = some (some (.ref a)) → σ[2]? = some (some (.int (i : Int))) → i ≤ 119 → Dv K (tOp (rIxL K) (tFld K (tVar 0) "numbers") (tVar 2)) σ G (.int ((allW q l).count i : Int)) := fun G e σ i h0 h2 hi => dv_ixL (j := i) ((hW.mono e).numbers_ TW h0) (dv_vi h2) rfl (by
      rw [List.getElem?_map, List.getElem?_range (by omega)]
      rfl)
    refine q_while (fun m σ' H' => ∃ (i ni : Nat), σ' = [some (.ref a), some (.int (ni : Int)), some (.int (i : Int))] ∧ m = p - i ∧ i ≤ p ∧ Ex H H' ∧ n = ((List.range i).map fun i => (allW q l).count i).sum + ni) p ⟨0, n, rfl, rfl, Nat.zero_le _, e1, by simp⟩ (fun m σ' H' ⟨i, ni, eσ, em, hi, e2, hni⟩ => ?_)
    subst eσ
    refine ⟨decide (((allW q l).count i : Int) ≤ (ni : Int)), dt_test (dv_B (K := K) (dv_vi rfl) (numE _ e2 _ i rfl rfl (by omega))), fun hb H3 e3 => ?_, fun hb H3 e3 => ?_⟩
    · rw [decide_eq_true_eq] at hb
      have hip : i < p := by
        rcases Nat.lt_or_ge i p with h | h
        · exact h
        · have hip : i = p := by omega
          subst hip
          omega
      refine ⟨fun σ2 H2 => ∃ ni' : Nat, σ2 = [some (.ref a), some (.int (ni' : Int)), some (.int ((i + 1 : Nat) : Int))] ∧ Ex H H2 ∧ n = ((List.range (i + 1)).map fun i => (allW q l).count i).sum + ni', fun σ2 H2 ⟨ni', h1, h2, h3⟩ => ⟨p - (i + 1), by omega, i + 1, ni', h1, rfl, by omega, h2, h3⟩, ?_⟩
      refine q_aug (a := (ni : Int)) (b := ((allW q l).count i : Int)) rfl (ev_int (K := K) (numE _ (e2.trans e3) _ i rfl rfl (by omega))) fun H4 e4 => ?_
      refine s_aug (a := (i : Int)) (b := 1) rfl ev_c fun H5 e5 => ⟨ni - (allW q l).count i, ?_, ((e2.trans e3).trans e4).trans e5, ?_⟩
      · have e0 : (ni : Int) - ((allW q l).count i : Int) = ((ni - (allW q l).count i : Nat) : Int) := by omega
        have e9 : (i : Int) + 1 = ((i + 1 : Nat) : Int) := by omega
        rw [← e0, ← e9]
        rfl
      · rw [upto_succ]
        omega
    · rw [decide_eq_false_iff_not] at hb
      have hip : i = p := by
        rcases Nat.lt_or_ge i p with h | h
        · have h1 := upto_mono (fun i => (allW q l).count i) (show i + 1 ≤ p from h)
          rw [upto_succ] at h1
          omega
        · omega
      subst hip
      have hnk : ni = kk := by omega
      subst hnk
      have e23 := e2.trans e3
      refine s_retD (K := K) (dv_tup (da_cons (dv_vi rfl) (da_cons (dv_methX (d := .list ((selL q l none i ni).map encSet)) (ev_var rfl) (hW.mono e23).obj (waF_no _ _ _ _ _ _ (by decide +kernel) (by decide +kernel) (by decide +kernel) (by decide +kernel) (by decide +kernel)) (mx_v (ev_var rfl) (mx_v (ev_var rfl) mx_nil)) fun vs H4 e4 hv Q1 q1 => by
        have ev := asV (xs := [V.int (i : Int), .int (ni : Int)]) hv
        subst ev
        exact ⟨a, q, l, i, ni, rfl, ⟨x, (hW.mono e23).mono e4⟩, hp, hk, fun fl acc H5 hfl e5 h5 hacc => q1 (.ref fl) H5 e5 (.lst (sq_of h5) hacc)⟩) da_nil)) (by show 2 ≤ 100000; decide)) fun v H4 e4 hv => k v H4 (e23.trans e4) hv
end
end Bf

namespace Bf
open PySem PySem.Spec PyProof.Rows L2 Evl
abbrev sFiI : Stmt := inClass (top 98) 0
abbrev sTake : Stmt := inClass (top 98) 2
abbrev sAdd : Stmt := inClass (top 98) 3
abbrev sDrop : Stmt := inClass (top 98) 4
abbrev sTell : Stmt := inClass (top 98) 5
structure Tx where
  CF : Addr
  CR : Addr
  C : Addr
  CC : Addr
  CW : Addr
structure FiTxt (K : PySem.W.Frag) (CF : Addr) : Prop where
  cl : Cls K CF
  nR : NoAttr K CF "rules"
  nC : NoAttr K CF "chords"
  nW : NoAttr K CF "ways"
def fiF (r lc : Addr) (y : V) : List (Str × V) := [("rules", .ref r), ("chords", .ref lc), ("ways", y)]
theorem fiF_rules (r lc : Addr) (y : V) : (fiF r lc y).lookup ("rules" : Str) = some (.ref r) := lk_here
theorem fiF_chords (r lc : Addr) (y : V) : (fiF r lc y).lookup ("chords" : Str) = some (.ref lc) := (lk_past (by decide +kernel)).trans lk_here
theorem fiF_ways (r lc : Addr) (y : V) : (fiF r lc y).lookup ("ways" : Str) = some y := (lk_past (by decide +kernel)).trans ((lk_past (by decide +kernel)).trans lk_here)
theorem fiF_put (r r' lc : Addr) (y : V) : putF "rules" (.ref r') (fiF r lc y) = fiF r' lc y := put_here
theorem fiF_putW (r lc : Addr) (y y' : V) : putF "ways" y' (fiF r lc y) = fiF r lc y' := by
  unfold fiF
  simp [putF]
  rw [if_neg (by decide +kernel), if_neg (by decide +kernel)]
/-- what holds of the state -/
structure StOk (s : Cp05.State) : Prop where
  ru : RuOk s.rules
  ch : ∀ c ∈ s.chords, ChOk c
  few : s.chords.length ≤ 8
/-- what is kept of the ways: nothing, or those of the state -/
def WyAt (K : PySem.W.Frag) (X : Tx) (G : Hp) (y : V) (s : Cp05.State) : Prop := y = .non ∨ ∃ wy, y = .ref wy ∧ WaAt K X.CR X.CC X.CW G wy s.rules s.chords
theorem WyAt.mono {K : PySem.W.Frag} {X : Tx} {G G' : Hp} {y : V} {s : Cp05.State} (e : Ex G G') (h : WyAt K X G y s) : WyAt K X G' y s := by
  rcases h with h | ⟨wy, h1, h2⟩
  · exact .inl h
  · exact .inr ⟨wy, h1, h2.mono e⟩
/-- the object at a is the state s, its list of chords at lc; what they hold is read apart from S -/
def FiAt (K : PySem.W.Frag) (X : Tx) (S : Addr → Bool) (H : Hp) (a lc : Addr) (s : Cp05.State) : Prop := ∃ dx r cs y, H a = some (.ins X.CF dx (fiF r lc y)) ∧ H lc = some (.lst cs) ∧ RuAt K X.CR (cutS H S) r s.rules ∧ ChAll K X.C (cutS H S) cs s.chords ∧ StOk s ∧ WyAt K X (cutS H S) y s
theorem FiAt.mono {K : PySem.W.Frag} {X : Tx} {S : Addr → Bool} {H H' : Hp} {a lc : Addr} {s : Cp05.State} (e : Ex H H') (h : FiAt K X S H a lc s) : FiAt K X S H' a lc s := by
  obtain ⟨dx, r, cs, y, h1, h2, h3, h4, h5, h6⟩ := h
  exact ⟨dx, r, cs, y, e _ _ h1, e _ _ h2, h3.mono (cutS_mono e), h4.mono (cutS_mono e), h5, h6.mono (cutS_mono e)⟩
/-- all but a and lc stands -/
def But (a lc : Addr) (H H' : Hp) : Prop := ∀ b o, H b = some o → b ≠ a → b ≠ lc → H' b = some o
theorem But.of {a lc : Addr} {H H' : Hp} (e : Ex H H') : But a lc H H' := fun b o h _ _ => e b o h
/-- a method's promise: R says which arguments stand for which call -/
def SpM (K : PySem.W.Frag) (X : Tx) (R : List PyData → Cp05.Call → Prop) : Sp := fun vs H Q _ => ∃ (a lc : Addr) (S : Addr → Bool) (s : Cp05.State) (us : List V) (ds : List PyData) (c : Cp05.Call), vs = .ref a :: us ∧ S a = true ∧ S lc = true ∧ Av S H ∧ FiAt K X S H a lc s ∧ DpAll K H us ds ∧ R ds c ∧
  ∀ H' p, H p = none → H' p = some (.lst ((stepA s c).2.map V.int)) → FiAt K X S H' a lc (stepA s c).1 → But a lc H H' → Q (.ref p) H'
def RTake (ds : List PyData) (c : Cp05.Call) : Prop := ∃ ns : List Int, ds = [.list (ns.map .int)] ∧ ns.length ≤ 100 ∧ c = .rules ns
def RAdd (ds : List PyData) (c : Cp05.Call) : Prop := ∃ ns : List Int, ds = [.list (ns.map .int)] ∧ ns.length ≤ 100 ∧ c = .chord ns
def RDrop (ds : List PyData) (c : Cp05.Call) : Prop := ds = [] ∧ c = .drop
def RTell (ds : List PyData) (c : Cp05.Call) : Prop := ∃ i k : Int, ds = [.int i, .int k] ∧ c = .settings i k
theorem cutP_from {α : Type} (l : List α) (j : Nat) : cutP l (some (j : Int)) none = l.drop j := by
  unfold cutP
  rw [HT.sIx_nat, HT.sIx_none]
  rcases Nat.le_total j l.length with h | h
  · rw [Nat.min_eq_left h]
    exact List.take_of_length_le (by rw [List.length_drop]; exact Nat.le_refl _)
  · rw [Nat.min_eq_right h, List.drop_length, List.take_nil, List.drop_eq_nil_of_le h]
theorem cutP_part {α : Type} (l : List α) (i j : Nat) (hi : i ≤ j) (hj : j ≤ l.length) : cutP l (some (i : Int)) (some (j : Int)) = (l.drop i).take (j - i) := by
  unfold cutP
  rw [HT.sIx_nat, HT.sIx_nat, Nat.min_eq_left hj, Nat.min_eq_left (Nat.le_trans hi hj)]
section
variable {K : PySem.W.Frag} {H : Hp} {σ : L2.St} {ta te : TE} {D : Ends} {tz : TS}
theorem q_popL {l : Addr} {xs : List V} {y : V} (hl : H l = some (.lst xs)) (ha : Ev ta σ H (.ref l)) (hy : xs[xs.length - 1]? = some y) (k : ∀ H1, Ex H H1 → tz D σ (upd H1 l (.lst xs.dropLast))) : tSeq (tDrop (tBM0 K "list" rPop ta)) tz D σ H := ha H (Ex.refl H) _ fun H1 e1 =>
  ⟨Or.inl ⟨rfl, xs, sq_of (e1 l _ hl)⟩, l, xs, y, rfl, rfl, e1 _ _ hl, hy, k H1 e1⟩
theorem s_extL {K' : PySem.W.Frag} {ds : List PyData} {l : Addr} {xs : List V} (hl : H l = some (.lst xs)) (ha : Ev ta σ H (.ref l)) (h : DvL K te σ H ds) (hz : xs.length + ds.length ≤ 10000000) (k : ∀ p zs H1, H p = none → Ex H H1 → H1 p = some (.lst zs) → DpAll K H1 zs ds → D.nx σ (upd H1 l (.lst (xs ++ zs)))) :
    tDrop (tBM K' "list" rExtend ta (tCons te tNil)) D σ H := ha H (Ex.refl H) _ fun H1 e1 =>
  ⟨Or.inl ⟨rfl, xs, sq_of (e1 l _ hl)⟩, h H1 e1 _ fun p zs H2 hp e2 h2 hd => ⟨l, p, xs, zs, rfl, rfl, e2 l _ (e1 l _ hl), h2, Nat.le_trans (by rw [hd.length]; exact hz) (by decide), k p zs H2 (fresh_back e1 hp) (e1.trans e2) h2 hd⟩⟩
end
theorem ne_al {K : PySem.W.Frag} {X : Tx} {S : Addr → Bool} {H : Hp} {a lc : Addr} {s : Cp05.State} (h : FiAt K X S H a lc s) : a ≠ lc := by
  obtain ⟨dx, r, cs, y, h1, h2, _⟩ := h
  exact ne_of h1 h2 (fun z => nomatch z)
section
variable {P : Program} {w : World} {K : PySem.W.Frag} {mg : Str → Option Value} {base : Heap} {X : Tx} {f : Addr} {fd : FuncData}
abbrev nmTk : List Str := ["self", "numbers"]
theorem scTk : FnScope nmTk ["self", "numbers"] (defScope sTake) := ⟨rfl, rfl, rfl, by decide +kernel, rfl, by decide +kernel, by decide +kernel⟩
/-- return [n, ..]: a new list -/
theorem s_retI {ta : TA} {σ : L2.St} {H : Hp} {D : Ends} {ns : List Int} (h : DvA K ta σ H (ns.map .int)) (hl : ns.length ≤ 100000) (k : ∀ p H1, H p = none → Ex H H1 → H1 p = some (.lst (ns.map V.int)) → D.rt (.ref p) H1) : tRet (tLst ta) D σ H :=
  s_retDL (dvl_lst h (by rw [List.length_map]; exact hl)) fun p xs H1 hp e h1 hx => by
    rw [hx.ints] at h1
    exact k p H1 hp e h1
theorem ok_take (F : Fun K "take_rules" "Filling.take_rules" sTake f fd) (TF : FiTxt K X.CF) (c1 : Cal P w K mg base "are_rules" 2 ["numbers"] (SpD K RAreRules)) (M : MkC P w K mg base "Rules" X.CR 1 ["self", "numbers"] (spRuI K X.CR)) :
    FnOk P w K mg base CX0 3 f fd ["self", "numbers"] (SpM K X RTake) := by
  refine F.ok scTk (fun vs H Q E h => ?_) (fun cdv A outer s H vs Q E hr h => ?_)
  · obtain ⟨_, _, _, _, us, ds, _, rfl, _, _, _, _, hd, ⟨ns, rfl, _⟩, _⟩ := h
    rw [List.length_cons, hd.length]
    rfl
  · obtain ⟨a, lc, S, st, us, ds, c, rfl, Sa, Sl, av, hF, hd, ⟨ns, rfl, hn, rfl⟩, k⟩ := h
    obtain ⟨v, rfl, hv⟩ := DpAll1 hd
    refine ⟨_, pss_cons (ps_if (pt_not (pt_val (pe_cal c1 hr (pa_cons (pv 1) pa_nil)))) (pss_one (ps_ret (pe_lst (pa_cons (pe_un un_neg pe_int) pa_nil)))) pss_nil)
      (pss_cons (ps_fld (pv 0) (pe_mkC M hr (pa_cons (pv 1) pa_nil)) rfl)
      (pss_cons (ps_fld (pv 0) pe_non rfl)
      (pss_one (ps_ret (pe_lst (pa_cons pe_int pa_nil)))))), ?_⟩
    have hstep : Cp05.step st (.rules ns) = if rulesOk ns = true then ({ st with rules := rulesOf ns }, Cp05.just 0) else (st, Cp05.just (-1)) := by
      show (match Cp05.ruled ns with
        | none => (st, Cp05.just (-1))
        | some q => ({ st with rules := q }, Cp05.just 0)) = _
      rw [ruled_eq]
      cases rulesOk ns <;> rfl
    refine q_when (b := !rulesOk ns) (et_not (dt_B (dv_call (da_cons (dv_var rfl hv) da_nil) ⟨ns, rfl, hn, rfl⟩))) (fun hb H1 e1 => ?_) (fun hb H1 e1 => ?_)
    · rw [Bool.not_eq_true'] at hb
      have hs : stepA st (.rules ns) = (st, [-1]) := by
        unfold stepA
        rw [hstep, hb]
        rfl
      rw [hs] at k
      exact s_retI (K := K) (ns := [-1]) (da_cons (dv_neg dv_int) da_nil) (by decide) fun p H2 hp e2 h2 => k H2 p (fresh_back e1 hp) h2 (hF.mono (e1.trans e2)) (But.of (e1.trans e2))
    · rw [Bool.not_eq_false'] at hb
      have hs : stepA st (.rules ns) = ({ st with rules := rulesOf ns }, [0]) := by
        unfold stepA
        rw [hstep, hb]
        rfl
      rw [hs] at k
      have al := ne_al hF
      -- self.rules = Rules(numbers)
      refine ⟨v, rfl, fun o dxo no nd ne => ⟨o, dxo, v, ns, rfl, upd_same, Dp.mono (e1.trans (Ex_make no nd)) _ hv, hb, fun H2 hR hE => ⟨rfl, ?_⟩⟩⟩
      have e12 : Ex H1 H2 := Ex_made no nd hE
      have e2 := e1.trans e12
      obtain ⟨dx, r, cs, y, f1, f2, f3, f4, f5, f6⟩ := hF.mono e2
      refine ⟨.ref a, rfl, a, X.CF, dx, _, rfl, f1, TF.cl, TF.nR, (by show 3 < 1000; decide), ?_⟩
      rw [fiF_put]
      have av1 := av.mono e1
      have hRS := hR S (av1.mono (Ex_make no nd)) (av1.fresh no)
      refine ⟨.ref a, rfl, a, X.CF, dx, _, rfl, upd_same, TF.cl, TF.nW, (by show 3 < 1000; decide), ?_⟩
      rw [fiF_putW]
      refine s_retI (K := K) (σ := [some (.ref a), some v]) (ns := [0]) (da_cons dv_int da_nil) (by decide) fun p H3 hp e3 h3 => k H3 p ?_ h3 ?_ ?_
      · have hpa : p ≠ a := fun z => by rw [z, upd_same] at hp; cases hp
        rw [upd_ne hpa, upd_ne hpa] at hp
        exact fresh_back e2 hp
      · refine FiAt.mono e3 ⟨dx, o, cs, .non, upd_same, ?_, ?_, ?_, ?_, .inl rfl⟩
        · rw [upd_ne al.symm, upd_ne al.symm]
          exact f2
        · rw [cutS_upd Sa, cutS_upd Sa]
          exact hRS
        · rw [cutS_upd Sa, cutS_upd Sa]
          exact f4
        · exact ⟨rulesOf_ok hb, f5.ch, f5.few⟩
      · intro b o' hb' hba _
        exact e3 _ _ (by rw [upd_ne hba, upd_ne hba]; exact e2 _ _ hb')
abbrev nmAd : List Str := ["self", "numbers", "chord"]
theorem scAd : FnScope nmAd ["self", "numbers"] (defScope sAdd) := ⟨rfl, rfl, rfl, by decide +kernel, rfl, by decide +kernel, by decide +kernel⟩
theorem ok_add (F : Fun K "add_chord" "Filling.add_chord" sAdd f fd) (TF : FiTxt K X.CF) (gl : mg "len" = none) (gm : Gi mg "MOST_CHORDS" 8) (c1 : Cal P w K mg base "has_bass" 3 ["numbers"] (SpD K RHasBass)) (c2 : Cal P w K mg base "are_names" 3 ["numbers"] (SpD K RAreNames))
    (c3 : Cal P w K mg base "settings_of" 4 ["rules", "chord"] (SpSet K X.CR X.C)) (M : MkC P w K mg base "Chord" X.C 3 ["self", "numbers"] (spChI K X.C)) : FnOk P w K mg base CX0 5 f fd ["self", "numbers"] (SpM K X RAdd) := by
  refine F.ok scAd (fun vs H Q E h => ?_) (fun cdv A outer s H vs Q E hr h => ?_)
  · obtain ⟨_, _, _, _, us, ds, _, rfl, _, _, _, _, hd, ⟨ns, rfl, _⟩, _⟩ := h
    rw [List.length_cons, hd.length]
    rfl
  · obtain ⟨a, lc, S, st, us, ds, c, rfl, Sa, Sl, av, hF, hd, ⟨ns, rfl, hn, rfl⟩, k⟩ := h
    obtain ⟨v, rfl, hv⟩ := DpAll1 hd
    have hr3 : Room 3 _ := hr.mono (by decide : 3 ≤ 4)
    refine ⟨_, pss_cons (ps_if (pt_not (pt_val (pe_cal c1 hr3 (pa_cons (pv 1) pa_nil)))) (pss_one (ps_ret (pe_lst (pa_cons (pe_un un_neg pe_int) pa_nil)))) pss_nil)
      (pss_cons (ps_if (pt_not (pt_val (pe_cal c2 hr3 (pa_cons (pe_slice sl_list (pv 1) (po_some pe_int) po_none) pa_nil)))) (pss_one (ps_ret (pe_lst (pa_cons (pe_un un_neg pe_int) pa_nil)))) pss_nil)
      (pss_cons (ps_if (pt_cmpR op_ge (pe_callB call_len_seq (by rfl) gl PySem.boot_len (pa_cons (pe_fld (pv 0) rfl) pa_nil)) (pe_gi gm) (nomark _)) (pss_one (ps_ret (pe_lst (pa_cons (pe_un un_neg pe_int) pa_nil)))) pss_nil)
      (pss_cons (ps_set (i := 2) scAd.nd rfl (Or.inl rfl) (pe_mkC M hr (pa_cons (pv 1) pa_nil)))
      (pss_cons (ps_expr (pe_bm PySem.F.plainAttrs_list PySem.F.slot_list_append PySem.F.type_list_append mt_append (pe_fld (pv 0) rfl) (pa_cons (pv 2) pa_nil)))
      (pss_cons (ps_fld (pv 0) pe_non rfl)
      (pss_one (ps_ret (pe_lst (pa_cons (pe_op op_sub (pe_callB call_len_seq (by rfl) gl PySem.boot_len (pa_cons (pe_fld (pv 0) rfl) pa_nil)) pe_int) (pa_cons (pe_callB call_len_seq (by rfl) gl PySem.boot_len (pa_cons (pe_cal c3 hr (pa_cons (pe_fld (pv 0) rfl) (pa_cons (pv 2) pa_nil))) pa_nil)) pa_nil)))))))))), ?_⟩
    have al := ne_al hF
    refine q_when (b := !hasBass ns) (et_not (dt_B (dv_call (da_cons (dv_var rfl hv) da_nil) ⟨ns, rfl, rfl⟩))) (fun hb H1 e1 => ?_) (fun hb H1 e1 => ?_)
    · rw [Bool.not_eq_true'] at hb
      have hs : stepA st (.chord ns) = (st, [-1]) := by
        unfold stepA
        match ns, hb with
        | [], _ => rfl
        | [_], _ => rfl
        | d :: a :: r, hb =>
          rw [step_chord_bad st d a r hb]
          rfl
      rw [hs] at k
      exact s_retI (K := K) (ns := [-1]) (da_cons (dv_neg dv_int) da_nil) (by decide) fun p H2 hp e2 h2 => k H2 p (fresh_back e1 hp) h2 (hF.mono (e1.trans e2)) (But.of (e1.trans e2))
    rw [Bool.not_eq_false'] at hb
    obtain ⟨d, al', r, rfl⟩ : ∃ d a r, ns = d :: a :: r := by
      match ns, hb with
      | [], hb => cases hb
      | [_], hb => cases hb
      | d :: a :: r, _ => exact ⟨d, a, r, rfl⟩
    have hbn : Cp05.isNote ⟨d, al'⟩ = true := hb
    have hstep := step_chord st d al' r hbn
    refine q_when (b := !decide (namesOk r)) (et_not (dt_B (dv_call (da_cons (dvl_sl (dv_var rfl (Dp.mono e1 _ hv)) (eo_some ev_c) eo_none).dv da_nil) ⟨r, by rw [cutP_map]; exact congrArg (fun l => [PyData.list (List.map PyData.int l)]) (cutP_from (d :: al' :: r) 2), rfl⟩))) (fun hb2 H2 e2 => ?_) (fun hb2 H2 e2 => ?_)
    · rw [Bool.not_eq_true', decide_eq_false_iff_not] at hb2
      have hs : stepA st (.chord (d :: al' :: r)) = (st, [-2]) := by
        unfold stepA
        rw [hstep, if_neg hb2]
        rfl
      rw [hs] at k
      exact s_retI (K := K) (ns := [-2]) (da_cons (dv_neg dv_int) da_nil) (by decide) fun p H3 hp e3 h3 => k H3 p (fresh_back (e1.trans e2) hp) h3 (hF.mono ((e1.trans e2).trans e3)) (But.of ((e1.trans e2).trans e3))
    rw [Bool.not_eq_false', decide_eq_true_eq] at hb2
    rw [if_pos hb2] at hstep
    have e12 := e1.trans e2
    obtain ⟨dx, rr, cs, y0, f1, f2, f3, f4, f5, f6⟩ := hF.mono e12
    have hcl : cs.length = st.chords.length := f4.length
    refine q_when (b := decide ((8 : Int) ≤ (st.chords.length : Int))) (et_test (ev_is (ev_op (ev_len (ev_fld (ev_var rfl) f1 TF.cl TF.nC (fiF_chords _ _ _)) (sq_of f2)) ev_c rv_I0) (by rw [hcl]))) (fun hb3 H3 e3 => ?_) (fun hb3 H3 e3 => ?_)
    · rw [decide_eq_true_eq] at hb3
      have hs : stepA st (.chord (d :: al' :: r)) = (st, [-5]) := by
        unfold stepA
        rw [hstep, if_pos (show Cp05.CHORDS ≤ st.chords.length by unfold Cp05.CHORDS; omega)]
        rfl
      rw [hs] at k
      exact s_retI (K := K) (ns := [-5]) (da_cons (dv_neg dv_int) da_nil) (by decide) fun p H4 hp e4 h4 => k H4 p (fresh_back (e12.trans e3) hp) h4 (hF.mono ((e12.trans e3).trans e4)) (But.of ((e12.trans e3).trans e4))
    rw [decide_eq_false_iff_not] at hb3
    rw [if_neg (show ¬ Cp05.CHORDS ≤ st.chords.length by unfold Cp05.CHORDS; omega)] at hstep
    have hs : stepA st (.chord (d :: al' :: r)) = ({ st with chords := st.chords ++ [chordOf d al' r] }, [(st.chords.length : Int), ((Cp05.settings st.rules (chordOf d al' r)).length : Int)]) := by
      unfold stepA
      rw [hstep]
    rw [hs] at k
    have e13 := e12.trans e3
    have okc := chordOf_ok hbn hb2
    -- chord = Chord(numbers)
    refine ⟨v, rfl, fun o dxo no nd ne => ⟨o, dxo, v, d, al', r, rfl, upd_same, Dp.mono (e13.trans (Ex_make no nd)) _ hv, hbn, hb2, fun H4 hR hE => ⟨rfl, ?_⟩⟩⟩
    have e34 : Ex H3 H4 := Ex_made no nd hE
    have e14 := e13.trans e34
    have av3 := av.mono e13
    have hCS := hR S (av3.mono (Ex_make no nd)) (av3.fresh no)
    obtain ⟨dx, rr, cs, y0, f1, f2, f3, f4, f5, f6⟩ := hF.mono e14
    have hcl : cs.length = st.chords.length := f4.length
    -- self.chords.append(chord)
    refine q_app (K := K) f2 (ev_fld (ev_var rfl) f1 TF.cl TF.nC (fiF_chords _ _ _)) (ev_var rfl) (by rw [hcl]; have := f5.few; omega) fun H5 e5 => ?_
    have h5a : upd H5 lc (.lst (cs ++ [.ref o])) a = some (.ins X.CF dx (fiF rr lc y0)) := by
      rw [upd_ne al]
      exact e5 _ _ f1
    refine ⟨.ref a, rfl, a, X.CF, dx, _, rfl, h5a, TF.cl, TF.nW, (by show 3 < 1000; decide), ?_⟩
    rw [fiF_putW]
    obtain ⟨H6, hH6⟩ : ∃ H6, H6 = upd (upd H5 lc (.lst (cs ++ [.ref o]))) a (.ins X.CF dx (fiF rr lc .non)) := ⟨_, rfl⟩
    rw [← hH6]
    have c6 : cutS H6 S = cutS H5 S := by rw [hH6, cutS_upd Sa, cutS_upd Sl]
    have n6 : ∀ b, b ≠ a → b ≠ lc → H6 b = H5 b := fun b h1 h2 => by rw [hH6, upd_ne h1, upd_ne h2]
    have hF6 : FiAt K X S H6 a lc { st with chords := st.chords ++ [chordOf d al' r] } := by
      refine ⟨dx, rr, cs ++ [.ref o], .non, ?_, ?_, ?_, ?_, ?_, .inl rfl⟩
      · rw [hH6]
        exact upd_same
      · rw [hH6, upd_ne al.symm]
        exact upd_same
      · rw [c6]
        exact f3.mono (cutS_mono e5)
      · rw [c6]
        exact Paired.snoc (f4.mono (cutS_mono e5)) ⟨o, rfl, hCS.mono (cutS_mono e5)⟩
      · refine ⟨f5.ru, fun c hc => ?_, ?_⟩
        · rcases List.mem_append.mp hc with hc | hc
          · exact f5.ch c hc
          · rw [List.mem_singleton.mp hc]
            exact okc
        · show (st.chords ++ [chordOf d al' r]).length ≤ 8
          rw [List.length_append]
          show st.chords.length + 1 ≤ 8
          omega
    obtain ⟨dx6, rr6, cs6, y6, g1, g2, g3, g4, g5, g6⟩ := id hF6
    have hC6 : ChAt K X.C H6 o (chordOf d al' r) := by
      refine ChAt.mono (cutS_le (S := S)) ?_
      rw [c6]
      exact hCS.mono (cutS_mono e5)
    have hlen6 : cs6.length = st.chords.length + 1 := by
      rw [g4.length]
      show (st.chords ++ [chordOf d al' r]).length = _
      rw [List.length_append]
      rfl
    refine s_retI (K := K) (σ := [some (.ref a), some v, some (.ref o)]) (ns := [(st.chords.length : Int), ((Cp05.settings st.rules (chordOf d al' r)).length : Int)]) (da_cons (dv_is (dv_I (dv_i (ev_len (ev_fld (ev_var rfl) g1 TF.cl TF.nC (fiF_chords _ _ _)) (sq_of g2))) dv_int) (by rw [hlen6]; congr 1; push_cast; omega)) (da_cons (dv_is (dv_len (dvl_callS (es := (Cp05.settings st.rules (chordOf d al' r)).map encSet) (ea_cons (ev_fld (ev_var rfl) g1 TF.cl TF.nR (fiF_rules _ _ _)) (ea_cons (ev_var rfl) ea_nil)) fun H7 e7 Q7 q7 => ⟨rr6, o, st.rules, chordOf d al' r, rfl, (g3.mono cutS_le).mono e7, g5.ru, hC6.mono e7, okc, q7⟩).dv) (by rw [List.length_map])) da_nil)) (by show 2 ≤ 100000; decide) fun p H7 hp e7 h7 => k H7 p ?_ h7 (FiAt.mono e7 hF6) ?_
    · have hpl : p ≠ lc := fun z => by rw [z, g2] at hp; cases hp
      have hpa : p ≠ a := fun z => by rw [z, g1] at hp; cases hp
      rw [n6 p hpa hpl] at hp
      exact fresh_back (e14.trans e5) hp
    · intro b o' hb' hba hbl
      exact e7 _ _ (by rw [n6 b hba hbl]; exact e5 _ _ (e14 _ _ hb'))
abbrev nmDr : List Str := ["self"]
theorem scDr : FnScope nmDr ["self"] (defScope sDrop) := ⟨rfl, rfl, rfl, by decide +kernel, rfl, by decide +kernel, by decide +kernel⟩
theorem last_at {α : Type} {l : List α} (h : l ≠ []) : ∃ y, l[l.length - 1]? = some y := by
  have : l.length - 1 < l.length := by
    have := List.length_pos_iff.mpr h
    omega
  exact ⟨_, List.getElem?_eq_getElem this⟩
theorem ok_drop (F : Fun K "drop_chord" "Filling.drop_chord" sDrop f fd) (TF : FiTxt K X.CF) (gl : mg "len" = none) : FnOk P w K mg base CX0 1 f fd ["self"] (SpM K X RDrop) := by
  refine F.ok scDr (fun vs H Q E h => ?_) (fun cdv A outer s H vs Q E hr h => ?_)
  · obtain ⟨_, _, _, _, us, ds, _, rfl, _, _, _, _, hd, ⟨rfl, _⟩, _⟩ := h
    rw [List.length_cons, hd.length]
    rfl
  · obtain ⟨a, lc, S, st, us, ds, c, rfl, Sa, Sl, av, hF, hd, ⟨rfl, rfl⟩, k⟩ := h
    cases hd
    refine ⟨_, pss_cons (ps_if (pt_cmpR op_eq (pe_callB call_len_seq (by rfl) gl PySem.boot_len (pa_cons (pe_fld (pv 0) rfl) pa_nil)) pe_int (nomark _)) (pss_one (ps_ret (pe_lst (pa_cons (pe_un un_neg pe_int) pa_nil)))) pss_nil)
      (pss_cons (ps_expr (pe_bm0 PySem.F.plainAttrs_list PySem.F.slot_list_pop PySem.F.type_list_pop mt_pop (pe_fld (pv 0) rfl)))
      (pss_cons (ps_fld (pv 0) pe_non rfl)
      (pss_one (ps_ret (pe_lst (pa_cons (pe_callB call_len_seq (by rfl) gl PySem.boot_len (pa_cons (pe_fld (pv 0) rfl) pa_nil)) pa_nil)))))), ?_⟩
    have al := ne_al hF
    obtain ⟨dx, rr, cs, y0, f1, f2, f3, f4, f5, f6⟩ := id hF
    have hcl : cs.length = st.chords.length := f4.length
    refine q_when (b := decide ((st.chords.length : Int) = 0)) (et_test (ev_is (ev_bl (K := K) (dv_eqI (dv_i (ev_len (ev_fld (ev_var rfl) f1 TF.cl TF.nC (fiF_chords _ _ _)) (sq_of f2))) dv_int)) (by rw [hcl]))) (fun hb H1 e1 => ?_) (fun hb H1 e1 => ?_)
    · rw [decide_eq_true_eq] at hb
      have he : st.chords = [] := List.length_eq_zero_iff.mp (by omega)
      have hs : stepA st .drop = (st, [-3]) := by
        unfold stepA
        show ((if st.chords.isEmpty = true then (st, Cp05.just (-3)) else _).1, _) = _
        have h1 : Cp05.step st .drop = (st, Cp05.just (-3)) := by
          show (if st.chords.isEmpty = true then (st, Cp05.just (-3)) else _) = _
          rw [he]
          rfl
        show ((Cp05.step st .drop).1, _) = _
        rw [h1]
        rfl
      rw [hs] at k
      exact s_retI (K := K) (ns := [-3]) (da_cons (dv_neg dv_int) da_nil) (by decide) fun p H2 hp e2 h2 => k H2 p (fresh_back e1 hp) h2 (hF.mono (e1.trans e2)) (But.of (e1.trans e2))
    · rw [decide_eq_false_iff_not] at hb
      have hne : st.chords ≠ [] := fun z => hb (by rw [z]; rfl)
      have hs : stepA st .drop = ({ st with chords := st.chords.dropLast }, [(st.chords.length : Int) - 1]) := by
        have h1 : Cp05.step st .drop = ({ st with chords := st.chords.dropLast }, Cp05.just ((st.chords.length : Int) - 1)) := by
          show (if st.chords.isEmpty = true then (st, Cp05.just (-3)) else ({ st with chords := st.chords.dropLast }, Cp05.just ((st.chords.length : Int) - 1))) = _
          rw [if_neg]
          simpa using hne
        unfold stepA
        rw [h1]
        rfl
      rw [hs] at k
      have hcs : cs ≠ [] := fun z => by rw [z] at hcl; exact hne (List.length_eq_zero_iff.mp hcl.symm)
      obtain ⟨y, hy⟩ := last_at hcs
      refine q_popL (K := K) (e1 _ _ f2) (ev_fld (ev_var rfl) (e1 _ _ f1) TF.cl TF.nC (fiF_chords _ _ _)) hy fun H2 e2 => ?_
      have e12 := e1.trans e2
      have h2a : upd H2 lc (.lst cs.dropLast) a = some (.ins X.CF dx (fiF rr lc y0)) := by
        rw [upd_ne al]
        exact e12 _ _ f1
      refine ⟨.ref a, rfl, a, X.CF, dx, _, rfl, h2a, TF.cl, TF.nW, (by show 3 < 1000; decide), ?_⟩
      rw [fiF_putW]
      obtain ⟨H3, hH3⟩ : ∃ H3, H3 = upd (upd H2 lc (.lst cs.dropLast)) a (.ins X.CF dx (fiF rr lc .non)) := ⟨_, rfl⟩
      rw [← hH3]
      have c3 : cutS H3 S = cutS H2 S := by rw [hH3, cutS_upd Sa, cutS_upd Sl]
      have n3 : ∀ b, b ≠ a → b ≠ lc → H3 b = H2 b := fun b h1 h2 => by rw [hH3, upd_ne h1, upd_ne h2]
      have hF3 : FiAt K X S H3 a lc { st with chords := st.chords.dropLast } := by
        refine ⟨dx, rr, cs.dropLast, .non, ?_, ?_, ?_, ?_, ?_, .inl rfl⟩
        · rw [hH3]
          exact upd_same
        · rw [hH3, upd_ne al.symm]
          exact upd_same
        · rw [c3]
          exact f3.mono (cutS_mono e12)
        · rw [c3]
          exact ChAll.dropLast (f4.mono (cutS_mono e12))
        · refine ⟨f5.ru, fun c hc => f5.ch c ((List.dropLast_sublist _).mem hc), ?_⟩
          show st.chords.dropLast.length ≤ 8
          rw [List.length_dropLast]
          have := f5.few
          omega
      obtain ⟨dx3, rr3, cs3, y3, g1, g2, g3, g4, g5, g6⟩ := id hF3
      have hl3 : cs3.length = st.chords.length - 1 := by
        rw [g4.length]
        show st.chords.dropLast.length = _
        rw [List.length_dropLast]
      have hpos := List.length_pos_iff.mpr hne
      refine s_retI (K := K) (σ := [some (.ref a)]) (ns := [(st.chords.length : Int) - 1]) (da_cons (dv_is (dv_i (ev_len (ev_fld (ev_var rfl) g1 TF.cl TF.nC (fiF_chords _ _ _)) (sq_of g2))) (by rw [hl3]; congr 1; omega)) da_nil) (by show 1 ≤ 100000; decide) fun p H4 hp e4 h4 => k H4 p ?_ h4 (hF3.mono e4) ?_
      · have hpl : p ≠ lc := fun z => by rw [z, g2] at hp; cases hp
        have hpa : p ≠ a := fun z => by rw [z, g1] at hp; cases hp
        rw [n3 p hpa hpl] at hp
        exact fresh_back e12 hp
      · intro b o' hb' hba hbl
        exact e4 _ _ (by rw [n3 b hba hbl]; exact e12 _ _ hb')
abbrev nmFI : List Str := ["self"]
theorem scFI : FnScope nmFI ["self"] (defScope sFiI) := ⟨rfl, rfl, rfl, by decide +kernel, rfl, by decide +kernel, by decide +kernel⟩
def two (a b : Addr) : Addr → Bool := fun c => decide (c = a) || decide (c = b)
theorem start_ok : StOk Cp05.start := ⟨⟨⟨_, _, _, rfl⟩, ⟨_, _, _, rfl⟩, ⟨_, _, _, rfl⟩, by decide, by decide, by decide, by decide, by decide⟩, (fun c h => by cases h), by decide⟩
def spFiI (K : PySem.W.Frag) (X : Tx) : Sp := fun vs H Q _ => ∃ (a dx : Addr), vs = [.ref a] ∧ H a = some (.ins X.CF dx []) ∧ ∀ H' lc, H lc = none → FiAt K X (two a lc) H' a lc Cp05.start → Ex (cutH H a) H' → Q .non H'
theorem ok_fiI (F : Fun K "__init__" "Filling.__init__" sFiI f fd) (TF : FiTxt K X.CF) (c : Cal P w K mg base "first_rules" 3 [] (spFirst K X.CR)) : FnOk P w K mg base CX0 4 f fd ["self"] (spFiI K X) := by
  refine F.ok scFI (fun vs H Q E h => ?_) (fun cdv A outer s H vs Q E hr h => ?_)
  · obtain ⟨_, _, rfl, _⟩ := h
    rfl
  · obtain ⟨a, dx, rfl, ha, k⟩ := h
    refine ⟨_, pss_cons (ps_fld (pv 0) (pe_cal0 c hr) rfl) (pss_cons (ps_fld (pv 0) (pe_lst pa_nil) rfl) (pss_one (ps_fld (pv 0) pe_non rfl))), ?_⟩
    refine ⟨rfl, fun r H1 hr1 e1 hR => ⟨.ref a, rfl, a, X.CF, dx, [], rfl, e1 _ _ ha, TF.cl, TF.nR, (by show 0 < 1000; decide), ?_⟩⟩
    have avA : Av (fun b => decide (b = a)) H := fun b hb => by
      have hb := of_decide_eq_true hb
      subst hb
      exact ⟨⟨_, ha⟩, no_tup_ins ha⟩
    have hR1 := hR _ avA
    have e0 : putF "rules" (V.ref r) [] = [(("rules" : Str), V.ref r)] := rfl
    rw [e0]
    refine q_fldL (K := K) (σ := [some (.ref a)]) (ds := []) (dvl_lst da_nil (by decide)) (ev_var rfl) upd_same TF.cl TF.nC (by show 1 < 1000; decide) fun lc ys H2 hlc e2 h2 hy => ?_
    cases hy
    have e3 : putF "chords" (V.ref lc) [(("rules" : Str), V.ref r)] = [(("rules" : Str), V.ref r), ("chords", .ref lc)] := put_new ["rules"] rfl (by decide +kernel)
    rw [e3]
    have hla : lc ≠ a := fun z => by rw [z, upd_same] at hlc; cases hlc
    have hlc1 : H1 lc = none := by rw [upd_ne hla] at hlc; exact hlc
    refine ⟨.ref a, rfl, a, X.CF, dx, _, rfl, upd_same, TF.cl, TF.nW, (by show 2 < 1000; decide), ?_⟩
    have e4 : putF "ways" V.non [(("rules" : Str), V.ref r), ("chords", .ref lc)] = fiF r lc .non := put_new ["rules", "chords"] rfl (by decide +kernel)
    rw [e4]
    refine k _ lc (fresh_back e1 hlc1) ⟨dx, r, [], .non, upd_same, ?_, ?_, .nil, start_ok, .inl rfl⟩ ?_
    · rw [upd_ne hla, upd_ne hla]
      exact h2
    · refine RuAt.mono (fun b o hb => ?_) hR1
      by_cases z : b = a
      · rw [cutS_in (decide_eq_true z)] at hb; cases hb
      · rw [cutS_ne (decide_eq_false z)] at hb
        have z2 : b ≠ lc := fun q => by rw [q, hlc1] at hb; cases hb
        rw [cutS_ne (by unfold two; rw [decide_eq_false z, decide_eq_false z2]; rfl), upd_ne z, upd_ne z]
        exact e2 _ _ (by rw [upd_ne z]; exact hb)
    · intro b o hb
      have z : b ≠ a := fun q => by rw [q, cutH_same] at hb; cases hb
      rw [cutH_ne z] at hb
      rw [upd_ne z, upd_ne z]
      exact e2 _ _ (by rw [upd_ne z]; exact e1 _ _ hb)
/-! ### the ways, kept -/
abbrev sNow : Stmt := inClass (top 98) 1
def SpNow (K : PySem.W.Frag) (X : Tx) : Sp := fun vs H Q _ => ∃ (a lc : Addr) (S : Addr → Bool) (s : Cp05.State), vs = [.ref a] ∧ S a = true ∧ S lc = true ∧ Av S H ∧ FiAt K X S H a lc s ∧ s.chords ≠ [] ∧ ∀ H' wy, FiAt K X S H' a lc s → WaAt K X.CR X.CC X.CW (cutS H' S) wy s.rules s.chords → But a lc H H' → Av S H' → Q (.ref wy) H'
theorem scNow : FnScope ["self"] ["self"] (defScope sNow) := ⟨rfl, rfl, rfl, by decide +kernel, rfl, by decide +kernel, by decide +kernel⟩
theorem rv_isN {H : Hp} {x : V} : RV (fun x y H Q => y = .non ∧ Q (.bl (decide (x = .non))) H) x .non H (.bl (decide (x = .non))) := fun H1 _ _ q => ⟨rfl, q H1 (Ex.refl H1)⟩
theorem FiAt.av {S : Addr → Bool} {H H' : Hp} {a lc : Addr} {s' : Cp05.State} (av : Av S H) (hB : But a lc H H') (h : FiAt K X S H' a lc s') : Av S H' := fun b hb => by
  obtain ⟨⟨o, ho⟩, h2⟩ := av b hb
  obtain ⟨dx, r, cs, y, f1, f2, _⟩ := h
  by_cases za : b = a
  · rw [za]; exact ⟨⟨_, f1⟩, no_tup_ins f1⟩
  by_cases zl : b = lc
  · rw [zl]; exact ⟨⟨_, f2⟩, no_tup_lst f2⟩
  have hb' := hB b o ho za zl
  exact ⟨⟨o, hb'⟩, fun xs rr => h2 xs (by unfold Rd at rr ⊢; rw [hb'] at rr; rw [ho]; exact rr)⟩
theorem s_fldMk {ta : TE} {t : TA} {vs : List V} {C : Addr} {sp : Sp} {g : Str} {D : Ends} {σ : L2.St} {H : Hp} (h : EvA t σ H vs) (k : ∀ H1, Ex H H1 → ∀ o dxo, H1 o = none → H1 dxo = none → dxo ≠ o → sp (.ref o :: (vs ++ [])) (upd (upd H1 dxo (.own o)) o (.ins C dxo [])) (fun v H2 => v = .non ∧ ta σ H2 fun x H3 => ∃ a C dx fs, x = .ref a ∧ H3 a = some (.ins C dx fs) ∧ Cls K C ∧ NoAttr K C g ∧ fs.length < 1000 ∧ D.nx σ (upd H3 a (.ins C dx (putF g (.ref o) fs)))) E0) : sFld K ta (tMake C sp [] E0 t) g D σ H := h H (Ex.refl H) _ k
theorem ok_now (F : Fun K "ways_now" "Filling.ways_now" sNow f fd) (TF : FiTxt K X.CF) (M : MkC P w K mg base "Ways" X.CW 13 ["self", "rules", "chords"] (spWaI K X.CR X.C X.CC X.CW)) : FnOk P w K mg base CX0 15 f fd ["self"] (SpNow K X) := by
  refine F.ok scNow (fun vs H Q E h => ?_) (fun cdv A outer s H vs Q E hr h => ?_)
  · obtain ⟨_, _, _, _, rfl, _⟩ := h
    rfl
  · obtain ⟨a, lc, S, st, rfl, Sa, Sl, av, hF, hne, k⟩ := h
    refine ⟨_, pss_cons (ps_if (pt_cmpR op_isN (pe_fld (pv 0) rfl) pe_non (nomark _)) (pss_one (ps_fld (pv 0) (pe_mkC M hr (pa_cons (pe_fld (pv 0) rfl) (pa_cons (pe_fld (pv 0) rfl) pa_nil))) rfl)) pss_nil)
      (pss_one (ps_ret (pe_fld (pv 0) rfl))), ?_⟩
    have al := ne_al hF
    obtain ⟨dx, r, cs, y, f1, f2, f3, f4, f5, f6⟩ := id hF
    refine q_when (b := decide (y = .non)) (et_test (ev_op (ev_fld (ev_var rfl) f1 TF.cl TF.nW (fiF_ways _ _ _)) ev_c rv_isN)) (fun hb H1 e1 => ?_) (fun hb H1 e1 => ?_)
    · refine s_fldMk (ea_cons (ev_fld (ev_var rfl) (e1 _ _ f1) TF.cl TF.nR (fiF_rules _ _ _)) (ea_cons (ev_fld (ev_var rfl) (e1 _ _ f1) TF.cl TF.nC (fiF_chords _ _ _)) ea_nil)) (fun H2 e2 o dxo no nd ne => ⟨o, dxo, r, lc, S, st.rules, st.chords, cs, rfl, upd_same, ?_, ?_, ?_, f5.ru, ?_, ?_, f5.ch, hne, f5.few, fun H3 hW hE => ⟨rfl, ?_⟩⟩)
      · exact (av.mono (e1.trans e2)).mono (Ex_make no nd)
      · exact (av.mono (e1.trans e2)).fresh no
      · exact f3.mono (cutS_mono ((e1.trans e2).trans (Ex_make no nd)))
      · exact ((e1.trans e2).trans (Ex_make no nd)) _ _ f2
      · exact f4.mono (cutS_mono ((e1.trans e2).trans (Ex_make no nd)))
      have e3 : Ex H H3 := (e1.trans e2).trans (Ex_made no nd hE)
      refine ⟨.ref a, rfl, a, X.CF, dx, _, rfl, e3 _ _ f1, TF.cl, TF.nW, (by show 3 < 1000; decide), ?_⟩
      rw [fiF_putW]
      obtain ⟨H4, hH4⟩ : ∃ H4, H4 = upd H3 a (.ins X.CF dx (fiF r lc (.ref o))) := ⟨_, rfl⟩
      rw [← hH4]
      have c4 : cutS H4 S = cutS H3 S := by rw [hH4, cutS_upd Sa]
      have h4a : H4 a = some (.ins X.CF dx (fiF r lc (.ref o))) := by rw [hH4]; exact upd_same
      have hF4 : FiAt K X S H4 a lc st := by
        refine ⟨dx, r, cs, .ref o, h4a, ?_, ?_, ?_, f5, .inr ⟨o, rfl, ?_⟩⟩
        · rw [hH4, upd_ne al.symm]
          exact e3 _ _ f2
        · rw [c4]; exact f3.mono (cutS_mono e3)
        · rw [c4]; exact f4.mono (cutS_mono e3)
        · rw [c4]; exact hW
      have hB4 : But a lc H H4 := fun b o' hb' hba _ => by
        rw [hH4, upd_ne hba]
        exact e3 _ _ hb'
      refine s_ret (ev_fld (ev_var rfl) h4a TF.cl TF.nW (fiF_ways _ _ _)) fun H5 e5 => k H5 o (hF4.mono e5) ?_ (fun b o' h1 h2 h3 => e5 _ _ (hB4 b o' h1 h2 h3)) ((FiAt.av av hB4 hF4).mono e5)
      refine WaAt.mono (cutS_mono e5) ?_
      rw [c4]
      exact hW
    · rw [decide_eq_false_iff_not] at hb
      rcases f6 with h | ⟨wy, rfl, hW⟩
      · exact absurd h hb
      · exact s_ret (ev_fld (ev_var rfl) (e1 _ _ f1) TF.cl TF.nW (fiF_ways _ _ _)) fun H2 e2 => k H2 wy (hF.mono (e1.trans e2)) (hW.mono (cutS_mono (e1.trans e2))) (But.of (e1.trans e2)) (av.mono (e1.trans e2))
end
end Bf

namespace Bf
open PySem PySem.Spec PyProof.Rows L2 Evl
abbrev sCount : Stmt := inClass (top 98) 6
abbrev sCounts : Stmt := inClass (top 98) 7
abbrev sWay : Stmt := inClass (top 98) 8
abbrev sJudge : Stmt := inClass (top 98) 9
def RCount (ds : List PyData) (c : Cp05.Call) : Prop := ∃ p : Int, ds = [.int p] ∧ c = .count p
def RCounts (ds : List PyData) (c : Cp05.Call) : Prop := ds = [] ∧ c = .counts
def RWay (ds : List PyData) (c : Cp05.Call) : Prop := ∃ n : Int, ds = [.int n] ∧ c = .nth n
def RJudge (ds : List PyData) (c : Cp05.Call) : Prop := ∃ ns : List Int, ds = [.list (ns.map .int)] ∧ ns.length ≤ 100 ∧ c = .judge ns
theorem fiF_no (r lc : Addr) (y : V) (m : Str) (h1 : (m == ("rules" : Str)) = false) (h2 : (m == ("chords" : Str)) = false) (h3 : (m == ("ways" : Str)) = false) : (fiF r lc y).lookup m = none := (lk_past h1).trans ((lk_past h2).trans ((lk_past h3).trans rfl))
theorem cutP_upto {α : Type} (l : List α) (j : Nat) : cutP l none (some (j : Int)) = l.take j := by
  unfold cutP
  rw [HT.sIx_nat, HT.sIx_none, List.drop_zero, Nat.sub_zero, ← List.take_eq_take_min]
theorem foldl_sum : ∀ (l : List Nat) (a : Nat), l.foldl (· + ·) a = a + l.sum
  | [], a => by simp
  | x :: l, a => by
    rw [List.foldl_cons, foldl_sum l, List.sum_cons]
    omega
theorem zip_range (f : Nat → Nat) (n : Nat) : ((List.range n).map f).zipIdx = (List.range n).map fun i => (f i, i) := by
  apply List.ext_getElem?
  intro i
  rw [List.getElem?_zipIdx, List.getElem?_map, List.getElem?_map]
  by_cases h : i < n
  · rw [List.getElem?_range h]
    simp
  · rw [List.getElem?_eq_none (by rw [List.length_range]; omega)]
    rfl
section
variable {P : Program} {w : World} {K : PySem.W.Frag} {mg : Str → Option Value} {base : Heap} {X : Tx} {f : Addr} {fd : FuncData}
theorem But.fresh {S : Addr → Bool} {H H' : Hp} {a lc p : Addr} {s : Cp05.State} (hB : But a lc H H') (hF : FiAt K X S H' a lc s) (hp : H' p = none) : H p = none := by
  cases h : H p with
  | none => rfl
  | some o =>
    obtain ⟨dx, r, cs, y, f1, f2, _⟩ := hF
    by_cases za : p = a
    · rw [za, f1] at hp; cases hp
    by_cases zl : p = lc
    · rw [zl, f2] at hp; cases hp
    rw [hB p o h za zl] at hp
    cases hp
/-- self.ways_now() -/
theorem now_i {Q : VK} {ta : TE} {σ : L2.St} {H : Hp} {S : Addr → Bool} {a lc : Addr} {st : Cp05.State} (h0 : Ev ta σ H (.ref a)) (Sa : S a = true) (Sl : S lc = true) (av : Av S H) (hF : FiAt K X S H a lc st) (hne : st.chords ≠ [])
    (k : ∀ H2 wy, FiAt K X S H2 a lc st → WaAt K X.CR X.CC X.CW (cutS H2 S) wy st.rules st.chords → But a lc H H2 → Q (.ref wy) H2) : tMeth X.CF "ways_now" (SpNow K X) [] E0 ta tNil σ H Q := by
  obtain ⟨dx, r, cs, y, f1, _⟩ := id hF
  exact m_meth h0 f1 (fiF_no _ _ _ _ (by decide +kernel) (by decide +kernel) (by decide +kernel)) fun H1 e1 => c_nil ⟨a, lc, S, st, rfl, Sa, Sl, av.mono e1, hF.mono e1, hne, fun H2 wy h2 hW hB _ => k H2 wy h2 hW fun b o h1 => hB b o (e1 _ _ h1)⟩
theorem f_fld {ta : TE} {g : Str} {Q : VK} {σ : L2.St} {H : Hp} (h : ta σ H fun x H1 => ∃ a C dx fs v, x = .ref a ∧ H1 a = some (.ins C dx fs) ∧ Cls K C ∧ NoAttr K C g ∧ fs.lookup g = some v ∧ Q v H1) : tFld K ta g σ H Q := h
abbrev nmTe : List Str := ["self", "i", "k", "settings", "cost"]
theorem scTe : FnScope nmTe ["self", "i", "k"] (defScope sTell) := ⟨rfl, rfl, rfl, by decide +kernel, rfl, by decide +kernel, by decide +kernel⟩
theorem ok_tell (F : Fun K "tell_setting" "Filling.tell_setting" sTell f fd) (TF : FiTxt K X.CF) (gl : mg "len" = none) (c3 : Cal P w K mg base "settings_of" 4 ["rules", "chord"] (SpSet K X.CR X.C)) (c4 : Cal P w K mg base "setting_cost" 3 ["rules", "chord", "setting"] (SpCost K X.CR X.C)) (c5 : Cal P w K mg base "numbers_of" 1 ["setting"] (SpDL K RNums)) :
    FnOk P w K mg base CX0 5 f fd ["self", "i", "k"] (SpM K X RTell) := by
  refine F.ok scTe (fun vs H Q E h => ?_) (fun cdv A outer s H vs Q E hr h => ?_)
  · obtain ⟨_, _, _, _, us, ds, _, rfl, _, _, _, _, hd, ⟨_, _, rfl, _⟩, _⟩ := h
    rw [List.length_cons, hd.length]
    rfl
  · obtain ⟨a, lc, S, st, us, ds, c, rfl, Sa, Sl, av, hF, hd, ⟨i, kk, rfl, rfl⟩, k⟩ := h
    have ei : us = [.int i, .int kk] := DpAll.ints (ns := [i, kk]) hd
    subst ei
    have hr3 : Room 3 _ := hr.mono (by decide : 3 ≤ 4)
    have hr1 : Room 1 _ := hr.mono (by decide : 1 ≤ 4)
    refine ⟨_, pss_cons (ps_if (PW.pt (pw_or (pt_not (pt_chain op_le op_lt pe_int (pv 1) (pe_callB call_len_seq (by rfl) gl PySem.boot_len (pa_cons (pe_fld (pv 0) rfl) pa_nil)))) (pw_or1 (pt_cmpR op_lt (pv 2) pe_int (nomark _))))) (pss_one (ps_ret (pe_lst (pa_cons (pe_un un_neg pe_int) pa_nil)))) pss_nil)
      (pss_cons (ps_set (i := 3) scTe.nd rfl (Or.inl rfl) (pe_cal c3 hr (pa_cons (pe_fld (pv 0) rfl) (pa_cons (pe_ix ix_list (pe_fld (pv 0) rfl) (pv 1) (fun _ _ => rfl)) pa_nil))))
      (pss_cons (ps_if (pt_cmpR op_ge (pv 2) (pe_callB call_len_seq (by rfl) gl PySem.boot_len (pa_cons (pv 3) pa_nil)) (nomark _)) (pss_one (ps_ret (pe_lst (pa_cons (pe_un un_neg pe_int) pa_nil)))) pss_nil)
      (pss_cons (ps_set (i := 4) scTe.nd rfl (Or.inl rfl) (pe_cal c4 hr3 (pa_cons (pe_fld (pv 0) rfl) (pa_cons (pe_ix ix_list (pe_fld (pv 0) rfl) (pv 1) (fun _ _ => rfl)) (pa_cons (pe_ix ix_list (pv 3) (pv 2) (fun _ _ => rfl)) pa_nil)))))
      (pss_one (ps_ret (pe_op op_cat (pe_op op_cat (pe_lst (pa_cons (pe_callB call_len_seq (by rfl) gl PySem.boot_len (pa_cons (pv 3) pa_nil)) pa_nil)) (pe_cal c5 hr1 (pa_cons (pe_ix ix_list (pv 3) (pv 2) (fun _ _ => rfl)) pa_nil))) (pe_lst (pa_cons (pv 4) pa_nil)))))))), ?_⟩
    obtain ⟨dx, rr, cs, y0, f1, f2, f3, f4, f5, f6⟩ := id hF
    have hcl : cs.length = st.chords.length := f4.length
    have hstep : Cp05.step st (.settings i kk) = (st, if !Cp05.isIn 0 ((st.chords.length : Int) - 1) i || decide (kk < 0) then Cp05.just (-1) else
      match (Cp05.settings st.rules (st.chords.getD i.toNat ⟨⟨0, 0⟩, [], []⟩))[kk.toNat]? with
      | none => Cp05.just (-3)
      | some x => ⟨((Cp05.settings st.rules (st.chords.getD i.toNat ⟨⟨0, 0⟩, [], []⟩)).length : Int), Cp05.told x ++ [(Cp05.own st.rules (st.chords.getD i.toNat ⟨⟨0, 0⟩, [], []⟩) x : Int)]⟩) := rfl
    refine q_when (b := !(decide (0 ≤ i) && decide (i < (st.chords.length : Int))) || decide (kk < 0)) (et_or (et_not (et_test (ev_bl (K := K) (dv_is (dv_chain dv_int (dv_vi rfl) (dv_i (ev_len (ev_fld (ev_var rfl) f1 TF.cl TF.nC (fiF_chords _ _ _)) (sq_of f2)))) (by rw [hcl]))))) fun _ => et_test (ev_bl (K := K) (dv_B (dv_vi rfl) dv_int))) (fun hb H1 e1 => ?_) (fun hb H1 e1 => ?_)
    · have hs : stepA st (.settings i kk) = (st, [-1]) := by
        unfold stepA
        rw [hstep, if_pos]
        · rfl
        · unfold Cp05.isIn
          rw [← hb]
          congr 3
          exact decide_eq_decide.mpr (by omega)
      rw [hs] at k
      exact s_retI (K := K) (ns := [-1]) (da_cons (dv_neg dv_int) da_nil) (by decide) fun p H2 hp e2 h2 => k H2 p (fresh_back e1 hp) h2 (hF.mono (e1.trans e2)) (But.of (e1.trans e2))
    have hb0 := hb
    simp only [Bool.or_eq_false_iff, Bool.not_eq_false', Bool.and_eq_true, decide_eq_true_eq, decide_eq_false_iff_not] at hb
    obtain ⟨⟨i0, i1⟩, k0⟩ := hb
    have hstep2 : (!Cp05.isIn 0 ((st.chords.length : Int) - 1) i || decide (kk < 0)) = false := by
      unfold Cp05.isIn
      rw [← hb0]
      congr 3
      exact decide_eq_decide.mpr (by omega)
    rw [hstep2] at hstep
    have hi : i.toNat < st.chords.length := by omega
    generalize hch : st.chords.getD i.toNat ⟨⟨0, 0⟩, [], []⟩ = ch at hstep
    have hat : st.chords[i.toNat]? = some ch := by
      rw [List.getElem?_eq_getElem hi, ← hch, List.getD_eq_getElem?_getD, List.getElem?_eq_getElem hi]
      rfl
    have okc := f5.ch ch (List.mem_of_getElem? hat)
    obtain ⟨ac, hac, hCh⟩ := f4.get hat
    have hRu := f3.mono cutS_le
    have hCh' := hCh.mono cutS_le
    have hin : i = ((i.toNat : Nat) : Int) := by omega
    have chordE : ∀ G, Ex H G → ∀ σ : L2.St, σ[0]? = some (some (.ref a)) → σ[1]? = some (some (.int i)) → Ev (tOp (rIxL K) (tFld K (tVar 0) "chords") (tVar 1)) σ G (.ref ac) := fun G e σ h0 h1 => ev_ixL (ev_fld (ev_var h0) (e _ _ f1) TF.cl TF.nC (fiF_chords _ _ _)) (sq_of (e _ _ f2)) (ev_var h1) hin hac
    have rulesE : ∀ G, Ex H G → ∀ σ : L2.St, σ[0]? = some (some (.ref a)) → Ev (tFld K (tVar 0) "rules") σ G (.ref rr) := fun G e σ h0 => ev_fld (ev_var h0) (e _ _ f1) TF.cl TF.nR (fiF_rules _ _ _)
    generalize hset : Cp05.settings st.rules ch = sts at hstep
    have hsl : sts.length ≤ 64000 := by rw [← hset]; exact settings_le okc.ok okc.few
    refine q_asgDL (K := K) (dvl_callS (es := sts.map encSet) (ea_cons (rulesE _ e1 _ rfl) (ea_cons (chordE _ e1 _ rfl rfl) ea_nil)) fun H2 e2 Q2 q2 => ⟨rr, ac, st.rules, ch, rfl, hRu.mono (e1.trans e2), f5.ru, hCh'.mono (e1.trans e2), okc, by rw [hset]; exact q2⟩) fun ps xs H2 hps e2 h2 hx => ?_
    have e12 := e1.trans e2
    have hxl : xs.length = sts.length := by rw [hx.length, List.length_map]
    have hsD : ∀ G, Ex H2 G → Dp K G (.ref ps) (.list (sts.map encSet)) := fun G e => .lst (sq_of (e _ _ h2)) (DpAll.mono e _ hx)
    refine q_when (b := decide ((sts.length : Int) ≤ kk)) (et_test (ev_bl (K := K) (dv_is (dv_B (dv_vi rfl) (dv_len (dv_var rfl (hsD _ (Ex.refl _))))) (by rw [List.length_map])))) (fun hb H3 e3 => ?_) (fun hb H3 e3 => ?_)
    · rw [decide_eq_true_eq] at hb
      have hs : stepA st (.settings i kk) = (st, [-3]) := by
        unfold stepA
        rw [hstep, if_neg Bool.false_ne_true, List.getElem?_eq_none (by omega)]
        rfl
      rw [hs] at k
      exact s_retI (K := K) (ns := [-3]) (da_cons (dv_neg dv_int) da_nil) (by decide) fun p H4 hp e4 h4 => k H4 p (fresh_back (e12.trans e3) hp) h4 (hF.mono ((e12.trans e3).trans e4)) (But.of ((e12.trans e3).trans e4))
    rw [decide_eq_false_iff_not] at hb
    have hk : kk.toNat < sts.length := by omega
    obtain ⟨sx, hsx⟩ : ∃ sx, sts[kk.toNat]? = some sx := ⟨_, List.getElem?_eq_getElem hk⟩
    have hmem : sx ∈ Cp05.settings st.rules ch := by rw [hset]; exact List.mem_of_getElem? hsx
    have hs : stepA st (.settings i kk) = (st, (sts.length : Int) :: (Cp05.told sx ++ [(Cp05.own st.rules ch sx : Int)])) := by
      unfold stepA
      rw [hstep, if_neg Bool.false_ne_true, hsx]
    rw [hs] at k
    have hkn : kk = ((kk.toNat : Nat) : Int) := by omega
    have hsx' : (sts.map encSet)[kk.toNat]? = some (encSet sx) := by rw [List.getElem?_map, hsx] <;> rfl
    obtain ⟨vx, hvx, hvd⟩ := hx.get hsx'
    obtain ⟨tx, xt, rfl, htx, hxt⟩ := hvd.tup_inv
    obtain ⟨n1, n2, n3, rfl, _⟩ := mem_settings hmem
    have settE : ∀ G, Ex H2 G → ∀ σ : L2.St, σ[3]? = some (some (.ref ps)) → σ[2]? = some (some (.int kk)) → Ev (tOp (rIxL K) (tVar 3) (tVar 2)) σ G (.ref tx) := fun G e σ h3 h2' => ev_ixL (ev_var h3) (sq_of (e _ _ h2)) (ev_var h2') hkn hvx
    have e13 := e12.trans e3
    have hvx0 : Dp K H2 (.ref tx) (encSet [n1, n2, n3]) := .tup htx hxt
    refine q_asgE (v := .int (Cp05.own st.rules ch [n1, n2, n3] : Int)) (ev_call (ea_cons (rulesE _ e13 _ rfl) (ea_cons (chordE _ e13 _ rfl rfl) (ea_cons (settE _ e3 _ rfl rfl) ea_nil))) fun H6 e6 Q6 q6 E6 => ⟨rr, ac, .ref tx, st.rules, ch, [n1, n2, n3], rfl, hRu.mono (e13.trans e6), f5.ru, hCh'.mono (e13.trans e6), okc, Dp.mono (e3.trans e6) _ hvx0, hmem, q6⟩) fun H4 e4 => ?_
    have e34 := e3.trans e4
    refine s_retDL (K := K) (ds := ((sts.length : Int) :: (Cp05.told [n1, n2, n3] ++ [(Cp05.own st.rules ch [n1, n2, n3] : Int)])).map .int) (dvl_is (dvl_cat (dvl_cat (dvl_lst (da_cons (dv_is (dv_len (dv_var rfl (hsD _ e34))) (by rw [List.length_map])) da_nil) (by show 1 ≤ 100000; decide)) (dvl_call (es := (Cp05.told [n1, n2, n3]).map .int) (da_cons (dv_ev (settE _ e34 _ rfl rfl) (Dp.mono e34 _ hvx0)) da_nil) ⟨[n1, n2, n3], rfl, by show 3 ≤ 3; decide, rfl⟩) (by show 1 + 6 ≤ 100000; decide)) (dvl_lst (da_cons (dv_vi rfl) da_nil) (by show 1 ≤ 100000; decide)) (by show 7 + 1 ≤ 100000; decide)) rfl) fun p xs5 H5 hp e5 h5 hx5 => ?_
    rw [hx5.ints] at h5
    have eF : Ex H H5 := ((e12.trans e3).trans e4).trans e5
    exact k H5 p (fresh_back ((e12.trans e3).trans e4) hp) h5 (hF.mono eF) (But.of eF)
abbrev nmTc : List Str := ["self", "p", "numbers"]
theorem scTc : FnScope nmTc ["self", "p"] (defScope sCount) := ⟨rfl, rfl, rfl, by decide +kernel, rfl, by decide +kernel, by decide +kernel⟩
theorem allW_counts {q : Cp05.Rules} {l : List Cp05.Chord} (h : l ≠ []) : Cp05.counts q l = (List.range 120).map fun p => (allW q l).count p := by
  obtain ⟨c, l', rfl⟩ := List.exists_cons_of_ne_nil h
  exact counts_list q c l'
theorem ok_count (F : Fun K "tell_count" "Filling.tell_count" sCount f fd) (TF : FiTxt K X.CF) (TW : WaTxt K X.CW) (gl : mg "len" = none) (gs : mg "sum" = none) (gC : Gi mg "COSTS" 120) (m : MtC P w K mg base X.CF "ways_now" 15 ["self"] (SpNow K X)) :
    FnOk P w K mg base CX0 16 f fd ["self", "p"] (SpM K X RCount) := by
  obtain ⟨f1', fd1, M1, b1, F1⟩ := m
  refine F.ok scTc (fun vs H Q E h => ?_) (fun cdv A outer s H vs Q E hr h => ?_)
  · obtain ⟨_, _, _, _, us, ds, _, rfl, _, _, _, _, hd, ⟨_, rfl, _⟩, _⟩ := h
    rw [List.length_cons, hd.length]
    rfl
  · obtain ⟨a, lc, S, st, us, ds, c, rfl, Sa, Sl, av, hF, hd, ⟨p, rfl, rfl⟩, k⟩ := h
    have ei : us = [.int p] := DpAll.ints (ns := [p]) hd
    subst ei
    refine ⟨_, pss_cons (ps_if (pt_not (pt_chain op_le op_lt pe_int (pv 1) (pe_gi gC))) (pss_one (ps_ret (pe_lst (pa_cons (pe_un un_neg pe_int) pa_nil)))) pss_nil)
      (pss_cons (ps_if (pt_cmpR op_eq (pe_callB call_len_seq (by rfl) gl PySem.boot_len (pa_cons (pe_fld (pv 0) rfl) pa_nil)) pe_int (nomark _)) (pss_one (ps_ret (pe_lst (pa_cons (pe_un un_neg pe_int) pa_nil)))) pss_nil)
      (pss_cons (ps_set (i := 2) scTc.nd rfl (Or.inl rfl) (pe_fld (pe_meth0 (pv 0) TF.cl M1 F1 hr b1 .nil pass0) rfl))
      (pss_one (ps_ret (pe_lst (pa_cons (pe_callB (cr_sum rfl) (by rfl) gs (by decide +kernel) (pa_cons (pe_slice sl_list (pv 2) po_none (po_some (pe_op op_add (pv 1) pe_int))) pa_nil)) (pa_cons (pe_ix ix_list (pv 2) (pv 1) (fun _ _ => rfl)) pa_nil))))))), ?_⟩
    obtain ⟨dx, rr, cs, y0, f1, f2, f3, f4, f5, f6⟩ := id hF
    have hcl : cs.length = st.chords.length := f4.length
    have hstep : Cp05.step st (.count p) = (st, if !Cp05.isIn 0 119 p then Cp05.just (-1) else if st.chords.isEmpty then Cp05.just (-7) else ⟨(((Cp05.counts st.rules st.chords).take (p.toNat + 1)).foldl (· + ·) 0 : Nat), [(((Cp05.counts st.rules st.chords).getD p.toNat 0 : Nat) : Int)]⟩) := rfl
    refine q_when (b := !(decide (0 ≤ p) && decide (p < 120))) (et_not (dt_test (dv_chain (K := K) dv_int (dv_vi rfl) dv_int))) (fun hb H1 e1 => ?_) (fun hb H1 e1 => ?_)
    · have hs : stepA st (.count p) = (st, [-1]) := by
        unfold stepA
        rw [hstep, if_pos]
        · rfl
        · unfold Cp05.isIn
          rw [← hb]
          congr 2
          exact decide_eq_decide.mpr (by omega)
      rw [hs] at k
      exact s_retI (K := K) (ns := [-1]) (da_cons (dv_neg dv_int) da_nil) (by decide) fun p H2 hp e2 h2 => k H2 p (fresh_back e1 hp) h2 (hF.mono (e1.trans e2)) (But.of (e1.trans e2))
    have hin : (!Cp05.isIn 0 119 p) = false := by
      unfold Cp05.isIn
      rw [← hb]
      congr 2
      exact decide_eq_decide.mpr (by omega)
    rw [hin, if_neg Bool.false_ne_true] at hstep
    simp only [Bool.not_eq_false', Bool.and_eq_true, decide_eq_true_eq] at hb
    refine q_when (b := decide ((st.chords.length : Int) = 0)) (et_test (ev_is (ev_bl (K := K) (dv_eqI (dv_i (ev_len (ev_fld (ev_var rfl) (e1 _ _ f1) TF.cl TF.nC (fiF_chords _ _ _)) (sq_of (e1 _ _ f2)))) dv_int)) (by rw [hcl]))) (fun hb2 H2 e2 => ?_) (fun hb2 H2 e2 => ?_)
    · rw [decide_eq_true_eq] at hb2
      have he : st.chords = [] := List.length_eq_zero_iff.mp (by omega)
      have hs : stepA st (.count p) = (st, [-7]) := by
        unfold stepA
        rw [hstep, if_pos (by rw [he]; rfl)]
        rfl
      rw [hs] at k
      exact s_retI (K := K) (ns := [-7]) (da_cons (dv_neg dv_int) da_nil) (by decide) fun p H3 hp e3 h3 => k H3 p (fresh_back (e1.trans e2) hp) h3 (hF.mono ((e1.trans e2).trans e3)) (But.of ((e1.trans e2).trans e3))
    · rw [decide_eq_false_iff_not] at hb2
      have hne : st.chords ≠ [] := fun z => hb2 (by rw [z]; rfl)
      have e12 := e1.trans e2
      refine a_asg (f_fld (now_i (ev_var rfl) Sa Sl (av.mono e12) (hF.mono e12) hne fun H3 wy hF3 hW3 hB3 => ?_))
      obtain ⟨x, hx⟩ := hW3.mono cutS_le
      refine ⟨wy, X.CW, x.dx, _, .ref x.nl, rfl, hx.obj, TW.cl, TW.nN, waF_numbers _ _ _ _ _, ?_⟩
      obtain ⟨j, hj⟩ : ∃ j : Nat, p = (j : Int) := ⟨p.toNat, by omega⟩
      subst hj
      obtain ⟨g, hg⟩ : ∃ g : Nat → Nat, g = fun p => (allW st.rules st.chords).count p := ⟨_, rfl⟩
      have hnum : Dp K H3 (.ref x.nl) (.list (((List.range 120).map fun p => (g p : Int)).map .int)) := by
        have := hx.num
        rw [List.map_map, hg]
        exact this
      have hs : stepA st (.count (j : Int)) = (st, [(((((List.range 120).map g).take (j + 1)).sum : Nat) : Int), (g j : Int)]) := by
        unfold stepA
        rw [hstep, if_neg (by simpa using hne), allW_counts hne, ← hg]
        simp only [Int.toNat_natCast]
        rw [foldl_sum, Nat.zero_add, List.getD_eq_getElem?_getD, List.getElem?_map, List.getElem?_range (by omega)]
        rfl
      rw [hs] at k
      refine s_retI (K := K) (σ := [some (.ref a), some (.int (j : Int)), some (.ref x.nl)]) (ns := [(((((List.range 120).map g).take (j + 1)).sum : Nat) : Int), (g j : Int)]) (da_cons (dv_is (dv_sum (ns := ((List.range 120).map fun p => (g p : Int)).take (j + 1)) (dvl_is (dvl_sl (dv_var rfl hnum) eo_none (eo_some (ev_int (K := K) (dv_I (dv_vi rfl) dv_int)))) ?_).dv) ?_) (da_cons (dv_ixL (j := j) (dv_var rfl hnum) (dv_vi rfl) rfl ?_) da_nil)) (by show 2 ≤ 100000; decide) fun p H4 hp e4 h4 => k H4 p ?_ h4 (hF3.mono e4) ?_
      · have e9 : (j : Int) + 1 = ((j + 1 : Nat) : Int) := by omega
        rw [e9, cutP_upto, List.map_take]
      · congr 1
        rw [← List.map_take, ← List.map_take, sum_cast]
      · rw [List.getElem?_map, List.getElem?_map, List.getElem?_range (by omega)]
        rfl
      · exact fresh_back e12 (hB3.fresh hF3 hp)
      · exact fun b o h1 h2 h3 => e4 _ _ (hB3 b o (e12 _ _ h1) h2 h3)
abbrev nmCs : List Str := ["self", "numbers", "cost", "costs", "answer"]
theorem scCs : FnScope nmCs ["self"] (defScope sCounts) := ⟨rfl, rfl, rfl, by decide +kernel, rfl, by decide +kernel, by decide +kernel⟩
theorem ok_counts (F : Fun K "tell_counts" "Filling.tell_counts" sCounts f fd) (TF : FiTxt K X.CF) (TW : WaTxt K X.CW) (gl : mg "len" = none) (gr : mg "range" = none) (gC : Gi mg "COSTS" 120) (m : MtC P w K mg base X.CF "ways_now" 15 ["self"] (SpNow K X)) :
    FnOk P w K mg base CX0 16 f fd ["self"] (SpM K X RCounts) := by
  obtain ⟨f1', fd1, M1, b1, F1⟩ := m
  refine F.ok scCs (fun vs H Q E h => ?_) (fun cdv A outer s H vs Q E hr h => ?_)
  · obtain ⟨_, _, _, _, us, ds, _, rfl, _, _, _, _, hd, ⟨rfl, _⟩, _⟩ := h
    rw [List.length_cons, hd.length]
    rfl
  · obtain ⟨a, lc, S, st, us, ds, c, rfl, Sa, Sl, av, hF, hd, ⟨rfl, rfl⟩, k⟩ := h
    cases hd
    refine ⟨_, pss_cons (ps_if (pt_cmpR op_eq (pe_callB call_len_seq (by rfl) gl PySem.boot_len (pa_cons (pe_fld (pv 0) rfl) pa_nil)) pe_int (nomark _)) (pss_one (ps_ret (pe_lst (pa_cons (pe_un un_neg pe_int) pa_nil)))) pss_nil)
      (pss_cons (ps_set (i := 1) scCs.nd rfl (Or.inr rfl) (pe_fld (pe_meth0 (pv 0) TF.cl M1 F1 hr b1 .nil pass0) rfl))
      (pss_cons (ps_setLc (i := 3) (own := [("cost", 2)]) (g := gName 2) (tt := tTest (tOp (rI0 fun i j => .bl (decide (j < i))) (tOp (rIxL K) (tVar 1) (tVar 2)) (tC (.int 0)))) rfl scCs.nd rfl rfl (sw_true rfl rfl rfl (by decide +kernel)) (pi_range1 (by rfl) gr (pa_cons (pe_gi gC) pa_nil)) (blkOk_by (own := [("cost", 2)]) (N := nmCs) (sc := defScope sCounts) (by decide +kernel)) (fun _ _ _ _ _ => pg_name (i := 2) scCs.nd rfl (Or.inl rfl)) (fun _ _ _ _ _ => pts_one (pt_cmpR op_gt (pe_ix ix_list (pv 1) (pv 2) (fun _ _ => rfl)) pe_int (nomark _))) (fun _ _ _ _ _ => pv 2))
      (pss_cons (ps_set (i := 4) scCs.nd rfl (Or.inl rfl) (pe_lst (pa_cons (pe_callB call_len_seq (by rfl) gl PySem.boot_len (pa_cons (pv 3) pa_nil)) pa_nil)))
      (pss_cons (ps_for PassesOwn.never rfl (pi_list (pv 3)) (pg_name (i := 2) scCs.nd rfl (Or.inl rfl))
        (pss_one (ps_expr (pe_bm PySem.F.plainAttrs_list PySem.F.slot_list_extend PySem.F.type_list_extend mt_extend (pv 4) (pa_cons (pe_lst (pa_cons (pv 2) (pa_cons (pe_ix ix_list (pv 1) (pv 2) (fun _ _ => rfl)) pa_nil))) pa_nil)))))
      (pss_one (ps_ret (pv 4))))))), ?_⟩
    obtain ⟨dx, rr, cs, y0, f1, f2, f3, f4, f5, f6⟩ := id hF
    have hcl : cs.length = st.chords.length := f4.length
    have hstep : Cp05.step st .counts = (st, if st.chords.isEmpty then Cp05.just (-7) else ⟨(((Cp05.counts st.rules st.chords).zipIdx.filter fun x => x.1 != 0).length : Int), ((Cp05.counts st.rules st.chords).zipIdx.filter fun x => x.1 != 0).flatMap fun x => [(x.2 : Int), (x.1 : Int)]⟩) := rfl
    refine q_when (b := decide ((st.chords.length : Int) = 0)) (et_test (ev_is (ev_bl (K := K) (dv_eqI (dv_i (ev_len (ev_fld (ev_var rfl) f1 TF.cl TF.nC (fiF_chords _ _ _)) (sq_of f2))) dv_int)) (by rw [hcl]))) (fun hb2 H2 e2 => ?_) (fun hb2 H2 e2 => ?_)
    · rw [decide_eq_true_eq] at hb2
      have he : st.chords = [] := List.length_eq_zero_iff.mp (by omega)
      have hs : stepA st .counts = (st, [-7]) := by
        unfold stepA
        rw [hstep, if_pos (by rw [he]; rfl)]
        rfl
      rw [hs] at k
      exact s_retI (K := K) (ns := [-7]) (da_cons (dv_neg dv_int) da_nil) (by decide) fun p H3 hp e3 h3 => k H3 p (fresh_back e2 hp) h3 (hF.mono (e2.trans e3)) (But.of (e2.trans e3))
    · rw [decide_eq_false_iff_not] at hb2
      have hne : st.chords ≠ [] := fun z => hb2 (by rw [z]; rfl)
      refine a_asg (f_fld (now_i (ev_var rfl) Sa Sl (av.mono e2) (hF.mono e2) hne fun H3 wy hF3 hW3 hB3 => ?_))
      obtain ⟨x, hx⟩ := hW3.mono cutS_le
      refine ⟨wy, X.CW, x.dx, _, .ref x.nl, rfl, hx.obj, TW.cl, TW.nN, waF_numbers _ _ _ _ _, ?_⟩
      obtain ⟨g, hg⟩ : ∃ g : Nat → Nat, g = fun p => (allW st.rules st.chords).count p := ⟨_, rfl⟩
      have hnum : ∀ G, Ex H3 G → Dp K G (.ref x.nl) (.list ((List.range 120).map fun p => natD (g p))) := fun G e => by
        rw [hg]
        exact Dp.mono e _ hx.num
      obtain ⟨ks, hks⟩ : ∃ ks, ks = (List.range 120).filter fun i => decide (0 < g i) := ⟨_, rfl⟩
      have hkl : ks.length ≤ 120 := by
        rw [hks]
        have := List.length_filter_le (fun i => decide (0 < g i)) (List.range 120)
        rwa [List.length_range] at this
      have hk120 : ∀ i ∈ ks, i < 120 := fun i hi => by
        rw [hks] at hi
        exact List.mem_range.mp (List.mem_filter.mp hi).1
      have hfil : ((Cp05.counts st.rules st.chords).zipIdx.filter fun x => x.1 != 0) = ks.map fun i => (g i, i) := by
        rw [allW_counts hne, ← hg, zip_range, List.filter_map, hks]
        congr 1
        apply List.filter_congr
        intro i _
        show (g i != 0) = decide (0 < g i)
        cases g i <;> simp
      have hs : stepA st .counts = (st, (ks.length : Int) :: ks.flatMap fun (i : Nat) => [(i : Int), (g i : Int)]) := by
        unfold stepA
        rw [hstep, if_neg (by simpa using hne), hfil, List.length_map, List.flatMap_map]
      rw [hs] at k
      have numE : ∀ G, Ex H3 G → ∀ (σ : L2.St) (i : Nat), i < 120 → σ[1]? = some (some (.ref x.nl)) → σ[2]? = some (some (.int (i : Int))) → Dv K (tOp (rIxL K) (tVar 1) (tVar 2)) σ G (.int (g i : Int)) := fun G e σ i hi h1 h2 => dv_ixL (j := i) (dv_var h1 (hnum G e)) (dv_vi h2) rfl (by
        rw [List.getElem?_map, List.getElem?_range hi]
        rfl)
      refine q_asgDL (K := K) (σ := [some (.ref a), some (.ref x.nl), none, none, none]) (ds := ks.map natD) (dvl_is (dvl_lcN (n := 120) (fun i => decide (0 < g i)) natD (da_one dv_int) (by decide) (fun _ => rfl) (fun _ => rfl) (fun i hi H4 e4 => dt_test (dv_is (dv_B (K := K) (numE H4 e4 _ i (by omega) rfl rfl) dv_int) ?_)) (fun i hi _ H4 e4 => dv_vi rfl)) (by rw [hks]; rfl)) fun lk xk H4 hlk e4 h4 hxk => ?_
      · congr 1
        exact decide_eq_decide.mpr (by omega)
      have hxk' : xk = ks.map fun (i : Nat) => V.int (i : Int) := by
        have h9 : DpAll K H4 xk ((ks.map fun (i : Nat) => (i : Int)).map .int) := by
          rw [List.map_map]
          exact hxk
        rw [h9.ints, List.map_map]
        rfl
      have hlkD : ∀ G, Ex H4 G → Dp K G (.ref lk) (.list (ks.map natD)) := fun G e => .lst (sq_of (e _ _ h4)) (DpAll.mono e _ hxk)
      refine q_asgDL (K := K) (ds := [(ks.length : Int)].map .int) (dvl_lst (da_cons (dv_is (dv_len (dv_var rfl (hlkD _ (Ex.refl _)))) (by rw [List.length_map])) da_nil) (by show 1 ≤ 100000; decide)) fun pa ya H5 hpa e5 h5 hya => ?_
      rw [hya.ints] at h5
      have hpa3 : H3 pa = none := fresh_back e4 hpa
      have hpalk : lk ≠ pa := fun z => by rw [← z, h4] at hpa; cases hpa
      refine q_forLn (a := lk) (xs := xk) (σ := [some (.ref a), some (.ref x.nl), none, some (.ref lk), some (.ref pa)]) (ev_var rfl) (sq_of (e5 _ _ h4))
        (fun j σ' H' => ∃ o2, σ' = [some (.ref a), some (.ref x.nl), o2, some (.ref lk), some (.ref pa)] ∧ Ex H4 H' ∧ H' pa = some (.lst (((ks.length : Int) :: (ks.take j).flatMap fun (i : Nat) => [(i : Int), (g i : Int)]).map V.int)))
        (fun H6 e6 => ⟨none, rfl, e5.trans e6, e6 _ _ h5⟩) (fun j σ' H' _ ⟨_, _, e, _⟩ => sq_of (e _ _ h4)) (fun j v σ' H' hj ⟨o2, eσ, e6, h6⟩ => ?_) (fun σ' H' ⟨o2, eσ, e6, h6⟩ => ?_)
      · subst eσ
        rw [hxk', List.getElem?_map] at hj
        obtain ⟨i, hi, rfl⟩ := Option.map_eq_some_iff.mp hj
        have hi120 := hk120 i (List.mem_of_getElem? hi)
        have hjl : j < ks.length := (List.getElem?_eq_some_iff.mp hi).1
        have hfl : ((ks.take j).flatMap fun (i : Nat) => [(i : Int), (g i : Int)]).length ≤ 240 := by
          rw [List.length_flatMap]
          show sm (ks.take j) (fun _ => 2) ≤ 240
          have : ∀ l : List Nat, sm l (fun _ => 2) = 2 * l.length := fun l => by
            induction l with
            | nil => rfl
            | cons a l ih =>
              rw [sm_cons, ih, List.length_cons]
              omega
          rw [this, List.length_take]
          omega
        refine s_extI (K := K) (ds := [(i : Int), (g i : Int)].map .int) h6 (ev_var rfl) (dvl_lst (da_cons (dv_vi rfl) (da_cons (numE _ (e4.trans e6) _ i hi120 rfl rfl) da_nil)) (by show 2 ≤ 100000; decide)) ?_ fun pb yb H7 hpb e7 h7 hyb => ?_
        · simp only [List.length_map, List.length_cons, List.length_nil]
          omega
        rw [hyb.ints]
        refine ⟨_, rfl, Ex.mut (e6.trans e7) hpa, ?_⟩
        rw [upd_same, List.take_add_one, hi, List.flatMap_append]
        congr 2
        rw [← List.map_append]
        rfl
      · subst eσ
        rw [hxk', List.length_map, List.take_length] at h6
        refine s_ret (ev_var rfl) fun H7 e7 => k H7 pa ?_ (e7 _ _ h6) (hF3.mono ((e4.trans e6).trans e7)) ?_
        · exact fresh_back e2 (hB3.fresh hF3 hpa3)
        · exact fun b o h1 h2 h3 => ((e4.trans e6).trans e7) _ _ (hB3 b o (e2 _ _ h1) h2 h3)
end
end Bf

namespace Bf
open PySem PySem.Spec PyProof.Rows L2 Evl
theorem zip_fst (f : Nat → Nat) (l : List Nat) : ((l.map fun i => (f i, i)).map (·.1)) = l.map f := by
  rw [List.map_map]
  rfl
theorem nth_none {q : Cp05.Rules} {l : List Cp05.Chord} {n : Nat} (hne : l ≠ []) (h : ((List.range 120).map fun i => (allW q l).count i).sum ≤ n) : Cp05.nth q l n = none := by
  unfold Cp05.nth
  rw [allW_counts hne, zip_range]
  have : Cp05.pick ((List.range 120).map fun i => ((allW q l).count i, i)) n = none := (pick_none _ _).mpr (by
    rw [zip_fst (fun i => (allW q l).count i)]
    exact h)
  rw [this]
  rfl
theorem nth_some {q : Cp05.Rules} {l : List Cp05.Chord} {n : Nat} (hne : l ≠ []) (h : n < ((List.range 120).map fun i => (allW q l).count i).sum) : ∃ p k, p ≤ 119 ∧ n = ((List.range p).map fun i => (allW q l).count i).sum + k ∧ k < (allW q l).count p ∧ Cp05.nth q l n = some (p, selL q l none p k) := by
  cases hp : Cp05.pick ((List.range 120).map fun i => ((allW q l).count i, i)) n with
  | none =>
    have := (pick_none _ _).mp hp
    rw [zip_fst (fun i => (allW q l).count i)] at this
    omega
  | some x =>
    obtain ⟨p, k⟩ := x
    obtain ⟨i, y, hi, h2, h3, h4, h5⟩ := (pick_some _ _ _ _).mp hp
    have hi' : i < 120 := by
      have := (List.getElem?_eq_some_iff.mp hi).1
      rwa [List.length_map, List.length_range] at this
    rw [List.getElem?_map, List.getElem?_range hi'] at hi
    cases hi
    simp only at h2 h5
    subst h2
    have htk : (((List.range 120).map fun i => ((allW q l).count i, i)).take i).map (·.1) = (List.range i).map fun i => (allW q l).count i := by
      rw [← List.map_take, zip_fst (fun i => (allW q l).count i), List.take_range, Nat.min_eq_left (by omega)]
    rw [htk] at h4
    refine ⟨i, k, by omega, h4, h5, ?_⟩
    unfold Cp05.nth
    rw [allW_counts hne, zip_range, hp]
    show some (i, Cp05.nthFrom q l (Cp05.rowsOf q l) none i k) = _
    rw [nthFrom_sel q l none i k (by omega) (fun y hy => by cases hy)]
    rfl
theorem sel_of (q : Cp05.Rules) : ∀ (l : List Cp05.Chord) (b : Option (List Int)) (p n : Nat), (selL q l b p n).length ≤ l.length ∧ ∀ s ∈ selL q l b p n, ∃ x y z, s = [x, y, z]
  | [], b, p, n => ⟨Nat.le_refl _, fun s hs => by cases hs⟩
  | c :: l, b, p, n => by
    have e : selL q (c :: l) b p n = match Cp05.pick ((Cp05.settings q c).map fun s => (manyN q l b c s p, s)) n with
      | none => []
      | some x => x.1 :: selL q l (some (sndC c x.1)) (p - priceN q b c x.1) x.2 := rfl
    cases hp : Cp05.pick ((Cp05.settings q c).map fun s => (manyN q l b c s p, s)) n with
    | none =>
      rw [hp] at e
      rw [e]
      exact ⟨Nat.zero_le _, fun s hs => by cases hs⟩
    | some x =>
      rw [hp] at e
      rw [e]
      obtain ⟨h1, h2⟩ := sel_of q l (some (sndC c x.1)) (p - priceN q b c x.1) x.2
      refine ⟨by simp only [List.length_cons]; omega, fun s hs => ?_⟩
      rcases List.mem_cons.mp hs with rfl | hs
      · obtain ⟨i, y, hi, hy, _⟩ := (pick_some _ _ x.1 x.2).mp hp
        rw [List.getElem?_map] at hi
        obtain ⟨t, ht, rfl⟩ := Option.map_eq_some_iff.mp hi
        simp only at hy
        rw [← hy]
        exact three_of (List.mem_of_getElem? ht)
      · exact h2 s hs
theorem told_flat : ∀ (l : List Cp05.Setting), (∀ s ∈ l, ∃ x y z, s = [x, y, z]) → (l.flatMap Cp05.told).length = 6 * l.length
  | [], _ => rfl
  | s :: l, h => by
    obtain ⟨x, y, z, rfl⟩ := h s (by simp)
    rw [List.flatMap_cons, List.length_append, told_flat l fun s hs => h s (List.mem_cons_of_mem _ hs), List.length_cons]
    show 6 + _ = _
    omega
theorem notes_of : ∀ (ns : List Int) (nts : List Cp05.Note), Cp05.notes ns = some nts → ns.length = 2 * nts.length ∧ ∀ n ∈ nts, Cp05.isNote n = true
  | [], nts, h => by
    cases h
    exact ⟨rfl, fun n hn => by cases hn⟩
  | [x], nts, h => by cases h
  | d :: a :: l, nts, h => by
    have e : Cp05.notes (d :: a :: l) = if Cp05.isNote ⟨d, a⟩ = true then (Cp05.notes l).map fun r => ⟨d, a⟩ :: r else none := rfl
    rw [e] at h
    by_cases hn : Cp05.isNote ⟨d, a⟩ = true
    · rw [if_pos hn] at h
      obtain ⟨r, hr, rfl⟩ := Option.map_eq_some_iff.mp h
      obtain ⟨h1, h2⟩ := notes_of l r hr
      refine ⟨by simp only [List.length_cons]; omega, fun n hm => ?_⟩
      rcases List.mem_cons.mp hm with rfl | hm
      · exact hn
      · exact h2 n hm
    · rw [if_neg hn] at h
      cases h
theorem threes_of : ∀ (m : Nat) (nts : List Cp05.Note), nts.length = 3 * m → (∀ n ∈ nts, Cp05.isNote n = true) → (Cp05.threes nts).length = m ∧ ∀ s ∈ Cp05.threes nts, Is3 s
  | 0, nts, h, _ => by
    have : nts = [] := List.length_eq_zero_iff.mp (by omega)
    subst this
    exact ⟨rfl, fun s hs => by cases hs⟩
  | m + 1, nts, h, hn => by
    match nts, h, hn with
    | a :: b :: c :: l, h, hn =>
      obtain ⟨h1, h2⟩ := threes_of m l (by simp only [List.length_cons] at h; omega) fun n hm => hn n (by simp [hm])
      refine ⟨?_, fun s hs => ?_⟩
      · show (Cp05.threes l).length + 1 = m + 1
        omega
      · have hs' : s = [a, b, c] ∨ s ∈ Cp05.threes l := List.mem_cons.mp hs
        rcases hs' with rfl | hs
        · exact ⟨a, b, c, rfl, hn a (by simp), hn b (by simp), hn c (by simp)⟩
        · exact h2 s hs
    | [], h, _ => simp at h
    | [_], h, _ => simp at h; omega
    | [_, _], h, _ => simp at h; omega
section
variable {P : Program} {w : World} {K : PySem.W.Frag} {mg : Str → Option Value} {base : Heap} {X : Tx} {f : Addr} {fd : FuncData}
theorem ev_ixT {σ : L2.St} {H : Hp} {ta tb : TE} {a : Addr} {xs : List V} {i : Int} {j : Nat} {v : V} (ha : Ev ta σ H (.ref a)) (hs : SqT K H a xs) (hb : Ev tb σ H (.int i)) (e : i = (j : Int)) (h : xs[j]? = some v) : Ev (tOp (rIxT K) ta tb) σ H v := ev_op ha hb (rv_ixT hs (at_of e h))
abbrev nmWy : List Str := ["self", "n", "ways", "way", "answer", "setting"]
theorem scWy : FnScope nmWy ["self", "n"] (defScope sWay) := ⟨rfl, rfl, rfl, by decide +kernel, rfl, by decide +kernel, by decide +kernel⟩
theorem ok_way (F : Fun K "tell_way" "Filling.tell_way" sWay f fd) (TF : FiTxt K X.CF) (TW : WaTxt K X.CW) (gl : mg "len" = none) (m : MtC P w K mg base X.CF "ways_now" 15 ["self"] (SpNow K X)) (m2 : MtC P w K mg base X.CW "how_many" 1 ["self"] (SpHm K X.CR X.CC X.CW)) (m3 : MtC P w K mg base X.CW "nth" 8 ["self", "n"] (SpNth K X.CR X.CC X.CW)) (c5 : Cal P w K mg base "numbers_of" 1 ["setting"] (SpDL K RNums)) :
    FnOk P w K mg base CX0 16 f fd ["self", "n"] (SpM K X RWay) := by
  obtain ⟨f1', fd1, M1, b1, F1⟩ := m
  obtain ⟨f2', fd2, M2, b2, F2⟩ := m2
  obtain ⟨f3', fd3, M3, b3, F3⟩ := m3
  refine F.ok scWy (fun vs H Q E h => ?_) (fun cdv A outer s H vs Q E hr h => ?_)
  · obtain ⟨_, _, _, _, us, ds, _, rfl, _, _, _, _, hd, ⟨_, rfl, _⟩, _⟩ := h
    rw [List.length_cons, hd.length]
    rfl
  · obtain ⟨a, lc, S, st, us, ds, c, rfl, Sa, Sl, av, hF, hd, ⟨n, rfl, rfl⟩, k⟩ := h
    have ei : us = [.int n] := DpAll.ints (ns := [n]) hd
    subst ei
    have hr1 : Room 1 _ := hr.mono (by decide : 1 ≤ 15)
    have hr8 : Room 8 _ := hr.mono (by decide : 8 ≤ 15)
    refine ⟨_, pss_cons (ps_if (pt_cmpR op_lt (pv 1) pe_int (nomark _)) (pss_one (ps_ret (pe_lst (pa_cons (pe_un un_neg pe_int) pa_nil)))) pss_nil)
      (pss_cons (ps_if (pt_cmpR op_eq (pe_callB call_len_seq (by rfl) gl PySem.boot_len (pa_cons (pe_fld (pv 0) rfl) pa_nil)) pe_int (nomark _)) (pss_one (ps_ret (pe_lst (pa_cons (pe_un un_neg pe_int) pa_nil)))) pss_nil)
      (pss_cons (ps_set (i := 2) scWy.nd rfl (Or.inl rfl) (pe_meth0 (pv 0) TF.cl M1 F1 hr b1 .nil pass0))
      (pss_cons (ps_if (pt_cmpR op_ge (pv 1) (pe_meth0 (pv 2) TW.cl M2 F2 hr1 b2 .nil pass0) (nomark _)) (pss_one (ps_ret (pe_lst (pa_cons (pe_un un_neg pe_int) pa_nil)))) pss_nil)
      (pss_cons (ps_set (i := 3) scWy.nd rfl (Or.inl rfl) (pe_meth (pv 2) TW.cl M3 F3 hr8 b3 .nil pass0 (pa_cons (pv 1) pa_nil)))
      (pss_cons (ps_set (i := 4) scWy.nd rfl (Or.inl rfl) (pe_lst (pa_cons (pe_ix ix_tup (pv 3) pe_int (fun _ _ => rfl)) pa_nil)))
      (pss_cons (ps_for PassesOwn.never rfl (pi_list (pe_ix ix_tup (pv 3) pe_int (fun _ _ => rfl))) (pg_name (i := 5) scWy.nd rfl (Or.inl rfl))
        (pss_one (ps_expr (pe_bm PySem.F.plainAttrs_list PySem.F.slot_list_extend PySem.F.type_list_extend mt_extend (pv 4) (pa_cons (pe_cal c5 hr1 (pa_cons (pv 5) pa_nil)) pa_nil)))))
      (pss_one (ps_ret (pv 4))))))))), ?_⟩
    obtain ⟨dx, rr, cs, y0, f1, f2, f3, f4, f5, f6⟩ := id hF
    have hcl : cs.length = st.chords.length := f4.length
    have hstep : Cp05.step st (.nth n) = (st, if n < 0 then Cp05.just (-1) else if st.chords.isEmpty then Cp05.just (-7) else match Cp05.nth st.rules st.chords n.toNat with
      | none => Cp05.just (-3)
      | some x => ⟨(x.1 : Int), x.2.flatMap Cp05.told⟩) := rfl
    refine q_when (b := decide (n < 0)) (dt_test (dv_B (K := K) (dv_vi rfl) dv_int)) (fun hb H1 e1 => ?_) (fun hb H1 e1 => ?_)
    · rw [decide_eq_true_eq] at hb
      have hs : stepA st (.nth n) = (st, [-1]) := by
        unfold stepA
        rw [hstep, if_pos hb]
        rfl
      rw [hs] at k
      exact s_retI (K := K) (ns := [-1]) (da_cons (dv_neg dv_int) da_nil) (by decide) fun p H2 hp e2 h2 => k H2 p (fresh_back e1 hp) h2 (hF.mono (e1.trans e2)) (But.of (e1.trans e2))
    rw [decide_eq_false_iff_not] at hb
    rw [if_neg hb] at hstep
    refine q_when (b := decide ((st.chords.length : Int) = 0)) (et_test (ev_is (ev_bl (K := K) (dv_eqI (dv_i (ev_len (ev_fld (ev_var rfl) (e1 _ _ f1) TF.cl TF.nC (fiF_chords _ _ _)) (sq_of (e1 _ _ f2)))) dv_int)) (by rw [hcl]))) (fun hb2 H2 e2 => ?_) (fun hb2 H2 e2 => ?_)
    · rw [decide_eq_true_eq] at hb2
      have he : st.chords = [] := List.length_eq_zero_iff.mp (by omega)
      have hs : stepA st (.nth n) = (st, [-7]) := by
        unfold stepA
        rw [hstep, if_pos (by rw [he]; rfl)]
        rfl
      rw [hs] at k
      exact s_retI (K := K) (ns := [-7]) (da_cons (dv_neg dv_int) da_nil) (by decide) fun p H3 hp e3 h3 => k H3 p (fresh_back (e1.trans e2) hp) h3 (hF.mono ((e1.trans e2).trans e3)) (But.of ((e1.trans e2).trans e3))
    rw [decide_eq_false_iff_not] at hb2
    have hne : st.chords ≠ [] := fun z => hb2 (by rw [z]; rfl)
    have e12 := e1.trans e2
    rw [if_neg (by simpa using hne)] at hstep
    obtain ⟨j, hj⟩ : ∃ j : Nat, n = (j : Int) := ⟨n.toNat, by omega⟩
    subst hj
    have htn : ((j : Int)).toNat = j := Int.toNat_natCast j
    rw [htn] at hstep
    refine a_asg (now_i (ev_var rfl) Sa Sl (av.mono e12) (hF.mono e12) hne fun H3 wy hF3 hW3 hB3 => ?_)
    have hWu := hW3.mono cutS_le
    obtain ⟨x, hx⟩ := id hWu
    have fin : ∀ (H5 : Hp) (ns : List Int), stepA st (.nth (j : Int)) = (st, ns) → Ex H3 H5 → ∀ p H6, H5 p = none → Ex H5 H6 → H6 p = some (.lst (ns.map V.int)) → Q (.ref p) H6 := fun H5 ns hs e5 p H6 hp e6 h6 => by
      rw [hs] at k
      exact k H6 p (fresh_back e12 (hB3.fresh hF3 (fresh_back e5 hp))) h6 (hF3.mono (e5.trans e6)) fun b o h1 h2 h3 => (e5.trans e6) _ _ (hB3 b o (e12 _ _ h1) h2 h3)
    obtain ⟨tot, htot⟩ : ∃ tot, ((List.range 120).map fun p => (allW st.rules st.chords).count p).sum = tot := ⟨_, rfl⟩
    refine q_when (b := decide ((tot : Int) ≤ (j : Int))) (σ := [some (.ref a), some (.int (j : Int)), some (.ref wy), none, none, none]) (dt_test (dv_B (K := K) (dv_vi rfl) (dv_methX (d := .int (tot : Int)) (ev_var rfl) hx.obj (waF_no _ _ _ _ _ _ (by decide +kernel) (by decide +kernel) (by decide +kernel) (by decide +kernel) (by decide +kernel)) mx_nil fun vs H4 e4 hv Q1 q1 => by
      have ev := asV (xs := []) hv
      subst ev
      refine ⟨wy, st.rules, st.chords, rfl, hWu.mono e4, fun H5 e5 => ?_⟩
      rw [htot]
      exact q1 _ H5 e5 (.int _)))) (fun hb3 H4 e4 => ?_) (fun hb3 H4 e4 => ?_)
    · rw [decide_eq_true_eq] at hb3
      have hs : stepA st (.nth (j : Int)) = (st, [-3]) := by
        unfold stepA
        rw [hstep, nth_none hne (by rw [htot]; omega)]
        rfl
      exact s_retI (K := K) (ns := [-3]) (da_cons (dv_neg dv_int) da_nil) (by decide) fun p H5 hp e5 h5 => fin H4 _ hs e4 p H5 hp e5 h5
    · rw [decide_eq_false_iff_not] at hb3
      obtain ⟨p, kk, hp119, hjk, hkk, hnth⟩ := nth_some hne (show j < ((List.range 120).map fun p => (allW st.rules st.chords).count p).sum by rw [htot]; omega)
      obtain ⟨sel, hsel⟩ : ∃ sel, selL st.rules st.chords none p kk = sel := ⟨_, rfl⟩
      obtain ⟨hsl, hs3⟩ := sel_of st.rules st.chords none p kk
      rw [hsel] at hsl hs3 hnth
      have hl8 := f5.few
      have hs : stepA st (.nth (j : Int)) = (st, (p : Int) :: sel.flatMap Cp05.told) := by
        unfold stepA
        rw [hstep, hnth]
      have hx4 := hx.mono e4
      refine q_asgD (K := K) (d := .tuple [.int (p : Int), .list (sel.map encSet)]) (dv_methX (ev_var rfl) hx4.obj (waF_no _ _ _ _ _ _ (by decide +kernel) (by decide +kernel) (by decide +kernel) (by decide +kernel) (by decide +kernel)) (mx_v (ev_var rfl) mx_nil) fun vs H5 e5 hv Q1 q1 => by
        have ev := asV (xs := [V.int (j : Int)]) hv
        subst ev
        refine ⟨wy, st.rules, st.chords, p, kk, j, rfl, ⟨x, hx4.mono e5⟩, hp119, hjk, hkk, ?_⟩
        rw [hsel]
        exact q1) fun v H5 e5 hv => ?_
      obtain ⟨t, xt, rfl, htx, hxt⟩ := hv.tup_inv
      obtain ⟨u0, u1, rfl, hu0, hu1⟩ := DpAll2 hxt
      obtain ⟨b, ys, rfl, hby, hys⟩ := hu1.lst_inv
      refine q_asgDL (K := K) (ds := [(p : Int)].map .int) (dvl_lst (da_cons (dv_ixT (j := 0) (dv_var rfl hv) dv_int rfl rfl) da_nil) (by show 1 ≤ 100000; decide)) fun pa ya H6 hpa e6 h6 hya => ?_
      rw [hya.ints] at h6
      have hyl : ys.length = sel.length := by rw [hys.length, List.length_map]
      refine q_forLn (a := b) (xs := ys) (σ := [some (.ref a), some (.int (j : Int)), some (.ref wy), some (.ref t), some (.ref pa), none]) (ev_ixT (j := 1) (ev_var rfl) (ex_t e6 htx) ev_c rfl rfl) (ex_l e6 hby)
        (fun i σ' H' => ∃ o5, σ' = [some (.ref a), some (.int (j : Int)), some (.ref wy), some (.ref t), some (.ref pa), o5] ∧ Ex H5 H' ∧ H' pa = some (.lst (((p : Int) :: (sel.take i).flatMap Cp05.told).map V.int)))
        (fun H7 e7 => ⟨none, rfl, e6.trans e7, e7 _ _ h6⟩) (fun i σ' H' _ ⟨_, _, e, _⟩ => ex_l e hby) (fun i y σ' H' hi ⟨o5, eσ, e7, h7⟩ => ?_) (fun σ' H' ⟨o5, eσ, e7, h7⟩ => ?_)
      · subst eσ
        obtain ⟨s1, hs1, hy⟩ := at_map hys hi
        obtain ⟨n1, n2, n3, rfl⟩ := hs3 s1 (List.mem_of_getElem? hs1)
        have hfl := told_flat (sel.take i) fun s hs => hs3 s (List.mem_of_mem_take hs)
        have htl : (sel.take i).length ≤ 8 := by
          rw [List.length_take]
          omega
        refine s_extI (K := K) (ds := (Cp05.told [n1, n2, n3]).map .int) h7 (ev_var rfl) (dvl_call (da_cons (dv_var rfl (Dp.mono e7 _ hy)) da_nil) ⟨[n1, n2, n3], rfl, by show 3 ≤ 3; decide, rfl⟩) ?_ fun pb yb H8 hpb e8 h8 hyb => ?_
        · have h6' : (Cp05.told [n1, n2, n3]).length = 6 := rfl
          simp only [List.length_map, List.length_cons]
          omega
        rw [hyb.ints]
        refine ⟨_, rfl, Ex.mut (e7.trans e8) hpa, ?_⟩
        rw [upd_same, List.take_add_one, hs1, List.flatMap_append, ← List.map_append]
        congr 3
      · subst eσ
        rw [hyl, List.take_length] at h7
        exact s_ret (ev_var rfl) fun H8 e8 => fin H5 _ hs (e4.trans e5) pa H8 hpa (e7.trans e8) (e8 _ _ h7)
theorem scJu : FnScope ["self", "numbers"] ["self", "numbers"] (defScope sJudge) := ⟨rfl, rfl, rfl, by decide +kernel, rfl, by decide +kernel, by decide +kernel⟩
theorem ok_judge (F : Fun K "judge" "Filling.judge" sJudge f fd) (TF : FiTxt K X.CF) (gl : mg "len" = none) (gN : Gi mg "SETTING_NUMBERS" 6) (c1 : Cal P w K mg base "are_notes" 3 ["numbers"] (SpD K RAreNotes)) (c2 : Cal P w K mg base "settings_from" 3 ["numbers"] (SpDL K RSetFrom)) (c3 : Cal P w K mg base "judgement" 7 ["rules", "chords", "settings"] (SpJg K X.CR X.C)) :
    FnOk P w K mg base CX0 8 f fd ["self", "numbers"] (SpM K X RJudge) := by
  refine F.ok scJu (fun vs H Q E h => ?_) (fun cdv A outer s H vs Q E hr h => ?_)
  · obtain ⟨_, _, _, _, us, ds, _, rfl, _, _, _, _, hd, ⟨_, rfl, _⟩, _⟩ := h
    rw [List.length_cons, hd.length]
    rfl
  · obtain ⟨a, lc, S, st, us, ds, c, rfl, Sa, Sl, av, hF, hd, ⟨ns, rfl, hn, rfl⟩, k⟩ := h
    obtain ⟨v, rfl, hv⟩ := DpAll1 hd
    have hr3 : Room 3 _ := hr.mono (by decide : 3 ≤ 7)
    refine ⟨_, pss_cons (ps_if (pt_not (pt_val (pe_cal c1 hr3 (pa_cons (pv 1) pa_nil)))) (pss_one (ps_ret (pe_lst (pa_cons (pe_un un_neg pe_int) pa_nil)))) pss_nil)
      (pss_cons (ps_if (pt_cmpR op_eq (pe_callB call_len_seq (by rfl) gl PySem.boot_len (pa_cons (pe_fld (pv 0) rfl) pa_nil)) pe_int (nomark _)) (pss_one (ps_ret (pe_lst (pa_cons (pe_un un_neg pe_int) pa_nil)))) pss_nil)
      (pss_cons (ps_if (pt_cmpR op_ne (pe_callB call_len_seq (by rfl) gl PySem.boot_len (pa_cons (pv 1) pa_nil)) (pe_op op_mul (pe_gi gN) (pe_callB call_len_seq (by rfl) gl PySem.boot_len (pa_cons (pe_fld (pv 0) rfl) pa_nil))) (nomark _)) (pss_one (ps_ret (pe_lst (pa_cons (pe_un un_neg pe_int) pa_nil)))) pss_nil)
      (pss_one (ps_ret (pe_cal c3 hr (pa_cons (pe_fld (pv 0) rfl) (pa_cons (pe_fld (pv 0) rfl) (pa_cons (pe_cal c2 hr3 (pa_cons (pv 1) pa_nil)) pa_nil)))))))), ?_⟩
    obtain ⟨dx, rr, cs, y0, f1, f2, f3, f4, f5, f6⟩ := id hF
    have hcl : cs.length = st.chords.length := f4.length
    have hstep : Cp05.step st (.judge ns) = (st, match Cp05.notes ns with
      | none => Cp05.just (-2)
      | some nts => if st.chords.isEmpty then Cp05.just (-7) else if nts.length ≠ 3 * st.chords.length then Cp05.just (-2) else ⟨((Cp05.judged st.rules 0 none st.chords (Cp05.threes nts)).length : Int), (match Cp05.cost st.rules st.chords (Cp05.threes nts) with
        | none => -1
        | some k => (k : Int)) :: (Cp05.judged st.rules 0 none st.chords (Cp05.threes nts)).flatten⟩) := rfl
    refine q_when (b := !(Cp05.notes ns).isSome) (et_not (dt_B (dv_call (da_cons (dv_var rfl hv) da_nil) ⟨ns, rfl, hn, rfl⟩))) (fun hb H1 e1 => ?_) (fun hb H1 e1 => ?_)
    · have hno : Cp05.notes ns = none := by
        cases h : Cp05.notes ns with
        | none => rfl
        | some z => rw [h] at hb; cases hb
      have hs : stepA st (.judge ns) = (st, [-2]) := by
        unfold stepA
        rw [hstep, hno]
        rfl
      rw [hs] at k
      exact s_retI (K := K) (ns := [-2]) (da_cons (dv_neg dv_int) da_nil) (by decide) fun p H2 hp e2 h2 => k H2 p (fresh_back e1 hp) h2 (hF.mono (e1.trans e2)) (But.of (e1.trans e2))
    obtain ⟨nts, hnts⟩ : ∃ nts, Cp05.notes ns = some nts := by
      cases h : Cp05.notes ns with
      | none => rw [h] at hb; cases hb
      | some z => exact ⟨z, rfl⟩
    rw [hnts] at hstep
    obtain ⟨hlen, hall⟩ := notes_of ns nts hnts
    have hstep : Cp05.step st (.judge ns) = (st, if st.chords.isEmpty then Cp05.just (-7) else if nts.length ≠ 3 * st.chords.length then Cp05.just (-2) else ⟨((Cp05.judged st.rules 0 none st.chords (Cp05.threes nts)).length : Int), (match Cp05.cost st.rules st.chords (Cp05.threes nts) with
        | none => -1
        | some k => (k : Int)) :: (Cp05.judged st.rules 0 none st.chords (Cp05.threes nts)).flatten⟩) := hstep
    refine q_when (b := decide ((st.chords.length : Int) = 0)) (et_test (ev_is (ev_bl (K := K) (dv_eqI (dv_i (ev_len (ev_fld (ev_var rfl) (e1 _ _ f1) TF.cl TF.nC (fiF_chords _ _ _)) (sq_of (e1 _ _ f2)))) dv_int)) (by rw [hcl]))) (fun hb2 H2 e2 => ?_) (fun hb2 H2 e2 => ?_)
    · rw [decide_eq_true_eq] at hb2
      have he : st.chords = [] := List.length_eq_zero_iff.mp (by omega)
      have hs : stepA st (.judge ns) = (st, [-7]) := by
        unfold stepA
        rw [hstep, if_pos (by rw [he]; rfl)]
        rfl
      rw [hs] at k
      exact s_retI (K := K) (ns := [-7]) (da_cons (dv_neg dv_int) da_nil) (by decide) fun p H3 hp e3 h3 => k H3 p (fresh_back (e1.trans e2) hp) h3 (hF.mono ((e1.trans e2).trans e3)) (But.of ((e1.trans e2).trans e3))
    rw [decide_eq_false_iff_not] at hb2
    have hne : st.chords ≠ [] := fun z => hb2 (by rw [z]; rfl)
    have e12 := e1.trans e2
    rw [if_neg (by simpa using hne)] at hstep
    have chE : ∀ G, Ex H G → ∀ σ : L2.St, σ[0]? = some (some (.ref a)) → Ev (tFld K (tVar 0) "chords") σ G (.ref lc) := fun G e σ h0 => ev_fld (ev_var h0) (e _ _ f1) TF.cl TF.nC (fiF_chords _ _ _)
    refine q_when (b := !decide ((ns.length : Int) = 6 * (st.chords.length : Int))) (dt_test (dv_is (dv_neI (K := K) (dv_len (dv_var rfl (Dp.mono e12 _ hv))) (dv_IC dv_int (dv_i (ev_len (chE _ e12 _ rfl) (sq_of (e12 _ _ f2)))) (mul_smallL (by decide) (by decide)))) (by rw [List.length_map, hcl]))) (fun hb3 H3 e3 => ?_) (fun hb3 H3 e3 => ?_)
    · rw [Bool.not_eq_true', decide_eq_false_iff_not] at hb3
      have hs : stepA st (.judge ns) = (st, [-2]) := by
        unfold stepA
        rw [hstep, if_pos (by omega)]
        rfl
      rw [hs] at k
      exact s_retI (K := K) (ns := [-2]) (da_cons (dv_neg dv_int) da_nil) (by decide) fun p H4 hp e4 h4 => k H4 p (fresh_back (e12.trans e3) hp) h4 (hF.mono ((e12.trans e3).trans e4)) (But.of ((e12.trans e3).trans e4))
    rw [Bool.not_eq_false', decide_eq_true_eq] at hb3
    have hn3 : nts.length = 3 * st.chords.length := by omega
    obtain ⟨ht1, ht2⟩ := threes_of st.chords.length nts hn3 hall
    have hs : stepA st (.judge ns) = (st, judgeAns st.rules st.chords (Cp05.threes nts)) := by
      unfold stepA judgeAns
      rw [hstep, if_neg (by omega)]
      cases Cp05.cost st.rules st.chords (Cp05.threes nts) <;> rfl
    rw [hs] at k
    have e13 := e12.trans e3
    refine s_retDL (K := K) (ds := (judgeAns st.rules st.chords (Cp05.threes nts)).map .int) (dvl_callX (mx_v (ev_fld (ev_var rfl) (e13 _ _ f1) TF.cl TF.nR (fiF_rules _ _ _)) (mx_v (chE _ e13 _ rfl) (mx_d (dvl_call (es := (Cp05.threes nts).map encSet) (da_cons (dv_var rfl (Dp.mono e13 _ hv)) da_nil) ⟨ns, nts, rfl, hn, hnts, by omega, rfl⟩).dv mx_nil))) fun vs H4 e4 hvs Q1 q1 => ?_) fun p xs H4 hp e4 h4 hxs => ?_
    · obtain ⟨u, u', u'', rfl, r1, r2, r3⟩ := asv3 hvs
      have r1' : u = .ref rr := r1
      have r2' : u' = .ref lc := r2
      subst r1'
      subst r2'
      have e14 := e13.trans e4
      exact ⟨rr, lc, u'', st.rules, st.chords, Cp05.threes nts, rfl, ⟨(f3.mono cutS_le).mono e14, f5.ru, ⟨cs, e14 _ _ f2, (f4.mono cutS_le).mono e14⟩, f5.ch, f5.few, r3, ht1, ht2⟩, hne, fun p H5 hp e5 h5 => q1 p _ H5 hp e5 h5 (DpAll.ofInts _ _ _)⟩
    · rw [hxs.ints] at h4
      exact k H4 p (fresh_back e13 hp) h4 (hF.mono (e13.trans e4)) (But.of (e13.trans e4))
end
end Bf

namespace Bf
open PySem PySem.Spec PyProof.Rows L2 Evl
abbrev sEnd : Stmt := top 99
abbrev sTo : Stmt := top 100
abbrev sAns : Stmt := top 101
def REnd (ds : List PyData) (d : PyData) : Prop := ∃ (ns : List Int) (i : Nat) (t : List Int) (c : Cp05.Call), ds = [.list (ns.map .int), .int (i : Int)] ∧ Rd1 (ns.drop i) t c ∧ d = .int (((i + ((ns.drop i).length - t.length) : Nat)) : Int)
structure FiMeth (K : PySem.W.Frag) (CF : Addr) (m : Str) (P : Program) (w : World) (mg : Str → Option Value) (base : Heap) (k : Nat) (ps : List Str) (sp : Sp) : Prop where
  ex : ∃ f fd, Meth K CF m f ∧ Binds K fd ps [] ∧ FnOk P w K mg base CX0 k f fd ps sp
/-- answer_to's promise: the call's own numbers -/
def spTo (K : PySem.W.Frag) (X : Tx) : Sp := fun vs H Q _ => ∃ (a lc : Addr) (S : Addr → Bool) (s : Cp05.State) (v : V) (own : List Int) (c : Cp05.Call), vs = [.ref a, v] ∧ S a = true ∧ S lc = true ∧ Av S H ∧ FiAt K X S H a lc s ∧ Dp K H v (.list (own.map .int)) ∧ Rd1 own [] c ∧
  ∀ H' p, H p = none → H' p = some (.lst ((stepA s c).2.map V.int)) → FiAt K X S H' a lc (stepA s c).1 → But a lc H H' → Q (.ref p) H'
theorem rd1_own {l t : List Int} {c : Cp05.Call} (h : Rd1 l t c) : ∃ own, l = own ++ t ∧ Rd1 own [] c := by
  cases h with
  | rules ns t hn => exact ⟨1 :: (ns.length : Int) :: ns, rfl, by have := Rd1.rules ns [] hn; rwa [List.append_nil] at this⟩
  | chord ns t hn => exact ⟨2 :: (ns.length : Int) :: ns, rfl, by have := Rd1.chord ns [] hn; rwa [List.append_nil] at this⟩
  | drop t => exact ⟨[3], rfl, .drop []⟩
  | settings i k t => exact ⟨[4, i, k], rfl, .settings i k []⟩
  | count p t => exact ⟨[5, p], rfl, .count p []⟩
  | counts t => exact ⟨[6], rfl, .counts []⟩
  | nth n t => exact ⟨[7, n], rfl, .nth n []⟩
  | judge ns t hn => exact ⟨8 :: (ns.length : Int) :: ns, rfl, by have := Rd1.judge ns [] hn; rwa [List.append_nil] at this⟩
theorem drop_at {ns : List Int} {i : Nat} {x : Int} {r : List Int} (h : ns.drop i = x :: r) (j : Nat) {y : Int} (hj : (x :: r)[j]? = some y) : (ns.map PyData.int)[i + j]? = some (.int y) := by
  apply int_at
  rw [← h, List.getElem?_drop] at hj
  exact hj
section
variable {P : Program} {w : World} {K : PySem.W.Frag} {mg : Str → Option Value} {base : Heap} {X : Tx}
theorem scEnd : FnScope ["calls", "at"] ["calls", "at"] (defScope sEnd) := ⟨rfl, rfl, rfl, by decide +kernel, rfl, by decide +kernel, by decide +kernel⟩
theorem cal_end (D : Def K mg "call_end" sEnd) (g1 : Gi mg "RULES" 1) (g2 : Gi mg "CHORD" 2) (g3 : Gi mg "DROP" 3) (g5 : Gi mg "COUNT" 5) (g6 : Gi mg "COUNTS" 6) (g7 : Gi mg "NTH" 7) (g8 : Gi mg "JUDGE" 8) : Cal P w K mg base "call_end" 1 ["calls", "at"] (SpD K REnd) := by
  refine ok_D D scEnd (fun ds d h => ?_) (fun _ _ _ _ _ _ us hl => match us, hl with | [_, _], _ => rfl) (fun f cdv A outer s H vs Q E ds d hr hv h k => ?_)
  · obtain ⟨_, _, _, _, rfl, _⟩ := h
    rfl
  · obtain ⟨ns, i, t, c, rfl, hc, rfl⟩ := h
    obtain ⟨v0, v1, rfl, h0, h1⟩ := DpAll2 hv
    cases h1.int_inv
    refine ⟨_, pss_cons (ps_if (pt_cmpR op_in_seq (pe_ix ix_list (pv 0) (pv 1) (fun _ _ => rfl)) (pe_tup (pa_cons (pe_gi g1) (pa_cons (pe_gi g2) (pa_cons (pe_gi g8) pa_nil)))) (by rfl)) (pss_one (ps_ret (pe_op op_add (pe_op op_add (pv 1) pe_int) (pe_ix ix_list (pv 0) (pe_op op_add (pv 1) pe_int) (fun _ _ => rfl))))) pss_nil)
      (pss_cons (ps_if (pt_cmpR op_in_seq (pe_ix ix_list (pv 0) (pv 1) (fun _ _ => rfl)) (pe_tup (pa_cons (pe_gi g3) (pa_cons (pe_gi g6) pa_nil))) (by rfl)) (pss_one (ps_ret (pe_op op_add (pv 1) pe_int))) pss_nil)
      (pss_cons (ps_if (pt_cmpR op_in_seq (pe_ix ix_list (pv 0) (pv 1) (fun _ _ => rfl)) (pe_tup (pa_cons (pe_gi g5) (pa_cons (pe_gi g7) pa_nil))) (by rfl)) (pss_one (ps_ret (pe_op op_add (pv 1) pe_int))) pss_nil)
      (pss_one (ps_ret (pe_op op_add (pv 1) pe_int))))), ?_⟩
    have first : ∀ (x : Int) (r : List Int), ns.drop i = x :: r → ∀ G, Ex H G → Dv K (tOp (rIxL K) (tVar 0) (tVar 1)) [some v0, some (.int (i : Int))] G (.int x) := fun x r hx G e => dv_ixL (j := i) (dv_var rfl (Dp.mono e _ h0)) (dv_vi rfl) rfl (drop_at hx 0 rfl)
    have in3 : ∀ (x : Int) (r : List Int), ns.drop i = x :: r → ∀ G, Ex H G → EvT (tTest (tOp (rIn K false) (tOp (rIxL K) (tVar 0) (tVar 1)) (tTup (tCons (tC (.int 1)) (tCons (tC (.int 2)) (tCons (tC (.int 8)) tNil)))))) [some v0, some (.int (i : Int))] G ((1 : Int) == x || ((2 : Int) == x || ((8 : Int) == x || false))) := fun x r hx G e => et_test (ev_is (ev_inU (ev_int (first x r hx G e)) (eu_tup (ea_cons ev_c (ea_cons ev_c (ea_cons ev_c ea_nil))) (by show 3 ≤ 100000; decide)) rfl rfl) rfl)
    have in2 : ∀ (a b : Int) (x : Int) (r : List Int), ns.drop i = x :: r → ∀ G, Ex H G → EvT (tTest (tOp (rIn K false) (tOp (rIxL K) (tVar 0) (tVar 1)) (tTup (tCons (tC (.int a)) (tCons (tC (.int b)) tNil))))) [some v0, some (.int (i : Int))] G (a == x || (b == x || false)) := fun a b x r hx G e => et_test (ev_is (ev_inU (ev_int (first x r hx G e)) (eu_tup (ea_cons ev_c (ea_cons ev_c ea_nil)) (by show 2 ≤ 100000; decide)) rfl rfl) rfl)
    generalize hl : ns.drop i = l at *
    cases hc with
    | rules ms t hm =>
      refine q_when (in3 _ _ rfl _ (Ex.refl _)) (fun hb H1 e1 => ?_) (fun hb => absurd hb (by decide))
      refine s_retD (dv_is (dv_I (dv_I (dv_vi rfl) dv_int) (dv_ixL (j := i + 1) (dv_var rfl (Dp.mono e1 _ h0)) (dv_I (dv_vi rfl) dv_int) (by push_cast; rfl) (drop_at hl 1 rfl))) ?_) fun v H2 e2 hd => k v H2 (e1.trans e2) hd
      congr 1
      simp only [List.length_cons, List.length_append]
      omega
    | chord ms t hm =>
      refine q_when (in3 _ _ rfl _ (Ex.refl _)) (fun hb H1 e1 => ?_) (fun hb => absurd hb (by decide))
      refine s_retD (dv_is (dv_I (dv_I (dv_vi rfl) dv_int) (dv_ixL (j := i + 1) (dv_var rfl (Dp.mono e1 _ h0)) (dv_I (dv_vi rfl) dv_int) (by push_cast; rfl) (drop_at hl 1 rfl))) ?_) fun v H2 e2 hd => k v H2 (e1.trans e2) hd
      congr 1
      simp only [List.length_cons, List.length_append]
      omega
    | drop t =>
      refine q_when (in3 _ _ rfl _ (Ex.refl _)) (fun hb => absurd hb (by decide)) (fun hb H1 e1 => ?_)
      refine q_when (in2 _ _ _ _ rfl _ e1) (fun hb H2 e2 => ?_) (fun hb => absurd hb (by decide))
      refine s_retD (dv_is (dv_I (dv_vi rfl) dv_int) ?_) fun v H3 e3 hd => k v H3 ((e1.trans e2).trans e3) hd
      congr 1
      simp only [List.length_cons]
      omega
    | settings x y t =>
      refine q_when (in3 _ _ rfl _ (Ex.refl _)) (fun hb => absurd hb (by decide)) (fun hb H1 e1 => ?_)
      refine q_when (in2 _ _ _ _ rfl _ e1) (fun hb => absurd hb (by decide)) (fun hb H2 e2 => ?_)
      refine q_when (in2 _ _ _ _ rfl _ (e1.trans e2)) (fun hb => absurd hb (by decide)) (fun hb H3 e3 => ?_)
      refine s_retD (dv_is (dv_I (dv_vi rfl) dv_int) ?_) fun v H4 e4 hd => k v H4 (((e1.trans e2).trans e3).trans e4) hd
      congr 1
      simp only [List.length_cons]
      omega
    | count x t =>
      refine q_when (in3 _ _ rfl _ (Ex.refl _)) (fun hb => absurd hb (by decide)) (fun hb H1 e1 => ?_)
      refine q_when (in2 _ _ _ _ rfl _ e1) (fun hb => absurd hb (by decide)) (fun hb H2 e2 => ?_)
      refine q_when (in2 _ _ _ _ rfl _ (e1.trans e2)) (fun hb H3 e3 => ?_) (fun hb => absurd hb (by decide))
      refine s_retD (dv_is (dv_I (dv_vi rfl) dv_int) ?_) fun v H4 e4 hd => k v H4 (((e1.trans e2).trans e3).trans e4) hd
      congr 1
      simp only [List.length_cons]
      omega
    | counts t =>
      refine q_when (in3 _ _ rfl _ (Ex.refl _)) (fun hb => absurd hb (by decide)) (fun hb H1 e1 => ?_)
      refine q_when (in2 _ _ _ _ rfl _ e1) (fun hb H2 e2 => ?_) (fun hb => absurd hb (by decide))
      refine s_retD (dv_is (dv_I (dv_vi rfl) dv_int) ?_) fun v H3 e3 hd => k v H3 ((e1.trans e2).trans e3) hd
      congr 1
      simp only [List.length_cons]
      omega
    | nth x t =>
      refine q_when (in3 _ _ rfl _ (Ex.refl _)) (fun hb => absurd hb (by decide)) (fun hb H1 e1 => ?_)
      refine q_when (in2 _ _ _ _ rfl _ e1) (fun hb => absurd hb (by decide)) (fun hb H2 e2 => ?_)
      refine q_when (in2 _ _ _ _ rfl _ (e1.trans e2)) (fun hb H3 e3 => ?_) (fun hb => absurd hb (by decide))
      refine s_retD (dv_is (dv_I (dv_vi rfl) dv_int) ?_) fun v H4 e4 hd => k v H4 (((e1.trans e2).trans e3).trans e4) hd
      congr 1
      simp only [List.length_cons]
      omega
    | judge ms t hm =>
      refine q_when (in3 _ _ rfl _ (Ex.refl _)) (fun hb H1 e1 => ?_) (fun hb => absurd hb (by decide))
      refine s_retD (dv_is (dv_I (dv_I (dv_vi rfl) dv_int) (dv_ixL (j := i + 1) (dv_var rfl (Dp.mono e1 _ h0)) (dv_I (dv_vi rfl) dv_int) (by push_cast; rfl) (drop_at hl 1 rfl))) ?_) fun v H2 e2 hd => k v H2 (e1.trans e2) hd
      congr 1
      simp only [List.length_cons, List.length_append]
      omega
theorem scTo : FnScope ["filling", "call"] ["filling", "call"] (defScope sTo) := ⟨rfl, rfl, rfl, by decide +kernel, rfl, by decide +kernel, by decide +kernel⟩
/-- o.m(..) of the object at a -/
theorem s_retM {σ : L2.St} {H : Hp} {D : Ends} {ta : TE} {t : TA} {CF : Addr} {m : Str} {sp : Sp} {a dx : Addr} {fs : List (Str × V)} {ds : List PyData} (ha : Ev ta σ H (.ref a)) (ho : H a = some (.ins CF dx fs)) (hl : fs.lookup m = none) (ht : DvA K t σ H ds) (k : ∀ us H1, Ex H H1 → DpAll K H1 us ds → sp (.ref a :: us) H1 D.rt E0) :
    tRet (tMeth CF m sp [] E0 ta t) D σ H := ha H (Ex.refl H) _ fun H1 e1 => ⟨a, dx, fs, rfl, e1 _ _ ho, hl, ht H1 e1 _ fun us H2 e2 hd => by
      rw [List.append_nil]
      exact k us H2 (e1.trans e2) hd⟩
theorem cal_to (D : Def K mg "answer_to" sTo) (TF : FiTxt K X.CF) (g1 : Gi mg "RULES" 1) (g2 : Gi mg "CHORD" 2) (g3 : Gi mg "DROP" 3) (g4 : Gi mg "SETTINGS" 4) (g5 : Gi mg "COUNT" 5) (g6 : Gi mg "COUNTS" 6) (g7 : Gi mg "NTH" 7)
    (m1 : MtC P w K mg base X.CF "take_rules" 3 ["self", "numbers"] (SpM K X RTake)) (m2 : MtC P w K mg base X.CF "add_chord" 5 ["self", "numbers"] (SpM K X RAdd)) (m3 : MtC P w K mg base X.CF "drop_chord" 1 ["self"] (SpM K X RDrop)) (m4 : MtC P w K mg base X.CF "tell_setting" 5 ["self", "i", "k"] (SpM K X RTell)) (m5 : MtC P w K mg base X.CF "tell_count" 16 ["self", "p"] (SpM K X RCount)) (m6 : MtC P w K mg base X.CF "tell_counts" 16 ["self"] (SpM K X RCounts)) (m7 : MtC P w K mg base X.CF "tell_way" 16 ["self", "n"] (SpM K X RWay)) (m8 : MtC P w K mg base X.CF "judge" 8 ["self", "numbers"] (SpM K X RJudge)) : Cal P w K mg base "answer_to" 17 ["filling", "call"] (spTo K X) := by
  obtain ⟨f1, fd1, M1, b1, F1⟩ := m1
  obtain ⟨f2, fd2, M2, b2, F2⟩ := m2
  obtain ⟨f3, fd3, M3, b3, F3⟩ := m3
  obtain ⟨f4, fd4, M4, b4, F4⟩ := m4
  obtain ⟨f5, fd5, M5, b5, F5⟩ := m5
  obtain ⟨f6, fd6, M6, b6, F6⟩ := m6
  obtain ⟨f7, fd7, M7, b7, F7⟩ := m7
  obtain ⟨f8, fd8, M8, b8, F8⟩ := m8
  refine ok_S D scTo (fun vs H Q E h => ?_) (fun _ _ _ _ _ _ us hl => match us, hl with | [_, _], _ => rfl) (fun f cdv A outer s H vs Q E hr h => ?_)
  · obtain ⟨_, _, _, _, _, _, _, rfl, _⟩ := h
    rfl
  · obtain ⟨a, lc, S, st, v, own, c, rfl, Sa, Sl, av, hF, hv, hc, k⟩ := h
    have hr1 : Room 1 _ := hr.mono (by decide : 1 ≤ 16)
    have hr3 : Room 3 _ := hr.mono (by decide : 3 ≤ 16)
    have hr5 : Room 5 _ := hr.mono (by decide : 5 ≤ 16)
    have hr8 : Room 8 _ := hr.mono (by decide : 8 ≤ 16)
    refine ⟨_, (pss_cons (ps_if (pt_cmpR op_eq (pe_ix ix_list (pv 1) pe_int (fun _ _ => rfl)) (pe_gi g1) (nomark _)) (pss_one (ps_ret (pe_meth (pv 0) TF.cl M1 F1 hr3 b1 .nil pass0 (pa_cons (pe_slice sl_list (pv 1) (po_some pe_int) po_none) pa_nil)))) pss_nil)
      (pss_cons (ps_if (pt_cmpR op_eq (pe_ix ix_list (pv 1) pe_int (fun _ _ => rfl)) (pe_gi g2) (nomark _)) (pss_one (ps_ret (pe_meth (pv 0) TF.cl M2 F2 hr5 b2 .nil pass0 (pa_cons (pe_slice sl_list (pv 1) (po_some pe_int) po_none) pa_nil)))) pss_nil)
      (pss_cons (ps_if (pt_cmpR op_eq (pe_ix ix_list (pv 1) pe_int (fun _ _ => rfl)) (pe_gi g3) (nomark _)) (pss_one (ps_ret (pe_meth0 (pv 0) TF.cl M3 F3 hr1 b3 .nil pass0))) pss_nil)
      (pss_cons (ps_if (pt_cmpR op_eq (pe_ix ix_list (pv 1) pe_int (fun _ _ => rfl)) (pe_gi g4) (nomark _)) (pss_one (ps_ret (pe_meth (pv 0) TF.cl M4 F4 hr5 b4 .nil pass0 (pa_cons (pe_ix ix_list (pv 1) pe_int (fun _ _ => rfl)) (pa_cons (pe_ix ix_list (pv 1) pe_int (fun _ _ => rfl)) pa_nil))))) pss_nil)
      (pss_cons (ps_if (pt_cmpR op_eq (pe_ix ix_list (pv 1) pe_int (fun _ _ => rfl)) (pe_gi g5) (nomark _)) (pss_one (ps_ret (pe_meth (pv 0) TF.cl M5 F5 hr b5 .nil pass0 (pa_cons (pe_ix ix_list (pv 1) pe_int (fun _ _ => rfl)) pa_nil)))) pss_nil)
      (pss_cons (ps_if (pt_cmpR op_eq (pe_ix ix_list (pv 1) pe_int (fun _ _ => rfl)) (pe_gi g6) (nomark _)) (pss_one (ps_ret (pe_meth0 (pv 0) TF.cl M6 F6 hr b6 .nil pass0))) pss_nil)
      (pss_cons (ps_if (pt_cmpR op_eq (pe_ix ix_list (pv 1) pe_int (fun _ _ => rfl)) (pe_gi g7) (nomark _)) (pss_one (ps_ret (pe_meth (pv 0) TF.cl M7 F7 hr b7 .nil pass0 (pa_cons (pe_ix ix_list (pv 1) pe_int (fun _ _ => rfl)) pa_nil)))) pss_nil)
      (pss_one (ps_ret (pe_meth (pv 0) TF.cl M8 F8 hr8 b8 .nil pass0 (pa_cons (pe_slice sl_list (pv 1) (po_some pe_int) po_none) pa_nil))))))))))), ?_⟩
    have goOn : ∀ {R : List PyData → Cp05.Call → Prop} {ds : List PyData} {us : List V} {H1 : Hp}, Ex H H1 → DpAll K H1 us ds → R ds c → SpM K X R (.ref a :: us) H1 Q E0 := fun {R ds us H1} e1 hd hR =>
      ⟨a, lc, S, st, us, ds, c, rfl, Sa, Sl, av.mono e1, hF.mono e1, hd, hR, fun H' p hp h' hF' hB => k H' p (fresh_back e1 hp) h' hF' fun b o hb => hB b o (e1 _ _ hb)⟩
    obtain ⟨dx, r, cs, y, f1', f2', f3', f4', f5', f6'⟩ := id hF
    have slc : ∀ (ms : List Int) (x y : Int), own = x :: y :: ms → ∀ G, Ex H G → DvL K (tSl (rSlL K) (tVar 1) (tPart (tC (.int 2))) tNoPart) [some (.ref a), some v] G (ms.map .int) := fun ms x y ho G e => dvl_is (dvl_sl (dv_var rfl (Dp.mono e _ hv)) (eo_some ev_c) eo_none) (by rw [cutP_map, ho]; exact congrArg (List.map PyData.int) (cutP_from (x :: y :: ms) 2))
    have first : ∀ (x : Int) (q : List Int), own = x :: q → ∀ G, Ex H G → ∀ n : Int, EvT (tTest (tOp rEq (tOp (rIxL K) (tVar 1) (tC (.int 0))) (tC (.int n)))) [some (.ref a), some v] G (decide (x = n)) := fun x q ho G e n => dt_test (dv_eqI (dv_ixL (K := K) (j := 0) (dv_var rfl (Dp.mono e _ hv)) dv_int rfl (by rw [ho]; rfl)) dv_int)
    cases hc with
    | rules ms t hm =>
      rw [List.append_nil] at *
      refine q_when (first _ _ rfl _ (Ex.refl _) _) (fun _ H1 e1 => ?_) (fun hb => absurd hb (by decide))
      exact s_retM (ev_var rfl) (e1 _ _ f1') (fiF_no _ _ _ _ (by decide +kernel) (by decide +kernel) (by decide +kernel)) (da_cons (slc ms _ _ rfl _ e1).dv da_nil) fun us H9 e9 hd => goOn (e1.trans e9) hd ⟨ms, rfl, by omega, rfl⟩
    | chord ms t hm =>
      rw [List.append_nil] at *
      refine q_when (first _ _ rfl _ (Ex.refl _) _) (fun hb => absurd hb (by decide)) (fun _ H1 e1 => ?_)
      refine q_when (first _ _ rfl _ e1 _) (fun _ H2 e2 => ?_) (fun hb => absurd hb (by decide))
      have e12 := e1.trans e2
      exact s_retM (ev_var rfl) (e12 _ _ f1') (fiF_no _ _ _ _ (by decide +kernel) (by decide +kernel) (by decide +kernel)) (da_cons (slc ms _ _ rfl _ e12).dv da_nil) fun us H9 e9 hd => goOn (e12.trans e9) hd ⟨ms, rfl, by omega, rfl⟩
    | drop t =>
      refine q_when (first _ _ rfl _ (Ex.refl _) _) (fun hb => absurd hb (by decide)) (fun _ H1 e1 => ?_)
      refine q_when (first _ _ rfl _ e1 _) (fun hb => absurd hb (by decide)) (fun _ H2 e2 => ?_)
      have e12 := e1.trans e2
      refine q_when (first _ _ rfl _ e12 _) (fun _ H3 e3 => ?_) (fun hb => absurd hb (by decide))
      have e13 := e12.trans e3
      exact s_retM (ev_var rfl) (e13 _ _ f1') (fiF_no _ _ _ _ (by decide +kernel) (by decide +kernel) (by decide +kernel)) da_nil fun us H9 e9 hd => goOn (e13.trans e9) hd ⟨rfl, rfl⟩
    | settings x y t =>
      refine q_when (first _ _ rfl _ (Ex.refl _) _) (fun hb => absurd hb (by decide)) (fun _ H1 e1 => ?_)
      refine q_when (first _ _ rfl _ e1 _) (fun hb => absurd hb (by decide)) (fun _ H2 e2 => ?_)
      have e12 := e1.trans e2
      refine q_when (first _ _ rfl _ e12 _) (fun hb => absurd hb (by decide)) (fun _ H3 e3 => ?_)
      have e13 := e12.trans e3
      refine q_when (first _ _ rfl _ e13 _) (fun _ H4 e4 => ?_) (fun hb => absurd hb (by decide))
      have e14 := e13.trans e4
      exact s_retM (ev_var rfl) (e14 _ _ f1') (fiF_no _ _ _ _ (by decide +kernel) (by decide +kernel) (by decide +kernel)) (da_cons (dv_ixL (j := 1) (dv_var rfl (Dp.mono e14 _ hv)) dv_int rfl rfl) (da_cons (dv_ixL (j := 2) (dv_var rfl (Dp.mono e14 _ hv)) dv_int rfl rfl) da_nil)) fun us H9 e9 hd => goOn (e14.trans e9) hd ⟨x, y, rfl, rfl⟩
    | count x t =>
      refine q_when (first _ _ rfl _ (Ex.refl _) _) (fun hb => absurd hb (by decide)) (fun _ H1 e1 => ?_)
      refine q_when (first _ _ rfl _ e1 _) (fun hb => absurd hb (by decide)) (fun _ H2 e2 => ?_)
      have e12 := e1.trans e2
      refine q_when (first _ _ rfl _ e12 _) (fun hb => absurd hb (by decide)) (fun _ H3 e3 => ?_)
      have e13 := e12.trans e3
      refine q_when (first _ _ rfl _ e13 _) (fun hb => absurd hb (by decide)) (fun _ H4 e4 => ?_)
      have e14 := e13.trans e4
      refine q_when (first _ _ rfl _ e14 _) (fun _ H5 e5 => ?_) (fun hb => absurd hb (by decide))
      have e15 := e14.trans e5
      exact s_retM (ev_var rfl) (e15 _ _ f1') (fiF_no _ _ _ _ (by decide +kernel) (by decide +kernel) (by decide +kernel)) (da_cons (dv_ixL (j := 1) (dv_var rfl (Dp.mono e15 _ hv)) dv_int rfl rfl) da_nil) fun us H9 e9 hd => goOn (e15.trans e9) hd ⟨x, rfl, rfl⟩
    | counts t =>
      refine q_when (first _ _ rfl _ (Ex.refl _) _) (fun hb => absurd hb (by decide)) (fun _ H1 e1 => ?_)
      refine q_when (first _ _ rfl _ e1 _) (fun hb => absurd hb (by decide)) (fun _ H2 e2 => ?_)
      have e12 := e1.trans e2
      refine q_when (first _ _ rfl _ e12 _) (fun hb => absurd hb (by decide)) (fun _ H3 e3 => ?_)
      have e13 := e12.trans e3
      refine q_when (first _ _ rfl _ e13 _) (fun hb => absurd hb (by decide)) (fun _ H4 e4 => ?_)
      have e14 := e13.trans e4
      refine q_when (first _ _ rfl _ e14 _) (fun hb => absurd hb (by decide)) (fun _ H5 e5 => ?_)
      have e15 := e14.trans e5
      refine q_when (first _ _ rfl _ e15 _) (fun _ H6 e6 => ?_) (fun hb => absurd hb (by decide))
      have e16 := e15.trans e6
      exact s_retM (ev_var rfl) (e16 _ _ f1') (fiF_no _ _ _ _ (by decide +kernel) (by decide +kernel) (by decide +kernel)) da_nil fun us H9 e9 hd => goOn (e16.trans e9) hd ⟨rfl, rfl⟩
    | nth x t =>
      refine q_when (first _ _ rfl _ (Ex.refl _) _) (fun hb => absurd hb (by decide)) (fun _ H1 e1 => ?_)
      refine q_when (first _ _ rfl _ e1 _) (fun hb => absurd hb (by decide)) (fun _ H2 e2 => ?_)
      have e12 := e1.trans e2
      refine q_when (first _ _ rfl _ e12 _) (fun hb => absurd hb (by decide)) (fun _ H3 e3 => ?_)
      have e13 := e12.trans e3
      refine q_when (first _ _ rfl _ e13 _) (fun hb => absurd hb (by decide)) (fun _ H4 e4 => ?_)
      have e14 := e13.trans e4
      refine q_when (first _ _ rfl _ e14 _) (fun hb => absurd hb (by decide)) (fun _ H5 e5 => ?_)
      have e15 := e14.trans e5
      refine q_when (first _ _ rfl _ e15 _) (fun hb => absurd hb (by decide)) (fun _ H6 e6 => ?_)
      have e16 := e15.trans e6
      refine q_when (first _ _ rfl _ e16 _) (fun _ H7 e7 => ?_) (fun hb => absurd hb (by decide))
      have e17 := e16.trans e7
      exact s_retM (ev_var rfl) (e17 _ _ f1') (fiF_no _ _ _ _ (by decide +kernel) (by decide +kernel) (by decide +kernel)) (da_cons (dv_ixL (j := 1) (dv_var rfl (Dp.mono e17 _ hv)) dv_int rfl rfl) da_nil) fun us H9 e9 hd => goOn (e17.trans e9) hd ⟨x, rfl, rfl⟩
    | judge ms t hm =>
      rw [List.append_nil] at *
      refine q_when (first _ _ rfl _ (Ex.refl _) _) (fun hb => absurd hb (by decide)) (fun _ H1 e1 => ?_)
      refine q_when (first _ _ rfl _ e1 _) (fun hb => absurd hb (by decide)) (fun _ H2 e2 => ?_)
      have e12 := e1.trans e2
      refine q_when (first _ _ rfl _ e12 _) (fun hb => absurd hb (by decide)) (fun _ H3 e3 => ?_)
      have e13 := e12.trans e3
      refine q_when (first _ _ rfl _ e13 _) (fun hb => absurd hb (by decide)) (fun _ H4 e4 => ?_)
      have e14 := e13.trans e4
      refine q_when (first _ _ rfl _ e14 _) (fun hb => absurd hb (by decide)) (fun _ H5 e5 => ?_)
      have e15 := e14.trans e5
      refine q_when (first _ _ rfl _ e15 _) (fun hb => absurd hb (by decide)) (fun _ H6 e6 => ?_)
      have e16 := e15.trans e6
      refine q_when (first _ _ rfl _ e16 _) (fun hb => absurd hb (by decide)) (fun _ H7 e7 => ?_)
      have e17 := e16.trans e7
      exact s_retM (ev_var rfl) (e17 _ _ f1') (fiF_no _ _ _ _ (by decide +kernel) (by decide +kernel) (by decide +kernel)) (da_cons (slc ms _ _ rfl _ e17).dv da_nil) fun us H9 e9 hd => goOn (e17.trans e9) hd ⟨ms, rfl, by omega, rfl⟩
/-! ### answers -/
abbrev nmAs : List Str := ["calls", "filling", "told", "at", "end", "answer"]
theorem scAs : FnScope nmAs ["calls"] (defScope sAns) := ⟨rfl, rfl, rfl, by decide +kernel, rfl, by decide +kernel, by decide +kernel⟩
def spAns (K : PySem.W.Frag) : Sp := fun vs H Q _ => ∃ (a : Addr) (ns : List Int) (cs : List Cp05.Call), vs = [.ref a] ∧ SqL K H a (ns.map V.int) ∧ RdAll ns cs ∧ (tell Cp05.start cs).length ≤ 10000000 ∧
  ∀ (H' : Hp) (p : Addr), H' p = some (.lst ((tell Cp05.start cs).map V.int)) → Q (.ref p) H'
def three (a b c : Addr) : Addr → Bool := fun x => decide (x = a) || (decide (x = b) || decide (x = c))
theorem rd1_pos {l t : List Int} {c : Cp05.Call} (h : Rd1 l t c) : t.length < l.length := by
  cases h <;> simp <;> omega
theorem FiAt.upd {S : Addr → Bool} {H : Hp} {a lc p : Addr} {s : Cp05.State} {o : HO} (Sp : S p = true) (ha : p ≠ a) (hl : p ≠ lc) (h : FiAt K X S H a lc s) : FiAt K X S (upd H p o) a lc s := by
  obtain ⟨dx, r, cs, y, h1, h2, h3, h4, h5, h6⟩ := h
  refine ⟨dx, r, cs, y, by rw [upd_ne ha.symm]; exact h1, by rw [upd_ne hl.symm]; exact h2, ?_, ?_, h5, ?_⟩
  · rw [cutS_upd Sp]; exact h3
  · rw [cutS_upd Sp]; exact h4
  · rw [cutS_upd Sp]; exact h6
theorem q_appBig {σ : L2.St} {H : Hp} {D : Ends} {tz : TS} {ta te : TE} {l : Addr} {xs : List V} {v : V} (hl : H l = some (.lst xs)) (ha : Ev ta σ H (.ref l)) (h : Ev te σ H v) (hz : xs.length ≤ 10000000) (k : ∀ H1, Ex H H1 → tz D σ (upd H1 l (.lst (xs ++ [v])))) :
    tSeq (tDrop (tBM K "list" rAppend ta (tCons te tNil))) tz D σ H := ha H (Ex.refl H) _ fun H1 e1 =>
  ⟨Or.inl ⟨rfl, xs, sq_of (e1 l _ hl)⟩, h H1 e1 _ fun H2 e2 => ⟨l, xs, v, rfl, rfl, e2 l _ (e1 l _ hl), Nat.lt_of_le_of_lt hz (by decide), k H2 (e1.trans e2)⟩⟩
theorem q_extV {σ : L2.St} {H : Hp} {D : Ends} {tz : TS} {ta te : TE} {l b : Addr} {xs zs : List V} (hl : H l = some (.lst xs)) (ha : Ev ta σ H (.ref l)) (hb : H b = some (.lst zs)) (h : Ev te σ H (.ref b)) (hz : xs.length + zs.length ≤ 10000000) (k : ∀ H1, Ex H H1 → tz D σ (upd H1 l (.lst (xs ++ zs)))) :
    tSeq (tDrop (tBM K "list" rExtend ta (tCons te tNil))) tz D σ H := ha H (Ex.refl H) _ fun H1 e1 =>
  ⟨Or.inl ⟨rfl, xs, sq_of (e1 l _ hl)⟩, h H1 e1 _ fun H2 e2 => ⟨l, b, xs, zs, rfl, rfl, e2 l _ (e1 l _ hl), e2 _ _ (e1 _ _ hb), Nat.le_trans hz (by decide), k H2 (e1.trans e2)⟩⟩
theorem q_asgTo {σ : L2.St} {H : Hp} {D : Ends} {tz : TS} {ta te : TE} {i : Nat} {sp : Sp} {x : V} {ds : List PyData} (h1 : Ev ta σ H x) (h2 : DvL K te σ H ds) (k : ∀ p xs H1, Ex H H1 → H1 p = some (.lst xs) → DpAll K H1 xs ds → sp [x, .ref p] H1 (fun v H2 => tz D (σ.set i (some v)) H2) E0) :
    tSeq (tAsg (tCall sp [] E0 (tCons ta (tCons te tNil))) (gName i)) tz D σ H := h1 H (Ex.refl H) _ fun H1 e1 => h2 H1 e1 _ fun p xs H2 hp e2 h2 hd => k p xs H2 (e1.trans e2) h2 hd
theorem ok_ans {f : Addr} {fd : FuncData} (F : Fun K "answers" "answers" sAns f fd) (gl : mg "len" = none) (M : MkC P w K mg base "Filling" X.CF 4 ["self"] (spFiI K X)) (c1 : Cal P w K mg base "call_end" 1 ["calls", "at"] (SpD K REnd)) (c2 : Cal P w K mg base "answer_to" 17 ["filling", "call"] (spTo K X)) :
    FnOk P w K mg base CX0 18 f fd ["calls"] (spAns K) := by
  refine F.ok scAs (fun vs H Q E h => ?_) (fun cdv A outer s H vs Q E hr h => ?_)
  · obtain ⟨_, _, _, rfl, _⟩ := h
    rfl
  · obtain ⟨a0, ns, cs, rfl, hs, hcs, hlen, k⟩ := h
    have hr1 : Room 1 _ := hr.mono (by decide : 1 ≤ 17)
    have hr5 : Room 5 _ := hr.mono (by decide : 5 ≤ 17)
    refine ⟨_, pss_cons (ps_set (i := 1) scAs.nd rfl (Or.inl rfl) (pe_mkC0 M hr5))
      (pss_cons (ps_set (i := 2) scAs.nd rfl (Or.inl rfl) (pe_lst pa_nil))
      (pss_cons (ps_set (i := 3) scAs.nd rfl (Or.inl rfl) pe_int)
      (pss_cons (ps_while PassesOwn.never (pt_cmpR op_lt (pv 3) (pe_callB call_len_seq (by rfl) gl PySem.boot_len (pa_cons (pv 0) pa_nil)) (nomark _))
        (pss_cons (ps_set (i := 4) scAs.nd rfl (Or.inl rfl) (pe_cal c1 hr1 (pa_cons (pv 0) (pa_cons (pv 3) pa_nil))))
        (pss_cons (ps_set (i := 5) scAs.nd rfl (Or.inl rfl) (pe_cal c2 hr (pa_cons (pv 1) (pa_cons (pe_slice sl_list (pv 0) (po_some (pv 3)) (po_some (pv 4))) pa_nil))))
        (pss_cons (ps_expr (pe_bm PySem.F.plainAttrs_list PySem.F.slot_list_append PySem.F.type_list_append mt_append (pv 2) (pa_cons (pe_callB call_len_seq (by rfl) gl PySem.boot_len (pa_cons (pv 5) pa_nil)) pa_nil)))
        (pss_cons (ps_expr (pe_bm PySem.F.plainAttrs_list PySem.F.slot_list_extend PySem.F.type_list_extend mt_extend (pv 2) (pa_cons (pv 5) pa_nil)))
        (pss_one (ps_set (i := 3) scAs.nd rfl (Or.inl rfl) (pv 4))))))))
      (pss_one (ps_ret (pv 2)))))), ?_⟩
    -- filling = Filling()
    intro a dx na nd ne
    refine ⟨a, dx, rfl, upd_same, fun H1 lc hlc hF hE => ⟨rfl, ?_⟩⟩
    have e1 : Ex H H1 := Ex_made na nd hE
    -- told = []
    refine q_asgDL (K := K) (σ := [some (.ref a0), some (.ref a), none, none, none, none]) (dvl_lst da_nil (by decide)) fun p ys H2 hp e2 h2 hy => ?_
    cases hy
    obtain ⟨fx, fr, fcs, fy, F1, F2, F3, F4, F5, F6⟩ := id hF
    have al := ne_al hF
    have hpa : p ≠ a := fun z => by rw [z, F1] at hp; cases hp
    have hpl : p ≠ lc := fun z => by rw [z, F2] at hp; cases hp
    have hpH : H p = none := fresh_back e1 hp
    have Sa : three a lc p a = true := by unfold three; rw [decide_eq_true rfl]; rfl
    have Sl : three a lc p lc = true := by unfold three; rw [decide_eq_true (rfl : lc = lc)]; simp
    have Spp : three a lc p p = true := by unfold three; rw [decide_eq_true (rfl : p = p)]; simp
    have hF2 : FiAt K X (three a lc p) H2 a lc Cp05.start := by
      have ex : Ex (cutS H1 (two a lc)) (cutS H2 (three a lc p)) := fun b o hb => by
        have hb1 : two a lc b = false := by
          cases z : two a lc b with
          | false => rfl
          | true => rw [cutS_in z] at hb; cases hb
        rw [cutS_ne hb1] at hb
        have hbp : b ≠ p := fun z => by rw [z, hp] at hb; cases hb
        have : three a lc p b = false := by
          unfold two at hb1
          unfold three
          rw [Bool.or_eq_false_iff] at hb1
          rw [hb1.1, hb1.2, decide_eq_false hbp]
          rfl
        rw [cutS_ne this]
        exact e2 _ _ hb
      exact ⟨fx, fr, fcs, fy, e2 _ _ F1, e2 _ _ F2, F3.mono ex, F4.mono ex, F5, F6.mono ex⟩
    have avOf : ∀ G, (∃ d fs, G a = some (.ins X.CF d fs)) → (∃ xs, G lc = some (.lst xs)) → (∃ xs, G p = some (.lst xs)) → Av (three a lc p) G := fun G ⟨d, fs, ha⟩ ⟨xs, hl⟩ ⟨zs, hp⟩ b hb => by
      unfold three at hb
      simp only [Bool.or_eq_true, decide_eq_true_eq] at hb
      rcases hb with rfl | rfl | rfl
      · exact ⟨⟨_, ha⟩, no_tup_ins ha⟩
      · exact ⟨⟨_, hl⟩, no_tup_lst hl⟩
      · exact ⟨⟨_, hp⟩, no_tup_lst hp⟩
    refine q_asg (v := .int 0) (ev_c) fun H3 e3 => ?_
    have haH : H a = none := na
    have hlH : H lc = none := fresh_back (Ex_make na nd) hlc
    have hsD : ∀ G, Ex H G → Dp K G (.ref a0) (.list (ns.map .int)) := fun G e => .lst (ex_l e hs) (DpAll.ofInts _ _ _)
    refine q_while (fun m σ' H' => ∃ (i : Nat) (rest : List Cp05.Call) (st : Cp05.State) (toldN : List Int) (o4 o5 : Option V), σ' = [some (.ref a0), some (.ref a), some (.ref p), some (.int (i : Int)), o4, o5] ∧ m = rest.length ∧ i ≤ ns.length ∧ RdAll (ns.drop i) rest ∧ Ex H H' ∧ FiAt K X (three a lc p) H' a lc st ∧ H' p = some (.lst (toldN.map V.int)) ∧ toldN ++ tell st rest = tell Cp05.start cs)
      cs.length ⟨0, cs, Cp05.start, [], none, none, rfl, rfl, Nat.zero_le _, hcs, (e1.trans e2).trans e3, hF2.mono e3, e3 _ _ h2, rfl⟩ (fun m σ' H' ⟨i, rest, st, toldN, o4, o5, eσ, em, hi, hrest, eH, hFi, hpt, htell⟩ => ?_)
    subst eσ
    subst em
    refine ⟨decide ((i : Int) < (ns.length : Int)), et_test (ev_bl (K := K) (dv_is (dv_B (dv_vi rfl) (dv_len (dv_var rfl (hsD _ eH)))) (by rw [List.length_map]))), fun hb H4 e4 => ?_, fun hb H4 e4 => ?_⟩
    · rw [decide_eq_true_eq] at hb
      have hne : ns.drop i ≠ [] := fun z => by
        have := congrArg List.length z
        rw [List.length_drop] at this
        simp only [List.length_nil] at this
        omega
      generalize hl : ns.drop i = l at hrest hne
      cases hrest with
      | nil => exact absurd rfl hne
      | @cons _ t c r h1 h2 =>
        have hpos := rd1_pos h1
        obtain ⟨own, hown, hrd⟩ := rd1_own h1
        have hll : l.length = ns.length - i := by rw [← hl, List.length_drop]
        have hol : own.length = l.length - t.length := by rw [hown, List.length_append]; omega
        have hdrop : ns.drop (i + own.length) = t := by
          rw [← List.drop_drop, hl, hown, List.drop_left]
        refine ⟨fun σ2 H5 => ∃ (toldN' : List Int) (o4 o5 : Option V), σ2 = [some (.ref a0), some (.ref a), some (.ref p), some (.int ((i + own.length : Nat) : Int)), o4, o5] ∧ Ex H H5 ∧ FiAt K X (three a lc p) H5 a lc (stepA st c).1 ∧ H5 p = some (.lst (toldN'.map V.int)) ∧ toldN' ++ tell (stepA st c).1 r = tell Cp05.start cs, fun σ2 H5 ⟨toldN', o4, o5, eσ, eH5, hF5, hp5, ht5⟩ => ⟨r.length, by simp, i + own.length, r, (stepA st c).1, toldN', o4, o5, eσ, rfl, by omega, by rw [hdrop]; exact h2, eH5, hF5, hp5, ht5⟩, ?_⟩
        -- end = call_end(calls, at)
        refine q_asg (v := .int ((i + own.length : Nat) : Int)) (ev_int (K := K) (dv_call (da_cons (dv_var rfl (hsD _ (eH.trans e4))) (da_cons (dv_vi rfl) da_nil)) ⟨ns, i, t, c, rfl, by rw [hl]; exact h1, by rw [hl, hol]⟩)) fun H5 e5 => ?_
        have e45 := e4.trans e5
        have eH5 := eH.trans e45
        -- answer = answer_to(filling, calls[at:end])
        have hcut : cutP ns (some (i : Int)) (some ((i + own.length : Nat) : Int)) = own := by
          rw [cutP_part ns i (i + own.length) (by omega) (by omega), hl, hown, Nat.add_sub_cancel_left, List.take_left]
        obtain ⟨dxF, rF, csF, yF, A1, A2, A3, A4, A5, A6⟩ := id (hFi.mono e45)
        have tot : (toldN.map V.int).length + (1 + (stepA st c).2.length) ≤ 10000000 := by
          have := congrArg List.length htell
          rw [List.length_append] at this
          have t2 : (tell st (c :: r)).length = 1 + (stepA st c).2.length + (tell (stepA st c).1 r).length := by
            show (((stepA st c).2.length : Int) :: (stepA st c).2 ++ tell (stepA st c).1 r).length = _
            simp only [List.length_cons, List.length_append]
            omega
          rw [List.length_map]
          omega
        refine q_asgTo (K := K) (ev_var rfl) (dvl_is (dvl_sl (dv_var rfl (hsD _ eH5)) (eo_some (ev_var rfl)) (eo_some (ev_var rfl))) (show cutP (ns.map PyData.int) (some (i : Int)) (some ((i + own.length : Nat) : Int)) = own.map .int by rw [cutP_map, hcut])) fun pw xw H7 e57 h7 hxw => ?_
        have e47 := e45.trans e57
        refine ⟨a, lc, three a lc p, st, .ref pw, own, c, rfl, Sa, Sl, avOf _ ⟨_, _, e57 _ _ A1⟩ ⟨_, e57 _ _ A2⟩ ⟨_, e47 _ _ hpt⟩, hFi.mono e47, .lst (sq_of h7) hxw, hrd, fun H8 pa hpa8 h8 hF8 hB => ?_⟩
        have eH8 : Ex H H8 := fun b o hb => hB b o ((eH.trans e47) _ _ hb) (fun z => by rw [z, haH] at hb; cases hb) (fun z => by rw [z, hlH] at hb; cases hb)
        have hp8 : H8 p = some (.lst (toldN.map V.int)) := hB _ _ (e47 _ _ hpt) hpa hpl
        have hpap : pa ≠ p := fun z => by rw [z, e47 _ _ hpt] at hpa8; cases hpa8
        -- told.append(len(answer))
        refine q_appBig (K := K) (σ := [some (.ref a0), some (.ref a), some (.ref p), some (.int (i : Int)), some (.int ((i + own.length : Nat) : Int)), some (.ref pa)]) (v := .int (((stepA st c).2.map V.int).length : Int)) hp8 (ev_var rfl) (ev_len (ev_var rfl) (sq_of h8)) (by omega) fun H9 e9 => ?_
        have h9p : upd H9 p (.lst (toldN.map V.int ++ [.int (((stepA st c).2.map V.int).length : Int)])) p = _ := upd_same
        -- told.extend(answer)
        refine q_extV (K := K) (b := pa) h9p (ev_var rfl) (by rw [upd_ne hpap]; exact e9 _ _ h8) (ev_var rfl) (by rw [List.length_append, List.length_map (as := (stepA st c).2)]; show (toldN.map V.int).length + 1 + _ ≤ _; omega) fun H10 e10 => ?_
        -- at = end
        refine s_asg (ev_var rfl) fun H11 e11 => ?_
        have eA : Ex H (upd H9 p (.lst (toldN.map V.int ++ [.int (((stepA st c).2.map V.int).length : Int)]))) := Ex.mut (eH8.trans e9) hpH
        refine ⟨toldN ++ ((stepA st c).2.length : Int) :: (stepA st c).2, _, _, rfl, (Ex.mut (eA.trans e10) hpH).trans e11, FiAt.mono e11 (FiAt.upd Spp hpa hpl (FiAt.mono e10 (FiAt.upd Spp hpa hpl (hF8.mono e9)))), ?_, ?_⟩
        · rw [e11 _ _ upd_same]
          congr 2
          rw [List.length_map, List.map_append, List.append_assoc]
          rfl
        · rw [← htell, List.append_assoc]
          rfl
    · rw [decide_eq_false_iff_not] at hb
      have hnil : ns.drop i = [] := List.drop_eq_nil_of_le (by omega)
      rw [hnil] at hrest
      have hr0 : rest = [] := by
        generalize hz : ([] : List Int) = z at hrest
        cases hrest with
        | nil => rfl
        | cons h1 h2 => subst hz; exact absurd (rd1_pos h1) (by simp)
      subst hr0
      refine s_ret (ev_var rfl) fun H5 e5 => ?_
      refine k H5 p ?_
      rw [← htell]
      have : tell st [] = [] := rfl
      rw [this, List.append_nil]
      exact e5 _ _ (e4 _ _ hpt)
end
end Bf

namespace Bf
open PySem PySem.Spec PyProof.Rows L2 Evl
section
variable {K : PySem.W.Frag} {h : Heap} {mg : Str → Option Value}
theorem def_mk {x : Str} {st : Stmt} {f : Addr} {oc kV doc pm cdv ct : Value} {od an : Option Addr} {osl : Array (Option Value)} (X : K.In h) (G : h.Ns mainGlobals mg) (a : PySem.W.nsIn K mainGlobals x = some (some (.ref f)))
    (l : K.lookup f = some ⟨oc, od, .func (PySem.W.fnOf x x (defArgs st) (defBody st) (defScope st) .none kV doc pm an cdv ct), osl⟩) (c : PySem.W.codeIn K cdv x = true) (k : PySem.W.keepIn K (.ref f) = true) : Def K mg x st := ⟨f, _, fun_mk l c k, PySem.W.mg_of X G a⟩
theorem gi_mk {x : Str} {n : Int} {t : Tok} (X : K.In h) (G : h.Ns mainGlobals mg) (a : PySem.W.nsIn K mainGlobals x = some (some (.int n t))) : Gi mg x n := ⟨t, PySem.W.mg_of X G a⟩
theorem free_mk {x : Str} (X : K.In h) (G : h.Ns mainGlobals mg) (a : PySem.W.nsIn K mainGlobals x = some none) : mg x = none := PySem.W.mg_none_of X G a
/-- a method of the class at C -/
def MDef (K : PySem.W.Frag) (C : Addr) (m qual : Str) (st : Stmt) : Prop := ∃ f fd, Fun K m qual st f fd ∧ PySem.W.findIn K (.ref C) m = some (some (.ref f)) ∧ PySem.W.isFn K (.ref f) = true
theorem mdef_mk {C : Addr} {m qual : Str} {st : Stmt} {f : Addr} {oc kV doc pm cdv ct : Value} {od an : Option Addr} {osl : Array (Option Value)} (a : PySem.W.findIn K (.ref C) m = some (some (.ref f))) (i : PySem.W.isFn K (.ref f) = true)
    (l : K.lookup f = some ⟨oc, od, .func (PySem.W.fnOf m qual (defArgs st) (defBody st) (defScope st) .none kV doc pm an cdv ct), osl⟩) (c : PySem.W.codeIn K cdv qual = true) (k : PySem.W.keepIn K (.ref f) = true) : MDef K C m qual st := ⟨f, _, fun_mk l c k, a, i⟩
/-- a class of the text -/
structure CDef (K : PySem.W.Frag) (mg : Str → Option Value) (x : Str) (C : Addr) : Prop where
  g : mg x = some (.ref C)
  cl : Cls K C
  makes : PySem.W.makesIn K C = true
  kp : PySem.W.keepIn K (.ref C) = true
theorem cdef_mk {x : Str} {C : Addr} (X : K.In h) (G : h.Ns mainGlobals mg) (a : PySem.W.nsIn K mainGlobals x = some (some (.ref C))) (pg : PySem.W.plainGet K C Str.empty = true) (hd : PySem.W.hasDictIn K C = true) (po : PySem.W.plainOver K C = true)
    (sa : PySem.W.findIn K (.ref C) "__setattr__" = some (some (.builtin "object.__setattr__"))) (mk : PySem.W.makesIn K C = true) (kc : PySem.W.keepIn K (.ref C) = true) : CDef K mg x C := ⟨PySem.W.mg_of X G a, ⟨pg, hd, po, sa⟩, mk, kc⟩
theorem tup_mk {x : Str} {a : Addr} {ns : List Int} {o : Obj} {its : Array Value} {n : Nat} (X : K.In h) (G : h.Ns mainGlobals mg) (e : PySem.W.nsIn K mainGlobals x = some (some (.ref a))) (l : K.lookup a = some o) (hc : o.cls = .type "tuple") (hd : o.data = .seq its n) (hz : its.size ≤ sizeLine) (hv : Vals (ns.map V.int) its.toList) :
    ∃ a, mg x = some (.ref a) ∧ ∀ H, Dp K H (.ref a) (.tuple (ns.map .int)) := ⟨a, PySem.W.mg_of X G e, fun H => .tup (.inr ⟨o, its, n, l, hc, hd, hz, hv⟩) (DpAll.ofInts _ _ _)⟩
theorem noattr_mk {x : Str} {C : Addr} (f : Str) (_ : CDef K mg x C) (h : PySem.W.findIn K (.ref C) f = some none) : NoAttr K C f := h
theorem mdef_mk2 {x : Str} {C : Addr} {m qual : Str} {st : Stmt} {f : Addr} {oc kV doc pm cdv ct : Value} {od an : Option Addr} {osl : Array (Option Value)} (_ : CDef K mg x C) (a : PySem.W.findIn K (.ref C) m = some (some (.ref f))) (i : PySem.W.isFn K (.ref f) = true)
    (l : K.lookup f = some ⟨oc, od, .func (PySem.W.fnOf m qual (defArgs st) (defBody st) (defScope st) .none kV doc pm an cdv ct), osl⟩) (c : PySem.W.codeIn K cdv qual = true) (k : PySem.W.keepIn K (.ref f) = true) : MDef K C m qual st := mdef_mk a i l c k
/-- what the top has written -/
structure Top (K : PySem.W.Frag) (mg : Str → Option Value) (X : Tx) (CP : Addr) : Prop where
  n_STEPS : Gi mg "STEPS" 70
  n_OCTAVE_STEPS : Gi mg "OCTAVE_STEPS" 7
  n_OCTAVE_SEMITONES : Gi mg "OCTAVE_SEMITONES" 12
  n_MOST_ALTERED : Gi mg "MOST_ALTERED" 2
  n_MOST_NAMES : Gi mg "MOST_NAMES" 4
  n_NO_SETTING : Gi mg "NO_SETTING" 4
  n_NO_WAY : Gi mg "NO_WAY" (-1)
  n_PARALLEL : Gi mg "PARALLEL" 1
  n_LEAP : Gi mg "LEAP" 2
  n_BEYOND : Gi mg "BEYOND" 3
  n_NOBODY : Gi mg "NOBODY" 9
  n_SOPRANO : Gi mg "SOPRANO" 0
  n_ALTO : Gi mg "ALTO" 1
  n_TENOR : Gi mg "TENOR" 2
  n_BASS : Gi mg "BASS" 3
  n_NOT_BARRED : Gi mg "NOT_BARRED" (-1)
  n_HIGHEST_SOUND : Gi mg "HIGHEST_SOUND" 119
  n_WIDEST_RANGE : Gi mg "WIDEST_RANGE" 24
  n_MOST_SEMITONES : Gi mg "MOST_SEMITONES" 60
  n_HIGHEST_PRICE : Gi mg "HIGHEST_PRICE" 20
  n_COSTS : Gi mg "COSTS" 120
  n_RULES : Gi mg "RULES" 1
  n_CHORD : Gi mg "CHORD" 2
  n_DROP : Gi mg "DROP" 3
  n_SETTINGS : Gi mg "SETTINGS" 4
  n_COUNT : Gi mg "COUNT" 5
  n_COUNTS : Gi mg "COUNTS" 6
  n_NTH : Gi mg "NTH" 7
  n_JUDGE : Gi mg "JUDGE" 8
  n_MOST_CHORDS : Gi mg "MOST_CHORDS" 8
  n_SETTING_NUMBERS : Gi mg "SETTING_NUMBERS" 6
  t_SEMITONES : Semi K mg
  t_FIRST_RULES : FirstT K mg
  t_PERFECT : TupT K mg "PERFECT" [0, 7]
  t_NOWHERE : TupT K mg "NOWHERE" []
  b_len : mg "len" = none
  b_range : mg "range" = none
  b_sorted : mg "sorted" = none
  b_all : mg "all" = none
  b_set : mg "set" = none
  b_list : mg "list" = none
  b_abs : mg "abs" = none
  b_sum : mg "sum" = none
  b_max : mg "max" = none
  b_min : mg "min" = none
  d_is_alteration : Def K mg "is_alteration" sIsAlt
  d_is_note : Def K mg "is_note" sIsNote
  d_are_notes : Def K mg "are_notes" sAreNotes
  d_sound_of : Def K mg "sound_of" sSound
  d_make_note : Def K mg "make_note" sMake
  d_name_of : Def K mg "name_of" sName
  d_has_bass : Def K mg "has_bass" sHasBass
  d_is_name : Def K mg "is_name" sIsName
  d_are_names : Def K mg "are_names" sAreNames
  d_apart_but_for_octaves : Def K mg "apart_but_for_octaves" sApart
  d_barred_apart : Def K mg "barred_apart" sBarred
  d_is_parallel : Def K mg "is_parallel" sIsPar
  d_places_not_barred : Def K mg "places_not_barred" sNotBar
  d_parallels : Def K mg "parallels" sPars
  d_leaps_too_far : Def K mg "leaps_too_far" sLeaps
  d_moves_beyond : Def K mg "moves_beyond" sBeyond
  d_wrong_moves : Def K mg "wrong_moves" sWrong
  d_semitones_moved : Def K mg "semitones_moved" sMoved
  d_notes_within : Def K mg "notes_within" sNotesWithin
  d_is_near_above : Def K mg "is_near_above" sNear
  d_near_above : Def K mg "near_above" sNearAbove
  d_near_below : Def K mg "near_below" sNearBelow
  d_missing_names : Def K mg "missing_names" sMissing
  d_is_complete : Def K mg "is_complete" sComplete
  d_settings_of : Def K mg "settings_of" sSettings
  d_fits_voice : Def K mg "fits_voice" sFits
  d_is_setting : Def K mg "is_setting" sIsSet
  d_has_name_twice : Def K mg "has_name_twice" sTwice
  d_setting_cost : Def K mg "setting_cost" sCost
  d_four_sounds : Def K mg "four_sounds" sFour
  d_numbers_of : Def K mg "numbers_of" sNums
  d_settings_from : Def K mg "settings_from" sSetFrom
  d_wrongs_at : Def K mg "wrongs_at" sWrongsAt
  d_way_cost : Def K mg "way_cost" sWayCost
  d_judgement : Def K mg "judgement" sJudgement
  d_first_rules : Def K mg "first_rules" sFirst
  d_is_range : Def K mg "is_range" sIsRange
  d_are_all_within : Def K mg "are_all_within" sAllWithin
  d_are_rules : Def K mg "are_rules" sAreRules
  d_width_for : Def K mg "width_for" sWidth
  d_one_free_way : Def K mg "one_free_way" sFree
  d_made_dearer : Def K mg "made_dearer" sDear
  d_how_many_at : Def K mg "how_many_at" sHowMany
  d_by_cost : Def K mg "by_cost" sByCost
  d_rows_of : Def K mg "rows_of" sRowsOf
  d_choices_of : Def K mg "choices_of" sChoices
  d_with_own_cost : Def K mg "with_own_cost" sOwnCost
  d_tallies_ahead : Def K mg "tallies_ahead" sAhead
  d_call_end : Def K mg "call_end" sEnd
  d_answer_to : Def K mg "answer_to" sTo
  d_answers : Def K mg "answers" sAns
  c_Chord : CDef K mg "Chord" X.C
  a_Chord_bass : NoAttr K X.C "bass"
  a_Chord_names : NoAttr K X.C "names"
  a_Chord_may_lack : NoAttr K X.C "may_lack"
  m_Chord_init : MDef K X.C "__init__" "Chord.__init__" sChI
  c_Rules : CDef K mg "Rules" X.CR
  a_Rules_ranges : NoAttr K X.CR "ranges"
  a_Rules_apart : NoAttr K X.CR "apart"
  a_Rules_leaps : NoAttr K X.CR "leaps"
  a_Rules_twice : NoAttr K X.CR "twice"
  a_Rules_left : NoAttr K X.CR "left"
  a_Rules_move : NoAttr K X.CR "move"
  m_Rules_init : MDef K X.CR "__init__" "Rules.__init__" sRuI
  c_Passage : CDef K mg "Passage" CP
  a_Passage_rules : NoAttr K CP "rules"
  a_Passage_basses : NoAttr K CP "basses"
  a_Passage_width : NoAttr K CP "width"
  a_Passage_rows : NoAttr K CP "rows"
  a_Passage_places : NoAttr K CP "places"
  a_Passage_reaches : NoAttr K CP "reaches"
  a_Passage_alto_rows : NoAttr K CP "alto_rows"
  a_Passage_tenor_rows : NoAttr K CP "tenor_rows"
  a_Passage_tenors : NoAttr K CP "tenors"
  m_Passage_init : MDef K CP "__init__" "Passage.__init__" sPaI
  m_Passage_tally_from : MDef K CP "tally_from" "Passage.tally_from" sTally
  m_Passage_reach : MDef K CP "reach" "Passage.reach" sReach
  m_Passage_places_for : MDef K CP "places_for" "Passage.places_for" sPlaces
  m_Passage_moved : MDef K CP "moved" "Passage.moved" sPaMoved
  m_Passage_sum_over_altos : MDef K CP "sum_over_altos" "Passage.sum_over_altos" sSumA
  m_Passage_alto_row : MDef K CP "alto_row" "Passage.alto_row" sAltoRow
  m_Passage_sum_over_tenors : MDef K CP "sum_over_tenors" "Passage.sum_over_tenors" sSumT
  m_Passage_tenor_row : MDef K CP "tenor_row" "Passage.tenor_row" sTenRow
  m_Passage_tenors_beside : MDef K CP "tenors_beside" "Passage.tenors_beside" sTenBes
  c_Choice : CDef K mg "Choice" X.CC
  a_Choice_notes : NoAttr K X.CC "notes"
  a_Choice_sounds : NoAttr K X.CC "sounds"
  a_Choice_cost : NoAttr K X.CC "cost"
  m_Choice_init : MDef K X.CC "__init__" "Choice.__init__" sCcI
  c_Ways : CDef K mg "Ways" X.CW
  a_Ways_rules : NoAttr K X.CW "rules"
  a_Ways_choices : NoAttr K X.CW "choices"
  a_Ways_width : NoAttr K X.CW "width"
  a_Ways_onward : NoAttr K X.CW "onward"
  a_Ways_numbers : NoAttr K X.CW "numbers"
  m_Ways_init : MDef K X.CW "__init__" "Ways.__init__" sWaI
  m_Ways_tallies_onward : MDef K X.CW "tallies_onward" "Ways.tallies_onward" sOnward
  m_Ways_how_many : MDef K X.CW "how_many" "Ways.how_many" sWaMany
  m_Ways_nth : MDef K X.CW "nth" "Ways.nth" sNth
  m_Ways_settings_at : MDef K X.CW "settings_at" "Ways.settings_at" sSetAt
  m_Ways_many_through : MDef K X.CW "many_through" "Ways.many_through" sThrough
  m_Ways_price_to : MDef K X.CW "price_to" "Ways.price_to" sPrice
  c_Filling : CDef K mg "Filling" X.CF
  a_Filling_rules : NoAttr K X.CF "rules"
  a_Filling_chords : NoAttr K X.CF "chords"
  a_Filling_ways : NoAttr K X.CF "ways"
  m_Filling_init : MDef K X.CF "__init__" "Filling.__init__" sFiI
  m_Filling_ways_now : MDef K X.CF "ways_now" "Filling.ways_now" sNow
  m_Filling_take_rules : MDef K X.CF "take_rules" "Filling.take_rules" sTake
  m_Filling_add_chord : MDef K X.CF "add_chord" "Filling.add_chord" sAdd
  m_Filling_drop_chord : MDef K X.CF "drop_chord" "Filling.drop_chord" sDrop
  m_Filling_tell_setting : MDef K X.CF "tell_setting" "Filling.tell_setting" sTell
  m_Filling_tell_count : MDef K X.CF "tell_count" "Filling.tell_count" sCount
  m_Filling_tell_counts : MDef K X.CF "tell_counts" "Filling.tell_counts" sCounts
  m_Filling_tell_way : MDef K X.CF "tell_way" "Filling.tell_way" sWay
  m_Filling_judge : MDef K X.CF "judge" "Filling.judge" sJudge
theorem all_ok {P : Program} {w : World} {X : Tx} {CP : Addr} (T : Top K mg X CP) : ∃ f fd, mg "answers" = some (.ref f) ∧ (∀ (s : Shared) (us : List Value), us.length = (["calls"] : List Str).length → BindsTo s fd ⟨us, []⟩ ((["calls"] : List Str).zip us)) ∧ ∀ base : Heap, FnOk P w K mg base CX0 18 f fd ["calls"] (spAns K) := by
  have TC : ChTxt K X.C := ⟨T.c_Chord.cl, T.a_Chord_bass, T.a_Chord_names, T.a_Chord_may_lack⟩
  have TR : RuTxt K X.CR := ⟨T.c_Rules.cl, T.a_Rules_ranges, T.a_Rules_apart, T.a_Rules_leaps, T.a_Rules_twice, T.a_Rules_left, T.a_Rules_move⟩
  have TP : PaTxt K CP := ⟨T.c_Passage.cl, T.a_Passage_rules, T.a_Passage_basses, T.a_Passage_width, T.a_Passage_rows, T.a_Passage_places, T.a_Passage_reaches, T.a_Passage_alto_rows, T.a_Passage_tenor_rows, T.a_Passage_tenors⟩
  have TK : CcTxt K X.CC := ⟨T.c_Choice.cl, T.a_Choice_notes, T.a_Choice_sounds, T.a_Choice_cost⟩
  have TW : WaTxt K X.CW := ⟨T.c_Ways.cl, T.a_Ways_rules, T.a_Ways_choices, T.a_Ways_width, T.a_Ways_onward, T.a_Ways_numbers⟩
  have TF : FiTxt K X.CF := ⟨T.c_Filling.cl, T.a_Filling_rules, T.a_Filling_chords, T.a_Filling_ways⟩
  obtain ⟨f, fd, F, hm⟩ := T.d_answers
  refine ⟨f, fd, hm, ?_, fun base => ?_⟩
  · obtain ⟨oc, od, kV, doc, pm, an, cdv, ct, osl, rfl, _⟩ := F.ex
    exact fun s us hu => match us, hu with | [_], _ => .of_eq rfl
  obtain ⟨f_Rules_init, fd_Rules_init, F_Rules_init, i_Rules_init, j_Rules_init⟩ := T.m_Rules_init
  have M_Rules : MkC P w K mg base "Rules" X.CR 1 ["self", "numbers"] (spRuI K X.CR) := ⟨f_Rules_init, fd_Rules_init, T.c_Rules.g, ⟨T.c_Rules.makes, i_Rules_init, j_Rules_init, T.c_Rules.kp⟩, F_Rules_init.binds fun _ _ _ _ _ _ us hl => match us, hl with | [_, _], _ => rfl, ok_ruI F_Rules_init TR⟩
  have q_first_rules : Cal P w K mg base "first_rules" 3 [] (spFirst K X.CR) := cal_first T.d_first_rules T.b_list T.t_FIRST_RULES M_Rules
  obtain ⟨f_Filling_init, fd_Filling_init, F_Filling_init, i_Filling_init, j_Filling_init⟩ := T.m_Filling_init
  have M_Filling : MkC P w K mg base "Filling" X.CF 4 ["self"] (spFiI K X) := ⟨f_Filling_init, fd_Filling_init, T.c_Filling.g, ⟨T.c_Filling.makes, i_Filling_init, j_Filling_init, T.c_Filling.kp⟩, F_Filling_init.binds fun _ _ _ _ _ _ us hl => match us, hl with | [_], _ => rfl, ok_fiI F_Filling_init TF q_first_rules⟩
  have q_call_end : Cal P w K mg base "call_end" 1 ["calls", "at"] (SpD K REnd) := cal_end T.d_call_end T.n_RULES T.n_CHORD T.n_DROP T.n_COUNT T.n_COUNTS T.n_NTH T.n_JUDGE
  have q_is_range : Cal P w K mg base "is_range" 1 ["low", "high"] (SpD K RIsRange) := cal_isRange T.d_is_range T.n_HIGHEST_SOUND T.n_WIDEST_RANGE
  have q_are_all_within : Cal P w K mg base "are_all_within" 1 ["numbers", "most"] (SpD K RAllWithin) := cal_allWithin T.d_are_all_within T.b_all
  have q_are_rules : Cal P w K mg base "are_rules" 2 ["numbers"] (SpD K RAreRules) := cal_areRules T.d_are_rules T.b_len T.t_FIRST_RULES T.n_MOST_SEMITONES T.n_HIGHEST_PRICE q_is_range q_are_all_within
  obtain ⟨f_Filling_take_rules, fd_Filling_take_rules, F_Filling_take_rules, i_Filling_take_rules, j_Filling_take_rules⟩ := T.m_Filling_take_rules
  have N_Filling_take_rules : MtC P w K mg base X.CF "take_rules" 3 ["self", "numbers"] (SpM K X RTake) := ⟨f_Filling_take_rules, fd_Filling_take_rules, ⟨i_Filling_take_rules, j_Filling_take_rules, F_Filling_take_rules.kp⟩, F_Filling_take_rules.binds fun _ _ _ _ _ _ us hl => match us, hl with | [_, _], _ => rfl, ok_take F_Filling_take_rules TF q_are_rules M_Rules⟩
  have q_is_alteration : Cal P w K mg base "is_alteration" 1 ["alteration"] (SpD K RIsAlt) := cal_isAlt T.d_is_alteration T.n_MOST_ALTERED
  have q_is_note : Cal P w K mg base "is_note" 2 ["step", "alteration"] (SpD K RIsNote) := cal_isNote T.d_is_note T.n_STEPS q_is_alteration
  have q_has_bass : Cal P w K mg base "has_bass" 3 ["numbers"] (SpD K RHasBass) := cal_hasBass T.d_has_bass T.b_len q_is_note
  have q_is_name : Cal P w K mg base "is_name" 2 ["step", "alteration", "may_lack"] (SpD K RIsName) := cal_isName T.d_is_name T.n_OCTAVE_STEPS q_is_alteration
  have q_are_names : Cal P w K mg base "are_names" 3 ["numbers"] (SpD K RAreNames) := cal_areNames T.d_are_names T.b_len T.b_range T.n_MOST_NAMES q_is_name
  have q_sound_of : Cal P w K mg base "sound_of" 1 ["step", "alteration"] (SpD K RSound) := cal_sound T.d_sound_of T.n_OCTAVE_SEMITONES T.n_OCTAVE_STEPS T.t_SEMITONES
  have q_make_note : Cal P w K mg base "make_note" 2 ["step", "alteration"] (SpD K RMake) := cal_make T.d_make_note q_sound_of
  have q_notes_within : Cal P w K mg base "notes_within" 3 ["names", "low", "high"] (SpDL K RNotesWithin) := cal_notesWithin T.d_notes_within T.n_STEPS T.n_OCTAVE_STEPS T.b_range T.b_sorted q_make_note
  have q_is_near_above : Cal P w K mg base "is_near_above" 1 ["upper", "lower", "apart"] (SpD K RNear) := cal_near T.d_is_near_above 
  have q_near_above : Cal P w K mg base "near_above" 2 ["uppers", "lower", "apart"] (SpDL K RNearAbove) := cal_nearAbove T.d_near_above q_is_near_above
  have q_near_below : Cal P w K mg base "near_below" 2 ["lowers", "upper", "apart"] (SpDL K RNearBelow) := cal_nearBelow T.d_near_below q_is_near_above
  have q_name_of : Cal P w K mg base "name_of" 1 ["note"] (SpD K RName) := cal_name T.d_name_of T.n_OCTAVE_STEPS
  have q_missing_names : Cal P w K mg base "missing_names" 2 ["chord", "setting"] (SpCL K X.C gMissing) := cal_missing T.d_missing_names TC q_name_of
  have q_is_complete : Cal P w K mg base "is_complete" 3 ["chord", "setting"] (SpC K X.C gComplete) := cal_complete T.d_is_complete TC T.b_all q_missing_names
  have q_settings_of : Cal P w K mg base "settings_of" 4 ["rules", "chord"] (SpSet K X.CR X.C) := cal_settings T.d_settings_of TC TR q_notes_within q_near_above q_near_below q_is_complete
  obtain ⟨f_Chord_init, fd_Chord_init, F_Chord_init, i_Chord_init, j_Chord_init⟩ := T.m_Chord_init
  have M_Chord : MkC P w K mg base "Chord" X.C 3 ["self", "numbers"] (spChI K X.C) := ⟨f_Chord_init, fd_Chord_init, T.c_Chord.g, ⟨T.c_Chord.makes, i_Chord_init, j_Chord_init, T.c_Chord.kp⟩, F_Chord_init.binds fun _ _ _ _ _ _ us hl => match us, hl with | [_, _], _ => rfl, ok_chI F_Chord_init TC T.b_len T.b_range q_make_note⟩
  obtain ⟨f_Filling_add_chord, fd_Filling_add_chord, F_Filling_add_chord, i_Filling_add_chord, j_Filling_add_chord⟩ := T.m_Filling_add_chord
  have N_Filling_add_chord : MtC P w K mg base X.CF "add_chord" 5 ["self", "numbers"] (SpM K X RAdd) := ⟨f_Filling_add_chord, fd_Filling_add_chord, ⟨i_Filling_add_chord, j_Filling_add_chord, F_Filling_add_chord.kp⟩, F_Filling_add_chord.binds fun _ _ _ _ _ _ us hl => match us, hl with | [_, _], _ => rfl, ok_add F_Filling_add_chord TF T.b_len T.n_MOST_CHORDS q_has_bass q_are_names q_settings_of M_Chord⟩
  obtain ⟨f_Filling_drop_chord, fd_Filling_drop_chord, F_Filling_drop_chord, i_Filling_drop_chord, j_Filling_drop_chord⟩ := T.m_Filling_drop_chord
  have N_Filling_drop_chord : MtC P w K mg base X.CF "drop_chord" 1 ["self"] (SpM K X RDrop) := ⟨f_Filling_drop_chord, fd_Filling_drop_chord, ⟨i_Filling_drop_chord, j_Filling_drop_chord, F_Filling_drop_chord.kp⟩, F_Filling_drop_chord.binds fun _ _ _ _ _ _ us hl => match us, hl with | [_], _ => rfl, ok_drop F_Filling_drop_chord TF T.b_len⟩
  have q_has_name_twice : Cal P w K mg base "has_name_twice" 2 ["setting"] (SpD K RTwice) := cal_twice T.d_has_name_twice T.b_len T.b_set q_name_of
  have q_setting_cost : Cal P w K mg base "setting_cost" 3 ["rules", "chord", "setting"] (SpCost K X.CR X.C) := cal_cost T.d_setting_cost TR T.b_len q_missing_names q_has_name_twice
  have q_numbers_of : Cal P w K mg base "numbers_of" 1 ["setting"] (SpDL K RNums) := cal_nums T.d_numbers_of 
  obtain ⟨f_Filling_tell_setting, fd_Filling_tell_setting, F_Filling_tell_setting, i_Filling_tell_setting, j_Filling_tell_setting⟩ := T.m_Filling_tell_setting
  have N_Filling_tell_setting : MtC P w K mg base X.CF "tell_setting" 5 ["self", "i", "k"] (SpM K X RTell) := ⟨f_Filling_tell_setting, fd_Filling_tell_setting, ⟨i_Filling_tell_setting, j_Filling_tell_setting, F_Filling_tell_setting.kp⟩, F_Filling_tell_setting.binds fun _ _ _ _ _ _ us hl => match us, hl with | [_, _, _], _ => rfl, ok_tell F_Filling_tell_setting TF T.b_len q_settings_of q_setting_cost q_numbers_of⟩
  have q_four_sounds : Cal P w K mg base "four_sounds" 1 ["chord", "setting"] (SpFour K X.C) := cal_four T.d_four_sounds TC
  obtain ⟨f_Choice_init, fd_Choice_init, F_Choice_init, i_Choice_init, j_Choice_init⟩ := T.m_Choice_init
  have M_Choice : MkC P w K mg base "Choice" X.CC 4 ["self", "rules", "chord", "setting"] (spCcI K X.CR X.C X.CC) := ⟨f_Choice_init, fd_Choice_init, T.c_Choice.g, ⟨T.c_Choice.makes, i_Choice_init, j_Choice_init, T.c_Choice.kp⟩, F_Choice_init.binds fun _ _ _ _ _ _ us hl => match us, hl with | [_, _, _, _], _ => rfl, ok_ccI F_Choice_init TK q_four_sounds q_setting_cost⟩
  have q_choices_of : Cal P w K mg base "choices_of" 6 ["rules", "chord"] (SpChs K X.CR X.C X.CC) := cal_choices T.d_choices_of q_settings_of M_Choice
  have q_width_for : Cal P w K mg base "width_for" 1 ["how_many"] (SpD K RWidth) := cal_width T.d_width_for T.b_max
  have q_one_free_way : Cal P w K mg base "one_free_way" 1 ["width"] (SpD K RFree) := cal_free T.d_one_free_way T.n_COSTS
  have q_made_dearer : Cal P w K mg base "made_dearer" 1 ["tally", "cost", "width"] (SpD K RDear) := cal_dear T.d_made_dearer 
  have q_with_own_cost : Cal P w K mg base "with_own_cost" 2 ["choices", "tallies", "width"] (SpOwn K X.CC) := cal_ownCost T.d_with_own_cost TK q_made_dearer
  have q_rows_of : Cal P w K mg base "rows_of" 1 ["tallies"] SpRows := cal_rowsOf T.d_rows_of T.n_SOPRANO T.n_ALTO T.n_TENOR
  obtain ⟨f_Passage_init, fd_Passage_init, F_Passage_init, i_Passage_init, j_Passage_init⟩ := T.m_Passage_init
  have M_Passage : MkC P w K mg base "Passage" CP 2 ["self", "rules", "basses", "tallies", "width"] (spPaI K X.CR CP) := ⟨f_Passage_init, fd_Passage_init, T.c_Passage.g, ⟨T.c_Passage.makes, i_Passage_init, j_Passage_init, T.c_Passage.kp⟩, F_Passage_init.binds fun _ _ _ _ _ _ us hl => match us, hl with | [_, _, _, _, _], _ => rfl, ok_paI F_Passage_init TP T.n_BASS T.b_range T.b_sorted T.b_set q_rows_of⟩
  have q_apart_but_for_octaves : Cal P w K mg base "apart_but_for_octaves" 1 ["one", "other"] (SpD K RApart) := cal_apart T.d_apart_but_for_octaves T.n_OCTAVE_SEMITONES
  have q_barred_apart : Cal P w K mg base "barred_apart" 2 ["one", "other", "next_one"] (SpD K RBarred) := cal_barred T.d_barred_apart T.t_PERFECT T.n_NOT_BARRED q_apart_but_for_octaves
  have q_is_parallel : Cal P w K mg base "is_parallel" 3 ["one", "other", "next_one", "next_other"] (SpD K RIsPar) := cal_isPar T.d_is_parallel q_barred_apart q_apart_but_for_octaves
  obtain ⟨f_Passage_places_for, fd_Passage_places_for, F_Passage_places_for, i_Passage_places_for, j_Passage_places_for⟩ := T.m_Passage_places_for
  have N_Passage_places_for : MtC P w K mg base CP "places_for" 4 ["self", "voice", "sound", "lowest", "highest"] (SpQ K X.CR CP (APlaces K)) := ⟨f_Passage_places_for, fd_Passage_places_for, ⟨i_Passage_places_for, j_Passage_places_for, F_Passage_places_for.kp⟩, F_Passage_places_for.binds fun _ _ _ _ _ _ us hl => match us, hl with | [_, _, _, _, _], _ => rfl, ok_places F_Passage_places_for TP TR T.b_max T.b_min q_is_parallel⟩
  obtain ⟨f_Passage_reach, fd_Passage_reach, F_Passage_reach, i_Passage_reach, j_Passage_reach⟩ := T.m_Passage_reach
  have N_Passage_reach : MtC P w K mg base CP "reach" 5 ["self", "voice", "sound", "lowest", "highest"] (SpP K X.CR CP (AReach K)) := ⟨f_Passage_reach, fd_Passage_reach, ⟨i_Passage_reach, j_Passage_reach, F_Passage_reach.kp⟩, F_Passage_reach.binds fun _ _ _ _ _ _ us hl => match us, hl with | [_, _, _, _, _], _ => rfl, ok_reach F_Passage_reach TP N_Passage_places_for⟩
  obtain ⟨f_Passage_moved, fd_Passage_moved, F_Passage_moved, i_Passage_moved, j_Passage_moved⟩ := T.m_Passage_moved
  have N_Passage_moved : MtC P w K mg base CP "moved" 2 ["self", "tally", "sound", "place"] (SpV K X.CR CP) := ⟨f_Passage_moved, fd_Passage_moved, ⟨i_Passage_moved, j_Passage_moved, F_Passage_moved.kp⟩, F_Passage_moved.binds fun _ _ _ _ _ _ us hl => match us, hl with | [_, _, _, _], _ => rfl, ok_pmoved F_Passage_moved TP TR T.b_abs q_made_dearer⟩
  obtain ⟨f_Passage_tenor_row, fd_Passage_tenor_row, F_Passage_tenor_row, i_Passage_tenor_row, j_Passage_tenor_row⟩ := T.m_Passage_tenor_row
  have N_Passage_tenor_row : MtC P w K mg base CP "tenor_row" 3 ["self", "sound", "soprano", "alto"] (SpP K X.CR CP ATenRow) := ⟨f_Passage_tenor_row, fd_Passage_tenor_row, ⟨i_Passage_tenor_row, j_Passage_tenor_row, F_Passage_tenor_row.kp⟩, F_Passage_tenor_row.binds fun _ _ _ _ _ _ us hl => match us, hl with | [_, _, _, _], _ => rfl, ok_tenRow F_Passage_tenor_row TP N_Passage_moved⟩
  have q_places_not_barred : Cal P w K mg base "places_not_barred" 2 ["barred", "other", "next_one", "places"] (SpD K RNotBar) := cal_notBar T.d_places_not_barred T.n_NOT_BARRED q_apart_but_for_octaves
  obtain ⟨f_Passage_tenors_beside, fd_Passage_tenors_beside, F_Passage_tenors_beside, i_Passage_tenors_beside, j_Passage_tenors_beside⟩ := T.m_Passage_tenors_beside
  have N_Passage_tenors_beside : MtC P w K mg base CP "tenors_beside" 6 ["self", "here", "alto"] (SpP K X.CR CP (ATenBes K)) := ⟨f_Passage_tenors_beside, fd_Passage_tenors_beside, ⟨i_Passage_tenors_beside, j_Passage_tenors_beside, F_Passage_tenors_beside.kp⟩, F_Passage_tenors_beside.binds fun _ _ _ _ _ _ us hl => match us, hl with | [_, _, _], _ => rfl, ok_tenBes F_Passage_tenors_beside TP T.n_ALTO T.n_TENOR N_Passage_reach q_barred_apart q_places_not_barred⟩
  obtain ⟨f_Passage_sum_over_tenors, fd_Passage_sum_over_tenors, F_Passage_sum_over_tenors, i_Passage_sum_over_tenors, j_Passage_sum_over_tenors⟩ := T.m_Passage_sum_over_tenors
  have N_Passage_sum_over_tenors : MtC P w K mg base CP "sum_over_tenors" 7 ["self", "here", "soprano", "alto", "barred"] (SpP K X.CR CP (ASumT K)) := ⟨f_Passage_sum_over_tenors, fd_Passage_sum_over_tenors, ⟨i_Passage_sum_over_tenors, j_Passage_sum_over_tenors, F_Passage_sum_over_tenors.kp⟩, F_Passage_sum_over_tenors.binds fun _ _ _ _ _ _ us hl => match us, hl with | [_, _, _, _, _], _ => rfl, ok_sumT F_Passage_sum_over_tenors TP T.n_TENOR T.b_sum N_Passage_tenor_row N_Passage_tenors_beside q_places_not_barred⟩
  obtain ⟨f_Passage_alto_row, fd_Passage_alto_row, F_Passage_alto_row, i_Passage_alto_row, j_Passage_alto_row⟩ := T.m_Passage_alto_row
  have N_Passage_alto_row : MtC P w K mg base CP "alto_row" 8 ["self", "here", "soprano"] (SpP K X.CR CP (AAltoRow K)) := ⟨f_Passage_alto_row, fd_Passage_alto_row, ⟨i_Passage_alto_row, j_Passage_alto_row, F_Passage_alto_row.kp⟩, F_Passage_alto_row.binds fun _ _ _ _ _ _ us hl => match us, hl with | [_, _, _], _ => rfl, ok_altoRow F_Passage_alto_row TP T.n_SOPRANO T.n_ALTO T.n_TENOR T.n_HIGHEST_SOUND N_Passage_reach N_Passage_moved N_Passage_sum_over_tenors q_barred_apart⟩
  obtain ⟨f_Passage_sum_over_altos, fd_Passage_sum_over_altos, F_Passage_sum_over_altos, i_Passage_sum_over_altos, j_Passage_sum_over_altos⟩ := T.m_Passage_sum_over_altos
  have N_Passage_sum_over_altos : MtC P w K mg base CP "sum_over_altos" 9 ["self", "here", "soprano", "altos"] (SpP K X.CR CP (ASumA K)) := ⟨f_Passage_sum_over_altos, fd_Passage_sum_over_altos, ⟨i_Passage_sum_over_altos, j_Passage_sum_over_altos, F_Passage_sum_over_altos.kp⟩, F_Passage_sum_over_altos.binds fun _ _ _ _ _ _ us hl => match us, hl with | [_, _, _, _], _ => rfl, ok_sumA F_Passage_sum_over_altos TP T.n_SOPRANO T.n_ALTO T.b_sum N_Passage_alto_row q_barred_apart q_places_not_barred⟩
  obtain ⟨f_Passage_tally_from, fd_Passage_tally_from, F_Passage_tally_from, i_Passage_tally_from, j_Passage_tally_from⟩ := T.m_Passage_tally_from
  have N_Passage_tally_from : MtC P w K mg base CP "tally_from" 10 ["self", "here"] (SpP K X.CR CP (ATally K)) := ⟨f_Passage_tally_from, fd_Passage_tally_from, ⟨i_Passage_tally_from, j_Passage_tally_from, F_Passage_tally_from.kp⟩, F_Passage_tally_from.binds fun _ _ _ _ _ _ us hl => match us, hl with | [_, _], _ => rfl, ok_tally F_Passage_tally_from TP T.n_SOPRANO T.n_ALTO T.n_TENOR T.n_HIGHEST_SOUND N_Passage_reach N_Passage_moved N_Passage_sum_over_altos⟩
  have q_tallies_ahead : Cal P w K mg base "tallies_ahead" 11 ["rules", "choices", "basses", "tallies", "width"] (SpAh K X.CR X.CC) := cal_ahead T.d_tallies_ahead TK TP M_Passage N_Passage_tally_from
  obtain ⟨f_Ways_tallies_onward, fd_Ways_tallies_onward, F_Ways_tallies_onward, i_Ways_tallies_onward, j_Ways_tallies_onward⟩ := T.m_Ways_tallies_onward
  have N_Ways_tallies_onward : MtC P w K mg base X.CW "tallies_onward" 12 ["self", "chords"] (SpOn K X.CR X.C X.CC X.CW) := ⟨f_Ways_tallies_onward, fd_Ways_tallies_onward, ⟨i_Ways_tallies_onward, j_Ways_tallies_onward, F_Ways_tallies_onward.kp⟩, F_Ways_tallies_onward.binds fun _ _ _ _ _ _ us hl => match us, hl with | [_, _], _ => rfl, ok_onward F_Ways_tallies_onward TW TC TK T.b_len T.b_range q_one_free_way q_with_own_cost q_tallies_ahead⟩
  have q_how_many_at : Cal P w K mg base "how_many_at" 1 ["tally", "cost", "width"] (SpD K RHowMany) := cal_howMany T.d_how_many_at T.n_COSTS
  have q_by_cost : Cal P w K mg base "by_cost" 2 ["tally", "width"] (SpDL K RByCost) := cal_byCost T.d_by_cost T.n_COSTS T.b_range q_how_many_at
  obtain ⟨f_Ways_init, fd_Ways_init, F_Ways_init, i_Ways_init, j_Ways_init⟩ := T.m_Ways_init
  have M_Ways : MkC P w K mg base "Ways" X.CW 13 ["self", "rules", "chords"] (spWaI K X.CR X.C X.CC X.CW) := ⟨f_Ways_init, fd_Ways_init, T.c_Ways.g, ⟨T.c_Ways.makes, i_Ways_init, j_Ways_init, T.c_Ways.kp⟩, F_Ways_init.binds fun _ _ _ _ _ _ us hl => match us, hl with | [_, _, _], _ => rfl, ok_waI F_Ways_init TW T.b_len T.b_sum q_choices_of q_width_for N_Ways_tallies_onward q_with_own_cost q_by_cost⟩
  obtain ⟨f_Filling_ways_now, fd_Filling_ways_now, F_Filling_ways_now, i_Filling_ways_now, j_Filling_ways_now⟩ := T.m_Filling_ways_now
  have N_Filling_ways_now : MtC P w K mg base X.CF "ways_now" 15 ["self"] (SpNow K X) := ⟨f_Filling_ways_now, fd_Filling_ways_now, ⟨i_Filling_ways_now, j_Filling_ways_now, F_Filling_ways_now.kp⟩, F_Filling_ways_now.binds fun _ _ _ _ _ _ us hl => match us, hl with | [_], _ => rfl, ok_now F_Filling_ways_now TF M_Ways⟩
  obtain ⟨f_Filling_tell_count, fd_Filling_tell_count, F_Filling_tell_count, i_Filling_tell_count, j_Filling_tell_count⟩ := T.m_Filling_tell_count
  have N_Filling_tell_count : MtC P w K mg base X.CF "tell_count" 16 ["self", "p"] (SpM K X RCount) := ⟨f_Filling_tell_count, fd_Filling_tell_count, ⟨i_Filling_tell_count, j_Filling_tell_count, F_Filling_tell_count.kp⟩, F_Filling_tell_count.binds fun _ _ _ _ _ _ us hl => match us, hl with | [_, _], _ => rfl, ok_count F_Filling_tell_count TF TW T.b_len T.b_sum T.n_COSTS N_Filling_ways_now⟩
  obtain ⟨f_Filling_tell_counts, fd_Filling_tell_counts, F_Filling_tell_counts, i_Filling_tell_counts, j_Filling_tell_counts⟩ := T.m_Filling_tell_counts
  have N_Filling_tell_counts : MtC P w K mg base X.CF "tell_counts" 16 ["self"] (SpM K X RCounts) := ⟨f_Filling_tell_counts, fd_Filling_tell_counts, ⟨i_Filling_tell_counts, j_Filling_tell_counts, F_Filling_tell_counts.kp⟩, F_Filling_tell_counts.binds fun _ _ _ _ _ _ us hl => match us, hl with | [_], _ => rfl, ok_counts F_Filling_tell_counts TF TW T.b_len T.b_range T.n_COSTS N_Filling_ways_now⟩
  obtain ⟨f_Ways_how_many, fd_Ways_how_many, F_Ways_how_many, i_Ways_how_many, j_Ways_how_many⟩ := T.m_Ways_how_many
  have N_Ways_how_many : MtC P w K mg base X.CW "how_many" 1 ["self"] (SpHm K X.CR X.CC X.CW) := ⟨f_Ways_how_many, fd_Ways_how_many, ⟨i_Ways_how_many, j_Ways_how_many, F_Ways_how_many.kp⟩, F_Ways_how_many.binds fun _ _ _ _ _ _ us hl => match us, hl with | [_], _ => rfl, ok_waMany F_Ways_how_many TW T.b_sum⟩
  have q_semitones_moved : Cal P w K mg base "semitones_moved" 1 ["here", "there"] (SpD K RMovedS) := cal_moved T.d_semitones_moved T.n_BASS T.b_range T.b_abs T.b_sum
  obtain ⟨f_Ways_price_to, fd_Ways_price_to, F_Ways_price_to, i_Ways_price_to, j_Ways_price_to⟩ := T.m_Ways_price_to
  have N_Ways_price_to : MtC P w K mg base X.CW "price_to" 2 ["self", "here", "choice"] (SpPr K X.CR X.CC X.CW) := ⟨f_Ways_price_to, fd_Ways_price_to, ⟨i_Ways_price_to, j_Ways_price_to, F_Ways_price_to.kp⟩, F_Ways_price_to.binds fun _ _ _ _ _ _ us hl => match us, hl with | [_, _, _], _ => rfl, ok_price F_Ways_price_to TW TK TR T.t_NOWHERE q_semitones_moved⟩
  have q_parallels : Cal P w K mg base "parallels" 4 ["here", "there"] (SpDL K RPars) := cal_pars T.d_parallels T.n_BASS T.n_PARALLEL T.b_range q_is_parallel
  have q_leaps_too_far : Cal P w K mg base "leaps_too_far" 1 ["rules", "here", "there"] (SpRH K X.CR gLeaps) := cal_leaps T.d_leaps_too_far TR T.n_BASS T.n_LEAP T.n_NOBODY T.b_range T.b_abs
  have q_moves_beyond : Cal P w K mg base "moves_beyond" 1 ["here", "there"] (SpDL K RBeyond) := cal_beyond T.d_moves_beyond T.n_BASS T.n_BEYOND T.b_range
  have q_wrong_moves : Cal P w K mg base "wrong_moves" 5 ["rules", "here", "there"] (SpRH K X.CR gWrong) := cal_wrong T.d_wrong_moves q_parallels q_leaps_too_far q_moves_beyond
  obtain ⟨f_Ways_many_through, fd_Ways_many_through, F_Ways_many_through, i_Ways_many_through, j_Ways_many_through⟩ := T.m_Ways_many_through
  have N_Ways_many_through : MtC P w K mg base X.CW "many_through" 6 ["self", "at", "here", "choice", "cost"] (SpTh K X.CR X.CC X.CW) := ⟨f_Ways_many_through, fd_Ways_many_through, ⟨i_Ways_many_through, j_Ways_many_through, F_Ways_many_through.kp⟩, F_Ways_many_through.binds fun _ _ _ _ _ _ us hl => match us, hl with | [_, _, _, _, _], _ => rfl, ok_through F_Ways_many_through TW TK T.t_NOWHERE N_Ways_price_to q_how_many_at q_wrong_moves⟩
  obtain ⟨f_Ways_settings_at, fd_Ways_settings_at, F_Ways_settings_at, i_Ways_settings_at, j_Ways_settings_at⟩ := T.m_Ways_settings_at
  have N_Ways_settings_at : MtC P w K mg base X.CW "settings_at" 7 ["self", "cost", "n"] (SpSa K X.CR X.CC X.CW) := ⟨f_Ways_settings_at, fd_Ways_settings_at, ⟨i_Ways_settings_at, j_Ways_settings_at, F_Ways_settings_at.kp⟩, F_Ways_settings_at.binds fun _ _ _ _ _ _ us hl => match us, hl with | [_, _, _], _ => rfl, ok_setAt F_Ways_settings_at TW TK T.t_NOWHERE T.b_len T.b_range N_Ways_many_through N_Ways_price_to⟩
  obtain ⟨f_Ways_nth, fd_Ways_nth, F_Ways_nth, i_Ways_nth, j_Ways_nth⟩ := T.m_Ways_nth
  have N_Ways_nth : MtC P w K mg base X.CW "nth" 8 ["self", "n"] (SpNth K X.CR X.CC X.CW) := ⟨f_Ways_nth, fd_Ways_nth, ⟨i_Ways_nth, j_Ways_nth, F_Ways_nth.kp⟩, F_Ways_nth.binds fun _ _ _ _ _ _ us hl => match us, hl with | [_, _], _ => rfl, ok_nth F_Ways_nth TW N_Ways_settings_at⟩
  obtain ⟨f_Filling_tell_way, fd_Filling_tell_way, F_Filling_tell_way, i_Filling_tell_way, j_Filling_tell_way⟩ := T.m_Filling_tell_way
  have N_Filling_tell_way : MtC P w K mg base X.CF "tell_way" 16 ["self", "n"] (SpM K X RWay) := ⟨f_Filling_tell_way, fd_Filling_tell_way, ⟨i_Filling_tell_way, j_Filling_tell_way, F_Filling_tell_way.kp⟩, F_Filling_tell_way.binds fun _ _ _ _ _ _ us hl => match us, hl with | [_, _], _ => rfl, ok_way F_Filling_tell_way TF TW T.b_len N_Filling_ways_now N_Ways_how_many N_Ways_nth q_numbers_of⟩
  have q_are_notes : Cal P w K mg base "are_notes" 3 ["numbers"] (SpD K RAreNotes) := cal_areNotes T.d_are_notes T.b_len T.b_range T.b_all q_is_note
  have q_settings_from : Cal P w K mg base "settings_from" 3 ["numbers"] (SpDL K RSetFrom) := cal_setFrom T.d_settings_from T.b_len T.b_range q_make_note
  have q_fits_voice : Cal P w K mg base "fits_voice" 2 ["rules", "chord", "voice", "note"] (SpFits K X.CR X.C) := cal_fits T.d_fits_voice TC TR q_name_of
  have q_is_setting : Cal P w K mg base "is_setting" 4 ["rules", "chord", "setting"] (SpIs K X.CR X.C) := cal_isSet T.d_is_setting TC TR T.b_len T.b_range q_fits_voice q_is_near_above q_is_complete
  have q_wrongs_at : Cal P w K mg base "wrongs_at" 6 ["rules", "chords", "settings", "at"] (SpWA K X.CR X.C) := cal_wrongsAt T.d_wrongs_at T.n_NO_SETTING T.n_NOBODY q_is_setting q_four_sounds q_wrong_moves
  have q_way_cost : Cal P w K mg base "way_cost" 4 ["rules", "chords", "settings"] (SpWC K X.CR X.C) := cal_wayCost T.d_way_cost TR T.b_len T.b_range T.b_sum q_four_sounds q_setting_cost q_semitones_moved
  have q_judgement : Cal P w K mg base "judgement" 7 ["rules", "chords", "settings"] (SpJg K X.CR X.C) := cal_judgement T.d_judgement T.b_len T.b_range T.n_NO_WAY q_wrongs_at q_way_cost
  obtain ⟨f_Filling_judge, fd_Filling_judge, F_Filling_judge, i_Filling_judge, j_Filling_judge⟩ := T.m_Filling_judge
  have N_Filling_judge : MtC P w K mg base X.CF "judge" 8 ["self", "numbers"] (SpM K X RJudge) := ⟨f_Filling_judge, fd_Filling_judge, ⟨i_Filling_judge, j_Filling_judge, F_Filling_judge.kp⟩, F_Filling_judge.binds fun _ _ _ _ _ _ us hl => match us, hl with | [_, _], _ => rfl, ok_judge F_Filling_judge TF T.b_len T.n_SETTING_NUMBERS q_are_notes q_settings_from q_judgement⟩
  have q_answer_to : Cal P w K mg base "answer_to" 17 ["filling", "call"] (spTo K X) := cal_to T.d_answer_to TF T.n_RULES T.n_CHORD T.n_DROP T.n_SETTINGS T.n_COUNT T.n_COUNTS T.n_NTH N_Filling_take_rules N_Filling_add_chord N_Filling_drop_chord N_Filling_tell_setting N_Filling_tell_count N_Filling_tell_counts N_Filling_tell_way N_Filling_judge
  exact ok_ans F T.b_len M_Filling q_call_end q_answer_to
end
end Bf

open PySem PySem.W PyProof.Rows
set_option maxRecDepth 100000 in
set_option maxHeartbeats 8000000 in
theorem PySem.Challenge.cw_bassfilled_s01_answers_holds : PySem.Challenge.rw_bassfilled_s01_answers.Holds := by
  w_on; k_headS; (case hw => exact ⟨[.list [.int 3]], by decide +kernel, by decide +kernel⟩)
  k_fillS
  refine L2.walk_specK (r := PySem.Challenge.rw_bassfilled_s01_answers) (k := 18) (CX := L2.CX0) (ps := ["calls"]) (sp := fun K => Bf.spAns K) (by decide +kernel) rfl rfl ⟨rfl, by decide, by decide⟩ (fun w h Y => PySem.W.kIn_of Y) ?F ?S (fun _ _ _ _ z => z)
  case F =>
    intro w mg fa h Y KX G hmg
    have n_STEPS : Bf.Gi mg "STEPS" 70 := by refine' Bf.gi_mk KX G ?a; (case a => k_is)
    have n_OCTAVE_STEPS : Bf.Gi mg "OCTAVE_STEPS" 7 := by refine' Bf.gi_mk KX G ?a; (case a => k_is)
    have n_OCTAVE_SEMITONES : Bf.Gi mg "OCTAVE_SEMITONES" 12 := by refine' Bf.gi_mk KX G ?a; (case a => k_is)
    have n_MOST_ALTERED : Bf.Gi mg "MOST_ALTERED" 2 := by refine' Bf.gi_mk KX G ?a; (case a => k_is)
    have n_MOST_NAMES : Bf.Gi mg "MOST_NAMES" 4 := by refine' Bf.gi_mk KX G ?a; (case a => k_is)
    have n_NO_SETTING : Bf.Gi mg "NO_SETTING" 4 := by refine' Bf.gi_mk KX G ?a; (case a => k_is)
    have n_NO_WAY : Bf.Gi mg "NO_WAY" (-1) := by refine' Bf.gi_mk KX G ?a; (case a => k_is)
    have n_PARALLEL : Bf.Gi mg "PARALLEL" 1 := by refine' Bf.gi_mk KX G ?a; (case a => k_is)
    have n_LEAP : Bf.Gi mg "LEAP" 2 := by refine' Bf.gi_mk KX G ?a; (case a => k_is)
    have n_BEYOND : Bf.Gi mg "BEYOND" 3 := by refine' Bf.gi_mk KX G ?a; (case a => k_is)
    have n_NOBODY : Bf.Gi mg "NOBODY" 9 := by refine' Bf.gi_mk KX G ?a; (case a => k_is)
    have n_SOPRANO : Bf.Gi mg "SOPRANO" 0 := by refine' Bf.gi_mk KX G ?a; (case a => k_is)
    have n_ALTO : Bf.Gi mg "ALTO" 1 := by refine' Bf.gi_mk KX G ?a; (case a => k_is)
    have n_TENOR : Bf.Gi mg "TENOR" 2 := by refine' Bf.gi_mk KX G ?a; (case a => k_is)
    have n_BASS : Bf.Gi mg "BASS" 3 := by refine' Bf.gi_mk KX G ?a; (case a => k_is)
    have n_NOT_BARRED : Bf.Gi mg "NOT_BARRED" (-1) := by refine' Bf.gi_mk KX G ?a; (case a => k_is)
    have n_HIGHEST_SOUND : Bf.Gi mg "HIGHEST_SOUND" 119 := by refine' Bf.gi_mk KX G ?a; (case a => k_is)
    have n_WIDEST_RANGE : Bf.Gi mg "WIDEST_RANGE" 24 := by refine' Bf.gi_mk KX G ?a; (case a => k_is)
    have n_MOST_SEMITONES : Bf.Gi mg "MOST_SEMITONES" 60 := by refine' Bf.gi_mk KX G ?a; (case a => k_is)
    have n_HIGHEST_PRICE : Bf.Gi mg "HIGHEST_PRICE" 20 := by refine' Bf.gi_mk KX G ?a; (case a => k_is)
    have n_COSTS : Bf.Gi mg "COSTS" 120 := by refine' Bf.gi_mk KX G ?a; (case a => k_is)
    have n_RULES : Bf.Gi mg "RULES" 1 := by refine' Bf.gi_mk KX G ?a; (case a => k_is)
    have n_CHORD : Bf.Gi mg "CHORD" 2 := by refine' Bf.gi_mk KX G ?a; (case a => k_is)
    have n_DROP : Bf.Gi mg "DROP" 3 := by refine' Bf.gi_mk KX G ?a; (case a => k_is)
    have n_SETTINGS : Bf.Gi mg "SETTINGS" 4 := by refine' Bf.gi_mk KX G ?a; (case a => k_is)
    have n_COUNT : Bf.Gi mg "COUNT" 5 := by refine' Bf.gi_mk KX G ?a; (case a => k_is)
    have n_COUNTS : Bf.Gi mg "COUNTS" 6 := by refine' Bf.gi_mk KX G ?a; (case a => k_is)
    have n_NTH : Bf.Gi mg "NTH" 7 := by refine' Bf.gi_mk KX G ?a; (case a => k_is)
    have n_JUDGE : Bf.Gi mg "JUDGE" 8 := by refine' Bf.gi_mk KX G ?a; (case a => k_is)
    have n_MOST_CHORDS : Bf.Gi mg "MOST_CHORDS" 8 := by refine' Bf.gi_mk KX G ?a; (case a => k_is)
    have n_SETTING_NUMBERS : Bf.Gi mg "SETTING_NUMBERS" 6 := by refine' Bf.gi_mk KX G ?a; (case a => k_is)
    have t_SEMITONES := Bf.tup_mk (x := "SEMITONES") (ns := Cp05.whites) KX G (by k_is) (by k_is) rfl rfl (by decide) (by exact (.cons ⟨_, rfl⟩ (.cons ⟨_, rfl⟩ (.cons ⟨_, rfl⟩ (.cons ⟨_, rfl⟩ (.cons ⟨_, rfl⟩ (.cons ⟨_, rfl⟩ (.cons ⟨_, rfl⟩ .nil))))))))
    have t_FIRST_RULES := Bf.tup_mk (x := "FIRST_RULES") (ns := Bf.firstNs) KX G (by k_is) (by k_is) rfl rfl (by decide) (by exact (.cons ⟨_, rfl⟩ (.cons ⟨_, rfl⟩ (.cons ⟨_, rfl⟩ (.cons ⟨_, rfl⟩ (.cons ⟨_, rfl⟩ (.cons ⟨_, rfl⟩ (.cons ⟨_, rfl⟩ (.cons ⟨_, rfl⟩ (.cons ⟨_, rfl⟩ (.cons ⟨_, rfl⟩ (.cons ⟨_, rfl⟩ (.cons ⟨_, rfl⟩ (.cons ⟨_, rfl⟩ (.cons ⟨_, rfl⟩ (.cons ⟨_, rfl⟩ .nil))))))))))))))))
    have t_PERFECT := Bf.tup_mk (x := "PERFECT") (ns := [0, 7]) KX G (by k_is) (by k_is) rfl rfl (by decide) (by exact (.cons ⟨_, rfl⟩ (.cons ⟨_, rfl⟩ .nil)))
    have t_NOWHERE := Bf.tup_mk (x := "NOWHERE") (ns := []) KX G (by k_is) (by k_is) rfl rfl (by decide) (by exact .nil)
    have b_len : mg "len" = none := by refine' Bf.free_mk KX G ?a; (case a => k_is)
    have b_range : mg "range" = none := by refine' Bf.free_mk KX G ?a; (case a => k_is)
    have b_sorted : mg "sorted" = none := by refine' Bf.free_mk KX G ?a; (case a => k_is)
    have b_all : mg "all" = none := by refine' Bf.free_mk KX G ?a; (case a => k_is)
    have b_set : mg "set" = none := by refine' Bf.free_mk KX G ?a; (case a => k_is)
    have b_list : mg "list" = none := by refine' Bf.free_mk KX G ?a; (case a => k_is)
    have b_abs : mg "abs" = none := by refine' Bf.free_mk KX G ?a; (case a => k_is)
    have b_sum : mg "sum" = none := by refine' Bf.free_mk KX G ?a; (case a => k_is)
    have b_max : mg "max" = none := by refine' Bf.free_mk KX G ?a; (case a => k_is)
    have b_min : mg "min" = none := by refine' Bf.free_mk KX G ?a; (case a => k_is)
    have d_is_alteration := Bf.def_mk (x := "is_alteration") (st := Bf.sIsAlt) KX G (by k_is) (by k_is) (by k_is) (by k_is)
    have d_is_note := Bf.def_mk (x := "is_note") (st := Bf.sIsNote) KX G (by k_is) (by k_is) (by k_is) (by k_is)
    have d_are_notes := Bf.def_mk (x := "are_notes") (st := Bf.sAreNotes) KX G (by k_is) (by k_is) (by k_is) (by k_is)
    have d_sound_of := Bf.def_mk (x := "sound_of") (st := Bf.sSound) KX G (by k_is) (by k_is) (by k_is) (by k_is)
    have d_make_note := Bf.def_mk (x := "make_note") (st := Bf.sMake) KX G (by k_is) (by k_is) (by k_is) (by k_is)
    have d_name_of := Bf.def_mk (x := "name_of") (st := Bf.sName) KX G (by k_is) (by k_is) (by k_is) (by k_is)
    have d_has_bass := Bf.def_mk (x := "has_bass") (st := Bf.sHasBass) KX G (by k_is) (by k_is) (by k_is) (by k_is)
    have d_is_name := Bf.def_mk (x := "is_name") (st := Bf.sIsName) KX G (by k_is) (by k_is) (by k_is) (by k_is)
    have d_are_names := Bf.def_mk (x := "are_names") (st := Bf.sAreNames) KX G (by k_is) (by k_is) (by k_is) (by k_is)
    have d_apart_but_for_octaves := Bf.def_mk (x := "apart_but_for_octaves") (st := Bf.sApart) KX G (by k_is) (by k_is) (by k_is) (by k_is)
    have d_barred_apart := Bf.def_mk (x := "barred_apart") (st := Bf.sBarred) KX G (by k_is) (by k_is) (by k_is) (by k_is)
    have d_is_parallel := Bf.def_mk (x := "is_parallel") (st := Bf.sIsPar) KX G (by k_is) (by k_is) (by k_is) (by k_is)
    have d_places_not_barred := Bf.def_mk (x := "places_not_barred") (st := Bf.sNotBar) KX G (by k_is) (by k_is) (by k_is) (by k_is)
    have d_parallels := Bf.def_mk (x := "parallels") (st := Bf.sPars) KX G (by k_is) (by k_is) (by k_is) (by k_is)
    have d_leaps_too_far := Bf.def_mk (x := "leaps_too_far") (st := Bf.sLeaps) KX G (by k_is) (by k_is) (by k_is) (by k_is)
    have d_moves_beyond := Bf.def_mk (x := "moves_beyond") (st := Bf.sBeyond) KX G (by k_is) (by k_is) (by k_is) (by k_is)
    have d_wrong_moves := Bf.def_mk (x := "wrong_moves") (st := Bf.sWrong) KX G (by k_is) (by k_is) (by k_is) (by k_is)
    have d_semitones_moved := Bf.def_mk (x := "semitones_moved") (st := Bf.sMoved) KX G (by k_is) (by k_is) (by k_is) (by k_is)
    have d_notes_within := Bf.def_mk (x := "notes_within") (st := Bf.sNotesWithin) KX G (by k_is) (by k_is) (by k_is) (by k_is)
    have d_is_near_above := Bf.def_mk (x := "is_near_above") (st := Bf.sNear) KX G (by k_is) (by k_is) (by k_is) (by k_is)
    have d_near_above := Bf.def_mk (x := "near_above") (st := Bf.sNearAbove) KX G (by k_is) (by k_is) (by k_is) (by k_is)
    have d_near_below := Bf.def_mk (x := "near_below") (st := Bf.sNearBelow) KX G (by k_is) (by k_is) (by k_is) (by k_is)
    have d_missing_names := Bf.def_mk (x := "missing_names") (st := Bf.sMissing) KX G (by k_is) (by k_is) (by k_is) (by k_is)
    have d_is_complete := Bf.def_mk (x := "is_complete") (st := Bf.sComplete) KX G (by k_is) (by k_is) (by k_is) (by k_is)
    have d_settings_of := Bf.def_mk (x := "settings_of") (st := Bf.sSettings) KX G (by k_is) (by k_is) (by k_is) (by k_is)
    have d_fits_voice := Bf.def_mk (x := "fits_voice") (st := Bf.sFits) KX G (by k_is) (by k_is) (by k_is) (by k_is)
    have d_is_setting := Bf.def_mk (x := "is_setting") (st := Bf.sIsSet) KX G (by k_is) (by k_is) (by k_is) (by k_is)
    have d_has_name_twice := Bf.def_mk (x := "has_name_twice") (st := Bf.sTwice) KX G (by k_is) (by k_is) (by k_is) (by k_is)
    have d_setting_cost := Bf.def_mk (x := "setting_cost") (st := Bf.sCost) KX G (by k_is) (by k_is) (by k_is) (by k_is)
    have d_four_sounds := Bf.def_mk (x := "four_sounds") (st := Bf.sFour) KX G (by k_is) (by k_is) (by k_is) (by k_is)
    have d_numbers_of := Bf.def_mk (x := "numbers_of") (st := Bf.sNums) KX G (by k_is) (by k_is) (by k_is) (by k_is)
    have d_settings_from := Bf.def_mk (x := "settings_from") (st := Bf.sSetFrom) KX G (by k_is) (by k_is) (by k_is) (by k_is)
    have d_wrongs_at := Bf.def_mk (x := "wrongs_at") (st := Bf.sWrongsAt) KX G (by k_is) (by k_is) (by k_is) (by k_is)
    have d_way_cost := Bf.def_mk (x := "way_cost") (st := Bf.sWayCost) KX G (by k_is) (by k_is) (by k_is) (by k_is)
    have d_judgement := Bf.def_mk (x := "judgement") (st := Bf.sJudgement) KX G (by k_is) (by k_is) (by k_is) (by k_is)
    have d_first_rules := Bf.def_mk (x := "first_rules") (st := Bf.sFirst) KX G (by k_is) (by k_is) (by k_is) (by k_is)
    have d_is_range := Bf.def_mk (x := "is_range") (st := Bf.sIsRange) KX G (by k_is) (by k_is) (by k_is) (by k_is)
    have d_are_all_within := Bf.def_mk (x := "are_all_within") (st := Bf.sAllWithin) KX G (by k_is) (by k_is) (by k_is) (by k_is)
    have d_are_rules := Bf.def_mk (x := "are_rules") (st := Bf.sAreRules) KX G (by k_is) (by k_is) (by k_is) (by k_is)
    have d_width_for := Bf.def_mk (x := "width_for") (st := Bf.sWidth) KX G (by k_is) (by k_is) (by k_is) (by k_is)
    have d_one_free_way := Bf.def_mk (x := "one_free_way") (st := Bf.sFree) KX G (by k_is) (by k_is) (by k_is) (by k_is)
    have d_made_dearer := Bf.def_mk (x := "made_dearer") (st := Bf.sDear) KX G (by k_is) (by k_is) (by k_is) (by k_is)
    have d_how_many_at := Bf.def_mk (x := "how_many_at") (st := Bf.sHowMany) KX G (by k_is) (by k_is) (by k_is) (by k_is)
    have d_by_cost := Bf.def_mk (x := "by_cost") (st := Bf.sByCost) KX G (by k_is) (by k_is) (by k_is) (by k_is)
    have d_rows_of := Bf.def_mk (x := "rows_of") (st := Bf.sRowsOf) KX G (by k_is) (by k_is) (by k_is) (by k_is)
    have d_choices_of := Bf.def_mk (x := "choices_of") (st := Bf.sChoices) KX G (by k_is) (by k_is) (by k_is) (by k_is)
    have d_with_own_cost := Bf.def_mk (x := "with_own_cost") (st := Bf.sOwnCost) KX G (by k_is) (by k_is) (by k_is) (by k_is)
    have d_tallies_ahead := Bf.def_mk (x := "tallies_ahead") (st := Bf.sAhead) KX G (by k_is) (by k_is) (by k_is) (by k_is)
    have d_call_end := Bf.def_mk (x := "call_end") (st := Bf.sEnd) KX G (by k_is) (by k_is) (by k_is) (by k_is)
    have d_answer_to := Bf.def_mk (x := "answer_to") (st := Bf.sTo) KX G (by k_is) (by k_is) (by k_is) (by k_is)
    have d_answers := Bf.def_mk (x := "answers") (st := Bf.sAns) KX G (by k_is) (by k_is) (by k_is) (by k_is)
    have c_Chord := Bf.cdef_mk (x := "Chord") KX G (by k_is) (by k_is) (by k_is) (by k_is) (by k_is) (by k_is) (by k_is)
    have a_Chord_bass := Bf.noattr_mk "bass" c_Chord (by k_is)
    have a_Chord_names := Bf.noattr_mk "names" c_Chord (by k_is)
    have a_Chord_may_lack := Bf.noattr_mk "may_lack" c_Chord (by k_is)
    have m_Chord_init := Bf.mdef_mk2 (m := "__init__") (qual := "Chord.__init__") (st := Bf.sChI) c_Chord (by k_is) (by k_is) (by k_is) (by k_is) (by k_is)
    have c_Rules := Bf.cdef_mk (x := "Rules") KX G (by k_is) (by k_is) (by k_is) (by k_is) (by k_is) (by k_is) (by k_is)
    have a_Rules_ranges := Bf.noattr_mk "ranges" c_Rules (by k_is)
    have a_Rules_apart := Bf.noattr_mk "apart" c_Rules (by k_is)
    have a_Rules_leaps := Bf.noattr_mk "leaps" c_Rules (by k_is)
    have a_Rules_twice := Bf.noattr_mk "twice" c_Rules (by k_is)
    have a_Rules_left := Bf.noattr_mk "left" c_Rules (by k_is)
    have a_Rules_move := Bf.noattr_mk "move" c_Rules (by k_is)
    have m_Rules_init := Bf.mdef_mk2 (m := "__init__") (qual := "Rules.__init__") (st := Bf.sRuI) c_Rules (by k_is) (by k_is) (by k_is) (by k_is) (by k_is)
    have c_Passage := Bf.cdef_mk (x := "Passage") KX G (by k_is) (by k_is) (by k_is) (by k_is) (by k_is) (by k_is) (by k_is)
    have a_Passage_rules := Bf.noattr_mk "rules" c_Passage (by k_is)
    have a_Passage_basses := Bf.noattr_mk "basses" c_Passage (by k_is)
    have a_Passage_width := Bf.noattr_mk "width" c_Passage (by k_is)
    have a_Passage_rows := Bf.noattr_mk "rows" c_Passage (by k_is)
    have a_Passage_places := Bf.noattr_mk "places" c_Passage (by k_is)
    have a_Passage_reaches := Bf.noattr_mk "reaches" c_Passage (by k_is)
    have a_Passage_alto_rows := Bf.noattr_mk "alto_rows" c_Passage (by k_is)
    have a_Passage_tenor_rows := Bf.noattr_mk "tenor_rows" c_Passage (by k_is)
    have a_Passage_tenors := Bf.noattr_mk "tenors" c_Passage (by k_is)
    have m_Passage_init := Bf.mdef_mk2 (m := "__init__") (qual := "Passage.__init__") (st := Bf.sPaI) c_Passage (by k_is) (by k_is) (by k_is) (by k_is) (by k_is)
    have m_Passage_tally_from := Bf.mdef_mk2 (m := "tally_from") (qual := "Passage.tally_from") (st := Bf.sTally) c_Passage (by k_is) (by k_is) (by k_is) (by k_is) (by k_is)
    have m_Passage_reach := Bf.mdef_mk2 (m := "reach") (qual := "Passage.reach") (st := Bf.sReach) c_Passage (by k_is) (by k_is) (by k_is) (by k_is) (by k_is)
    have m_Passage_places_for := Bf.mdef_mk2 (m := "places_for") (qual := "Passage.places_for") (st := Bf.sPlaces) c_Passage (by k_is) (by k_is) (by k_is) (by k_is) (by k_is)
    have m_Passage_moved := Bf.mdef_mk2 (m := "moved") (qual := "Passage.moved") (st := Bf.sPaMoved) c_Passage (by k_is) (by k_is) (by k_is) (by k_is) (by k_is)
    have m_Passage_sum_over_altos := Bf.mdef_mk2 (m := "sum_over_altos") (qual := "Passage.sum_over_altos") (st := Bf.sSumA) c_Passage (by k_is) (by k_is) (by k_is) (by k_is) (by k_is)
    have m_Passage_alto_row := Bf.mdef_mk2 (m := "alto_row") (qual := "Passage.alto_row") (st := Bf.sAltoRow) c_Passage (by k_is) (by k_is) (by k_is) (by k_is) (by k_is)
    have m_Passage_sum_over_tenors := Bf.mdef_mk2 (m := "sum_over_tenors") (qual := "Passage.sum_over_tenors") (st := Bf.sSumT) c_Passage (by k_is) (by k_is) (by k_is) (by k_is) (by k_is)
    have m_Passage_tenor_row := Bf.mdef_mk2 (m := "tenor_row") (qual := "Passage.tenor_row") (st := Bf.sTenRow) c_Passage (by k_is) (by k_is) (by k_is) (by k_is) (by k_is)
    have m_Passage_tenors_beside := Bf.mdef_mk2 (m := "tenors_beside") (qual := "Passage.tenors_beside") (st := Bf.sTenBes) c_Passage (by k_is) (by k_is) (by k_is) (by k_is) (by k_is)
    have c_Choice := Bf.cdef_mk (x := "Choice") KX G (by k_is) (by k_is) (by k_is) (by k_is) (by k_is) (by k_is) (by k_is)
    have a_Choice_notes := Bf.noattr_mk "notes" c_Choice (by k_is)
    have a_Choice_sounds := Bf.noattr_mk "sounds" c_Choice (by k_is)
    have a_Choice_cost := Bf.noattr_mk "cost" c_Choice (by k_is)
    have m_Choice_init := Bf.mdef_mk2 (m := "__init__") (qual := "Choice.__init__") (st := Bf.sCcI) c_Choice (by k_is) (by k_is) (by k_is) (by k_is) (by k_is)
    have c_Ways := Bf.cdef_mk (x := "Ways") KX G (by k_is) (by k_is) (by k_is) (by k_is) (by k_is) (by k_is) (by k_is)
    have a_Ways_rules := Bf.noattr_mk "rules" c_Ways (by k_is)
    have a_Ways_choices := Bf.noattr_mk "choices" c_Ways (by k_is)
    have a_Ways_width := Bf.noattr_mk "width" c_Ways (by k_is)
    have a_Ways_onward := Bf.noattr_mk "onward" c_Ways (by k_is)
    have a_Ways_numbers := Bf.noattr_mk "numbers" c_Ways (by k_is)
    have m_Ways_init := Bf.mdef_mk2 (m := "__init__") (qual := "Ways.__init__") (st := Bf.sWaI) c_Ways (by k_is) (by k_is) (by k_is) (by k_is) (by k_is)
    have m_Ways_tallies_onward := Bf.mdef_mk2 (m := "tallies_onward") (qual := "Ways.tallies_onward") (st := Bf.sOnward) c_Ways (by k_is) (by k_is) (by k_is) (by k_is) (by k_is)
    have m_Ways_how_many := Bf.mdef_mk2 (m := "how_many") (qual := "Ways.how_many") (st := Bf.sWaMany) c_Ways (by k_is) (by k_is) (by k_is) (by k_is) (by k_is)
    have m_Ways_nth := Bf.mdef_mk2 (m := "nth") (qual := "Ways.nth") (st := Bf.sNth) c_Ways (by k_is) (by k_is) (by k_is) (by k_is) (by k_is)
    have m_Ways_settings_at := Bf.mdef_mk2 (m := "settings_at") (qual := "Ways.settings_at") (st := Bf.sSetAt) c_Ways (by k_is) (by k_is) (by k_is) (by k_is) (by k_is)
    have m_Ways_many_through := Bf.mdef_mk2 (m := "many_through") (qual := "Ways.many_through") (st := Bf.sThrough) c_Ways (by k_is) (by k_is) (by k_is) (by k_is) (by k_is)
    have m_Ways_price_to := Bf.mdef_mk2 (m := "price_to") (qual := "Ways.price_to") (st := Bf.sPrice) c_Ways (by k_is) (by k_is) (by k_is) (by k_is) (by k_is)
    have c_Filling := Bf.cdef_mk (x := "Filling") KX G (by k_is) (by k_is) (by k_is) (by k_is) (by k_is) (by k_is) (by k_is)
    have a_Filling_rules := Bf.noattr_mk "rules" c_Filling (by k_is)
    have a_Filling_chords := Bf.noattr_mk "chords" c_Filling (by k_is)
    have a_Filling_ways := Bf.noattr_mk "ways" c_Filling (by k_is)
    have m_Filling_init := Bf.mdef_mk2 (m := "__init__") (qual := "Filling.__init__") (st := Bf.sFiI) c_Filling (by k_is) (by k_is) (by k_is) (by k_is) (by k_is)
    have m_Filling_ways_now := Bf.mdef_mk2 (m := "ways_now") (qual := "Filling.ways_now") (st := Bf.sNow) c_Filling (by k_is) (by k_is) (by k_is) (by k_is) (by k_is)
    have m_Filling_take_rules := Bf.mdef_mk2 (m := "take_rules") (qual := "Filling.take_rules") (st := Bf.sTake) c_Filling (by k_is) (by k_is) (by k_is) (by k_is) (by k_is)
    have m_Filling_add_chord := Bf.mdef_mk2 (m := "add_chord") (qual := "Filling.add_chord") (st := Bf.sAdd) c_Filling (by k_is) (by k_is) (by k_is) (by k_is) (by k_is)
    have m_Filling_drop_chord := Bf.mdef_mk2 (m := "drop_chord") (qual := "Filling.drop_chord") (st := Bf.sDrop) c_Filling (by k_is) (by k_is) (by k_is) (by k_is) (by k_is)
    have m_Filling_tell_setting := Bf.mdef_mk2 (m := "tell_setting") (qual := "Filling.tell_setting") (st := Bf.sTell) c_Filling (by k_is) (by k_is) (by k_is) (by k_is) (by k_is)
    have m_Filling_tell_count := Bf.mdef_mk2 (m := "tell_count") (qual := "Filling.tell_count") (st := Bf.sCount) c_Filling (by k_is) (by k_is) (by k_is) (by k_is) (by k_is)
    have m_Filling_tell_counts := Bf.mdef_mk2 (m := "tell_counts") (qual := "Filling.tell_counts") (st := Bf.sCounts) c_Filling (by k_is) (by k_is) (by k_is) (by k_is) (by k_is)
    have m_Filling_tell_way := Bf.mdef_mk2 (m := "tell_way") (qual := "Filling.tell_way") (st := Bf.sWay) c_Filling (by k_is) (by k_is) (by k_is) (by k_is) (by k_is)
    have m_Filling_judge := Bf.mdef_mk2 (m := "judge") (qual := "Filling.judge") (st := Bf.sJudge) c_Filling (by k_is) (by k_is) (by k_is) (by k_is) (by k_is)
    obtain ⟨f, fd, hf, hb, hF⟩ := Bf.all_ok (X := ⟨_, _, _, _, _⟩) ⟨n_STEPS, n_OCTAVE_STEPS, n_OCTAVE_SEMITONES, n_MOST_ALTERED, n_MOST_NAMES, n_NO_SETTING, n_NO_WAY, n_PARALLEL, n_LEAP, n_BEYOND, n_NOBODY, n_SOPRANO, n_ALTO, n_TENOR, n_BASS, n_NOT_BARRED, n_HIGHEST_SOUND, n_WIDEST_RANGE, n_MOST_SEMITONES, n_HIGHEST_PRICE, n_COSTS, n_RULES, n_CHORD, n_DROP, n_SETTINGS, n_COUNT, n_COUNTS, n_NTH, n_JUDGE, n_MOST_CHORDS, n_SETTING_NUMBERS, t_SEMITONES, t_FIRST_RULES, t_PERFECT, t_NOWHERE, b_len, b_range, b_sorted, b_all, b_set, b_list, b_abs, b_sum, b_max, b_min, d_is_alteration, d_is_note, d_are_notes, d_sound_of, d_make_note, d_name_of, d_has_bass, d_is_name, d_are_names, d_apart_but_for_octaves, d_barred_apart, d_is_parallel, d_places_not_barred, d_parallels, d_leaps_too_far, d_moves_beyond, d_wrong_moves, d_semitones_moved, d_notes_within, d_is_near_above, d_near_above, d_near_below, d_missing_names, d_is_complete, d_settings_of, d_fits_voice, d_is_setting, d_has_name_twice, d_setting_cost, d_four_sounds, d_numbers_of, d_settings_from, d_wrongs_at, d_way_cost, d_judgement, d_first_rules, d_is_range, d_are_all_within, d_are_rules, d_width_for, d_one_free_way, d_made_dearer, d_how_many_at, d_by_cost, d_rows_of, d_choices_of, d_with_own_cost, d_tallies_ahead, d_call_end, d_answer_to, d_answers, c_Chord, a_Chord_bass, a_Chord_names, a_Chord_may_lack, m_Chord_init, c_Rules, a_Rules_ranges, a_Rules_apart, a_Rules_leaps, a_Rules_twice, a_Rules_left, a_Rules_move, m_Rules_init, c_Passage, a_Passage_rules, a_Passage_basses, a_Passage_width, a_Passage_rows, a_Passage_places, a_Passage_reaches, a_Passage_alto_rows, a_Passage_tenor_rows, a_Passage_tenors, m_Passage_init, m_Passage_tally_from, m_Passage_reach, m_Passage_places_for, m_Passage_moved, m_Passage_sum_over_altos, m_Passage_alto_row, m_Passage_sum_over_tenors, m_Passage_tenor_row, m_Passage_tenors_beside, c_Choice, a_Choice_notes, a_Choice_sounds, a_Choice_cost, m_Choice_init, c_Ways, a_Ways_rules, a_Ways_choices, a_Ways_width, a_Ways_onward, a_Ways_numbers, m_Ways_init, m_Ways_tallies_onward, m_Ways_how_many, m_Ways_nth, m_Ways_settings_at, m_Ways_many_through, m_Ways_price_to, c_Filling, a_Filling_rules, a_Filling_chords, a_Filling_ways, m_Filling_init, m_Filling_ways_now, m_Filling_take_rules, m_Filling_add_chord, m_Filling_drop_chord, m_Filling_tell_setting, m_Filling_tell_count, m_Filling_tell_counts, m_Filling_tell_way, m_Filling_judge⟩
    have e := hmg.symm.trans hf
    cases e
    exact ⟨fd, hb, fun base _ _ => hF base⟩
  case S =>
    intro K H xs a hO hwi hask hx
    cases hx with
    | cons h1 h2 =>
      cases h2
      cases h1 with
      | lst hs ha =>
        have e := L2.ints_dw a.1 _ ha
        subst e
        obtain ⟨cs, q1, q2, q3, q4⟩ := Bf.asked_all (l := a.1) hask
        exact ⟨_, a.1, cs, rfl, hs, q1, q4, fun H' p hp => .lst (L2.SqL.of (by rw [hp, ← q3]; rfl)) (L2.dw_ints _)⟩

