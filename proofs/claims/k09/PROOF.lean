import PyProof.Rows.All
import Wide.All
import OpenK.AllK
import Wide.FinOn
import HandS.ForMost
import HandS.ForExc
import HandS.TupAny
import HandS.IsInst
import HandS.Wide
import HandS.Walk
import KE.GoesEnum
import HandS.SortRule
import HandS.SetFor
import HandS.RaiseMore
import HandS.FStr
import HandS.Deep
import HandS.Small
import HandS.ExcIs
import HandS.EndTab
import KE.DataEq
import KE.KDflt
import HandS.Lambda
import HandS.Nested
import HandS.Comp
import KE.Datum
import HandS.WordsExc
import PySem.Challenge.RW_cachebet_k09_cruel_streams
import KE.KNestM
set_option Elab.async false
set_option linter.all false
set_option maxRecDepth 100000
set_option maxHeartbeats 4000000
namespace CB

inductive Rule where | came | used | last | high | often | clock
  deriving DecidableEq

abbrev Row := Int × Int

/-! ### the program, as functions of lists -/
def placeOf : List Row → Int → Option Nat
  | [], _ => none
  | r :: l, p => if r.1 = p then some 0 else (placeOf l p).map (· + 1)

def firstMark (r : Rule) : Int := match r with | .often => 1 | .clock => 1 | _ => 0

def putAt (l : List Row) (k : Nat) (x : Row) : List Row := l.take k ++ (x :: l.drop (k + 1))
def outAt (l : List Row) (k : Nat) (x : Row) : List Row := l.take k ++ l.drop (k + 1) ++ [x]

def rowsAsked (r : Rule) (l : List Row) (k : Nat) (x : Row) : List Row :=
  match r with
  | .used => outAt l k x
  | .last => outAt l k x
  | .often => putAt l k (x.1, x.2 + 1)
  | .clock => putAt l k (x.1, 1)
  | _ => l

/-- the first place of the greatest (by f) -/
def bestIdx : List Int → Nat
  | [] => 0
  | [_] => 0
  | a :: b :: l => let k := bestIdx (b :: l); if (b :: l).getD k 0 ≤ a then 0 else k + 1

def placeToGo (r : Rule) (l : List Row) : Nat :=
  match r with
  | .last => l.length - 1
  | .high => bestIdx (l.map (·.1))
  | .often => bestIdx (l.map fun x => - x.2)
  | _ => 0

def cnt (l : List Row) : Nat := l.countP fun r => decide (r.2 ≠ 0)

def sweep : Nat → List Row → Nat → List Row × Nat
  | 0, l, h => (l, h)
  | f + 1, l, h => match l[h]? with
    | some (p, m) => if m = 0 then (l, h) else sweep f (l.set h (p, 0)) ((h + 1) % l.length)
    | none => (l, h)

def swept (l : List Row) (h : Nat) : List Row × Nat := sweep (cnt l + 1) l h

structure Told where
  held : Bool
  gone : Option Int
  rows : List Row
  hand : Nat

def step (r : Rule) (size : Nat) (l : List Row) (h : Nat) (p : Int) : Told :=
  match placeOf l p with
  | some k => ⟨true, none, rowsAsked r l k (l.getD k (0, 0)), h⟩
  | none =>
    if l.length < size then ⟨false, none, l ++ [(p, firstMark r)], h⟩
    else if r = .clock then
      ⟨false, some ((swept l h).1.getD (swept l h).2 (0, 0)).1, putAt (swept l h).1 (swept l h).2 (p, firstMark r), ((swept l h).2 + 1) % (swept l h).1.length⟩
    else ⟨false, some (l.getD (placeToGo r l) (0, 0)).1, outAt l (placeToGo r l) (p, firstMark r), h⟩

theorem placeOf_none : ∀ {l : List Row} {p : Int}, (∀ (j : Nat) (x : Row), l[j]? = some x → x.1 ≠ p) → placeOf l p = none
  | [], _, _ => rfl
  | r :: l, p, h => by
    unfold placeOf
    rw [if_neg (h 0 r rfl), placeOf_none (l := l) fun j x e => h (j + 1) x (by simpa using e)]
    rfl
theorem placeOf_some : ∀ {l : List Row} {p : Int} {i : Nat} {x : Row}, l[i]? = some x → x.1 = p → (∀ (j : Nat) (y : Row), j < i → l[j]? = some y → y.1 ≠ p) → placeOf l p = some i
  | [], _, _, _, e, _, _ => by simp at e
  | r :: l, p, 0, x, e, hx, _ => by
    have q : r = x := by simpa using e
    unfold placeOf
    rw [if_pos (by rw [q]; exact hx)]
  | r :: l, p, i + 1, x, e, hx, h => by
    unfold placeOf
    rw [if_neg (h 0 r (Nat.succ_pos _) rfl), placeOf_some (l := l) (i := i) (x := x) (by simpa using e) hx fun j y hj e => h (j + 1) y (Nat.succ_lt_succ hj) (by simpa using e)]
    rfl
theorem placeOf_lt : ∀ {l : List Row} {p : Int} {k : Nat}, placeOf l p = some k → ∃ x, l[k]? = some x ∧ x.1 = p
  | [], _, _, h => by simp [placeOf] at h
  | r :: l, p, k, h => by
    unfold placeOf at h
    by_cases c : r.1 = p
    · rw [if_pos c] at h
      cases h
      exact ⟨r, rfl, c⟩
    · rw [if_neg c] at h
      cases e : placeOf l p with
      | none => rw [e] at h; simp at h
      | some j =>
        rw [e] at h
        simp at h
        obtain ⟨x, h1, h2⟩ := placeOf_lt e
        exact ⟨x, by rw [← h]; simpa using h1, h2⟩
theorem placeOf_no {l : List Row} {p : Int} (h : placeOf l p = none) : ∀ x ∈ l, x.1 ≠ p := by
  induction l with
  | nil => intro x hx; cases hx
  | cons r l ih =>
    unfold placeOf at h
    by_cases c : r.1 = p
    · rw [if_pos c] at h; cases h
    · rw [if_neg c] at h
      cases e : placeOf l p with
      | none =>
        intro x hx
        rcases List.mem_cons.mp hx with q | q
        · rw [q]; exact c
        · exact ih e x q
      | some j => rw [e] at h; simp at h
/-- the first greatest -/
theorem bestIdx_spec : ∀ {l : List Int}, l ≠ [] → bestIdx l < l.length ∧ (∀ x ∈ l, x ≤ l.getD (bestIdx l) 0) ∧ ∀ j, j < bestIdx l → l.getD j 0 < l.getD (bestIdx l) 0
  | [], h => absurd rfl h
  | [a], _ => ⟨Nat.zero_lt_one, fun x hx => by simp at hx; subst hx; exact Int.le_refl _, fun j hj => absurd hj (Nat.not_lt_zero _)⟩
  | a :: b :: l, _ => by
    obtain ⟨h1, h2, h3⟩ := bestIdx_spec (l := b :: l) (by simp)
    unfold bestIdx
    simp only
    by_cases c : (b :: l).getD (bestIdx (b :: l)) 0 ≤ a
    · rw [if_pos c]
      refine ⟨Nat.succ_pos _, fun x hx => ?_, fun j hj => absurd hj (Nat.not_lt_zero _)⟩
      rcases List.mem_cons.mp hx with q | q
      · rw [q]; exact Int.le_refl _
      · exact Int.le_trans (h2 x q) c
    · rw [if_neg c]
      refine ⟨Nat.succ_lt_succ h1, fun x hx => ?_, fun j hj => ?_⟩
      · show x ≤ (b :: l).getD (bestIdx (b :: l)) 0
        rcases List.mem_cons.mp hx with q | q
        · rw [q]; omega
        · exact h2 x q
      · show (a :: b :: l).getD j 0 < (b :: l).getD (bestIdx (b :: l)) 0
        cases j with
        | zero => show a < _; omega
        | succ j => exact h3 j (Nat.lt_of_succ_lt_succ hj)
theorem bestIdx_is {l : List Int} {k : Nat} (hk : k < l.length) (h1 : ∀ x ∈ l, x ≤ l.getD k 0) (h2 : ∀ j, j < k → l.getD j 0 < l.getD k 0) : bestIdx l = k := by
  have hne : l ≠ [] := fun z => by rw [z] at hk; exact Nat.not_lt_zero _ hk
  obtain ⟨g1, g2, g3⟩ := bestIdx_spec hne
  have mem : ∀ {j : Nat}, j < l.length → l.getD j 0 ∈ l := fun {j} hj => by
    rw [List.getD_eq_getElem?_getD, List.getElem?_eq_getElem hj]
    exact List.getElem_mem hj
  rcases Nat.lt_trichotomy (bestIdx l) k with c | c | c
  · have a := h2 _ c
    have b := g2 _ (mem hk)
    omega
  · exact c
  · have a := g3 _ c
    have b := h1 _ (mem g1)
    omega

/-! ### sweeping -/
theorem cnt_set {l : List Row} {h : Nat} {p m : Int} (e : l[h]? = some (p, m)) (hm : m ≠ 0) : cnt l = cnt (l.set h (p, 0)) + 1 := by
  induction l generalizing h with
  | nil => simp at e
  | cons a l ih =>
    cases h with
    | zero =>
      simp at e
      subst e
      simp [cnt, List.countP_cons, hm]
    | succ h =>
      have q := ih (h := h) (by simpa using e)
      unfold cnt at q ⊢
      rw [List.set_cons_succ, List.countP_cons, List.countP_cons, q]
      omega
theorem swept_stop {l : List Row} {h : Nat} {p : Int} (e : l[h]? = some (p, 0)) : swept l h = (l, h) := by
  unfold swept sweep
  rw [e]
  simp
theorem swept_on {l : List Row} {h : Nat} {p m : Int} (e : l[h]? = some (p, m)) (hm : m ≠ 0) : swept l h = swept (l.set h (p, 0)) ((h + 1) % l.length) := by
  have q := cnt_set e hm
  unfold swept
  rw [q]
  conv => lhs; unfold sweep
  rw [e]
  simp [hm]
theorem sweep_len : ∀ (f : Nat) (l : List Row) (h : Nat), (sweep f l h).1.length = l.length
  | 0, _, _ => rfl
  | f + 1, l, h => by
    unfold sweep
    split
    · split
      · rfl
      · rw [sweep_len]; simp
    · rfl
theorem swept_len (l : List Row) (h : Nat) : (swept l h).1.length = l.length := sweep_len _ _ _
theorem sweep_lt : ∀ (f : Nat) (l : List Row) (h : Nat), h < l.length → (sweep f l h).2 < l.length
  | 0, _, _, hl => hl
  | f + 1, l, h, hl => by
    unfold sweep
    split
    · split
      · exact hl
      · rename_i p m _ _
        have q := sweep_lt f (l.set h (p, 0)) ((h + 1) % l.length) (by simp; exact Nat.mod_lt _ (by omega))
        simpa using q
    · exact hl
theorem swept_lt {l : List Row} {h : Nat} (hl : h < l.length) : (swept l h).2 < l.length := sweep_lt _ _ _ hl

/-! ### the law's cache -/
structure W where
  came : List Int
  asked : Int → Option Int
  often : Int → Option Int
  marks : Int → Option Bool
  hand : Nat
  time : Int

def pset {α : Type} (f : Int → Option α) (k : Int) (v : α) : Int → Option α := fun x => if x = k then some v else f x
theorem pset_same {α : Type} {f : Int → Option α} {k : Int} {v : α} : pset f k v k = some v := if_pos rfl
theorem pset_ne {α : Type} {f : Int → Option α} {k x : Int} {v : α} (h : x ≠ k) : pset f k v x = f x := if_neg h

/-- what stays of the loser's candidates -/
def free (w : W) (pins : List Int) : List Int := w.came.filter fun p => !pins.contains p

/-- the clock's hand, with pins: n looks at most -/
def sweepW (pins : List Int) : Nat → W → Option (Int × W)
  | 0, _ => none
  | n + 1, w => match w.came[w.hand]? with
    | none => none
    | some p =>
      if pins.contains p = false ∧ w.marks p = some false then some (p, w)
      else sweepW pins n { w with marks := pset w.marks p ((w.marks p).getD false && pins.contains p), hand := (w.hand + 1) % w.came.length }

/-- g goes by the rule, w' stands then -/
def Loses (r : Rule) (w : W) (pins : List Int) (g : Int) (w' : W) : Prop :=
  match r with
  | .came => w' = w ∧ (free w pins).head? = some g
  | .high => w' = w ∧ g ∈ free w pins ∧ ∀ q ∈ free w pins, q ≤ g
  | .used => w' = w ∧ g ∈ free w pins ∧ ∀ q ∈ free w pins, (w.asked g).getD 0 ≤ (w.asked q).getD 0
  | .last => w' = w ∧ g ∈ free w pins ∧ ∀ q ∈ free w pins, (w.asked q).getD 0 ≤ (w.asked g).getD 0
  | .often => w' = w ∧ (∀ q ∈ free w pins, (w.often g).getD 0 ≤ (w.often q).getD 0) ∧ ((free w pins).filter fun q => decide ((w.often q).getD 0 = (w.often g).getD 0)).head? = some g
  | .clock => ∃ n, sweepW pins n w = some (g, w')

/-- behind the choice: g goes (none: nothing), page comes -/
def comes (r : Rule) (w : W) (g : Option Int) (page : Int) : W :=
  match g with
  | none => { w with came := w.came ++ [page] }
  | some g =>
    let k := w.came.idxOf g
    if r = .clock then { w with came := w.came.set k page, hand := (k + 1) % w.came.length }
    else { w with came := w.came.take k ++ w.came.drop (k + 1) ++ [page] }
def noted (w : W) (page : Int) (often : Int → Option Int) : W :=
  { w with time := w.time + 1, asked := pset w.asked page (w.time + 1), often := pset often page ((often page).getD 0 + 1), marks := pset w.marks page true }
/-- what _law_ask makes of w -/
inductive Asks (r : Rule) (size : Nat) (w : W) (pins : List Int) (page : Int) : Option (Bool × Option Int) → W → Prop
  | held : page ∈ w.came → Asks r size w pins page (some (true, none)) (noted w page w.often)
  | room : page ∉ w.came → w.came.length ≠ size → Asks r size w pins page (some (false, none)) (noted (comes r w none page) page (pset w.often page 0))
  | goes (g : Int) (w' : W) : page ∉ w.came → w.came.length = size → free w pins ≠ [] → Loses r w pins g w' →
      Asks r size w pins page (some (false, some g)) (noted (comes r w' (some g) page) page (pset w'.often page 0))
  | stuck : page ∉ w.came → w.came.length = size → free w pins = [] → Asks r size w pins page none w

theorem sweepW_keeps (pins : List Int) : ∀ (n : Nat) (w : W) (g : Int) (w' : W), sweepW pins n w = some (g, w') → w'.came = w.came ∧ w'.time = w.time ∧ w'.asked = w.asked ∧ w'.often = w.often ∧ g ∈ w.came ∧ pins.contains g = false
  | 0, w, g, w', h => by cases h
  | n + 1, w, g, w', h => by
    unfold sweepW at h
    cases hh : w.came[w.hand]? with
    | none => rw [hh] at h; cases h
    | some p =>
      rw [hh] at h
      simp only at h
      split at h
      · rename_i hc
        cases h
        exact ⟨rfl, rfl, rfl, rfl, List.mem_of_getElem? hh, hc.1⟩
      · have q := sweepW_keeps pins n _ g w' h
        exact q
theorem Loses.keeps {r : Rule} {w : W} {pins : List Int} {g : Int} {w' : W} (h : Loses r w pins g w') : w'.came = w.came ∧ w'.time = w.time ∧ w'.asked = w.asked ∧ w'.often = w.often ∧ g ∈ w.came := by
  have hf : ∀ q ∈ free w pins, q ∈ w.came := fun q hq => (List.mem_filter.mp hq).1
  cases r with
  | clock =>
    obtain ⟨n, hn⟩ := h
    obtain ⟨a, b, c, d, e, _⟩ := sweepW_keeps pins n w g w' hn
    exact ⟨a, b, c, d, e⟩
  | came =>
    obtain ⟨rfl, h⟩ := h
    exact ⟨rfl, rfl, rfl, rfl, hf _ (List.mem_of_mem_head? h)⟩
  | high => obtain ⟨rfl, h, _⟩ := h; exact ⟨rfl, rfl, rfl, rfl, hf _ h⟩
  | used => obtain ⟨rfl, h, _⟩ := h; exact ⟨rfl, rfl, rfl, rfl, hf _ h⟩
  | last => obtain ⟨rfl, h, _⟩ := h; exact ⟨rfl, rfl, rfl, rfl, hf _ h⟩
  | often =>
    obtain ⟨rfl, _, h⟩ := h
    exact ⟨rfl, rfl, rfl, rfl, hf _ (List.mem_filter.mp (List.mem_of_mem_head? h)).1⟩

/-! ### the two say the same -/
structure Sim (r : Rule) (size : Nat) (l : List Row) (h : Nat) (w : W) : Prop where
  nd : w.came.Nodup
  len : w.came.length ≤ size
  asked : ∀ p ∈ w.came, ∃ t, w.asked p = some t ∧ t ≤ w.time
  often : ∀ p ∈ w.came, ∃ t, w.often p = some t
  marks : ∀ p ∈ w.came, ∃ b, w.marks p = some b
  hand : h = w.hand
  rel : match r with
    | .came => l = w.came.map (fun q => (q, 0)) ∧ h = 0
    | .high => l = w.came.map (fun q => (q, 0)) ∧ h = 0
    | .used => (∃ ps : List Int, l = ps.map (fun q => (q, 0)) ∧ ps.Perm w.came ∧ ps.Pairwise fun a b => (w.asked a).getD 0 < (w.asked b).getD 0) ∧ h = 0
    | .last => (∃ ps : List Int, l = ps.map (fun q => (q, 0)) ∧ ps.Perm w.came ∧ ps.Pairwise fun a b => (w.asked a).getD 0 < (w.asked b).getD 0) ∧ h = 0
    | .often => l = w.came.map (fun p => (p, (w.often p).getD 0)) ∧ h = 0
    | .clock => l = w.came.map (fun p => (p, if (w.marks p).getD false then 1 else 0)) ∧ (w.came.length < size → h = 0) ∧ (h = 0 ∨ h < w.came.length)
end CB

namespace CB
theorem free_nil (w : W) : free w [] = w.came := by
  unfold free
  rw [List.filter_eq_self]
  intro a _
  rfl
theorem idx_ne {q p : Int} {ps : List Int} (c : ¬ q = p) : (q :: ps).idxOf p = ps.idxOf p + 1 := by
  rw [List.idxOf_cons]
  have e : (q == p) = false := by simpa using c
  rw [e]
  rfl
theorem placeOf_map (m : Int → Int) : ∀ {ps : List Int} {p : Int}, p ∈ ps → placeOf (ps.map fun q => (q, m q)) p = some (ps.idxOf p)
  | [], _, h => by cases h
  | q :: ps, p, h => by
    show (if q = p then some 0 else (placeOf (ps.map fun q => (q, m q)) p).map (· + 1)) = _
    by_cases c : q = p
    · rw [if_pos c, c, List.idxOf_cons_self]
    · have h' : p ∈ ps := (List.mem_cons.mp h).resolve_left fun e => c e.symm
      rw [if_neg c, placeOf_map m h', idx_ne c]
      rfl
theorem placeOf_map_none (m : Int → Int) {ps : List Int} {p : Int} (h : p ∉ ps) : placeOf (ps.map fun q => (q, m q)) p = none := by
  refine placeOf_none fun j x e z => ?_
  have hm := List.mem_of_getElem? e
  obtain ⟨q, hq, rfl⟩ := List.mem_map.mp hm
  exact h (z ▸ hq)
theorem take_drop_erase {ps : List Int} {p : Int} (h : p ∈ ps) : ps.take (ps.idxOf p) ++ ps.drop (ps.idxOf p + 1) = ps.erase p := by
  rw [List.erase_eq_eraseIdx_of_idxOf (i := ps.idxOf p) rfl, List.eraseIdx_eq_take_drop_succ]
theorem getD_map (f : Int → Row) {ps : List Int} {k : Nat} {q : Int} (h : ps[k]? = some q) : (ps.map f).getD k (0, 0) = f q := by
  rw [List.getD_eq_getElem?_getD, List.getElem?_map, h]
  rfl
theorem at_idx {ps : List Int} {p : Int} (h : p ∈ ps) : ps[ps.idxOf p]? = some p := by
  rw [List.getElem?_eq_getElem (List.idxOf_lt_length_of_mem h), List.getElem_idxOf]
theorem putAt_map (m m' : Int → Int) {ps : List Int} {p : Int} (nd : ps.Nodup) (h : p ∈ ps) (e : ∀ q, q ≠ p → m' q = m q) : putAt (ps.map fun q => (q, m q)) (ps.idxOf p) (p, m' p) = ps.map fun q => (q, m' q) := by
  unfold putAt
  induction ps with
  | nil => cases h
  | cons q ps ih =>
    obtain ⟨n1, n2⟩ := List.nodup_cons.mp nd
    by_cases c : q = p
    · subst c
      rw [List.idxOf_cons_self]
      show (q, m' q) :: (ps.map fun q => (q, m q)) = (q, m' q) :: _
      congr 1
      refine List.map_congr_left fun x hx => ?_
      rw [e x fun z => n1 (z ▸ hx)]
    · have h' : p ∈ ps := (List.mem_cons.mp h).resolve_left fun e => c e.symm
      rw [idx_ne c]
      show (q, m q) :: _ = (q, m' q) :: _
      rw [e q c]
      congr 1
      exact ih n2 h'
theorem outAt_map {ps : List Int} {p g : Int} (h : g ∈ ps) : outAt (ps.map fun q => (q, (0 : Int))) (ps.idxOf g) (p, 0) = (ps.erase g ++ [p]).map fun q => (q, 0) := by
  unfold outAt
  rw [← take_drop_erase h, List.map_append, List.map_append, List.map_take, List.map_drop]
  rfl
theorem outAt_map' (m : Int → Int) {ps : List Int} {x : Row} {g : Int} (h : g ∈ ps) : outAt (ps.map fun q => (q, m q)) (ps.idxOf g) x = (ps.erase g).map (fun q => (q, m q)) ++ [x] := by
  unfold outAt
  rw [← take_drop_erase h, List.map_append, List.map_take, List.map_drop]
/-- what is noted of a page that came to stand in came -/
theorem noted_sim {r : Rule} {size : Nat} {came : List Int} {w : W} {page : Int} {often : Int → Option Int} (hc : w.came = came) (nd : came.Nodup) (len : came.length ≤ size) (a : ∀ p ∈ came, p ≠ page → ∃ t, w.asked p = some t ∧ t ≤ w.time)
    (o : ∀ p ∈ came, p ≠ page → ∃ t, often p = some t) (m : ∀ p ∈ came, p ≠ page → ∃ b, w.marks p = some b) :
    (∀ p ∈ came, ∃ t, (noted w page often).asked p = some t ∧ t ≤ (noted w page often).time) ∧ (∀ p ∈ came, ∃ t, (noted w page often).often p = some t) ∧ ∀ p ∈ came, ∃ b, (noted w page often).marks p = some b := by
  refine ⟨fun p hp => ?_, fun p hp => ?_, fun p hp => ?_⟩
  · by_cases c : p = page
    · exact ⟨w.time + 1, by rw [c]; exact pset_same, Int.le_refl _⟩
    · obtain ⟨t, h1, h2⟩ := a p hp c
      exact ⟨t, (pset_ne c).trans h1, Int.le_trans h2 (by show w.time ≤ w.time + 1; omega)⟩
  · by_cases c : p = page
    · exact ⟨_, by rw [c]; exact pset_same⟩
    · obtain ⟨t, h1⟩ := o p hp c
      exact ⟨t, (pset_ne c).trans h1⟩
  · by_cases c : p = page
    · exact ⟨_, by rw [c]; exact pset_same⟩
    · obtain ⟨t, h1⟩ := m p hp c
      exact ⟨t, (pset_ne c).trans h1⟩
/-- the turn of the last asks, one more ask at the end -/
theorem order_on {w : W} {page : Int} {often : Int → Option Int} {qs : List Int} (np : page ∉ qs) (a : ∀ p ∈ qs, ∃ t, w.asked p = some t ∧ t ≤ w.time) (h : qs.Pairwise fun a b => (w.asked a).getD 0 < (w.asked b).getD 0) :
    (qs ++ [page]).Pairwise fun a b => ((noted w page often).asked a).getD 0 < ((noted w page often).asked b).getD 0 := by
  have e : ∀ q ∈ qs, (noted w page often).asked q = w.asked q := fun q hq => pset_ne fun z => np (z ▸ hq)
  refine List.pairwise_append.mpr ⟨h.imp_of_mem fun {x y} hx hy q => ?_, List.pairwise_singleton _ _, fun x hx y hy => ?_⟩
  · rw [e x hx, e y hy]
    exact q
  · have ey : y = page := by simpa using hy
    obtain ⟨t, h1, h2⟩ := a x hx
    rw [e x hx, h1, ey, show (noted w page often).asked page = some (w.time + 1) from pset_same]
    show t < w.time + 1
    omega
/-! ### the clock -/
def mk (f : Int → Option Bool) (p : Int) : Int := if (f p).getD false then 1 else 0
theorem sweep_sim : ∀ (n : Nat) (w : W) (g : Int) (w' : W), sweepW [] n w = some (g, w') → w.came.Nodup → (∀ p ∈ w.came, ∃ b, w.marks p = some b) → w.hand < w.came.length →
    swept (w.came.map fun p => (p, mk w.marks p)) w.hand = (w.came.map (fun p => (p, mk w'.marks p)), w'.hand) ∧ w'.came = w.came ∧ w.came[w'.hand]? = some g ∧ (∀ p ∈ w.came, ∃ b, w'.marks p = some b) ∧ w'.hand < w.came.length
  | 0, w, g, w', h, _, _, _ => by cases h
  | n + 1, w, g, w', h, nd, mk_, hl => by
    unfold sweepW at h
    have e := List.getElem?_eq_getElem hl
    rw [e] at h
    simp only at h
    obtain ⟨b, hb⟩ := mk_ _ (List.getElem_mem hl)
    split at h
    · rename_i c
      cases h
      refine ⟨swept_stop (p := w.came[w.hand]) ?_, rfl, e, mk_, hl⟩
      rw [List.getElem?_map, e]
      show some (_, mk w.marks w.came[w.hand]) = _
      unfold mk
      rw [c.2]
      rfl
    · rename_i c
      have bt : b = true := by
        cases b with
        | true => rfl
        | false => exact absurd ⟨rfl, hb⟩ c
      subst bt
      have hf : ((w.marks w.came[w.hand]).getD false && ([] : List Int).contains w.came[w.hand]) = false := by simp
      rw [hf] at h
      have q := sweep_sim n _ g w' h nd (fun p hp => by
        by_cases c2 : p = w.came[w.hand]
        · exact ⟨false, by rw [c2]; exact pset_same⟩
        · obtain ⟨b, hb⟩ := mk_ p hp
          exact ⟨b, (pset_ne c2).trans hb⟩) (Nat.mod_lt _ (by omega))
      obtain ⟨q1, q2, q3, q4, q5⟩ := q
      refine ⟨?_, q2, q3, q4, q5⟩
      have hm : (w.came.map fun p => (p, mk w.marks p))[w.hand]? = some (w.came[w.hand], 1) := by
        rw [List.getElem?_map, e]
        show some (_, mk w.marks w.came[w.hand]) = _
        unfold mk
        rw [hb]
        rfl
      rw [swept_on hm (by decide), List.length_map]
      have hs : (w.came.map fun p => (p, mk w.marks p)).set w.hand (w.came[w.hand], 0) = w.came.map fun p => (p, mk (pset w.marks w.came[w.hand] false) p) := by
        have z := putAt_map (mk w.marks) (mk (pset w.marks w.came[w.hand] false)) nd (List.getElem_mem hl) fun q hq => by
          unfold mk
          rw [pset_ne hq]
        rw [← z]
        have ei : w.came.idxOf w.came[w.hand] = w.hand := List.Nodup.idxOf_getElem nd _ _
        rw [ei]
        unfold putAt
        rw [List.set_eq_take_append_cons_drop, if_pos (by simpa using hl)]
        have : mk (pset w.marks w.came[w.hand] false) w.came[w.hand] = 0 := by
          unfold mk
          rw [pset_same]
          rfl
        rw [this]
      rw [hs]
      exact q1
theorem sweep_ends : ∀ (n : Nat) (w : W), cnt (w.came.map fun p => (p, mk w.marks p)) ≤ n → w.came.Nodup → (∀ p ∈ w.came, ∃ b, w.marks p = some b) → w.hand < w.came.length → ∃ g w', sweepW [] (n + 1) w = some (g, w')
  | n, w, hn, nd, mk_, hl => by
    have e := List.getElem?_eq_getElem hl
    obtain ⟨b, hb⟩ := mk_ _ (List.getElem_mem hl)
    unfold sweepW
    rw [e]
    simp only
    cases b with
    | false => exact ⟨_, _, if_pos ⟨rfl, hb⟩⟩
    | true =>
      rw [if_neg (by rw [hb]; intro z; cases z.2)]
      have hf : ((w.marks w.came[w.hand]).getD false && ([] : List Int).contains w.came[w.hand]) = false := by simp
      rw [hf]
      have hm : (w.came.map fun p => (p, mk w.marks p))[w.hand]? = some (w.came[w.hand], 1) := by
        rw [List.getElem?_map, e]
        show some (_, mk w.marks w.came[w.hand]) = _
        unfold mk
        rw [hb]
        rfl
      have hs : (w.came.map fun p => (p, mk w.marks p)).set w.hand (w.came[w.hand], 0) = w.came.map fun p => (p, mk (pset w.marks w.came[w.hand] false) p) := by
        have z := putAt_map (mk w.marks) (mk (pset w.marks w.came[w.hand] false)) nd (List.getElem_mem hl) fun q hq => by
          unfold mk
          rw [pset_ne hq]
        rw [← z]
        have ei : w.came.idxOf w.came[w.hand] = w.hand := List.Nodup.idxOf_getElem nd _ _
        rw [ei]
        unfold putAt
        rw [List.set_eq_take_append_cons_drop, if_pos (by simpa using hl)]
        have : mk (pset w.marks w.came[w.hand] false) w.came[w.hand] = 0 := by
          unfold mk
          rw [pset_same]
          rfl
        rw [this]
      have hc := cnt_set hm (by decide)
      rw [hs] at hc
      cases n with
      | zero => omega
      | succ n => exact sweep_ends n _ (by show cnt (w.came.map fun p => (p, mk (pset w.marks w.came[w.hand] false) p)) ≤ n; omega) nd (fun p hp => by
          by_cases c2 : p = w.came[w.hand]
          · exact ⟨false, by rw [c2]; exact pset_same⟩
          · obtain ⟨b, hb⟩ := mk_ p hp
            exact ⟨b, (pset_ne c2).trans hb⟩) (Nat.mod_lt _ (by omega))
theorem sim_len {r : Rule} {size : Nat} {l : List Row} {h : Nat} {w : W} (S : Sim r size l h w) : l.length = w.came.length := by
  have R := S.rel
  cases r with
  | came => rw [R.1]; simp
  | high => rw [R.1]; simp
  | often => rw [R.1]; simp
  | clock => rw [R.1]; simp
  | used => obtain ⟨⟨ps, h1, h2, _⟩, _⟩ := R; rw [h1, List.length_map, h2.length_eq]
  | last => obtain ⟨⟨ps, h1, h2, _⟩, _⟩ := R; rw [h1, List.length_map, h2.length_eq]
theorem sim_pages {r : Rule} {size : Nat} {l : List Row} {h : Nat} {w : W} (S : Sim r size l h w) : (l.map (·.1)).Perm w.came := by
  have R := S.rel
  have one : ∀ (m : Int → Int) (ps : List Int), (ps.map fun q => ((q, m q) : Row)).map (·.1) = ps := fun m ps => by
    rw [List.map_map]
    exact List.map_id'' (fun _ => rfl) ps
  cases r with
  | came => rw [R.1, one (fun _ => 0)]
  | high => rw [R.1, one (fun _ => 0)]
  | often => rw [R.1, one]
  | clock => rw [R.1, one]
  | used => obtain ⟨⟨ps, h1, h2, _⟩, _⟩ := R; rw [h1, one (fun _ => 0)]; exact h2
  | last => obtain ⟨⟨ps, h1, h2, _⟩, _⟩ := R; rw [h1, one (fun _ => 0)]; exact h2
/-- the first greatest of a list of values by pages -/
theorem best_at {ps : List Int} (f : Int → Int) {g : Int} (hg : g ∈ ps) (h1 : ∀ q ∈ ps, f q ≤ f g) (h2 : ∀ j, j < ps.idxOf g → ∀ q, ps[j]? = some q → f q < f g) : bestIdx (ps.map f) = ps.idxOf g := by
  have at_ : ∀ j q, ps[j]? = some q → (ps.map f).getD j 0 = f q := fun j q e => by
    rw [List.getD_eq_getElem?_getD, List.getElem?_map, e]
    rfl
  have eg := at_ _ _ (at_idx hg)
  refine bestIdx_is (by rw [List.length_map]; exact List.idxOf_lt_length_of_mem hg) (fun x hx => ?_) fun j hj => ?_
  · obtain ⟨q, hq, rfl⟩ := List.mem_map.mp hx
    rw [eg]
    exact h1 q hq
  · have hjl : j < ps.length := Nat.lt_trans hj (List.idxOf_lt_length_of_mem hg)
    have e := List.getElem?_eq_getElem hjl
    rw [eg, at_ _ _ e]
    exact h2 j hj _ e
theorem before_idx {ps : List Int} {g q : Int} {j : Nat} (hj : j < ps.idxOf g) (e : ps[j]? = some q) : q ≠ g := by
  induction ps generalizing j with
  | nil => simp at e
  | cons a ps ih =>
    by_cases c : a = g
    · rw [c, List.idxOf_cons_self] at hj
      exact absurd hj (Nat.not_lt_zero _)
    · rw [idx_ne c] at hj
      cases j with
      | zero =>
        have e' : a = q := by simpa using e
        rw [← e']
        exact c
      | succ j => exact ih (Nat.lt_of_succ_lt_succ hj) (by simpa using e)
/-- THE STEP, the page not held -/
theorem sim_miss {r : Rule} {size : Nat} {l : List Row} {h : Nat} {w w' : W} {page : Int} {res : Option (Bool × Option Int)} (S : Sim r size l h w) (hs : 1 ≤ size) (np : page ∉ w.came) (A : Asks r size w [] page res w') :
    res = some (false, (step r size l h page).gone) ∧ (step r size l h page).held = false ∧ Sim r size (step r size l h page).rows (step r size l h page).hand w' := by
  have hp : placeOf l page = none := placeOf_none fun j x e z => np ((sim_pages S).mem_iff.mp (List.mem_map.mpr ⟨x, List.mem_of_getElem? e, z⟩))
  have ll := sim_len S
  have R := S.rel
  cases A with
  | held hm => exact absurd hm np
  | stuck _ e1 e2 =>
    rw [free_nil] at e2
    rw [e2] at e1
    simp at e1
    omega
  | room _ hne =>
    have lt : w.came.length < size := Nat.lt_of_le_of_ne S.len hne
    have es : step r size l h page = ⟨false, none, l ++ [(page, firstMark r)], h⟩ := by
      unfold step
      rw [hp]
      simp only
      rw [if_pos (by rw [ll]; exact lt)]
    rw [es]
    refine ⟨rfl, rfl, ?_⟩
    have old : ∀ p ∈ w.came ++ [page], p ≠ page → p ∈ w.came := fun p hp hne => by
      rcases List.mem_append.mp hp with z | z
      · exact z
      · exact absurd (by simpa using z) hne
    obtain ⟨n1, n2, n3⟩ := noted_sim (r := r) (size := size) (came := w.came ++ [page]) (w := comes r w none page) (page := page) (often := pset w.often page 0) rfl (List.nodup_append.mpr ⟨S.nd, by simp, fun a ha b hb => by
        have : b = page := by simpa using hb
        intro z
        exact np (this ▸ z ▸ ha)⟩) (by simp; omega) (fun p hp hne => S.asked p (old p hp hne)) (fun p hp hne => by
          obtain ⟨t, ht⟩ := S.often p (old p hp hne)
          exact ⟨t, (pset_ne hne).trans ht⟩) (fun p hp hne => S.marks p (old p hp hne))
    refine ⟨List.nodup_append.mpr ⟨S.nd, by simp, fun a ha b hb => by
        have : b = page := by simpa using hb
        intro z
        exact np (this ▸ z ▸ ha)⟩, by show (w.came ++ [page]).length ≤ size; simp; omega, n1, n2, n3, S.hand, ?_⟩
    cases r with
    | came => exact ⟨by show _ = (w.came ++ [page]).map _; rw [R.1, List.map_append]; rfl, R.2⟩
    | high => exact ⟨by show _ = (w.came ++ [page]).map _; rw [R.1, List.map_append]; rfl, R.2⟩
    | used =>
      obtain ⟨⟨ps, h1, h2, h3⟩, h4⟩ := R
      exact ⟨⟨ps ++ [page], by rw [h1, List.map_append]; rfl, h2.append_right _, order_on (fun z => np (h2.mem_iff.mp z)) (fun p hp => S.asked p (h2.mem_iff.mp hp)) h3⟩, h4⟩
    | last =>
      obtain ⟨⟨ps, h1, h2, h3⟩, h4⟩ := R
      exact ⟨⟨ps ++ [page], by rw [h1, List.map_append]; rfl, h2.append_right _, order_on (fun z => np (h2.mem_iff.mp z)) (fun p hp => S.asked p (h2.mem_iff.mp hp)) h3⟩, h4⟩
    | often =>
      refine ⟨?_, R.2⟩
      show _ = (w.came ++ [page]).map fun p => (p, ((pset (pset w.often page 0) page (((pset w.often page 0) page).getD 0 + 1)) p).getD 0)
      rw [R.1, List.map_append]
      refine congr (congrArg HAppend.hAppend ?_) ?_
      · refine List.map_congr_left fun q hq => ?_
        have ne : q ≠ page := fun z => np (z ▸ hq)
        rw [pset_ne ne, pset_ne ne]
      · show [(page, 1)] = [(page, _)]
        rw [pset_same, pset_same]
        rfl
    | clock =>
      refine ⟨?_, fun _ => R.2.1 lt, .inl (R.2.1 lt)⟩
      show _ = (w.came ++ [page]).map fun p => (p, if ((pset w.marks page true) p).getD false then 1 else 0)
      rw [R.1, List.map_append]
      refine congr (congrArg HAppend.hAppend ?_) ?_
      · refine List.map_congr_left fun q hq => ?_
        have ne : q ≠ page := fun z => np (z ▸ hq)
        rw [pset_ne ne]
      · show [(page, 1)] = [(page, _)]
        rw [pset_same]
        rfl
  | goes g w1 _ hlen hne L =>
    obtain ⟨k1, k2, k3, k4, hg⟩ := L.keeps
    have nlt : ¬ l.length < size := by rw [ll, hlen]; exact Nat.lt_irrefl _
    have ndg : g ∉ w.came.erase g := fun z => (List.Nodup.mem_erase_iff S.nd).mp z |>.1 rfl
    by_cases hc : r = .clock
    · subst hc
      obtain ⟨n, hn⟩ := L
      have S4 := R.2.2
      have hl0 : w.hand < w.came.length := by
        rw [← S.hand]
        rcases S4 with z | z
        · omega
        · exact z
      obtain ⟨q1, q2, q3, q4, q5⟩ := sweep_sim n w g w1 hn S.nd S.marks hl0
      have el : l = w.came.map fun p => (p, mk w.marks p) := R.1
      have esw : swept l h = (w.came.map (fun p => (p, mk w1.marks p)), w1.hand) := by rw [el, S.hand]; exact q1
      have eg : (w.came.map fun p => (p, mk w1.marks p)).getD w1.hand (0, 0) = (g, mk w1.marks g) := getD_map (fun p => (p, mk w1.marks p)) q3
      have ei : w.came.idxOf g = w1.hand := by
        have z : w.came[w1.hand] = g := by
          have e := List.getElem?_eq_getElem q5
          rw [q3] at e
          exact (Option.some.inj e).symm
        rw [← z]
        exact List.Nodup.idxOf_getElem S.nd _ _
      have es : step .clock size l h page = ⟨false, some g, putAt (w.came.map fun p => (p, mk w1.marks p)) w1.hand (page, 1), (w1.hand + 1) % w.came.length⟩ := by
        unfold step
        rw [hp]
        simp only
        rw [if_neg nlt, if_pos trivial, esw]
        simp only
        rw [eg, List.length_map]
        rfl
      rw [es]
      refine ⟨rfl, rfl, ?_⟩
      have ec : (comes .clock w1 (some g) page).came = w.came.set w1.hand page := by
        show (w1.came.set (w1.came.idxOf g) page) = _
        rw [k1, ei]
      have eh : (comes .clock w1 (some g) page).hand = (w1.hand + 1) % w.came.length := by
        show (w1.came.idxOf g + 1) % w1.came.length = _
        rw [k1, ei]
      have old : ∀ p ∈ w.came.set w1.hand page, p ≠ page → p ∈ w.came := fun p hp hne => by
        rcases List.mem_or_eq_of_mem_set hp with z | z
        · exact z
        · exact absurd z hne
      have nd' : (w.came.set w1.hand page).Nodup := by
        rw [List.set_eq_take_append_cons_drop, if_pos q5]
        have base : (w.came.take w1.hand ++ w.came.drop (w1.hand + 1)).Nodup := by
          have := List.Nodup.eraseIdx w1.hand S.nd
          rw [List.eraseIdx_eq_take_drop_succ] at this
          exact this
        rw [(List.perm_middle (a := page) (l₁ := w.came.take w1.hand) (l₂ := w.came.drop (w1.hand + 1))).nodup_iff]
        refine List.nodup_cons.mpr ⟨fun z => np ?_, base⟩
        rcases List.mem_append.mp z with z | z
        · exact List.mem_of_mem_take z
        · exact List.mem_of_mem_drop z
      obtain ⟨n1, n2, n3⟩ := noted_sim (r := .clock) (size := size) (w := comes .clock w1 (some g) page) (page := page) (often := pset w1.often page 0) ec nd' (by simp; omega) (fun p hp hne => by
          obtain ⟨t, h1, h2⟩ := S.asked p (old p hp hne)
          exact ⟨t, by show w1.asked p = _; rw [k3]; exact h1, by show t ≤ w1.time; rw [k2]; exact h2⟩) (fun p hp hne => by
          obtain ⟨t, ht⟩ := S.often p (old p hp hne)
          exact ⟨t, (pset_ne hne).trans (by rw [k4]; exact ht)⟩) (fun p hp hne => q4 p (old p hp hne))
      have ec' : (noted (comes .clock w1 (some g) page) page (pset w1.often page 0)).came = w.came.set w1.hand page := ec
      refine ⟨by rw [ec']; exact nd', by rw [ec']; simp; omega, by rw [ec']; exact n1, by rw [ec']; exact n2, by rw [ec']; exact n3, eh.symm, ?_⟩
      refine ⟨?_, fun z => ?_, .inr ?_⟩
      · rw [ec']
        show putAt (w.came.map fun p => (p, mk w1.marks p)) w1.hand (page, 1) = (w.came.set w1.hand page).map fun p => (p, if ((pset w1.marks page true) p).getD false then 1 else 0)
        unfold putAt
        rw [List.set_eq_take_append_cons_drop, if_pos q5, List.map_append, List.map_cons, List.map_take, List.map_drop]
        have same : ∀ q ∈ w.came, ((q, mk w1.marks q) : Row) = (q, if ((pset w1.marks page true) q).getD false then 1 else 0) := fun q hq => by
          have ne : q ≠ page := fun z => np (z ▸ hq)
          rw [pset_ne ne]
          rfl
        rw [List.map_congr_left same]
        rw [← List.map_take, ← List.map_drop, pset_same]
        rfl
      · rw [ec', List.length_set, hlen] at z
        exact absurd z (Nat.lt_irrefl _)
      · rw [ec', List.length_set]
        exact Nat.mod_lt _ (by omega)
    · have wk : w1 = w := by
        cases r with
        | clock => exact absurd rfl hc
        | came => exact L.1
        | high => exact L.1
        | used => exact L.1
        | last => exact L.1
        | often => exact L.1
      subst wk
      have ec : (comes r w1 (some g) page).came = w1.came.erase g ++ [page] := by
        show (if r = .clock then _ else _ : W).came = _
        rw [if_neg hc, ← take_drop_erase hg]
      have eh : (comes r w1 (some g) page).hand = w1.hand := by
        show (if r = .clock then _ else _ : W).hand = _
        rw [if_neg hc]
      have ea : (comes r w1 (some g) page).asked = w1.asked ∧ (comes r w1 (some g) page).time = w1.time ∧ (comes r w1 (some g) page).marks = w1.marks := by
        show (if r = .clock then _ else _ : W).asked = _ ∧ (if r = .clock then _ else _ : W).time = _ ∧ (if r = .clock then _ else _ : W).marks = _
        rw [if_neg hc]
        exact ⟨rfl, rfl, rfl⟩
      have old : ∀ p ∈ w1.came.erase g ++ [page], p ≠ page → p ∈ w1.came := fun p hp hne => by
        rcases List.mem_append.mp hp with z | z
        · exact List.mem_of_mem_erase z
        · exact absurd (by simpa using z) hne
      have nd' : (w1.came.erase g ++ [page]).Nodup := List.nodup_append.mpr ⟨S.nd.erase g, by simp, fun a ha b hb => by
        have : b = page := by simpa using hb
        intro z
        exact np (this ▸ z ▸ List.mem_of_mem_erase ha)⟩
      have len' : (w1.came.erase g ++ [page]).length = w1.came.length := by
        rw [List.length_append, List.length_erase_of_mem hg]
        have := List.length_pos_of_mem hg
        simp
        omega
      obtain ⟨n1, n2, n3⟩ := noted_sim (r := r) (size := size) (w := comes r w1 (some g) page) (page := page) (often := pset w1.often page 0) ec nd' (by omega) (fun p hp hne => by
          rw [ea.1, ea.2.1]
          exact S.asked p (old p hp hne)) (fun p hp hne => by
          obtain ⟨t, ht⟩ := S.often p (old p hp hne)
          exact ⟨t, (pset_ne hne).trans ht⟩) (fun p hp hne => by
          rw [ea.2.2]
          exact S.marks p (old p hp hne))
      have ec' : (noted (comes r w1 (some g) page) page (pset w1.often page 0)).came = w1.came.erase g ++ [page] := ec
      have fin : ∀ (rows : List Row), step r size l h page = ⟨false, some g, rows, h⟩ → (match r with
          | .came => rows = (w1.came.erase g ++ [page]).map (fun q => (q, 0))
          | .high => rows = (w1.came.erase g ++ [page]).map (fun q => (q, 0))
          | .used => ∃ ps : List Int, rows = ps.map (fun q => (q, 0)) ∧ ps.Perm (w1.came.erase g ++ [page]) ∧ ps.Pairwise fun a b => ((noted (comes r w1 (some g) page) page (pset w1.often page 0)).asked a).getD 0 < ((noted (comes r w1 (some g) page) page (pset w1.often page 0)).asked b).getD 0
          | .last => ∃ ps : List Int, rows = ps.map (fun q => (q, 0)) ∧ ps.Perm (w1.came.erase g ++ [page]) ∧ ps.Pairwise fun a b => ((noted (comes r w1 (some g) page) page (pset w1.often page 0)).asked a).getD 0 < ((noted (comes r w1 (some g) page) page (pset w1.often page 0)).asked b).getD 0
          | .often => rows = (w1.came.erase g ++ [page]).map (fun p => (p, ((pset (pset w1.often page 0) page (((pset w1.often page 0) page).getD 0 + 1)) p).getD 0))
          | .clock => True) → some (false, some g) = some (false, (step r size l h page).gone) ∧ (step r size l h page).held = false ∧ Sim r size (step r size l h page).rows (step r size l h page).hand (noted (comes r w1 (some g) page) page (pset w1.often page 0)) := by
        intro rows es hrel
        rw [es]
        refine ⟨rfl, rfl, by rw [ec']; exact nd', by rw [ec']; omega, by rw [ec']; exact n1, by rw [ec']; exact n2, by rw [ec']; exact n3, S.hand.trans eh.symm, ?_⟩
        cases r with
        | clock => exact absurd rfl hc
        | came => exact ⟨by rw [ec']; exact hrel, R.2⟩
        | high => exact ⟨by rw [ec']; exact hrel, R.2⟩
        | used => exact ⟨by rw [ec']; exact hrel, R.2⟩
        | last => exact ⟨by rw [ec']; exact hrel, R.2⟩
        | often => exact ⟨by rw [ec']; exact hrel, R.2⟩
      have es : ∀ (k : Nat) (x : Row), placeToGo r l = k → l.getD k (0, 0) = x → x.1 = g → step r size l h page = ⟨false, some g, outAt l k (page, firstMark r), h⟩ := fun k x e1 e2 e3 => by
        unfold step
        rw [hp]
        simp only
        rw [if_neg nlt, if_neg hc, e1, e2, e3]
      rw [show w1.often = w1.often from rfl]
      cases r with
      | clock => exact absurd rfl hc
      | came =>
        have hh : w1.came.head? = some g := by
          have := L.2
          rw [free_nil] at this
          exact this
        have hi : w1.came.idxOf g = 0 := by
          cases hq : w1.came with
          | nil => rw [hq] at hh; cases hh
          | cons a t =>
            rw [hq] at hh
            have : a = g := by simpa using hh
            rw [this, List.idxOf_cons_self]
        refine fin _ (es 0 (g, 0) rfl ?_ rfl) ?_
        · rw [R.1, ← hi]
          exact getD_map (fun q => (q, 0)) (at_idx hg)
        · show outAt l 0 (page, 0) = _
          rw [R.1, ← hi]
          exact outAt_map hg
      | high =>
        have hm := L.2.2
        rw [free_nil] at hm
        have hb : placeToGo .high l = w1.came.idxOf g := by
          show bestIdx (l.map (·.1)) = _
          rw [R.1, List.map_map]
          refine best_at (fun q => q) hg hm fun j hj q e => ?_
          have n1 := before_idx hj e
          have n2 := hm q (List.mem_of_getElem? e)
          show q < g
          omega
        refine fin _ (es _ (g, 0) hb ?_ rfl) ?_
        · rw [R.1]
          exact getD_map (fun q => (q, 0)) (at_idx hg)
        · show outAt l _ (page, 0) = _
          rw [R.1]
          exact outAt_map hg
      | used =>
        obtain ⟨⟨ps, h1, h2, h3⟩, h4⟩ := R
        have hm := L.2.2
        rw [free_nil] at hm
        have gp : g ∈ ps := h2.mem_iff.mpr hg
        have hi : ps.idxOf g = 0 := by
          cases ps with
          | nil => cases gp
          | cons a t =>
            by_cases c : a = g
            · rw [c, List.idxOf_cons_self]
            · have gt : g ∈ t := (List.mem_cons.mp gp).resolve_left fun e => c e.symm
              have b1 := (List.pairwise_cons.mp h3).1 g gt
              have b2 := hm a (h2.mem_iff.mp List.mem_cons_self)
              omega
        refine fin _ (es 0 (g, 0) rfl ?_ rfl) ⟨ps.erase g ++ [page], ?_, (h2.erase g).append_right _, ?_⟩
        · rw [h1, ← hi]
          exact getD_map (fun q => (q, 0)) (at_idx gp)
        · show outAt l 0 (page, 0) = _
          rw [h1, ← hi]
          exact outAt_map gp
        · refine order_on (w := comes .used w1 (some g) page) (fun z => np (h2.mem_iff.mp (List.mem_of_mem_erase z))) (fun p hp => ?_) ?_
          · rw [ea.1, ea.2.1]
            exact S.asked p (h2.mem_iff.mp (List.mem_of_mem_erase hp))
          · rw [ea.1]
            exact h3.sublist List.erase_sublist
      | last =>
        obtain ⟨⟨ps, h1, h2, h3⟩, h4⟩ := R
        have hm := L.2.2
        rw [free_nil] at hm
        have gp : g ∈ ps := h2.mem_iff.mpr hg
        have hi : ps.idxOf g = ps.length - 1 := by
          have q := List.idxOf_lt_length_of_mem gp
          by_cases c : ps.idxOf g = ps.length - 1
          · exact c
          · have lt : ps.idxOf g < ps.length - 1 := by omega
            have lt2 : ps.length - 1 < ps.length := by omega
            have b := List.pairwise_iff_getElem.mp h3 _ _ q lt2 lt
            rw [List.getElem_idxOf] at b
            have b2 := hm _ (h2.mem_iff.mp (List.getElem_mem lt2))
            omega
        have hb : placeToGo .last l = ps.idxOf g := by
          show l.length - 1 = _
          rw [h1, List.length_map, hi]
        refine fin _ (es _ (g, 0) hb ?_ rfl) ⟨ps.erase g ++ [page], ?_, (h2.erase g).append_right _, ?_⟩
        · rw [h1]
          exact getD_map (fun q => (q, 0)) (at_idx gp)
        · show outAt l _ (page, 0) = _
          rw [h1]
          exact outAt_map gp
        · refine order_on (w := comes .last w1 (some g) page) (fun z => np (h2.mem_iff.mp (List.mem_of_mem_erase z))) (fun p hp => ?_) ?_
          · rw [ea.1, ea.2.1]
            exact S.asked p (h2.mem_iff.mp (List.mem_of_mem_erase hp))
          · rw [ea.1]
            exact h3.sublist List.erase_sublist
      | often =>
        have hm := L.2.1
        have hf := L.2.2
        rw [free_nil] at hm hf
        have hb : placeToGo .often l = w1.came.idxOf g := by
          show bestIdx (l.map fun x => - x.2) = _
          rw [R.1, List.map_map]
          refine best_at (fun q => - (w1.often q).getD 0) hg (fun q hq => by have := hm q hq; omega) fun j hj q e => ?_
          have hq := List.mem_of_getElem? e
          have b1 := hm q hq
          show - (w1.often q).getD 0 < - (w1.often g).getD 0
          by_cases c : (w1.often q).getD 0 = (w1.often g).getD 0
          · exfalso
            have key : ∀ (xs : List Int) (j : Nat), j < xs.idxOf g → xs[j]? = some q → (xs.filter fun q => decide ((w1.often q).getD 0 = (w1.often g).getD 0)).head? = some g → False := by
              intro xs
              induction xs with
              | nil => intro j _ e _; simp at e
              | cons a xs ih =>
                intro j hj e hh
                by_cases ca : a = g
                · rw [ca, List.idxOf_cons_self] at hj
                  exact absurd hj (Nat.not_lt_zero _)
                · by_cases cb : (w1.often a).getD 0 = (w1.often g).getD 0
                  · rw [List.filter_cons, if_pos (by simpa using cb)] at hh
                    exact ca (by simpa using hh)
                  · rw [List.filter_cons, if_neg (by simpa using cb)] at hh
                    rw [idx_ne ca] at hj
                    cases j with
                    | zero =>
                      have : a = q := by simpa using e
                      exact cb (this ▸ c)
                    | succ j => exact ih j (Nat.lt_of_succ_lt_succ hj) (by simpa using e) hh
            exact key w1.came j hj e hf
          · omega
        refine fin _ (es _ (g, (w1.often g).getD 0) hb ?_ rfl) ?_
        · rw [R.1]
          exact getD_map (fun q => (q, (w1.often q).getD 0)) (at_idx hg)
        · show outAt l _ (page, 1) = _
          rw [R.1, outAt_map' (fun q => (w1.often q).getD 0) hg, List.map_append]
          refine congr (congrArg HAppend.hAppend ?_) ?_
          · refine List.map_congr_left fun q hq => ?_
            have ne : q ≠ page := fun z => np (z ▸ List.mem_of_mem_erase hq)
            rw [pset_ne ne, pset_ne ne]
          · show [(page, 1)] = [(page, _)]
            rw [pset_same, pset_same]
            rfl
/-- at first -/
theorem sim_start (r : Rule) (size : Nat) {w : W} (h1 : w.came = []) (h2 : w.hand = 0) : Sim r size [] 0 w := by
  have no : ∀ p, p ∉ w.came := fun p z => by rw [h1] at z; cases z
  refine ⟨by rw [h1]; exact List.nodup_nil, by rw [h1]; exact Nat.zero_le _, fun p z => absurd z (no p), fun p z => absurd z (no p), fun p z => absurd z (no p), h2.symm, ?_⟩
  cases r with
  | came => exact ⟨by rw [h1]; rfl, rfl⟩
  | high => exact ⟨by rw [h1]; rfl, rfl⟩
  | often => exact ⟨by rw [h1]; rfl, rfl⟩
  | used => exact ⟨⟨[], rfl, by rw [h1], List.Pairwise.nil⟩, rfl⟩
  | last => exact ⟨⟨[], rfl, by rw [h1], List.Pairwise.nil⟩, rfl⟩
  | clock => exact ⟨by rw [h1]; rfl, fun _ => rfl, .inl rfl⟩
end CB

namespace CB
/-- the least number that is not in ps -/
def IsLeast (ps : List Int) (k : Nat) : Prop := (k : Int) ∉ ps ∧ ∀ j : Nat, j < k → (j : Int) ∈ ps
theorem IsLeast.uniq {ps qs : List Int} {k j : Nat} (h : IsLeast ps k) (h' : IsLeast qs j) (e : ∀ x, x ∈ ps ↔ x ∈ qs) : k = j := by
  rcases Nat.lt_trichotomy k j with c | c | c
  · exact absurd ((e _).mpr (h'.2 k c)) h.1
  · exact c
  · exact absurd ((e _).mp (h.2 j c)) h'.1
theorem all_le : ∀ (m : Nat) (ps : List Int), (∀ k : Nat, k < m → (k : Int) ∈ ps) → m ≤ ps.length
  | 0, _, _ => Nat.zero_le _
  | m + 1, ps, h => by
    have hm := h m (Nat.lt_succ_self m)
    have q := all_le m (ps.erase (m : Int)) fun k hk => (List.mem_erase_of_ne (by omega)).mpr (h k (Nat.lt_succ_of_lt hk))
    rw [List.length_erase_of_mem hm] at q
    have := List.length_pos_of_mem hm
    omega
theorem least_some : ∀ (f k : Nat) (ps : List Int), ps.length ≤ k + f → (∀ j : Nat, j < k → (j : Int) ∈ ps) → ∃ m, m ≤ ps.length ∧ IsLeast ps m
  | 0, k, ps, hl, h => by
    have q := all_le k ps h
    by_cases c : (k : Int) ∈ ps
    · have q2 := all_le (k + 1) ps fun j hj => by
        by_cases e : j = k
        · rw [e]; exact c
        · exact h j (by omega)
      omega
    · exact ⟨k, q, c, h⟩
  | f + 1, k, ps, hl, h => by
    by_cases c : (k : Int) ∈ ps
    · refine least_some f (k + 1) ps (by omega) fun j hj => ?_
      by_cases e : j = k
      · rw [e]; exact c
      · exact h j (by omega)
    · exact ⟨k, all_le k ps h, c, h⟩
theorem least_is (ps : List Int) : ∃ m, m ≤ ps.length ∧ IsLeast ps m := least_some ps.length 0 ps (by omega) fun j hj => absurd hj (Nat.not_lt_zero _)
/-- the program's way: rows, hand, stream behind n asks -/
inductive Cr (r : Rule) (s : Nat) : Nat → List Row → Nat → List Int → Prop
  | zero : Cr r s 0 [] 0 []
  | succ {n l h st k} : Cr r s n l h st → IsLeast (l.map (·.1)) k → Cr r s (n + 1) (step r s l h k).rows (step r s l h k).hand (st ++ [(k : Int)])
/-- the law's way -/
inductive Du (r : Rule) (s : Nat) (w0 : W) : Nat → W → List Int → Prop
  | zero : Du r s w0 0 w0 []
  | succ {n w due k res w'} : Du r s w0 n w due → IsLeast w.came k → Asks r s w [] k res w' → Du r s w0 (n + 1) w' (due ++ [(k : Int)])
theorem Cr.len {r : Rule} {s n : Nat} {l : List Row} {h : Nat} {st : List Int} (c : Cr r s n l h st) : st.length = n := by
  induction c with
  | zero => rfl
  | succ _ _ ih => rw [List.length_append, ih]; rfl
theorem Cr.inv {r : Rule} {s n : Nat} {l : List Row} {h : Nat} {st : List Int} (hs : 1 ≤ s) (c : Cr r s n l h st) : l.length ≤ s ∧ (r = .clock → (l.length < s → h = 0) ∧ (l.length = s → h < l.length)) := by
  induction c with
  | zero => exact ⟨Nat.zero_le _, fun _ => ⟨fun _ => rfl, fun e => by simp at e; omega⟩⟩
  | @succ n l h st k c hk ih =>
    have hp : placeOf l k = none := placeOf_none fun j x e z => hk.1 (List.mem_map.mpr ⟨x, List.mem_of_getElem? e, z⟩)
    unfold step
    rw [hp]
    simp only
    by_cases c1 : l.length < s
    · rw [if_pos c1]
      refine ⟨by show (l ++ [_]).length ≤ s; simp; omega, fun hr => ?_⟩
      have h0 := (ih.2 hr).1 c1
      exact ⟨fun _ => h0, fun e => by show h < (l ++ [_]).length; rw [h0]; simp⟩
    · have e1 : l.length = s := Nat.le_antisymm ih.1 (Nat.le_of_not_lt c1)
      rw [if_neg c1]
      by_cases c2 : r = .clock
      · rw [if_pos c2]
        have hl := (ih.2 c2).2 e1
        have q1 := swept_len l h
        have q2 := swept_lt hl
        have pl : ∀ x, (putAt (swept l h).1 (swept l h).2 x).length = l.length := fun x => by
          unfold putAt
          simp
          omega
        refine ⟨by show (putAt _ _ _).length ≤ s; rw [pl]; omega, fun _ => ⟨fun z => ?_, fun _ => ?_⟩⟩
        · have z' : (putAt (swept l h).1 (swept l h).2 (((k : Int), firstMark r) : Row)).length < s := z
          rw [pl] at z'
          omega
        · show ((swept l h).2 + 1) % (swept l h).1.length < (putAt _ _ _).length
          rw [pl, q1]
          exact Nat.mod_lt _ (by omega)
      · rw [if_neg c2]
        refine ⟨?_, fun hr => absurd hr c2⟩
        show (outAt l (placeToGo r l) _).length ≤ s
        unfold outAt
        have hp : placeToGo r l < l.length := by
          have ne : l ≠ [] := fun z => by rw [z] at e1; simp at e1; omega
          have pos : 0 < l.length := by omega
          cases r with
          | came => exact pos
          | used => exact pos
          | clock => exact absurd rfl c2
          | last => show l.length - 1 < l.length; omega
          | high =>
            have q := (bestIdx_spec (l := l.map (·.1)) (by simpa using ne)).1
            rw [List.length_map] at q
            exact q
          | often =>
            have q := (bestIdx_spec (l := l.map fun x => - x.2) (by simpa using ne)).1
            rw [List.length_map] at q
            exact q
        simp
        omega
theorem cr_du {r : Rule} {s : Nat} (hs : 1 ≤ s) {w0 : W} (h1 : w0.came = []) (h2 : w0.hand = 0) : ∀ {n l h st w due}, Cr r s n l h st → Du r s w0 n w due → st = due ∧ Sim r s l h w := by
  intro n l h st w due c
  induction c generalizing w due with
  | zero =>
    intro d
    cases d
    exact ⟨rfl, sim_start r s h1 h2⟩
  | @succ n l h st k c hk ih =>
    intro d
    cases d with
    | @succ _ w1 due1 j res _ d' hj ha =>
      obtain ⟨e1, S⟩ := ih d'
      have e2 : k = j := hk.uniq hj fun x => (sim_pages S).mem_iff
      subst e2
      obtain ⟨_, _, S'⟩ := sim_miss S hs hj.1 ha
      exact ⟨by rw [e1], S'⟩
/-- what stands in the law's cache, as long as it is asked for pages that it lacks: it is of the form that the next ask wants -/
structure WOk (r : Rule) (s : Nat) (w : W) : Prop where
  nd : w.came.Nodup
  len : w.came.length ≤ s
  asked : ∀ p ∈ w.came, ∃ t, w.asked p = some t
  often : ∀ p ∈ w.came, ∃ t, w.often p = some t
  marks : ∀ p ∈ w.came, ∃ b, w.marks p = some b
  hand : r = .clock → w.came.length = s → w.hand < w.came.length
theorem Sim.ok {r : Rule} {s : Nat} {l : List Row} {h : Nat} {w : W} (S : Sim r s l h w) (hs : 1 ≤ s) : WOk r s w := by
  refine ⟨S.nd, S.len, fun p hp => let ⟨t, h, _⟩ := S.asked p hp; ⟨t, h⟩, S.often, S.marks, fun hr e => ?_⟩
  subst hr
  have R := S.rel
  have h3 := S.hand
  rcases R.2.2 with z | z
  · omega
  · omega
/-- the law's way has a partner -/
theorem du_sim {r : Rule} {s : Nat} (hs : 1 ≤ s) {w0 : W} (h1 : w0.came = []) (h2 : w0.hand = 0) {n : Nat} {w : W} {due : List Int} (d : Du r s w0 n w due) : ∃ l h, Sim r s l h w := by
  induction d with
  | zero => exact ⟨[], 0, sim_start r s h1 h2⟩
  | succ d hk ha ih =>
    obtain ⟨l, h, S⟩ := ih
    exact ⟨_, _, (sim_miss S hs hk.1 ha).2.2⟩
theorem clock_goes {r : Rule} {s : Nat} {w : W} (o : WOk r s w) (hr : r = .clock) (hl : w.came.length = s) : ∃ k g w', sweepW [] k w = some (g, w') := by
  obtain ⟨g, w', e⟩ := sweep_ends _ w (Nat.le_refl _) o.nd o.marks (o.hand hr hl)
  exact ⟨_, g, w', e⟩
end CB

namespace CBX
open PySem
open AutoSeq1 (wpAny_loadPart')
theorem meets_enumerate_newT (l : Addr) (items : Array Value) :
    Meets (Builtin.«enumerate.__new__» ⟨[.type "enumerate", .ref l], []⟩) (fun _ R s => s.heap.IsTuple l items ∧
      R (.ok (.ret (.ref (s.heap.push { cls := .type "tuple_iterator", data := .fields #[.ref l, .int 0 0] }).objs.size)))
        { s with heap := (s.heap.push { cls := .type "tuple_iterator", data := .fields #[.ref l, .int 0 0] }).push { cls := .type "enumerate", data := .fields #[.none, .bool false, .ref s.heap.objs.size, rawInt 0, .none, .none] } }) :=
  .of_wp fun prog w A R s h => by
    obtain ⟨hp, g, d, tk, os⟩ := s; obtain ⟨hL, h⟩ := h
    have hsub := sub_enumerate
    obtain ⟨⟨c, dct, dt, sl⟩, hl, hc, n, hd⟩ := id hL
    replace hc : c = .type "tuple" := hc
    replace hd : dt = .seq items n := hd
    subst hc hd
    wp_walk using wpAny_loadPart' hl
    refine wpAny_stack_any fun st => wpAny_pure ?_
    split
    · rename_i c _ _ _ _ _
      cases (c == Value.type "enumerate")
      · wp_walk using wpAny_loadPart' hl, wpAny_pyIter_tuple hL
        exact ⟨_, rfl, h⟩
      · wp_walk using wpAny_loadPart' hl, wpAny_pyIter_tuple hL
        exact ⟨_, rfl, h⟩
    · wp_walk using wpAny_loadPart' hl, wpAny_pyIter_tuple hL
      exact ⟨_, rfl, h⟩
section
variable {prog : Program} {w : World} {A : Around} {E : Value → Shared → Prop} {s : Shared}
theorem call_enumerate_tuple {l : Addr} {items : Array Value} {Q : Value → Shared → Prop} (hL : s.heap.IsTuple l items)
    (h : ∀ h', IsEnum h' (s.heap.objs.size + 1) s.heap.objs.size 0 .none → h'.IsTupleIter s.heap.objs.size l 0 → h'.objs.size = s.heap.objs.size + 2 →
      (∀ b o, s.heap.get? b = some o → h'.get? b = some o) → Q (.ref (s.heap.objs.size + 1)) { s with heap := h' }) :
    wpAny (model prog w) A (call (.type "enumerate") [.ref l]) Q E s := by
  refine callType_new F.called_enumerate (by decide) (F.typeCall_enumerate_1 _) (F.newCall_enumerate_1 _) (fun obj => F.args_object_init_2 obj _) F.entry_enumerate_new
    (meets_enumerate_newT l items) ⟨hL, ?_⟩
  have hz : (s.heap.push { cls := .type "tuple_iterator", data := .fields #[.ref l, .int 0 0] }).objs.size = s.heap.objs.size + 1 := Heap.size_push ..
  show _ ∧ _
  rw [hz]
  have he : IsEnum ((s.heap.push { cls := .type "tuple_iterator", data := .fields #[.ref l, .int 0 0] }).push
      { cls := .type "enumerate", data := .fields #[.none, .bool false, .ref s.heap.objs.size, rawInt 0, .none, .none] }) (s.heap.objs.size + 1) s.heap.objs.size 0 .none := by
    have := Heap.get?_push_size (s.heap.push { cls := .type "tuple_iterator", data := .fields #[.ref l, .int 0 0] })
      (o := { cls := .type "enumerate", data := .fields #[.none, .bool false, .ref s.heap.objs.size, rawInt 0, .none, .none] }) rfl
    rw [hz] at this; exact this
  refine ⟨⟨_, he, rfl⟩, h _ he ⟨_, Heap.get?_push_of_some _ (Heap.get?_push_size _ rfl), rfl, rfl⟩ (by rw [Heap.size_push, hz]) fun b o x => Heap.get?_push_of_some _ (Heap.get?_push_of_some _ x)⟩
end
end CBX

namespace L2
open PySem PySem.Spec PyProof.Rows CBX
/-- the tuple at a, each item in a new pair -/
def IteT (K : PySem.W.Frag) (a : Addr) : It :=
  ⟨fun i H => ∃ (xs : List V) (x : V), SqT K H a xs ∧ xs[i]? = some x, fun i H v H' => ∃ T x, v = .ref T ∧ H T = none ∧ H' = upd H T (.tup [.int (i : Nat), x]) ∧ ∀ xs, SqT K H a xs → xs[i]? = some x, fun i H => ∃ xs : List V, SqT K H a xs ∧ xs.length ≤ i⟩
theorem turn_enumT {P : Program} {w : World} {K : PySem.W.Frag} {elts : List Expr} {kk : Nat} {tpos : Pos} (a e it : Addr) (hae : a ≠ e) (hai : a ≠ it) :
    Turn P w K (.Tuple elts kk tpos) (IteT K a) [e, it] e (fun i h => (∃ old, IsEnum h e it ((i : Nat) : Int) old) ∧ h.IsTupleIter it a i ∧ e ≠ it) where
  mem := by simp
  obj := fun i h st b hb => by
    obtain ⟨⟨old, he⟩, ⟨o, ho, hc, hd⟩, _⟩ := st
    have e' : b = e ∨ b = it := by simpa using hb
    rcases e' with z | z
    · rw [z]; exact ⟨_, he, fun v q => nomatch q⟩
    · rw [z]; exact ⟨o, ho, fun v q => by rw [hd] at q; cases q⟩
  keep := fun i h h' st k => let ⟨⟨old, he⟩, hi, hne⟩ := st; ⟨⟨old, k e (by simp) _ he⟩, hi.at fun o q => k it (by simp) o q, hne⟩
  item := by
    intro X hP hw hK hc i pins s σ H E I hf st hg
    subst hP hw hK
    obtain ⟨⟨old, he⟩, hit, hne⟩ := st
    obtain ⟨xs, x, hq, hx⟩ := hg
    obtain ⟨its, rv, p, hz⟩ := I.tuple hq
    obtain ⟨u, hu, ru⟩ := rv.get hx
    have hel : e < s.heap.objs.size := Heap.lt_size he
    have hil : it < s.heap.objs.size := by obtain ⟨_, q, _⟩ := hit; exact Heap.lt_size q
    have hlen : i < its.toArray.size := by
      have := (List.getElem?_eq_some_iff.mp hu).1
      simpa using this
    refine wpAny_pyNext_enum_itemD (Draws.tuple (show X.A.in1.handled = none from I.ok.hd hc) it a hai its.toArray) he ⟨hit, p⟩ hlen hne (by simp; exact ⟨hne, Ne.symm hae⟩) fun y h' tk hy ho hit' hT hsz hk => ?_
    have hyu : y = u := by
      have q : its.toArray[i]? = some u := by simpa using hu
      rw [q] at hy
      exact (Option.some.inj hy).symm
    subst hyu
    refine ⟨_, rfl, wpAny_letOwnedTupleGo_enum (s := { s with heap := h', toks := tk + 1 }) ho fun h'' he' sb => ?_⟩
    have hT2 : h''.get? s.heap.objs.size = some { cls := .type "tuple", data := .seq #[.int i tk, y] } := (sb.2 _ (Nat.ne_of_gt hel)).trans hT
    have new : ObjOk X.prog X.w (upd H s.heap.objs.size (.tup [.int (i : Nat), x])) h'' s.heap.objs.size (.tup [.int (i : Nat), x]) :=
      ⟨by show 2 ≤ sizeLine; decide, [.int i tk, y], .cons ⟨_, rfl⟩ (.cons ru .nil), ⟨_, hT2, rfl, _, rfl⟩⟩
    have I1 : Inv X pins σ (upd H s.heap.objs.size (.tup [.int (i : Nat), x])) { s with heap := h'', toks := tk + 1 } :=
      I.turnedNew (ch := [e, it]) (fun b ob hb q => (sb.2 b (fun z => hb (by simp [z]))).trans (hk b ob (fun z => hb (by simp [z])) (fun z => hb (by simp [z])) q)) hf (Nat.le_refl _) new
    refine ⟨.ref s.heap.objs.size, _, I1, rfl, ⟨_, x, rfl, I.hok.fresh (Nat.le_refl _), rfl, fun ys hy => by rw [I.tuple_inj hy hq]; exact hx⟩, ⟨⟨y, ?_⟩, hit'.1.at fun o q => (sb.2 it (Ne.symm hne)).trans q, hne⟩, fun b hb => ?_⟩
    · have e1 : ((i + 1 : Nat) : Int) = (i : Int) + 1 := by omega
      rw [e1]; exact he'
    · have hb' : b < s.heap.objs.size := by
        have e' : b = e ∨ b = it := by simpa using hb
        rcases e' with z | z
        · rw [z]; exact hel
        · rw [z]; exact hil
      rw [upd_ne (Nat.ne_of_lt hb')]
      exact (hf b hb).1
  done := by
    intro X hP hw hK hc i pins s σ H E I hf st hg
    subst hP hw hK
    obtain ⟨⟨old, he⟩, hit, hne⟩ := st
    obtain ⟨xs, hq, hx⟩ := hg
    obtain ⟨its, rv, p, hz⟩ := I.tuple hq
    obtain ⟨f0, f1, f2, f3, f4, f5⟩ := hf it (by simp)
    have hl := rv.length
    have hT : s.TypeIs (.ref e) "enumerate" := ⟨_, he, rfl⟩
    unfold pyNext
    refine wpAny_bind (wpAny_attempt (wpAny_callSpecial?_slot (name := Str.ofString "__next__") hT F.slot_enumerate_next
      (wpAny_call_entry F.slot_enumerate_next hT F.entry_enumerate_next ?_ (F.args_enumerate_next_1 _))))
    show wpAny _ _ (field (.ref e) 2 >>= _) _ _ _
    refine wpAny_bind (wpAny_field he rfl (x := .ref it) rfl ?_)
    refine wpAny_bind (wpAny_nextOf_tuple_end (show X.A.in1.handled = none from I.ok.hd hc) hit p (by simp; omega) fun h' x eb hx' => ?_)
    obtain ⟨o, ho, hcl⟩ := hx'
    refine wpAny_bind (wpAny_isInstance (T := "StopIteration") (b := true) ⟨o, ho, hcl⟩ isSubtype_stop ?_)
    exact wpAny_pure ⟨rfl, I.turned (t' := s.toks) (fun b o hb q => eb b o hb q) f0 f1 f3 f4 f5⟩
  self := fun A i s Q E st h => let ⟨⟨_, he⟩, _⟩ := st; wpAny_pyIter_enum he h
def iEnumT (K : PySem.W.Frag) (ta : TA) : TI := fun σ H R => ta σ H fun vs H1 => ∃ a xs, vs = [.ref a] ∧ SqT K H1 a xs ∧ R (IteT K a) H1
theorem pi_enumT {X : Cx} {e : Expr} {ta : TA} {p pos tpos : Pos} {elts : List Expr} {kk : Nat} (hg : Gl X "enumerate") (hm : X.mg "enumerate" = none) (ha : PA X [e] ta) (hs : starEach [e] X.env = [(false, eval e X.env)] := by rfl) :
    PI X (.Tuple elts kk tpos) (.Call (.Name "enumerate" p) [e] [] pos) (iEnumT X.K ta) := by
  refine ⟨fun pins s σ H R I h => ?_⟩
  refine Call_ (ld_blt I hg hm boot_enumerate (PyProof.Rows.callWith_type1 (thn (ha.run pos pins s σ H _ I h) fun us s1 ⟨vs, H1, I1, r1, q1⟩ => ?_) hs rfl))
  obtain ⟨a, xs, ex, hq, q⟩ := q1
  subst ex
  cases r1 with
  | cons r rr =>
    cases rr
    cases r
    obtain ⟨its, rv, p', hz⟩ := I1.tuple hq
    have hal : a < s1.heap.objs.size := p'.lt
    refine call_enumerate_tuple (show s1.heap.IsTuple a its.toArray from p') fun h' he hit hsz hk => wpAny_pyIter_enum he ?_
    have I2 : Inv X pins σ H1 { s1 with heap := h' } := I1.kept (t' := s1.toks) hk
    refine ⟨s1.heap.objs.size + 1, [s1.heap.objs.size + 1, s1.heap.objs.size], _, _, H1, rfl, I2, turn_enumT a (s1.heap.objs.size + 1) s1.heap.objs.size (Nat.ne_of_lt (Nat.lt_succ_of_lt hal)) (Nat.ne_of_lt hal), ⟨⟨.none, he⟩, hit, Nat.succ_ne_self _⟩, fun b hb => ?_, q⟩
    have e' : b = s1.heap.objs.size + 1 ∨ b = s1.heap.objs.size := by simpa using hb
    have hle : s1.heap.objs.size ≤ b := by
      rcases e' with z | z
      · rw [z]; exact Nat.le_add_right _ _
      · rw [z]; exact Nat.le_refl _
    exact I1.fpOk hle (I1.hok.fresh hle)
theorem walk_enumT {K : PySem.W.Frag} {a : Addr} {xs : List V} : Walk (IteT K a) xs.length (fun H => SqT K H a xs) (YPair (fun i => some (.int (i : Nat))) (fun i => xs[i]?)) := by
  refine ⟨fun i _ hi q => ⟨xs, xs[i], q, by simp [hi]⟩, fun _ q => ⟨xs, q, Nat.le_refl _⟩, fun i H v H' _ q y => ?_⟩
  obtain ⟨T, x, h1, h2, h3, h4⟩ := y
  exact ⟨T, .int (i : Nat), x, h1, h2, h3, rfl, h4 xs q⟩

/-! ### a def of the module, as its callers know it -/
structure Cal (P : Program) (w : World) (K : PySem.W.Frag) (mg : Str → Option Value) (base : Heap) (CX : CXT) (k : Nat) (x : Str) (ps : List Str) (sp : Sp) : Prop where
  ex : ∃ (f : Addr) (fd : FuncData), mg x = some (.ref f) ∧ PySem.W.keepIn K (.ref f) = true ∧ Binds K fd ps [] ∧ FnOk P w K mg base CX k f fd ps sp
theorem pe_cal {X : Cx} {CX : CXT} {k j : Nat} {x : Str} {ps : List Str} {sp : Sp} {E : XK} {p pos : Pos} {e : Expr} {es : List Expr} {t : TA} (C : Cal X.prog X.w X.K X.mg X.base CX k x ps sp) (hr : Room j X.A) (hj : k ≤ j) (hg : Gl X x) (hx : Passes CX X E)
    (ha : PA X (e :: es) t) (hdb : (x == ("__debug__" : Str)) = false := by decide) (he : starEach (e :: es) X.env = (false, eval e X.env) :: starEach es X.env := by rfl) (hpl : (backTo pos (starEach es X.env)).any (·.1) = false := by rfl) :
    PE X (.Call (.Name x p) (e :: es) [] pos) (tCall sp [] E t) := by
  obtain ⟨f, fd, hm, hk, hb, F⟩ := C.ex
  exact pe_call F (hr.mono hj) hg hm hk hb .nil hx ha hdb he hpl
theorem pe_gint {X : Cx} {x : Str} {n : Int} {pos : Pos} (hm : ∃ t, X.mg x = some (.int n t)) (hg : Gl X x) (hd : (x == ("__debug__" : Str)) = false := by decide) : PE X (.Name x pos) (tC (.int n)) := by
  obtain ⟨t, h⟩ := hm
  exact pe_glob hg h ⟨t, rfl⟩ hd
end L2

namespace L2
open PySem PySem.Spec PyProof.Rows
/-! ### operators by names of one's own -/
section
variable {X : Cx}
def kAdd : R2 := rI0 fun i j => .int (i + j)
def kSub : R2 := rI0 fun i j => .int (i - j)
def kMul : R2 := rI CMul fun i j => .int (i * j)
def kMod : R2 := rI (fun _ j => 0 < j) fun i j => .int (i % j)
def kFdiv : R2 := rI CDivN fun i j => .int (i.fdiv j)
def kPow : R2 := rI CPow fun i j => .int (i ^ j.toNat)
def kLt : R2 := rI0 fun i j => .bl (decide (i < j))
def kLe : R2 := rI0 fun i j => .bl (decide (i ≤ j))
def kGt : R2 := rI0 fun i j => .bl (decide (j < i))
def kGe : R2 := rI0 fun i j => .bl (decide (j ≤ i))
def kEq : R2 := rEq
def kNe : R2 := rNe
def kIsN : R2 := fun x y H Q => y = .non ∧ Q (.bl (decide (x = .non))) H
def kNotN : R2 := fun x y H Q => y = .non ∧ Q (.bl (!decide (x = .non))) H
def kIn (K : PySem.W.Frag) : R2 := rIn K false
def kNotIn (K : PySem.W.Frag) : R2 := rIn K true
def kNeg : V → Hp → VK → Prop := rU fun i => .int (-i)
theorem oAdd : OpR X (binaryOp .Add) kAdd := op_add
theorem oSub : OpR X (binaryOp .Sub) kSub := op_sub
theorem oMul : OpR X (binaryOp .Mult) kMul := op_mul
theorem oMod : OpR X (binaryOp .Mod) kMod := op_mod
theorem oFdiv : OpR X (binaryOp .FloorDiv) kFdiv := op_fdivN
theorem oPow : OpR X (binaryOp .Pow) kPow := op_pow
theorem oLt : OpR X (compareOp .Lt) kLt := op_lt
theorem oLe : OpR X (compareOp .LtE) kLe := op_le
theorem oGt : OpR X (compareOp .Gt) kGt := op_gt
theorem oGe : OpR X (compareOp .GtE) kGe := op_ge
theorem oEq : OpR X (compareOp .Eq) kEq := op_eq
theorem oNe : OpR X (compareOp .NotEq) kNe := op_ne
theorem oIsN : OpR X (compareOp .Is) kIsN := op_isN
theorem oNotN : OpR X (compareOp .IsNot) kNotN := op_notN
theorem oIn : OpR X (compareOp .In) (kIn X.K) := op_in_seq
theorem oNotIn : OpR X (compareOp .NotIn) (kNotIn X.K) := op_notIn_seq
/-- a value's truth as a test -/
def tTru (K : PySem.W.Frag) (ta : TE) : TT := fun σ H Q => ta σ H fun x H' => ∃ k, TruV K x H' k ∧ Q k H'
/-! built-ins -/
def bLen (K : PySem.W.Frag) : List V → Hp → VK → Prop := fun xs H Q => ∃ p ys, xs = [.ref p] ∧ (SqL K H p ys ∨ SqT K H p ys) ∧ Q (.int ys.length) H
def bList (K : PySem.W.Frag) : List V → Hp → VK → Prop := fun xs H Q => ∃ p ys, xs = [.ref p] ∧ (SqL K H p ys ∨ SqT K H p ys) ∧ ∀ l, H l = none → Q (.ref l) (upd H l (.lst ys))
def bTuple (K : PySem.W.Frag) : List V → Hp → VK → Prop := fun xs H Q => ∃ p ys, xs = [.ref p] ∧ ((SqL K H p ys ∧ ∀ l, H l = none → Q (.ref l) (upd H l (.tup ys))) ∨ (SqT K H p ys ∧ Q (.ref p) H))
def bMin2 : List V → Hp → VK → Prop := fun xs H Q => ∃ i j, xs = [.int i, .int j] ∧ Q (.int (if j < i then j else i)) H
theorem cbMin2 (hc : X.calm = true) : CallR X (.builtin "min") bMin2 := call_min2 hc
theorem cbLen : CallR X (.builtin "len") (bLen X.K) := call_len_seq
theorem cbList : CallR X (.type "list") (bList X.K) := call_list_of
theorem cbTuple : CallR X (.type "tuple") (bTuple X.K) := call_tuple_of
end

def rNewT (xs : List V) (H : Hp) (Q : VK) : Prop := xs.length ≤ sizeLine ∧ ∀ p, H p = none → Q (.ref p) (upd H p (.tup xs))
def rNewL (xs : List V) (H : Hp) (Q : VK) : Prop := xs.length ≤ sizeLine ∧ ∀ p, H p = none → Q (.ref p) (upd H p (.lst xs))
/-! ### readings, step by step -/
section
variable {σ : L2.St} {H : Hp} {D : Ends} {t u : TS} {te ta tb : TE} {tt tt2 : TT} {tA tR : TA} {g : TG} {v x y : V} {i j : Int} {n : Nat} {Q : VK} {QT : Bool → Hp → Prop} {QA : List V → Hp → Prop} {QS : L2.St → Hp → Prop} {r : R2} {K : PySem.W.Frag}
theorem r_seq (h : t { D with nx := u D } σ H) : tSeq t u D σ H := h
theorem r_next (h : D.nx σ H) : tNext D σ H := h
theorem r_asg (h : te σ H fun x H1 => g x σ H1 D.nx) : tAsg te g D σ H := h
theorem r_gname (h : QS (σ.set n (some v)) H) : gName n v σ H QS := h
theorem r_ret (h : te σ H D.rt) : tRet te D σ H := h
theorem r_retN (h : D.rt .non H) : tRetN D σ H := h
theorem r_drop (h : te σ H fun _ H1 => D.nx σ H1) : tDrop te D σ H := h
theorem r_ifs (h : tt σ H fun b H1 => if b = true then t D σ H1 else u D σ H1) : tIfS tt t u D σ H := h
theorem r_var (e : σ[n]? = some (some v)) (h : Q v H) : tVar n σ H Q := ⟨v, e, h⟩
theorem r_c (h : Q v H) : tC v σ H Q := h
theorem r_op (h : ta σ H fun x H1 => tb σ H1 fun y H2 => r x y H2 Q) : tOp r ta tb σ H Q := h
theorem r_nil (h : QA [] H) : tNil σ H QA := h
theorem r_cons (h : ta σ H fun x H1 => tA σ H1 fun xs H2 => QA (x :: xs) H2) : tCons ta tA σ H QA := h
theorem r_tup (h : tA σ H fun xs H1 => rNewT xs H1 Q) : tTup tA σ H Q := h
theorem r_lst (h : tA σ H fun xs H1 => rNewL xs H1 Q) : tLst tA σ H Q := h
theorem r_test (h : te σ H fun x H' => ∃ k, x = .bl k ∧ QT k H') : tTest te σ H QT := h
theorem r_tB (h : te σ H fun x H' => ∃ k, x = .bl k ∧ QT k H') : tB te σ H QT := h
theorem r_tru (h : te σ H fun x H' => ∃ k, TruV K x H' k ∧ QT k H') : tTru K te σ H QT := h
theorem r_exbl {b : Bool} {P : Bool → Prop} (h : P b) : ∃ k, V.bl b = .bl k ∧ P k := ⟨b, rfl, h⟩
theorem r_tint {P : Bool → Prop} (h : P (i != 0)) : ∃ k, TruV K (.int i) H k ∧ P k := ⟨_, rfl, h⟩
theorem r_and (h : tt σ H fun c H1 => if c = true then tt2 σ H1 QT else QT false H1) : tAnd tt tt2 σ H QT := h
theorem r_or (h : tt σ H fun c H1 => if c = true then QT true H1 else tt2 σ H1 QT) : tOr tt tt2 σ H QT := h
theorem r_not (h : tt σ H fun c H1 => QT (!c) H1) : tNot tt σ H QT := h
theorem r_notV (h : te σ H fun x H1 => ∃ c, x = .bl c ∧ Q (.bl (!c)) H1) : tNotV te σ H Q := h
theorem r_andV (h : ta σ H fun x H1 => ∃ c, x = .bl c ∧ if c = true then tb σ H1 Q else Q (.bl false) H1) : tAndV ta tb σ H Q := h
theorem r_orV (h : ta σ H fun x H1 => ∃ c, x = .bl c ∧ if c = true then Q (.bl true) H1 else tb σ H1 Q) : tOrV ta tb σ H Q := h
theorem r_ifE (h : tt σ H fun c H1 => if c = true then ta σ H1 Q else tb σ H1 Q) : tIf tt ta tb σ H Q := h
theorem r_call {sp : Sp} {E : XK} (h : tA σ H fun vs H1 => sp vs H1 Q E) : tCall sp [] E tA σ H Q := by
  have e : (fun vs H1 => sp (vs ++ []) H1 Q E) = fun vs H1 => sp vs H1 Q E := by
    funext vs H1
    rw [List.append_nil]
  show tA σ H fun vs H1 => sp (vs ++ []) H1 Q E
  rw [e]
  exact h
theorem r_CB {rb : List V → Hp → VK → Prop} (h : tA σ H fun vs H1 => rb vs H1 Q) : tCB rb tA σ H Q := h
theorem r_kAdd (h : Q (.int (i + j)) H) : kAdd (.int i) (.int j) H Q := ⟨i, j, rfl, rfl, h⟩
theorem r_kSub (h : Q (.int (i - j)) H) : kSub (.int i) (.int j) H Q := ⟨i, j, rfl, rfl, h⟩
theorem r_kMul (c : CMul i j) (h : Q (.int (i * j)) H) : kMul (.int i) (.int j) H Q := ⟨i, j, rfl, rfl, c, h⟩
theorem r_kMod (c : 0 < j) (h : Q (.int (i % j)) H) : kMod (.int i) (.int j) H Q := ⟨i, j, rfl, rfl, c, h⟩
theorem r_kFdiv (c : CDivN i j) (h : Q (.int (i.fdiv j)) H) : kFdiv (.int i) (.int j) H Q := ⟨i, j, rfl, rfl, c, h⟩
theorem r_kLt (h : Q (.bl (decide (i < j))) H) : kLt (.int i) (.int j) H Q := ⟨i, j, rfl, rfl, h⟩
theorem r_kLe (h : Q (.bl (decide (i ≤ j))) H) : kLe (.int i) (.int j) H Q := ⟨i, j, rfl, rfl, h⟩
theorem r_kGt (h : Q (.bl (decide (j < i))) H) : kGt (.int i) (.int j) H Q := ⟨i, j, rfl, rfl, h⟩
theorem r_kGe (h : Q (.bl (decide (j ≤ i))) H) : kGe (.int i) (.int j) H Q := ⟨i, j, rfl, rfl, h⟩
theorem dec_vint {i j : Int} : decide (V.int i = V.int j) = decide (i = j) := by
  by_cases h : i = j
  · subst h; simp
  · rw [decide_eq_false h, decide_eq_false (fun q => h (V.int.inj q))]
theorem dec_vstr {i j : Str} : decide (V.str i = V.str j) = decide (i = j) := by
  by_cases h : i = j
  · subst h; simp
  · rw [decide_eq_false h, decide_eq_false (fun q => h (V.str.inj q))]
theorem r_eqI (h : Q (.bl (decide (i = j))) H) : kEq (.int i) (.int j) H Q := ⟨rfl, by rw [dec_vint]; exact h⟩
theorem r_neI (h : Q (.bl (!decide (i = j))) H) : kNe (.int i) (.int j) H Q := ⟨rfl, by rw [dec_vint]; exact h⟩
theorem r_eqS {a b : Str} (h : Q (.bl (decide (a = b))) H) : kEq (.str a) (.str b) H Q := ⟨rfl, by rw [dec_vstr]; exact h⟩
theorem r_isN (h : Q (.bl (decide (x = .non))) H) : kIsN x .non H Q := ⟨rfl, h⟩
theorem r_notN (h : Q (.bl (!decide (x = .non))) H) : kNotN x .non H Q := ⟨rfl, h⟩
theorem r_ixL {p : Addr} {xs : List V} (hs : SqL K H p xs) (ha : atI xs i = some v) (h : Q v H) : rIxL K (.ref p) (.int i) H Q := ⟨p, xs, i, v, rfl, rfl, hs, ha, h⟩
theorem r_ixT {p : Addr} {xs : List V} (hs : SqT K H p xs) (ha : atI xs i = some v) (h : Q v H) : rIxT K (.ref p) (.int i) H Q := ⟨p, xs, i, v, rfl, rfl, hs, ha, h⟩
theorem r_gtup {tg : TGs} {a : Addr} {xs : List V} (hs : SqT K H a xs) (hn : xs.length = n) (h : tg xs σ H QS) : gTup K n tg (.ref a) σ H QS := ⟨a, xs, rfl, hs, hn, h⟩
theorem r_gcons {tg : TGs} {xs : List V} (h : g v σ H fun σ' H' => tg xs σ' H' QS) : gCons g tg (v :: xs) σ H QS := ⟨v, xs, rfl, h⟩
theorem r_gnil (h : QS σ H) : gNil [] σ H QS := ⟨rfl, h⟩
theorem r_gsub {to ti : TE} {ts : TSet} (h : to σ H fun o H1 => ti σ H1 fun i H2 => ts o i v H2 fun H3 => QS σ H3) : gSub to ti ts v σ H QS := h
theorem r_setL {p : Addr} {xs : List V} {k : Nat} {QH : Hp → Prop} (hs : H p = some (.lst xs)) (hk : ixN xs.length i = some k) (h : QH (upd H p (.lst (xs.set k v)))) : rSetL (.ref p) (.int i) v H QH := ⟨p, xs, i, k, rfl, rfl, hs, hk, h⟩
theorem r_lenL {p : Addr} {xs : List V} (hs : SqL K H p xs) (h : Q (.int xs.length) H) : bLen K [.ref p] H Q := ⟨p, xs, rfl, .inl hs, h⟩
theorem r_lenT {p : Addr} {xs : List V} (hs : SqT K H p xs) (h : Q (.int xs.length) H) : bLen K [.ref p] H Q := ⟨p, xs, rfl, .inr hs, h⟩
theorem r_BM {T : String} {rb : V → List V → Hp → VK → Prop} {to : TE} (h : to σ H fun x H1 => tyV K T x H1 ∧ tA σ H1 fun xs H2 => rb x xs H2 Q) : tBM K T rb to tA σ H Q := h
theorem r_sl {rs : V → Option Int → Option Int → Hp → VK → Prop} {tl th : TO} (h : te σ H fun x H1 => tl σ H1 fun l H2 => th σ H2 fun u H3 => rs x l u H3 Q) : tSl rs te tl th σ H Q := h
theorem r_nopart {QO : Option Int → Hp → Prop} (h : QO none H) : tNoPart σ H QO := h
theorem r_part {QO : Option Int → Hp → Prop} (h : te σ H fun x H1 => ∃ i, x = .int i ∧ QO (some i) H1) : tPart te σ H QO := h
theorem r_exint {P : Int → Prop} (h : P i) : ∃ k, V.int i = .int k ∧ P k := ⟨i, rfl, h⟩
theorem r_par {a b : Nat} (h : tA σ H fun vs H1 => ∃ v w, vs = [v, w] ∧ D.nx ((σ.set a (some v)).set b (some w)) H1) : tPar a b tA D σ H := h
theorem r_par2 {P : V → V → Prop} (h : P x y) : ∃ v w, [x, y] = [v, w] ∧ P v w := ⟨x, y, rfl, h⟩
theorem r_chain {r' : R2} {tc : TE} (h : ta σ H fun x H1 => tb σ H1 fun y H2 => r x y H2 fun z H3 => ∃ k, z = .bl k ∧ if k = true then tc σ H3 fun z' H4 => r' y z' H4 Q else Q (.bl false) H3) : tChain r r' ta tb tc σ H Q := h
theorem r_for {wi : TI} (h : wi σ H fun J H1 => ∃ W : Nat → Nat → L2.St → Hp → Prop, (∃ m, W 0 m σ H1) ∧ ∀ i m σ H, W i m σ H → (J.stop i H ∧ D.nx σ H) ∨ (J.go i H ∧ ∃ N : L2.St → Hp → Prop, (∀ σ' H', N σ' H' → ∃ m', m' < m ∧ W (i + 1) m' σ' H') ∧ ∀ x H', J.yld i H x H' → g x σ H' fun σ2 H2 => t { D with nx := N, ct := N, bk := D.nx } σ2 H2)) : tFor wi g t D σ H := h
theorem r_iEnumT {R : It → Hp → Prop} (h : tA σ H fun vs H1 => ∃ a xs, vs = [.ref a] ∧ SqT K H1 a xs ∧ R (IteT K a) H1) : iEnumT K tA σ H R := h
theorem r_iTup {R : It → Hp → Prop} (h : te σ H fun x H1 => ∃ a, x = .ref a ∧ (∃ xs, SqT K H1 a xs) ∧ R (Itt K a) H1) : iTup K te σ H R := h
theorem r_iList {R : It → Hp → Prop} (h : te σ H fun x H1 => ∃ a, x = .ref a ∧ (∃ xs, SqL K H1 a xs) ∧ R (Itl K a) H1) : iList K te σ H R := h
theorem r_rng1 {R : It → Hp → Prop} (h : tA σ H fun vs H1 => ∃ j : Int, vs = [.int j] ∧ -(2 ^ 62) ≤ j ∧ j < 2 ^ 62 ∧ R (Itr 0 j.toNat) H1) : iRng1 tA σ H R := h
theorem r_rng2 {R : It → Hp → Prop} (h : tA σ H fun vs H1 => ∃ i j : Int, vs = [.int i, .int j] ∧ (-(2 ^ 62) ≤ i ∧ i < 2 ^ 62 ∧ -(2 ^ 62) ≤ j ∧ j < 2 ^ 62) ∧ R (Itr i (j - i).toNat) H1) : iRng2 tA σ H R := h
theorem r_lc {wi : TI} {vs : List Nat} (h : wi σ H fun J H1 => ∀ D, H1 D = none → ∃ W : Nat → Nat → Hp → Prop, (∃ m, W 0 m (upd H1 D (.lst []))) ∧ ∀ i m H, W i m H →
    (J.stop i H ∧ Q (.ref D) H) ∨ (J.go i H ∧ ∃ Nx : Hp → Prop, (∀ H', Nx H' → ∃ m', m' < m ∧ W (i + 1) m' H') ∧ ∀ x H', J.yld i H x H' → g x (wipe σ vs) H' fun σ2 H2 => wipe σ2 vs = wipe σ vs ∧ tt σ2 H2 fun b H3 =>
      if b = true then te σ2 H3 fun y H4 => ∃ acc, H4 D = some (.lst acc) ∧ acc.length < sizeLine ∧ Nx (upd H4 D (.lst (acc ++ [y]))) else Nx H3)) : tLc wi g tt te vs σ H Q := h
theorem r_yes (h : QT true H) : tYes σ H QT := h
/-- a fresh pair is taken apart -/
theorem r_gtup2 {tg : TGs} {a : Addr} {x y : V} (h : tg [x, y] σ (upd H a (.tup [x, y])) QS) : gTup K 2 tg (.ref a) σ (upd H a (.tup [x, y])) QS := ⟨a, [x, y], rfl, SqT.of upd_same, rfl, h⟩
/-- xs.append(e) -/
theorem r_append {p : Addr} {xs : List V} (hs : H p = some (.lst xs)) (hz : xs.length < sizeLine) (h : Q .non (upd H p (.lst (xs ++ [v])))) : rAppend (.ref p) [v] H Q := ⟨p, xs, v, rfl, rfl, hs, hz, h⟩
end
theorem sqT_same {K : PySem.W.Frag} {H H' : Hp} {a : Addr} {xs : List V} (e : Same H H') (h : SqT K H a xs) : SqT K H' a xs := by
  rcases h with (h | ⟨o, h⟩) | h
  · exact .inl (.inl (e _ _ h))
  · exact .inl (.inr ⟨o, e _ _ h⟩)
  · exact .inr h
theorem Same.new {H : Hp} {p : Addr} {o : HO} (h : H p = none) : Same H (upd H p o) := fun a u e => by
  rw [upd_ne (ne_of_none e h)]
  exact e
theorem Same.new' {H H1 : Hp} {p : Addr} {o : HO} (e : Same H H1) (h : H1 p = none) : Same H (upd H1 p o) := e.trans (.new h)
/-- what H does not know may change -/
theorem Same.mut {H H' : Hp} {p : Addr} {o : HO} (e : Same H H') (h : H p = none) : Same H (upd H' p o) := fun a u ha => by
  rw [upd_ne (ne_of_none ha h)]
  exact e a u ha
section
variable {H : Hp} {Q : VK} {K : PySem.W.Frag} {a b : Addr} {xs ys : List V} {lo hi : Option Int}
theorem r_newT (hl : xs.length ≤ 100000) (h : ∀ p H', H p = none → Same H H' → H' p = some (.tup xs) → Q (.ref p) H') : rNewT xs H Q := ⟨Nat.le_trans hl (by decide), fun p hp => h p _ hp (.new hp) upd_same⟩
theorem r_newL (hl : xs.length ≤ 100000) (h : ∀ p H', H p = none → Same H H' → H' p = some (.lst xs) → Q (.ref p) H') : rNewL xs H Q := ⟨Nat.le_trans hl (by decide), fun p hp => h p _ hp (.new hp) upd_same⟩
theorem szd {n : Nat} (h : Nat.ble n 100000 = true := by rfl) : n ≤ 100000 := Nat.le_of_ble_eq_true h
theorem cutV_all {xs : List V} {lo hi : Option Int} (h : HT.sIx xs.length 0 lo = 0 ∧ HT.sIx xs.length xs.length hi = xs.length) : cutV xs lo hi = xs := by
  unfold cutV
  rw [h.1, h.2]
  simp
theorem r_slA (hs : SqT K H a xs) (h : ∀ b H', Same H H' → SqT K H' b (cutV xs lo hi) → Q (.ref b) H') : rSlA K (.ref a) lo hi H Q := by
  refine ⟨a, xs, rfl, hs, fun c => h a H (.refl H) (by rw [cutV_all c]; exact hs), fun _ p hp => h p _ (.new hp) (SqT.of upd_same)⟩
theorem r_catA (hs : SqT K H a xs) (hs2 : SqT K H b ys) (hl : xs.length + ys.length ≤ 100000) (h : ∀ c H', Same H H' → SqT K H' c (xs ++ ys) → Q (.ref c) H') : rCatA K (.ref a) (.ref b) H Q := by
  refine ⟨a, b, xs, ys, rfl, rfl, hs, hs2, Nat.le_trans hl (by decide), fun c => ?_, fun _ c => ?_, fun _ _ p hp => h p _ (.new hp) (SqT.of upd_same)⟩
  · subst c
    exact h b H (.refl H) hs2
  · subst c
    exact h a H (.refl H) (by rw [List.append_nil]; exact hs)
theorem cutV_take {xs : List V} {k : Nat} (hk : k ≤ xs.length) : cutV xs none (some (k : Int)) = xs.take k := by
  unfold cutV
  rw [HT.sIx_none, HT.sIx_nat]
  simp [Nat.min_eq_left hk]
theorem cutV_drop {xs : List V} {k : Nat} (hk : k ≤ xs.length) : cutV xs (some (k : Int)) none = xs.drop k := by
  unfold cutV
  rw [HT.sIx_none, HT.sIx_nat, Nat.min_eq_left hk]
  exact List.take_of_length_le (by simp)
theorem r_tuple_L (hs : SqL K H a xs) (h : ∀ p H', H p = none → Same H H' → H' p = some (.tup xs) → Q (.ref p) H') : bTuple K [.ref a] H Q := ⟨a, xs, rfl, .inl ⟨hs, fun l hl => h l _ hl (.new hl) upd_same⟩⟩
theorem r_list_T (hs : SqT K H a xs) (h : ∀ p H', H p = none → Same H H' → H' p = some (.lst xs) → Q (.ref p) H') : bList K [.ref a] H Q := ⟨a, xs, rfl, .inr hs, fun l hl => h l _ hl (.new hl) upd_same⟩
end
theorem sqT_upd {K : PySem.W.Frag} {H : Hp} {L b : Addr} {ys xs : List V} {o : HO} (hL : H L = some (.lst ys)) (h : SqT K H b xs) : SqT K (upd H L o) b xs := by
  rcases h with (h | ⟨u, h⟩) | h
  · exact .inl (.inl (by rw [upd_ne (ne_of h hL (fun z => by cases z))]; exact h))
  · exact .inl (.inr ⟨u, by rw [upd_ne (ne_of h hL (fun z => by cases z))]; exact h⟩)
  · exact .inr h
theorem ixN_nat {n j : Nat} (hj : j < n) : ixN n (j : Int) = some j := by
  unfold ixN
  rw [if_pos (by omega), if_pos (by omega)]
  simp
theorem r_while {σ : L2.St} {H : Hp} {D : Ends} {tt : TT} {t : TS} (W : Nat → L2.St → Hp → Prop) (m : Nat) (w0 : W m σ H) (h : ∀ m σ H, W m σ H → tt σ H fun b H1 => if b = true then ∃ N : L2.St → Hp → Prop, (∀ σ' H', N σ' H' → ∃ m', m' < m ∧ W m' σ' H') ∧ t { D with nx := N, ct := N, bk := D.nx } σ H1 else D.nx σ H1) : tWhile tt t D σ H :=
  ⟨W, ⟨m, w0⟩, h⟩
theorem sz10 {n : Nat} (h : n ≤ 100000) : n ≤ sizeLine := Nat.le_trans h (by decide)
theorem sz10' {n : Nat} (h : n < 100000) : n < sizeLine := Nat.lt_of_lt_of_le h (by decide)
/-! ### dicts -/
section
variable {H : Hp} {a : Addr} {kvs : List (Key × V)} {k : Key} {v y : V} {σ : L2.St} {D : Ends} {Q : VK}
theorem r_dgK {P : V → Prop} (hd : H a = some (.dK kvs)) (hv : valV kvs k = some v) (hy : kV k = y) (h : P v) : ∃ a' v', V.ref a = .ref a' ∧ DGet H a' y (some v') ∧ P v' :=
  ⟨a, v, rfl, by rw [← hy, ← hv]; exact .k hd, h⟩
theorem r_dpK {P : Hp → Prop} (hd : H a = some (.dK kvs)) (hl : kvs.length < sizeLine) (hy : kV k = y) (h : P (upd H a (.dK (putK kvs k v)))) : ∃ a' H4, V.ref a = .ref a' ∧ DPut H a' y v H4 ∧ P H4 :=
  ⟨a, _, rfl, by rw [← hy]; exact .k hd hl, h⟩
theorem r_dget {td ty : TE} (h : td σ H fun x H1 => ty σ H1 fun y H2 => ∃ a v, x = .ref a ∧ DGet H2 a y (some v) ∧ Q v H2) : tDGet td ty σ H Q := h
theorem r_dput {td ty tv : TE} (h : tv σ H fun v H1 => td σ H1 fun x H2 => ty σ H2 fun y H3 => ∃ a H4, x = .ref a ∧ DPut H3 a y v H4 ∧ D.nx σ H4) : sDPut td ty tv D σ H := h
end
end L2

namespace CB
open PySem PySem.Spec PyProof.Rows L2
/-- the addresses of the module's own constants and classes -/
structure Glob where
  K : PySem.W.Frag
  aEMPTY : Addr
  aRULES : Addr
  aEQUAL : Addr
  c_CacheError : Addr
  c_BadRule : Addr
  c_BadSize : Addr
  c_BadStream : Addr
  c_BadCosts : Addr
  c_BadCount : Addr
/-- built-in names stand -/
structure Bl (mg : Str → Option Value) : Prop where
  n_len : mg "len" = none
  n_list : mg "list" = none
  n_tuple : mg "tuple" = none
  n_sorted : mg "sorted" = none
  n_max : mg "max" = none
  n_min : mg "min" = none
  n_range : mg "range" = none
  n_enumerate : mg "enumerate" = none
  n_isinstance : mg "isinstance" = none
  n_bool : mg "bool" = none
  n_int : mg "int" = none
def Rule.s : Rule → Str
  | .came => "came" | .used => "used" | .last => "last" | .high => "high" | .often => "often" | .clock => "clock"

local macro_rules | `(tactic| walk_at "s1") => `(tactic| (with_reducible first
  | refine r_seq ?_ | refine r_next ?_ | refine r_asg ?_ | refine r_gname ?_ | refine r_ret ?_ | refine r_retN ?_ | refine r_drop ?_ | refine r_ifs ?_ | refine r_c ?_ | refine r_op ?_ | refine r_nil ?_ | refine r_cons ?_
  | refine r_tup ?_ | refine r_lst ?_ | refine r_test ?_ | refine r_tB ?_ | refine r_tru ?_ | refine r_exbl ?_ | refine r_tint ?_ | refine r_and ?_ | refine r_or ?_ | refine r_not ?_ | refine r_notV ?_ | refine r_andV ?_ | refine r_orV ?_ | refine r_ifE ?_ | refine r_call ?_ | refine r_CB ?_
  | refine r_kAdd ?_ | refine r_kSub ?_ | refine r_kLt ?_ | refine r_kLe ?_ | refine r_kGt ?_ | refine r_kGe ?_ | refine r_eqI ?_ | refine r_neI ?_ | refine r_eqS ?_ | refine r_isN ?_ | refine r_notN ?_
  | refine r_gcons ?_ | refine r_gnil ?_ | refine r_gsub ?_ | refine r_BM ?_ | refine r_sl ?_ | refine r_nopart ?_ | refine r_part ?_ | refine r_exint ?_ | refine r_par ?_ | refine r_par2 ?_ | refine r_chain ?_
  | refine r_dget ?_ | refine r_dput ?_ | refine iteT ?_ | refine r_for ?_ | refine r_iEnumT ?_ | refine r_iTup ?_ | refine r_iList ?_ | refine r_rng1 ?_ | refine r_rng2 ?_ | refine r_lc ?_ | refine r_gtup2 ?_ | refine r_yes ?_ | refine iteF ?_ | refine r_var (by with_unfolding_all rfl) ?_))
local macro_rules | `(tactic| walk_at "go") => `(tactic| (repeat (walk_at "s1")))

theorem rs_inj {r q : Rule} (h : r.s = q.s) : r = q := by
  cases r <;> cases q <;> first | rfl | exact absurd h (by decide +kernel)
/-! ### what stands for a row, the rows, a state -/
def RowV (K : PySem.W.Frag) (H : Hp) (x : V) (p : Row) : Prop := ∃ b, x = .ref b ∧ SqT K H b [.int p.1, .int p.2]
def RowsV (K : PySem.W.Frag) (H : Hp) (xs : List V) (l : List Row) : Prop := Paired (RowV K H) xs l
def RsV (K : PySem.W.Frag) (H : Hp) (v : V) (l : List Row) : Prop := ∃ a xs, v = .ref a ∧ SqT K H a xs ∧ RowsV K H xs l ∧ l.length ≤ 100
def StV (K : PySem.W.Frag) (H : Hp) (v : V) (l : List Row) (h : Nat) : Prop := ∃ a x, v = .ref a ∧ SqT K H a [x, .int (h : Int)] ∧ RsV K H x l
section
variable {K : PySem.W.Frag} {H H' : Hp} {x v : V} {xs : List V} {l : List Row} {p : Row} {h : Nat}
theorem RowV.mono (e : Same H H') (r : RowV K H x p) : RowV K H' x p := let ⟨b, h1, h2⟩ := r; ⟨b, h1, sqT_same e h2⟩
theorem RowsV.mono (e : Same H H') (r : RowsV K H xs l) : RowsV K H' xs l := Paired.mapP r fun _ _ z => z.mono e
theorem RsV.mono (e : Same H H') (r : RsV K H v l) : RsV K H' v l := let ⟨a, xs, h1, h2, h3, h4⟩ := r; ⟨a, xs, h1, sqT_same e h2, h3.mono e, h4⟩
theorem StV.mono (e : Same H H') (r : StV K H v l h) : StV K H' v l h := let ⟨a, x, h1, h2, h3⟩ := r; ⟨a, x, h1, sqT_same e h2, h3.mono e⟩
theorem RowsV.len (r : RowsV K H xs l) : xs.length = l.length := Paired.length r
theorem RowsV.get {i : Nat} (r : RowsV K H xs l) (e : l[i]? = some p) : ∃ x, xs[i]? = some x ∧ RowV K H x p := by
  have hl := r.len
  have hi := (List.getElem?_eq_some_iff.mp e).1
  have hx : xs[i]? = some (xs[i]'(by omega)) := by simp
  obtain ⟨b, hb, q⟩ := paired_get r hx
  rw [e] at hb
  cases hb
  exact ⟨_, hx, q⟩
theorem RowsV.get' {i : Nat} (r : RowsV K H xs l) (e : xs[i]? = some x) : ∃ p, l[i]? = some p ∧ RowV K H x p := paired_get r e
theorem paired_append {α β : Type} {F : α → β → Prop} : ∀ {l₁ l₂ : List α} {m₁ m₂ : List β}, Paired F l₁ m₁ → Paired F l₂ m₂ → Paired F (l₁ ++ l₂) (m₁ ++ m₂)
  | _, _, _, _, .nil, s => s
  | _, _, _, _, .cons r t, s => .cons r (paired_append t s)
theorem paired_take {α β : Type} {F : α → β → Prop} : ∀ {l : List α} {m : List β} (n : Nat), Paired F l m → Paired F (l.take n) (m.take n)
  | _, _, 0, _ => .nil
  | _, _, _ + 1, .nil => .nil
  | _, _, n + 1, .cons r t => .cons r (paired_take n t)
theorem paired_drop {α β : Type} {F : α → β → Prop} : ∀ {l : List α} {m : List β} (n : Nat), Paired F l m → Paired F (l.drop n) (m.drop n)
  | _, _, 0, r => r
  | _, _, _ + 1, .nil => .nil
  | _, _, n + 1, .cons _ t => paired_drop n t
end

/-! ### the promises -/
def sp_first_mark (G : Glob) : Sp := fun vs H Q _ => ∃ r : Rule, vs = [.str r.s] ∧ Q (.int (firstMark r)) H
def sp_place_of (G : Glob) : Sp := fun vs H Q _ => ∃ (v : V) (l : List Row) (p : Int), vs = [v, .int p] ∧ RsV G.K H v l ∧ ∀ H', Same H H' → Q (match placeOf l p with | some k => .int (k : Int) | none => .non) H'
def sp_rows_asked (G : Glob) : Sp := fun vs H Q _ => ∃ (r : Rule) (v : V) (l : List Row) (k : Nat) (x : Row), vs = [.str r.s, v, .int (k : Int)] ∧ RsV G.K H v l ∧ l[k]? = some x ∧ ∀ v' H', Same H H' → RsV G.K H' v' (rowsAsked r l k x) → Q v' H'
def sp_place_to_go (G : Glob) : Sp := fun vs H Q _ => ∃ (r : Rule) (v : V) (l : List Row), vs = [.str r.s, v] ∧ RsV G.K H v l ∧ l ≠ [] ∧ ∀ H', Same H H' → Q (.int (placeToGo r l : Int)) H'
def sp_swept (G : Glob) : Sp := fun vs H Q _ => ∃ (v : V) (l : List Row) (h : Nat), vs = [v, .int (h : Int)] ∧ RsV G.K H v l ∧ h < l.length ∧ ∀ a x H', Same H H' → H' a = some (.tup [x, .int ((swept l h).2 : Int)]) → RsV G.K H' x (swept l h).1 → Q (.ref a) H'
def goneV : Option Int → V
  | some g => .int g
  | none => .non
def sp_step (G : Glob) : Sp := fun vs H Q _ => ∃ (r : Rule) (size : Nat) (v : V) (l : List Row) (h : Nat) (p : Int), vs = [.str r.s, .int (size : Int), v, .int p] ∧ StV G.K H v l h ∧ 1 ≤ size ∧ l.length ≤ size ∧ size ≤ 6 ∧ (r = .clock → l.length = size → h < l.length) ∧
  ∀ a x H', Same H H' → H' a = some (.tup [.bl (step r size l h p).held, goneV (step r size l h p).gone, x]) → StV G.K H' x (step r size l h p).rows (step r size l h p).hand → Q (.ref a) H'
def sp_pages_held (G : Glob) : Sp := fun vs H Q _ => ∃ (v : V) (l : List Row) (h : Nat), vs = [v] ∧ StV G.K H v l h ∧ l.length < 64 ∧ ∀ a (ps : List Int) H', Same H H' → ps.Perm (l.map (·.1)) → ps.Pairwise (· ≤ ·) → H' a = some (.tup (ps.map V.int)) → Q (.ref a) H'
def t_first_mark (G : Glob) : TS := (tSeq (tIfS (tOr (tTest (tOp kEq (tVar 0) (tC (.str "often")))) (tTest (tOp kEq (tVar 0) (tC (.str "clock"))))) (tRet (tC (.int 1))) tNext)
    (tRet (tC (.int 0))))
def t_place_of (G : Glob) : TS := (tSeq (tFor (iEnumT G.K (tCons (tVar 0) tNil)) (gTup G.K 2 (gCons (gName 2) (gCons (gName 3) gNil))) (tIfS (tTest (tOp kEq (tOp (rIxT G.K) (tVar 3) (tC (.int 0))) (tVar 1))) (tRet (tVar 2)) tNext))
    (tRet (tC .non)))
def t_rows_asked (G : Glob) : TS := (tSeq (tAsg (tOp (rIxT G.K) (tVar 1) (tVar 2)) (gTup G.K 2 (gCons (gName 3) (gCons (gName 4) gNil))))
    (tSeq (tIfS (tOr (tTest (tOp kEq (tVar 0) (tC (.str "used")))) (tTest (tOp kEq (tVar 0) (tC (.str "last"))))) (tRet (tOp (rCatA G.K) (tOp (rCatA G.K) (tSl (rSlA G.K) (tVar 1) tNoPart (tPart (tVar 2))) (tSl (rSlA G.K) (tVar 1) (tPart (tOp kAdd (tVar 2) (tC (.int 1)))) tNoPart)) (tTup (tCons (tTup (tCons (tVar 3) (tCons (tVar 4) tNil))) tNil)))) tNext)
    (tSeq (tIfS (tTest (tOp kEq (tVar 0) (tC (.str "often")))) (tRet (tOp (rCatA G.K) (tOp (rCatA G.K) (tSl (rSlA G.K) (tVar 1) tNoPart (tPart (tVar 2))) (tTup (tCons (tTup (tCons (tVar 3) (tCons (tOp kAdd (tVar 4) (tC (.int 1))) tNil))) tNil))) (tSl (rSlA G.K) (tVar 1) (tPart (tOp kAdd (tVar 2) (tC (.int 1)))) tNoPart))) tNext)
    (tSeq (tIfS (tTest (tOp kEq (tVar 0) (tC (.str "clock")))) (tRet (tOp (rCatA G.K) (tOp (rCatA G.K) (tSl (rSlA G.K) (tVar 1) tNoPart (tPart (tVar 2))) (tTup (tCons (tTup (tCons (tVar 3) (tCons (tC (.int 1)) tNil))) tNil))) (tSl (rSlA G.K) (tVar 1) (tPart (tOp kAdd (tVar 2) (tC (.int 1)))) tNoPart))) tNext)
    (tRet (tVar 1))))))
def t_place_to_go (G : Glob) : TS := (tSeq (tIfS (tTest (tOp kEq (tVar 0) (tC (.str "last")))) (tRet (tOp kSub (tCB (bLen G.K) (tCons (tVar 1) tNil)) (tC (.int 1)))) tNext)
    (tSeq (tIfS (tTest (tOp kEq (tVar 0) (tC (.str "high")))) (tSeq (tAsg (tLc (iTup G.K (tVar 1)) (gName 4) tYes (tOp (rIxT G.K) (tVar 4) (tC (.int 0))) [4]) (gName 2))
    (tRet (tBM G.K "list" (rIndex G.K) (tVar 2) (tCons (tCB (rMax G.K) (tCons (tVar 2) tNil)) tNil)))) tNext)
    (tSeq (tIfS (tTest (tOp kEq (tVar 0) (tC (.str "often")))) (tSeq (tAsg (tLc (iTup G.K (tVar 1)) (gName 4) tYes (tOp (rIxT G.K) (tVar 4) (tC (.int 1))) [4]) (gName 3))
    (tRet (tBM G.K "list" (rIndex G.K) (tVar 3) (tCons (tCB (rMin G.K) (tCons (tVar 3) tNil)) tNil)))) tNext)
    (tRet (tC (.int 0))))))
def t_swept (G : Glob) : TS := (tSeq (tAsg (tCB (bList G.K) (tCons (tVar 0) tNil)) (gName 2))
    (tSeq (tWhile (tTru G.K (tOp (rIxT G.K) (tOp (rIxL G.K) (tVar 2) (tVar 1)) (tC (.int 1)))) (tSeq (tAsg (tTup (tCons (tOp (rIxT G.K) (tOp (rIxL G.K) (tVar 2) (tVar 1)) (tC (.int 0))) (tCons (tC (.int 0)) tNil))) (gSub (tVar 2) (tVar 1) rSetL))
    (tAsg (tOp kMod (tOp kAdd (tVar 1) (tC (.int 1))) (tCB (bLen G.K) (tCons (tVar 2) tNil))) (gName 1))))
    (tRet (tTup (tCons (tCB (bTuple G.K) (tCons (tVar 2) tNil)) (tCons (tVar 1) tNil))))))
def t_step (G : Glob) : TS := (tSeq (tAsg (tVar 2) (gTup G.K 2 (gCons (gName 4) (gCons (gName 5) gNil))))
    (tSeq (tAsg (tCall (sp_place_of G) [] E0 (tCons (tVar 4) (tCons (tVar 3) tNil))) (gName 6))
    (tSeq (tIfS (tTest (tOp kNotN (tVar 6) (tC .non))) (tRet (tTup (tCons (tC (.bl true)) (tCons (tC .non) (tCons (tTup (tCons (tCall (sp_rows_asked G) [] E0 (tCons (tVar 0) (tCons (tVar 4) (tCons (tVar 6) tNil)))) (tCons (tVar 5) tNil))) tNil))))) tNext)
    (tSeq (tAsg (tTup (tCons (tVar 3) (tCons (tCall (sp_first_mark G) [] E0 (tCons (tVar 0) tNil)) tNil))) (gName 7))
    (tSeq (tIfS (tTest (tOp kLt (tCB (bLen G.K) (tCons (tVar 4) tNil)) (tVar 1))) (tRet (tTup (tCons (tC (.bl false)) (tCons (tC .non) (tCons (tTup (tCons (tOp (rCatA G.K) (tVar 4) (tTup (tCons (tVar 7) tNil))) (tCons (tVar 5) tNil))) tNil))))) tNext)
    (tSeq (tIfS (tTest (tOp kEq (tVar 0) (tC (.str "clock")))) (tSeq (tAsg (tCall (sp_swept G) [] E0 (tCons (tVar 4) (tCons (tVar 5) tNil))) (gTup G.K 2 (gCons (gName 4) (gCons (gName 6) gNil))))
    (tAsg (tTup (tCons (tOp (rCatA G.K) (tOp (rCatA G.K) (tSl (rSlA G.K) (tVar 4) tNoPart (tPart (tVar 6))) (tTup (tCons (tVar 7) tNil))) (tSl (rSlA G.K) (tVar 4) (tPart (tOp kAdd (tVar 6) (tC (.int 1)))) tNoPart)) (tCons (tOp kMod (tOp kAdd (tVar 6) (tC (.int 1))) (tCB (bLen G.K) (tCons (tVar 4) tNil))) tNil))) (gName 8))) (tSeq (tAsg (tCall (sp_place_to_go G) [] E0 (tCons (tVar 0) (tCons (tVar 4) tNil))) (gName 6))
    (tAsg (tTup (tCons (tOp (rCatA G.K) (tOp (rCatA G.K) (tSl (rSlA G.K) (tVar 4) tNoPart (tPart (tVar 6))) (tSl (rSlA G.K) (tVar 4) (tPart (tOp kAdd (tVar 6) (tC (.int 1)))) tNoPart)) (tTup (tCons (tVar 7) tNil))) (tCons (tVar 5) tNil))) (gName 8))))
    (tRet (tTup (tCons (tC (.bl false)) (tCons (tOp (rIxT G.K) (tOp (rIxT G.K) (tVar 4) (tVar 6)) (tC (.int 0))) (tCons (tVar 8) tNil)))))))))))
def t_pages_held (G : Glob) : TS := (tRet (tCB (bTuple G.K) (tCons (tCB (rSorted G.K) (tCons (tLc (iTup G.K (tOp (rIxT G.K) (tVar 0) (tC (.int 0)))) (gName 1) tYes (tOp (rIxT G.K) (tVar 1) (tC (.int 0))) [1]) tNil)) tNil)))
end CB

namespace CB
open PySem PySem.Spec PyProof.Rows L2
local macro_rules | `(tactic| walk_at "s1") => `(tactic| (with_reducible first
  | refine r_seq ?_ | refine r_next ?_ | refine r_asg ?_ | refine r_gname ?_ | refine r_ret ?_ | refine r_retN ?_ | refine r_drop ?_ | refine r_ifs ?_ | refine r_c ?_ | refine r_op ?_ | refine r_nil ?_ | refine r_cons ?_
  | refine r_tup ?_ | refine r_lst ?_ | refine r_test ?_ | refine r_tB ?_ | refine r_tru ?_ | refine r_exbl ?_ | refine r_tint ?_ | refine r_and ?_ | refine r_or ?_ | refine r_not ?_ | refine r_notV ?_ | refine r_andV ?_ | refine r_orV ?_ | refine r_ifE ?_ | refine r_call ?_ | refine r_CB ?_
  | refine r_kAdd ?_ | refine r_kSub ?_ | refine r_kLt ?_ | refine r_kLe ?_ | refine r_kGt ?_ | refine r_kGe ?_ | refine r_eqI ?_ | refine r_neI ?_ | refine r_eqS ?_ | refine r_isN ?_ | refine r_notN ?_
  | refine r_gcons ?_ | refine r_gnil ?_ | refine r_gsub ?_ | refine r_BM ?_ | refine r_sl ?_ | refine r_nopart ?_ | refine r_part ?_ | refine r_exint ?_ | refine r_par ?_ | refine r_par2 ?_ | refine r_chain ?_
  | refine r_dget ?_ | refine r_dput ?_ | refine iteT ?_ | refine r_for ?_ | refine r_iEnumT ?_ | refine r_iTup ?_ | refine r_iList ?_ | refine r_rng1 ?_ | refine r_rng2 ?_ | refine r_lc ?_ | refine r_gtup2 ?_ | refine r_yes ?_ | refine iteF ?_ | refine r_var (by with_unfolding_all rfl) ?_))
local macro_rules | `(tactic| walk_at "go") => `(tactic| (repeat (walk_at "s1")))


/-! ### the readings -/
theorem if_dt {c : Prop} [Decidable c] {A B : Prop} (h1 : c → A) (h2 : ¬ c → B) : if decide c = true then A else B := by
  by_cases h : c
  · rw [if_pos (decide_eq_true h)]; exact h1 h
  · rw [if_neg (by rw [decide_eq_false h]; exact Bool.false_ne_true)]; exact h2 h
theorem if_dn {c : Prop} [Decidable c] {A B : Prop} (h1 : ¬ c → A) (h2 : c → B) : if (!decide c) = true then A else B := by
  by_cases h : c
  · rw [if_neg (by rw [decide_eq_true h]; exact Bool.false_ne_true)]; exact h2 h
  · rw [if_pos (by rw [decide_eq_false h]; rfl)]; exact h1 h
theorem len_first_mark (G : Glob) (vs : List V) (H : Hp) (Q : VK) (E : XK) (h : sp_first_mark G vs H Q E) : vs.length = 1 := by
  obtain ⟨r, rfl, _⟩ := h
  rfl
theorem rd_first_mark (G : Glob) (vs : List V) (H : Hp) (Q : VK) (E : XK) (h : sp_first_mark G vs H Q E) : t_first_mark G { nx := fun _ H' => Q .non H', rt := Q } (start ["rule"] vs) H := by
  obtain ⟨r, rfl, k⟩ := h
  unfold t_first_mark
  walk_at "go"
  refine if_dt (fun c => ?_) (fun c => ?_)
  · walk_at "go"
    cases rs_inj (q := .often) c
    exact k
  · walk_at "go"
    refine if_dt (fun c => ?_) (fun c => ?_)
    · walk_at "go"
      cases rs_inj (q := .clock) c
      exact k
    · walk_at "go"
      cases r <;> first | exact k | (exfalso; first | exact c rfl | (rename_i c' ; exact c' rfl))
theorem len_place_of (G : Glob) (vs : List V) (H : Hp) (Q : VK) (E : XK) (h : sp_place_of G vs H Q E) : vs.length = 2 := by
  obtain ⟨_, _, _, rfl, _⟩ := h
  rfl
theorem rd_place_of (G : Glob) (vs : List V) (H : Hp) (Q : VK) (E : XK) (h : sp_place_of G vs H Q E) : t_place_of G { nx := fun _ H' => Q .non H', rt := Q } (start ["rows", "page", "place", "row"] vs) H := by
  obtain ⟨v, l, p, rfl, ⟨a, xs, rfl, hs, hr, hl⟩, k⟩ := h
  unfold t_place_of
  walk_at "go"
  refine ⟨_, _, rfl, hs, for_it walk_enumT (fun i σ H' => ∃ s2 s3, σ = [some (.ref a), some (.int p), s2, s3] ∧ Same H H' ∧ ∀ (j : Nat) (x : Row), j < i → l[j]? = some x → x.1 ≠ p)
    ⟨none, none, rfl, Same.refl H, fun j x hj => absurd hj (Nat.not_lt_zero _)⟩ (fun i σ H' _ ⟨_, _, _, s, _⟩ => sqT_same s hs) ?_ ?_⟩
  · rintro i y σ H1 H2 hi ⟨s2, s3, rfl, sm, hb⟩ ⟨T, z, x, rfl, nT, rfl, hz, hx⟩
    cases hz
    obtain ⟨q, hq, b, rfl, hb2⟩ := hr.get' hx
    have sm2 : Same H (upd H1 T (.tup [.int ((i : Nat) : Int), .ref b])) := sm.new' nT
    walk_at "go"
    refine r_ixT (i := ((0 : Nat) : Int)) (sqT_same sm2 hb2) (atI_nat rfl) ?_
    walk_at "go"
    refine if_dt (fun c => ?_) (fun c => ?_)
    · walk_at "go"
      have e := placeOf_some hq c (fun j y hj e => hb j y hj e)
      have k2 := k _ sm2
      rw [e] at k2
      exact k2
    · walk_at "go"
      refine ⟨_, _, rfl, sm2, fun j x hj e => ?_⟩
      rcases Nat.lt_succ_iff_lt_or_eq.mp hj with q' | q'
      · exact hb j x q' e
      · subst q'
        rw [hq] at e
        cases e
        exact c
  · rintro σ H1 ⟨s2, s3, rfl, sm, hb⟩
    walk_at "go"
    have e : placeOf l p = none := placeOf_none fun j x e => hb j x (by rw [hr.len]; exact (List.getElem?_eq_some_iff.mp e).1) e
    have k2 := k _ sm
    rw [e] at k2
    exact k2
end CB

namespace CB
open PySem PySem.Spec PyProof.Rows L2
local macro_rules | `(tactic| walk_at "s1") => `(tactic| (with_reducible first
  | refine r_seq ?_ | refine r_next ?_ | refine r_asg ?_ | refine r_gname ?_ | refine r_ret ?_ | refine r_retN ?_ | refine r_drop ?_ | refine r_ifs ?_ | refine r_c ?_ | refine r_op ?_ | refine r_nil ?_ | refine r_cons ?_
  | refine r_tup ?_ | refine r_lst ?_ | refine r_test ?_ | refine r_tB ?_ | refine r_tru ?_ | refine r_exbl ?_ | refine r_tint ?_ | refine r_and ?_ | refine r_or ?_ | refine r_not ?_ | refine r_notV ?_ | refine r_andV ?_ | refine r_orV ?_ | refine r_ifE ?_ | refine r_call ?_ | refine r_CB ?_
  | refine r_kAdd ?_ | refine r_kSub ?_ | refine r_kLt ?_ | refine r_kLe ?_ | refine r_kGt ?_ | refine r_kGe ?_ | refine r_eqI ?_ | refine r_neI ?_ | refine r_eqS ?_ | refine r_isN ?_ | refine r_notN ?_
  | refine r_gcons ?_ | refine r_gnil ?_ | refine r_gsub ?_ | refine r_BM ?_ | refine r_sl ?_ | refine r_nopart ?_ | refine r_part ?_ | refine r_exint ?_ | refine r_par ?_ | refine r_par2 ?_ | refine r_chain ?_
  | refine r_dget ?_ | refine r_dput ?_ | refine iteT ?_ | refine r_for ?_ | refine r_iEnumT ?_ | refine r_iTup ?_ | refine r_iList ?_ | refine r_rng1 ?_ | refine r_rng2 ?_ | refine r_lc ?_ | refine r_gtup2 ?_ | refine r_yes ?_ | refine iteF ?_ | refine r_var (by with_unfolding_all rfl) ?_))
local macro_rules | `(tactic| walk_at "go") => `(tactic| (repeat (walk_at "s1")))


theorem len_rows_asked (G : Glob) (vs : List V) (H : Hp) (Q : VK) (E : XK) (h : sp_rows_asked G vs H Q E) : vs.length = 3 := by
  obtain ⟨_, _, _, _, _, rfl, _⟩ := h
  rfl
theorem RowV.of {K : PySem.W.Frag} {H : Hp} {p : Addr} {x : Row} (h : H p = some (.tup [.int x.1, .int x.2])) : RowV K H (.ref p) x := ⟨p, rfl, SqT.of h⟩
/-- rows[:k] + rows[k+1:] + (x,) and rows[:k] + (x,) + rows[k+1:] -/
theorem rows_out {K : PySem.W.Frag} {H : Hp} {xs : List V} {l : List Row} {k : Nat} {x : Row} {v : V} (r : RowsV K H xs l) (hv : RowV K H v x) : RowsV K H (xs.take k ++ xs.drop (k + 1) ++ [v]) (outAt l k x) :=
  paired_append (paired_append (paired_take k r) (paired_drop (k + 1) r)) (.cons hv .nil)
theorem rows_put {K : PySem.W.Frag} {H : Hp} {xs : List V} {l : List Row} {k : Nat} {x : Row} {v : V} (r : RowsV K H xs l) (hv : RowV K H v x) : RowsV K H (xs.take k ++ [v] ++ xs.drop (k + 1)) (putAt l k x) := by
  unfold putAt
  rw [List.append_assoc]
  exact paired_append (paired_take k r) (.cons hv (paired_drop (k + 1) r))
theorem out_len {l : List Row} {k : Nat} {x : Row} (h : k < l.length) : (outAt l k x).length = l.length := by
  unfold outAt
  simp
  omega
theorem put_len {l : List Row} {k : Nat} {x : Row} (h : k < l.length) : (putAt l k x).length = l.length := by
  unfold putAt
  simp
  omega
theorem rd_rows_asked (G : Glob) (vs : List V) (H : Hp) (Q : VK) (E : XK) (h : sp_rows_asked G vs H Q E) : t_rows_asked G { nx := fun _ H' => Q .non H', rt := Q } (start ["rule", "rows", "place", "page", "mark"] vs) H := by
  obtain ⟨r, v, l, k, ⟨pg, m⟩, rfl, ⟨a, xs, rfl, hs, hr, hl⟩, hk, q⟩ := h
  unfold t_rows_asked
  obtain ⟨y, hy, b, rfl, hb⟩ := hr.get hk
  have kl : k < l.length := (List.getElem?_eq_some_iff.mp hk).1
  have xl := hr.len
  walk_at "go"
  refine r_ixT hs (atI_nat hy) ?_
  refine r_gtup hb rfl ?_
  walk_at "go"
  have c1 : ((k : Nat) : Int) + 1 = ((k + 1 : Nat) : Int) := by omega
  refine if_dt (fun c => ?_) (fun c => ?_)
  · cases rs_inj (q := .used) c
    walk_at "go"
    refine r_slA hs fun a1 H1 s1 h1 => ?_
    walk_at "go"
    refine r_slA (sqT_same s1 hs) fun a2 H2 s2 h2 => ?_
    walk_at "go"
    rw [cutV_take (by omega)] at h1
    rw [c1, cutV_drop (by omega)] at h2
    refine r_catA (sqT_same s2 h1) h2 (by simp; omega) fun a3 H3 s3 h3 => ?_
    walk_at "go"
    refine r_newT szd fun p H4 np s4 hp => ?_
    walk_at "go"
    refine r_newT szd fun p5 H5 np5 s5 hp5 => ?_
    have sA : Same H H3 := (s1.trans s2).trans s3
    refine r_catA (sqT_same (s4.trans s5) h3) (SqT.of hp5) (by simp; omega) fun a6 H6 s6 h6 => ?_
    have sB : Same H H6 := ((sA.trans s4).trans s5).trans s6
    exact q _ _ sB ⟨_, _, rfl, h6, rows_out (hr.mono sB) ((RowV.of (x := (pg, m)) hp).mono (s5.trans s6)), by show (outAt l k (pg, m)).length ≤ 100; rw [out_len kl]; exact hl⟩
  · walk_at "go"
    refine if_dt (fun c' => ?_) (fun c' => ?_)
    · cases rs_inj (q := .last) c'
      walk_at "go"
      refine r_slA hs fun a1 H1 s1 h1 => ?_
      walk_at "go"
      refine r_slA (sqT_same s1 hs) fun a2 H2 s2 h2 => ?_
      walk_at "go"
      rw [cutV_take (by omega)] at h1
      rw [c1, cutV_drop (by omega)] at h2
      refine r_catA (sqT_same s2 h1) h2 (by simp; omega) fun a3 H3 s3 h3 => ?_
      walk_at "go"
      refine r_newT szd fun p H4 np s4 hp => ?_
      walk_at "go"
      refine r_newT szd fun p5 H5 np5 s5 hp5 => ?_
      have sA : Same H H3 := (s1.trans s2).trans s3
      refine r_catA (sqT_same (s4.trans s5) h3) (SqT.of hp5) (by simp; omega) fun a6 H6 s6 h6 => ?_
      have sB : Same H H6 := ((sA.trans s4).trans s5).trans s6
      exact q _ _ sB ⟨_, _, rfl, h6, rows_out (hr.mono sB) ((RowV.of (x := (pg, m)) hp).mono (s5.trans s6)), by show (outAt l k (pg, m)).length ≤ 100; rw [out_len kl]; exact hl⟩
    · walk_at "go"
      refine if_dt (fun c'' => ?_) (fun c'' => ?_)
      · cases rs_inj (q := .often) c''
        walk_at "go"
        refine r_slA hs fun a1 H1 s1 h1 => ?_
        walk_at "go"
        rw [cutV_take (by omega)] at h1
        refine r_newT szd fun p H2 np s2 hp => ?_
        walk_at "go"
        refine r_newT szd fun p3 H3 np3 s3 hp3 => ?_
        refine r_catA (sqT_same (s2.trans s3) h1) (SqT.of hp3) (by simp; omega) fun a4 H4 s4 h4 => ?_
        walk_at "go"
        have sA : Same H H4 := ((s1.trans s2).trans s3).trans s4
        refine r_slA (sqT_same sA hs) fun a5 H5 s5 h5 => ?_
        rw [c1, cutV_drop (by omega)] at h5
        refine r_catA (sqT_same s5 h4) h5 (by simp; omega) fun a6 H6 s6 h6 => ?_
        have sB : Same H H6 := (sA.trans s5).trans s6
        exact q _ _ sB ⟨_, _, rfl, h6, rows_put (hr.mono sB) ((RowV.of (x := (pg, m + 1)) hp).mono (((s3.trans s4).trans s5).trans s6)), by show (putAt l k (pg, m + 1)).length ≤ 100; rw [put_len kl]; exact hl⟩
      · walk_at "go"
        refine if_dt (fun c3 => ?_) (fun c3 => ?_)
        · cases rs_inj (q := .clock) c3
          walk_at "go"
          refine r_slA hs fun a1 H1 s1 h1 => ?_
          walk_at "go"
          rw [cutV_take (by omega)] at h1
          refine r_newT szd fun p H2 np s2 hp => ?_
          walk_at "go"
          refine r_newT szd fun p3 H3 np3 s3 hp3 => ?_
          refine r_catA (sqT_same (s2.trans s3) h1) (SqT.of hp3) (by simp; omega) fun a4 H4 s4 h4 => ?_
          walk_at "go"
          have sA : Same H H4 := ((s1.trans s2).trans s3).trans s4
          refine r_slA (sqT_same sA hs) fun a5 H5 s5 h5 => ?_
          rw [c1, cutV_drop (by omega)] at h5
          refine r_catA (sqT_same s5 h4) h5 (by simp; omega) fun a6 H6 s6 h6 => ?_
          have sB : Same H H6 := (sA.trans s5).trans s6
          exact q _ _ sB ⟨_, _, rfl, h6, rows_put (hr.mono sB) ((RowV.of (x := (pg, 1)) hp).mono (((s3.trans s4).trans s5).trans s6)), by show (putAt l k (pg, 1)).length ≤ 100; rw [put_len kl]; exact hl⟩
        · walk_at "go"
          refine q _ _ (.refl H) ?_
          have e : rowsAsked r l k (pg, m) = l := by
            cases r <;> first | rfl | (exfalso; first | exact c rfl | exact c' rfl | exact c'' rfl | exact c3 rfl)
          rw [e]
          exact ⟨a, xs, rfl, hs, hr, hl⟩
theorem len_swept (G : Glob) (vs : List V) (H : Hp) (Q : VK) (E : XK) (h : sp_swept G vs H Q E) : vs.length = 2 := by
  obtain ⟨_, _, _, rfl, _⟩ := h
  rfl
end CB

namespace CB
open PySem PySem.Spec PyProof.Rows L2
local macro_rules | `(tactic| walk_at "s1") => `(tactic| (with_reducible first
  | refine r_seq ?_ | refine r_next ?_ | refine r_asg ?_ | refine r_gname ?_ | refine r_ret ?_ | refine r_retN ?_ | refine r_drop ?_ | refine r_ifs ?_ | refine r_c ?_ | refine r_op ?_ | refine r_nil ?_ | refine r_cons ?_
  | refine r_tup ?_ | refine r_lst ?_ | refine r_test ?_ | refine r_tB ?_ | refine r_tru ?_ | refine r_exbl ?_ | refine r_tint ?_ | refine r_and ?_ | refine r_or ?_ | refine r_not ?_ | refine r_notV ?_ | refine r_andV ?_ | refine r_orV ?_ | refine r_ifE ?_ | refine r_call ?_ | refine r_CB ?_
  | refine r_kAdd ?_ | refine r_kSub ?_ | refine r_kLt ?_ | refine r_kLe ?_ | refine r_kGt ?_ | refine r_kGe ?_ | refine r_eqI ?_ | refine r_neI ?_ | refine r_eqS ?_ | refine r_isN ?_ | refine r_notN ?_
  | refine r_gcons ?_ | refine r_gnil ?_ | refine r_gsub ?_ | refine r_BM ?_ | refine r_sl ?_ | refine r_nopart ?_ | refine r_part ?_ | refine r_exint ?_ | refine r_par ?_ | refine r_par2 ?_ | refine r_chain ?_
  | refine r_dget ?_ | refine r_dput ?_ | refine iteT ?_ | refine r_for ?_ | refine r_iEnumT ?_ | refine r_iTup ?_ | refine r_iList ?_ | refine r_rng1 ?_ | refine r_rng2 ?_ | refine r_lc ?_ | refine r_gtup2 ?_ | refine r_yes ?_ | refine iteF ?_ | refine r_var (by with_unfolding_all rfl) ?_))
local macro_rules | `(tactic| walk_at "go") => `(tactic| (repeat (walk_at "s1")))


theorem RowsV.upd {K : PySem.W.Frag} {H : Hp} {L : Addr} {ys xs : List V} {l : List Row} {o : HO} (hL : H L = some (.lst ys)) (r : RowsV K H xs l) : RowsV K (upd H L o) xs l :=
  Paired.mapP r fun _ _ ⟨b, h1, h2⟩ => ⟨b, h1, sqT_upd hL h2⟩
theorem paired_set {α β : Type} {F : α → β → Prop} {x : α} {y : β} (h : F x y) : ∀ {l : List α} {m : List β} (n : Nat), Paired F l m → Paired F (l.set n x) (m.set n y)
  | _, _, _, .nil => .nil
  | _, _, 0, .cons _ t => .cons h t
  | _, _, n + 1, .cons r t => .cons r (paired_set h n t)
theorem rd_swept (G : Glob) (vs : List V) (H : Hp) (Q : VK) (E : XK) (h : sp_swept G vs H Q E) : t_swept G { nx := fun _ H' => Q .non H', rt := Q } (start ["rows", "hand", "left"] vs) H := by
  obtain ⟨v, l, h, rfl, ⟨a, xs, rfl, hs, hr, hl⟩, hlt, q⟩ := h
  unfold t_swept
  walk_at "go"
  refine r_list_T hs fun L H0 nL s0 hL => ?_
  walk_at "go"
  refine r_while (fun m σ' H' => ∃ (ys : List V) (l' : List Row) (h' : Nat), σ' = [some (.ref a), some (.int (h' : Int)), some (.ref L)] ∧ H' L = some (.lst ys) ∧ RowsV G.K H' ys l' ∧ h' < l'.length ∧ l'.length = l.length ∧ swept l' h' = swept l h ∧ cnt l' = m ∧ Same H H')
    (cnt l) ⟨xs, l, h, rfl, hL, hr.mono s0, hlt, rfl, rfl, rfl, s0⟩ ?_
  rintro m σ' H1 ⟨ys, l', h', rfl, hL1, hr1, hlt1, hlen, hsw, hcnt, s1⟩
  obtain ⟨⟨pg, mk⟩, hx⟩ : ∃ x, l'[h']? = some x := ⟨l'[h'], by simp⟩
  obtain ⟨y, hy, b, rfl, hb⟩ := hr1.get hx
  have yl := hr1.len
  walk_at "go"
  refine r_ixL (SqL.of hL1) (atI_nat hy) ?_
  walk_at "go"
  refine r_ixT (i := ((1 : Nat) : Int)) hb (atI_nat rfl) ?_
  walk_at "go"
  by_cases c : mk = 0
  · subst c
    rw [if_neg (by show ¬ ((0 : Int) != 0) = true; decide)]
    walk_at "go"
    refine r_tuple_L (SqL.of hL1) fun p H2 np s2 hp => ?_
    walk_at "go"
    refine r_newT szd fun p3 H3 np3 s3 hp3 => ?_
    have e := swept_stop hx
    rw [← hsw, e] at q
    exact q p3 _ H3 ((s1.trans s2).trans s3) hp3 ⟨p, ys, rfl, SqT.of (s3 _ _ hp), hr1.mono (s2.trans s3), by show l'.length ≤ 100; omega⟩
  · have c' : (mk != 0) = true := by simpa using c
    rw [if_pos (by exact c')]
    refine ⟨_, fun _ _ n => n, ?_⟩
    walk_at "go"
    refine r_ixL (SqL.of hL1) (atI_nat hy) ?_
    walk_at "go"
    refine r_ixT (i := ((0 : Nat) : Int)) hb (atI_nat rfl) ?_
    walk_at "go"
    refine r_newT szd fun p H2 np s2 hp => ?_
    walk_at "go"
    refine r_setL (s2 _ _ hL1) (ixN_nat (by omega)) ?_
    walk_at "go"
    have hL2 : H2 L = some (.lst ys) := s2 _ _ hL1
    refine r_lenL (SqL.of upd_same) ?_
    walk_at "go"
    refine r_kMod (by simp; omega) ?_
    walk_at "go"
    have e := swept_on hx c
    have e2 := cnt_set hx c
    refine ⟨cnt (l'.set h' (pg, 0)), by omega, ys.set h' (.ref p), l'.set h' (pg, 0), (h' + 1) % l'.length, ?_, upd_same, ?_, ?_, by simp; exact hlen, ?_, rfl, Same.mut (s1.trans s2) nL⟩
    · have z : (((h' : Nat) : Int) + 1) % (((ys.set h' (V.ref p)).length : Nat) : Int) = (((h' + 1) % l'.length : Nat) : Int) := by
        rw [List.length_set, yl, Int.natCast_emod]
        rfl
      rw [z]
      rfl
    · exact paired_set ⟨p, rfl, sqT_upd hL2 (SqT.of hp)⟩ h' ((hr1.mono s2).upd hL2)
    · simp
      exact Nat.mod_lt _ (by omega)
    · rw [← e]
      exact hsw
end CB

namespace CB
open PySem PySem.Spec PyProof.Rows L2
local macro_rules | `(tactic| walk_at "s1") => `(tactic| (with_reducible first
  | refine r_seq ?_ | refine r_next ?_ | refine r_asg ?_ | refine r_gname ?_ | refine r_ret ?_ | refine r_retN ?_ | refine r_drop ?_ | refine r_ifs ?_ | refine r_c ?_ | refine r_op ?_ | refine r_nil ?_ | refine r_cons ?_
  | refine r_tup ?_ | refine r_lst ?_ | refine r_test ?_ | refine r_tB ?_ | refine r_tru ?_ | refine r_exbl ?_ | refine r_tint ?_ | refine r_and ?_ | refine r_or ?_ | refine r_not ?_ | refine r_notV ?_ | refine r_andV ?_ | refine r_orV ?_ | refine r_ifE ?_ | refine r_call ?_ | refine r_CB ?_
  | refine r_kAdd ?_ | refine r_kSub ?_ | refine r_kLt ?_ | refine r_kLe ?_ | refine r_kGt ?_ | refine r_kGe ?_ | refine r_eqI ?_ | refine r_neI ?_ | refine r_eqS ?_ | refine r_isN ?_ | refine r_notN ?_
  | refine r_gcons ?_ | refine r_gnil ?_ | refine r_gsub ?_ | refine r_BM ?_ | refine r_sl ?_ | refine r_nopart ?_ | refine r_part ?_ | refine r_exint ?_ | refine r_par ?_ | refine r_par2 ?_ | refine r_chain ?_
  | refine r_dget ?_ | refine r_dput ?_ | refine iteT ?_ | refine r_for ?_ | refine r_iEnumT ?_ | refine r_iTup ?_ | refine r_iList ?_ | refine r_rng1 ?_ | refine r_rng2 ?_ | refine r_lc ?_ | refine r_gtup2 ?_ | refine r_yes ?_ | refine iteF ?_ | refine r_var (by with_unfolding_all rfl) ?_))
local macro_rules | `(tactic| walk_at "go") => `(tactic| (repeat (walk_at "s1")))


theorem len_place_to_go (G : Glob) (vs : List V) (H : Hp) (Q : VK) (E : XK) (h : sp_place_to_go G vs H Q E) : vs.length = 2 := by
  obtain ⟨_, _, _, rfl, _⟩ := h
  rfl
theorem flat_ints (ns : List Int) : (ns.map V.int).all flatV = true := by
  rw [List.all_eq_true]
  intro x hx
  obtain ⟨n, _, rfl⟩ := List.mem_map.mp hx
  rfl
/-- pages.index(m): the first place -/
theorem r_indexI {K : PySem.W.Frag} {H : Hp} {Q : VK} {p : Addr} {ns : List Int} {m : Int} {j : Nat} (hs : SqL K H p (ns.map V.int)) (hj : ns[j]? = some m) (hn : ∀ k, k < j → ns[k]? ≠ some m) (h : Q (.int (j : Int)) H) : rIndex K (.ref p) [.int m] H Q := by
  refine ⟨p, _, .int m, j, .int m, rfl, rfl, hs, rfl, flat_ints ns, by rw [List.getElem?_map, hj]; rfl, by show (m == m) = true; exact beq_self_eq_true m, fun k z hk hz => ?_, h⟩
  rw [List.getElem?_map] at hz
  cases e : ns[k]? with
  | none => rw [e] at hz; cases hz
  | some y =>
    rw [e] at hz
    have hz' : V.int y = z := Option.some.inj hz
    rw [← hz']
    show (y == m) = false
    refine beq_eq_false_iff_ne.mpr fun q => hn k hk ?_
    rw [e, q]
theorem map_snoc_take {α β : Type} {l : List α} {i : Nat} {x : α} (f : α → β) (h : l[i]? = some x) : (l.take (i + 1)).map f = (l.take i).map f ++ [f x] := by
  rw [List.take_add_one, h]
  simp
theorem wipe_set1 {s0 : L2.St} {n : Nat} (v : Option V) (hn : n < s0.length) : wipe ((wipe s0 [n]).set n v) [n] = wipe s0 [n] := by
  simp [wipe]
/-- [row[j] for row in rows] -/
theorem lc_rows {K : PySem.W.Frag} {H : Hp} {a D : Addr} {xs : List V} {l : List Row} {s0 : L2.St} {n : Nat} {te : TE} {Qd : Hp → Prop} (f : Row → Int) (hs : SqT K H a xs) (hr : RowsV K H xs l) (hl : l.length ≤ 100) (hn : n < s0.length) (nD : H D = none)
    (ht : ∀ (H' : Hp) (b : Addr) (x : Row) (Q : VK), SqT K H' b [.int x.1, .int x.2] → Q (.int (f x)) H' → te ((wipe s0 [n]).set n (some (.ref b))) H' Q)
    (hd : ∀ H', Same H H' → H' D = some (.lst ((l.map f).map V.int)) → Qd H') :
    ∃ W : Nat → Nat → Hp → Prop, (∃ m, W 0 m (upd H D (.lst []))) ∧ ∀ i m H, W i m H →
      ((Itt K a).stop i H ∧ Qd H) ∨ ((Itt K a).go i H ∧ ∃ Nx : Hp → Prop, (∀ H', Nx H' → ∃ m', m' < m ∧ W (i + 1) m' H') ∧ ∀ x H', (Itt K a).yld i H x H' → gName n x (wipe s0 [n]) H' fun σ2 H2 => wipe σ2 [n] = wipe s0 [n] ∧ tYes σ2 H2 fun b H3 =>
        if b = true then te σ2 H3 fun y H4 => ∃ acc, H4 D = some (.lst acc) ∧ acc.length < sizeLine ∧ Nx (upd H4 D (.lst (acc ++ [y]))) else Nx H3) := by
  have xl := hr.len
  refine lc_tup (K := K) (a := a) (xs := xs) (fun i H' => Same H H' ∧ H' D = some (.lst (((l.take i).map f).map V.int))) ⟨Same.new nD, upd_same⟩ (fun i H' _ z => sqT_same z.1 hs) ?_ (fun H' z => hd H' z.1 (by have q := z.2; rw [xl, List.take_length] at q; exact q))
  rintro i x H' hx ⟨sm, hD⟩
  obtain ⟨q, hq, b, rfl, hb⟩ := hr.get' hx
  refine ⟨?_, ?_⟩
  · exact wipe_set1 _ hn
  · refine r_yes ?_
    refine iteT ?_
    refine ht _ _ _ _ (sqT_same sm hb) ?_
    refine ⟨_, hD, ?_, Same.mut sm nD, ?_⟩
    · refine sz10' ?_
      simp
      omega
    · rw [upd_same, map_snoc_take f hq]
      simp
theorem rd_place_to_go (G : Glob) (vs : List V) (H : Hp) (Q : VK) (E : XK) (h : sp_place_to_go G vs H Q E) : t_place_to_go G { nx := fun _ H' => Q .non H', rt := Q } (start ["rule", "rows", "pages", "marks", "row"] vs) H := by
  obtain ⟨r, v, l, rfl, ⟨a, xs, rfl, hs, hr, hl⟩, hne, q⟩ := h
  have l0 : 0 < l.length := List.length_pos_iff.mpr hne
  have xl := hr.len
  unfold t_place_to_go
  walk_at "go"
  refine if_dt (fun c => ?_) (fun c => ?_)
  · cases rs_inj (q := .last) c
    walk_at "go"
    refine r_lenT hs ?_
    walk_at "go"
    have e : (((xs.length : Nat) : Int) - 1) = ((l.length - 1 : Nat) : Int) := by omega
    rw [e]
    exact q _ (.refl H)
  · walk_at "go"
    refine if_dt (fun c' => ?_) (fun c' => ?_)
    · cases rs_inj (q := .high) c'
      walk_at "go"
      refine ⟨a, rfl, ⟨xs, hs⟩, fun D nD => lc_rows (fun x => x.1) hs hr hl (by show 4 < 5; decide) nD (fun H' b x Q hb hq => ?_) (fun H' sm hD => ?_)⟩
      · walk_at "go"
        exact r_ixT (i := ((0 : Nat) : Int)) hb (atI_nat rfl) hq
      · walk_at "go"
        refine ⟨.inl ⟨rfl, _, .inl (.inl hD)⟩, ?_⟩
        walk_at "go"
        refine ⟨D, _, rfl, SqL.of hD, by simp; exact l0, fun m hm hle => ?_⟩
        walk_at "go"
        have hne' : l.map (fun x => x.1) ≠ [] := by simpa using hne
        obtain ⟨b1, b2, b3⟩ := bestIdx_spec hne'
        have bi : (l.map fun x => x.1)[bestIdx (l.map fun x : Row => x.1)]? = some m := by
          have q1 : (l.map fun x => x.1).getD (bestIdx (l.map fun x : Row => x.1)) 0 = m := by
            have z1 := b2 m hm
            have z2 : (l.map fun x => x.1).getD (bestIdx (l.map fun x : Row => x.1)) 0 ∈ (l.map fun x => x.1) := by
              rw [List.getD_eq_getElem?_getD, List.getElem?_eq_getElem b1]
              exact List.getElem_mem b1
            have z3 := hle _ z2
            omega
          rw [List.getElem?_eq_getElem b1]
          rw [List.getD_eq_getElem?_getD, List.getElem?_eq_getElem b1] at q1
          exact congrArg some q1
        refine r_indexI (j := bestIdx (l.map fun x : Row => x.1)) (SqL.of hD) bi (fun k hk z => ?_) (q _ sm)
        have z1 := b3 k hk
        rw [List.getD_eq_getElem?_getD, z, List.getD_eq_getElem?_getD, bi] at z1
        exact Int.lt_irrefl _ z1
    · walk_at "go"
      refine if_dt (fun c'' => ?_) (fun c'' => ?_)
      · cases rs_inj (q := .often) c''
        walk_at "go"
        refine ⟨a, rfl, ⟨xs, hs⟩, fun D nD => lc_rows (fun x => x.2) hs hr hl (by show 4 < 5; decide) nD (fun H' b x Q hb hq => ?_) (fun H' sm hD => ?_)⟩
        · walk_at "go"
          exact r_ixT (i := ((1 : Nat) : Int)) hb (atI_nat rfl) hq
        · walk_at "go"
          refine ⟨.inl ⟨rfl, _, .inl (.inl hD)⟩, ?_⟩
          walk_at "go"
          refine ⟨D, _, rfl, SqL.of hD, by simp; exact l0, fun m hm hle => ?_⟩
          walk_at "go"
          have hne' : l.map (fun x => - x.2) ≠ [] := by simpa using hne
          obtain ⟨b1, b2, b3⟩ := bestIdx_spec hne'
          have b1' : bestIdx (l.map fun x : Row => - x.2) < l.length := by simpa using b1
          have e1 : ∀ k, (l.map fun x => - x.2).getD k 0 = - (l.map fun x => x.2).getD k 0 := fun k => by
            rw [List.getD_eq_getElem?_getD, List.getD_eq_getElem?_getD, List.getElem?_map, List.getElem?_map]
            cases l[k]? <;> simp
          have bi : (l.map fun x => x.2)[bestIdx (l.map fun x : Row => - x.2)]? = some m := by
            have q1 : (l.map fun x => x.2).getD (bestIdx (l.map fun x : Row => - x.2)) 0 = m := by
              have z1 := b2 (-m) (by
                obtain ⟨y, hy, e⟩ := List.mem_map.mp hm
                exact List.mem_map.mpr ⟨y, hy, by rw [← e]⟩)
              have z2 : (l.map fun x => x.2).getD (bestIdx (l.map fun x : Row => - x.2)) 0 ∈ (l.map fun x => x.2) := by
                rw [List.getD_eq_getElem?_getD, List.getElem?_eq_getElem (by simpa using b1')]
                exact List.getElem_mem _
              have z3 := hle _ z2
              rw [e1] at z1
              omega
            rw [List.getElem?_eq_getElem (by simpa using b1')]
            rw [List.getD_eq_getElem?_getD, List.getElem?_eq_getElem (by simpa using b1')] at q1
            exact congrArg some q1
          refine r_indexI (j := bestIdx (l.map fun x : Row => - x.2)) (SqL.of hD) bi (fun k hk z => ?_) (q _ sm)
          have z1 := b3 k hk
          rw [e1, e1, List.getD_eq_getElem?_getD, z, List.getD_eq_getElem?_getD, bi] at z1
          exact Int.lt_irrefl _ z1
      · walk_at "go"
        have e : placeToGo r l = 0 := by
          cases r <;> first | rfl | (exfalso; first | exact c rfl | exact c' rfl | exact c'' rfl)
        have z := q H (.refl H)
        rw [e] at z
        exact z
end CB

namespace CB
open PySem PySem.Spec PyProof.Rows L2
local macro_rules | `(tactic| walk_at "s1") => `(tactic| (with_reducible first
  | refine r_seq ?_ | refine r_next ?_ | refine r_asg ?_ | refine r_gname ?_ | refine r_ret ?_ | refine r_retN ?_ | refine r_drop ?_ | refine r_ifs ?_ | refine r_c ?_ | refine r_op ?_ | refine r_nil ?_ | refine r_cons ?_
  | refine r_tup ?_ | refine r_lst ?_ | refine r_test ?_ | refine r_tB ?_ | refine r_tru ?_ | refine r_exbl ?_ | refine r_tint ?_ | refine r_and ?_ | refine r_or ?_ | refine r_not ?_ | refine r_notV ?_ | refine r_andV ?_ | refine r_orV ?_ | refine r_ifE ?_ | refine r_call ?_ | refine r_CB ?_
  | refine r_kAdd ?_ | refine r_kSub ?_ | refine r_kLt ?_ | refine r_kLe ?_ | refine r_kGt ?_ | refine r_kGe ?_ | refine r_eqI ?_ | refine r_neI ?_ | refine r_eqS ?_ | refine r_isN ?_ | refine r_notN ?_
  | refine r_gcons ?_ | refine r_gnil ?_ | refine r_gsub ?_ | refine r_BM ?_ | refine r_sl ?_ | refine r_nopart ?_ | refine r_part ?_ | refine r_exint ?_ | refine r_par ?_ | refine r_par2 ?_ | refine r_chain ?_
  | refine r_dget ?_ | refine r_dput ?_ | refine iteT ?_ | refine r_for ?_ | refine r_iEnumT ?_ | refine r_iTup ?_ | refine r_iList ?_ | refine r_rng1 ?_ | refine r_rng2 ?_ | refine r_lc ?_ | refine r_gtup2 ?_ | refine r_yes ?_ | refine iteF ?_ | refine r_var (by with_unfolding_all rfl) ?_))
local macro_rules | `(tactic| walk_at "go") => `(tactic| (repeat (walk_at "s1")))


theorem len_pages_held (G : Glob) (vs : List V) (H : Hp) (Q : VK) (E : XK) (h : sp_pages_held G vs H Q E) : vs.length = 1 := by
  obtain ⟨_, _, _, rfl, _⟩ := h
  rfl
theorem rd_pages_held (G : Glob) (vs : List V) (H : Hp) (Q : VK) (E : XK) (h : sp_pages_held G vs H Q E) : t_pages_held G { nx := fun _ H' => Q .non H', rt := Q } (start ["state", "row"] vs) H := by
  obtain ⟨v, l, h, rfl, ⟨a, x, rfl, hs, b, xs, rfl, hb, hr, hl⟩, h64, q⟩ := h
  unfold t_pages_held
  walk_at "go"
  refine r_ixT (i := ((0 : Nat) : Int)) hs (atI_nat rfl) ?_
  refine ⟨b, rfl, ⟨xs, hb⟩, fun D nD => lc_rows (fun x : Row => x.1) hb hr hl (by show 1 < 2; decide) nD (fun H' b x Q hb hq => ?_) (fun H' sm hD => ?_)⟩
  · walk_at "go"
    exact r_ixT (i := ((0 : Nat) : Int)) hb (atI_nat rfl) hq
  · walk_at "go"
    refine ⟨D, _, rfl, SqL.of hD, by simp; exact h64, fun ns p hp hw np => ?_⟩
    walk_at "go"
    refine r_tuple_L (SqL.of upd_same) fun p2 H2 np2 s2 hp2 => ?_
    exact q p2 ns H2 ((sm.new' np).trans s2) hp hw hp2
theorem len_step (G : Glob) (vs : List V) (H : Hp) (Q : VK) (E : XK) (h : sp_step G vs H Q E) : vs.length = 4 := by
  obtain ⟨_, _, _, _, _, _, rfl, _⟩ := h
  rfl
theorem StV.mk {K : PySem.W.Frag} {H : Hp} {p : Addr} {x : V} {l : List Row} {h : Nat} (hp : H p = some (.tup [x, .int (h : Int)])) (hx : RsV K H x l) : StV K H (.ref p) l h := ⟨p, x, rfl, SqT.of hp, hx⟩
theorem rd_step (G : Glob) (vs : List V) (H : Hp) (Q : VK) (E : XK) (h : sp_step G vs H Q E) : t_step G { nx := fun _ H' => Q .non H', rt := Q } (start ["rule", "size", "state", "page", "rows", "hand", "place", "comer", "behind"] vs) H := by
  obtain ⟨r, size, v, l, h, p, rfl, ⟨a, x, rfl, hs, hx⟩, h1, hle, h6, hck, q⟩ := h
  unfold t_step
  walk_at "go"
  refine r_gtup hs rfl ?_
  walk_at "go"
  refine ⟨x, l, p, rfl, hx, fun H1 s1 => ?_⟩
  walk_at "go"
  cases hp : placeOf l p with
  | some k =>
    have e : step r size l h p = ⟨true, none, rowsAsked r l k (l.getD k (0, 0)), h⟩ := by unfold step; rw [hp]
    obtain ⟨y, hy, hy2⟩ := placeOf_lt hp
    have ey : l.getD k (0, 0) = y := by rw [List.getD_eq_getElem?_getD, hy]; rfl
    rw [ey] at e
    rw [e] at q
    walk_at "go"
    refine if_dn (fun _ => ?_) (fun c => by cases c)
    walk_at "go"
    refine ⟨r, x, l, k, y, rfl, hx.mono s1, hy, fun v' H2 s2 hv => ?_⟩
    walk_at "go"
    refine r_newT szd fun p3 H3 np3 s3 hp3 => ?_
    walk_at "go"
    refine r_newT szd fun p4 H4 np4 s4 hp4 => ?_
    exact q p4 (.ref p3) H4 (((s1.trans s2).trans s3).trans s4) hp4 (StV.mk (s4 _ _ hp3) (hv.mono (s3.trans s4)))
  | none =>
    walk_at "go"
    refine if_dn (fun c => absurd rfl c) (fun _ => ?_)
    walk_at "go"
    refine ⟨r, rfl, ?_⟩
    walk_at "go"
    refine r_newT szd fun p2 H2 np2 s2 hp2 => ?_
    have hrow : RowV G.K H2 (.ref p2) (p, firstMark r) := ⟨p2, rfl, SqT.of hp2⟩
    have sA : Same H H2 := s1.trans s2
    obtain ⟨b, xs, rfl, hb, hr, hl⟩ := id hx
    have xl := hr.len
    walk_at "go"
    refine r_lenT (sqT_same sA hb) ?_
    walk_at "go"
    refine if_dt (fun c => ?_) (fun c => ?_)
    · have c' : l.length < size := by omega
      have e : step r size l h p = ⟨false, none, l ++ [(p, firstMark r)], h⟩ := by unfold step; rw [hp]; simp [c']
      rw [e] at q
      walk_at "go"
      refine r_newT szd fun p3 H3 np3 s3 hp3 => ?_
      refine r_catA (sqT_same (sA.trans s3) hb) (SqT.of hp3) (by simp; omega) fun a4 H4 s4 h4 => ?_
      walk_at "go"
      refine r_newT szd fun p5 H5 np5 s5 hp5 => ?_
      walk_at "go"
      refine r_newT szd fun p6 H6 np6 s6 hp6 => ?_
      have sZ : Same H H6 := (((sA.trans s3).trans s4).trans s5).trans s6
      refine q p6 (.ref p5) H6 sZ hp6 (StV.mk (s6 _ _ hp5) ⟨a4, _, rfl, sqT_same (s5.trans s6) h4, paired_append (hr.mono sZ) (.cons (hrow.mono (((s3.trans s4).trans s5).trans s6)) .nil), by simp; omega⟩)
    · have c' : ¬ l.length < size := by omega
      have full : l.length = size := by omega
      walk_at "go"
      refine if_dt (fun c2 => ?_) (fun c2 => ?_)
      · cases rs_inj (q := .clock) c2
        have hlt := hck rfl full
        have e : step .clock size l h p = ⟨false, some ((swept l h).1.getD (swept l h).2 (0, 0)).1, putAt (swept l h).1 (swept l h).2 (p, firstMark .clock), ((swept l h).2 + 1) % (swept l h).1.length⟩ := by unfold step; rw [hp]; simp [c']
        rw [e] at q
        walk_at "go"
        refine ⟨_, l, h, rfl, hx.mono sA, hlt, fun a3 x3 H3 s3 h3 hx3 => ?_⟩
        refine r_gtup (SqT.of h3) rfl ?_
        walk_at "go"
        obtain ⟨b3, ys, rfl, hb3, hr3, hl3⟩ := id hx3
        have yl := hr3.len
        have slen := swept_len l h
        have slt := swept_lt (l := l) hlt
        refine r_slA hb3 fun a4 H4 s4 h4 => ?_
        walk_at "go"
        rw [cutV_take (by omega)] at h4
        refine r_newT szd fun p5 H5 np5 s5 hp5 => ?_
        refine r_catA (sqT_same s5 h4) (SqT.of hp5) (by simp; omega) fun a6 H6 s6 h6 => ?_
        walk_at "go"
        have sB : Same H3 H6 := (s4.trans s5).trans s6
        refine r_slA (sqT_same sB hb3) fun a7 H7 s7 h7 => ?_
        have c1 : (((swept l h).2 : Nat) : Int) + 1 = (((swept l h).2 + 1 : Nat) : Int) := by omega
        rw [c1, cutV_drop (by omega)] at h7
        refine r_catA (sqT_same s7 h6) h7 (by simp; omega) fun a8 H8 s8 h8 => ?_
        have sC : Same H3 H8 := (sB.trans s7).trans s8
        walk_at "go"
        refine r_lenT (sqT_same sC hb3) ?_
        walk_at "go"
        refine r_kMod (by omega) ?_
        walk_at "go"
        refine r_newT szd fun p9 H9 np9 s9 hp9 => ?_
        walk_at "go"
        have hz : (swept l h).1[(swept l h).2]? = some ((swept l h).1.getD (swept l h).2 (0, 0)) := by
          rw [List.getD_eq_getElem?_getD, List.getElem?_eq_getElem (by omega)]
          rfl
        obtain ⟨y, hy, b4, rfl, hb4⟩ := hr3.get hz
        refine r_ixT (sqT_same (sC.trans s9) hb3) (atI_nat hy) ?_
        walk_at "go"
        refine r_ixT (i := ((0 : Nat) : Int)) (sqT_same (sC.trans s9) hb4) (atI_nat rfl) ?_
        walk_at "go"
        refine r_newT szd fun p10 H10 np10 s10 hp10 => ?_
        have sD : Same H3 H10 := (sC.trans s9).trans s10
        have ce : (((swept l h).2 : Nat) : Int) + 1 = (((swept l h).2 + 1 : Nat) : Int) := by omega
        refine q p10 (.ref p9) H10 ((sA.trans s3).trans sD) hp10 (StV.mk (x := .ref a8) ?_ ⟨a8, _, rfl, sqT_same (s9.trans s10) h8, rows_put (hr3.mono sD) (hrow.mono (s3.trans sD)), by rw [put_len (by omega)]; omega⟩)
        have hq := s10 _ _ hp9
        rw [yl, ce, ← Int.natCast_emod] at hq
        exact hq
      · have hrc : r ≠ .clock := fun z => c2 (by rw [z]; rfl)
        have e : step r size l h p = ⟨false, some (l.getD (placeToGo r l) (0, 0)).1, outAt l (placeToGo r l) (p, firstMark r), h⟩ := by unfold step; rw [hp]; simp [c', hrc]
        rw [e] at q
        have hne : l ≠ [] := fun z => by rw [z] at full; simp at full; omega
        have plt : placeToGo r l < l.length := by
          have l0 : 0 < l.length := List.length_pos_iff.mpr hne
          cases r with
          | last => show l.length - 1 < _; omega
          | high => show bestIdx _ < _; simpa using (bestIdx_spec (l := l.map fun x => x.1) (by simpa using hne)).1
          | often => show bestIdx _ < _; simpa using (bestIdx_spec (l := l.map fun x => - x.2) (by simpa using hne)).1
          | _ => exact l0
        walk_at "go"
        refine ⟨r, _, l, rfl, hx.mono sA, hne, fun H3 s3 => ?_⟩
        walk_at "go"
        have sA3 : Same H H3 := sA.trans s3
        refine r_slA (sqT_same sA3 hb) fun a4 H4 s4 h4 => ?_
        walk_at "go"
        rw [cutV_take (by omega)] at h4
        refine r_slA (sqT_same (sA3.trans s4) hb) fun a5 H5 s5 h5 => ?_
        have c1 : ((placeToGo r l : Nat) : Int) + 1 = ((placeToGo r l + 1 : Nat) : Int) := by omega
        rw [c1, cutV_drop (by omega)] at h5
        refine r_catA (sqT_same s5 h4) h5 (by simp; omega) fun a6 H6 s6 h6 => ?_
        walk_at "go"
        refine r_newT szd fun p7 H7 np7 s7 hp7 => ?_
        refine r_catA (sqT_same s7 h6) (SqT.of hp7) (by simp; omega) fun a8 H8 s8 h8 => ?_
        walk_at "go"
        refine r_newT szd fun p9 H9 np9 s9 hp9 => ?_
        walk_at "go"
        have sB : Same H3 H9 := ((((s4.trans s5).trans s6).trans s7).trans s8).trans s9
        have hz : l[placeToGo r l]? = some (l.getD (placeToGo r l) (0, 0)) := by
          rw [List.getD_eq_getElem?_getD, List.getElem?_eq_getElem plt]
          rfl
        obtain ⟨y, hy, b4, rfl, hb4⟩ := hr.get hz
        refine r_ixT (sqT_same (sA3.trans sB) hb) (atI_nat hy) ?_
        walk_at "go"
        refine r_ixT (i := ((0 : Nat) : Int)) (sqT_same (sA3.trans sB) hb4) (atI_nat rfl) ?_
        walk_at "go"
        refine r_newT szd fun p10 H10 np10 s10 hp10 => ?_
        have sZ : Same H H10 := (sA3.trans sB).trans s10
        exact q p10 (.ref p9) H10 sZ hp10 (StV.mk (s10 _ _ hp9) ⟨a8, _, rfl, sqT_same (s9.trans s10) h8, rows_out (hr.mono sZ) (hrow.mono ((s3.trans sB).trans s10)), by rw [out_len plt]; exact hl⟩)
end CB

namespace CB
open PySem PySem.Spec PyProof.Rows L2
local macro_rules | `(tactic| walk_at "s1") => `(tactic| (with_reducible first
  | refine r_seq ?_ | refine r_next ?_ | refine r_asg ?_ | refine r_gname ?_ | refine r_ret ?_ | refine r_retN ?_ | refine r_drop ?_ | refine r_ifs ?_ | refine r_c ?_ | refine r_op ?_ | refine r_nil ?_ | refine r_cons ?_
  | refine r_tup ?_ | refine r_lst ?_ | refine r_test ?_ | refine r_tB ?_ | refine r_tru ?_ | refine r_exbl ?_ | refine r_tint ?_ | refine r_and ?_ | refine r_or ?_ | refine r_not ?_ | refine r_notV ?_ | refine r_andV ?_ | refine r_orV ?_ | refine r_ifE ?_ | refine r_call ?_ | refine r_CB ?_
  | refine r_kAdd ?_ | refine r_kSub ?_ | refine r_kLt ?_ | refine r_kLe ?_ | refine r_kGt ?_ | refine r_kGe ?_ | refine r_eqI ?_ | refine r_neI ?_ | refine r_eqS ?_ | refine r_isN ?_ | refine r_notN ?_
  | refine r_gcons ?_ | refine r_gnil ?_ | refine r_gsub ?_ | refine r_BM ?_ | refine r_sl ?_ | refine r_nopart ?_ | refine r_part ?_ | refine r_exint ?_ | refine r_par ?_ | refine r_par2 ?_ | refine r_chain ?_
  | refine r_dget ?_ | refine r_dput ?_ | refine iteT ?_ | refine r_for ?_ | refine r_iEnumT ?_ | refine r_iTup ?_ | refine r_iList ?_ | refine r_rng1 ?_ | refine r_rng2 ?_ | refine r_lc ?_ | refine r_gtup2 ?_ | refine r_yes ?_ | refine iteF ?_ | refine r_var (by with_unfolding_all rfl) ?_))
local macro_rules | `(tactic| walk_at "go") => `(tactic| (repeat (walk_at "s1")))


/-! ### the law's draws -/
/-- the list that drawing works on, at st -/
def DrS (scr : Addr) (i m r : Int) : HO := .lst [.ref scr, .int i, .int m, .int r]
structure DrV (K : PySem.W.Frag) (H : Hp) (st scr : Addr) (ns : List Int) (i m r : Int) : Prop where
  at_ : H st = some (DrS scr i m r)
  scr : SqL K H scr (ns.map V.int)
  i0 : 0 ≤ i
  m0 : 0 ≤ m
  m1 : m < 2147483647
  r0 : 0 ≤ r
def sp__law_start (G : Glob) : Sp := fun vs H Q _ => ∃ (scr : Addr) (ns : List Int), vs = [.ref scr] ∧ SqL G.K H scr (ns.map V.int) ∧ ∀ st m H', H st = none → Same H H' → DrV G.K H' st scr ns 0 m 0 → Q (.ref st) H'
def sp__law_drawn (G : Glob) : Sp := fun vs H Q _ => ∃ (st scr : Addr) (ns : List Int) (i m r n : Int), vs = [.ref st, .int n] ∧ DrV G.K H st scr ns i m r ∧ 0 < n ∧ n < 1073741824 ∧
  ∀ x i' m' r', 0 ≤ x → x < n → DrV G.K (upd H st (DrS scr i' m' r')) st scr ns i' m' r' → Q (.int x) (upd H st (DrS scr i' m' r'))
def ruleAt : Nat → Rule
  | 0 => .came | 1 => .used | 2 => .last | 3 => .often | 4 => .clock | _ => .high
def sp__law_rule (G : Glob) : Sp := fun vs H Q _ => ∃ (st scr : Addr) (ns : List Int) (i m r : Int), vs = [.ref st] ∧ DrV G.K H st scr ns i m r ∧
  ∀ (ru : Rule) i' m' r' H', (∀ b o, b ≠ st → H b = some o → H' b = some o) → DrV G.K H' st scr ns i' m' r' → Q (.str ru.s) H'
def t__law_start (G : Glob) : TS := (tSeq (tAsg (tC (.int 1)) (gName 1))
    (tSeq (tFor (iList G.K (tVar 0)) (gName 2) (tAsg (tOp kMod (tOp kAdd (tOp kAdd (tOp kMul (tVar 1) (tC (.int 48271))) (tVar 2)) (tC (.int 7))) (tC (.int 2147483647))) (gName 1)))
    (tRet (tLst (tCons (tVar 0) (tCons (tC (.int 0)) (tCons (tVar 1) (tCons (tC (.int 0)) tNil))))))))
def t__law_drawn (G : Glob) : TS := (tSeq (tIfS (tTest (tOp kGt (tOp (rIxL G.K) (tVar 0) (tC (.int 3))) (tC (.int 0)))) (tSeq (tAsg (tOp kMod (tOp (rIxL G.K) (tVar 0) (tC (.int 3))) (tVar 1)) (gName 2))
    (tSeq (tAsg (tOp kFdiv (tOp (rIxL G.K) (tVar 0) (tC (.int 3))) (tVar 1)) (gSub (tVar 0) (tC (.int 3)) rSetL))
    (tRet (tVar 2)))) tNext)
    (tSeq (tAsg (tOp kAdd (tOp (rIxL G.K) (tVar 0) (tC (.int 1))) (tC (.int 1))) (gSub (tVar 0) (tC (.int 1)) rSetL))
    (tSeq (tIfS (tTest (tOp kLe (tOp (rIxL G.K) (tVar 0) (tC (.int 1))) (tCB (bLen G.K) (tCons (tOp (rIxL G.K) (tVar 0) (tC (.int 0))) tNil)))) (tSeq (tAsg (tOp (rIxL G.K) (tOp (rIxL G.K) (tVar 0) (tC (.int 0))) (tOp kSub (tOp (rIxL G.K) (tVar 0) (tC (.int 1))) (tC (.int 1)))) (gName 3))
    (tSeq (tAsg (tIf (tTest (tOp kGe (tVar 3) (tOp kPow (tC (.int 10)) (tC (.int 18))))) (tOp kFdiv (tVar 3) (tVar 1)) (tC (.int 0))) (gSub (tVar 0) (tC (.int 3)) rSetL))
    (tRet (tOp kMod (tVar 3) (tVar 1))))) tNext)
    (tSeq (tAsg (tOp kMod (tOp kAdd (tOp kMul (tOp (rIxL G.K) (tVar 0) (tC (.int 2))) (tC (.int 48271))) (tC (.int 11))) (tC (.int 2147483647))) (gSub (tVar 0) (tC (.int 2)) rSetL))
    (tRet (tOp kMod (tOp kFdiv (tOp (rIxL G.K) (tVar 0) (tC (.int 2))) (tC (.int 7))) (tVar 1)))))))
def t__law_rule (G : Glob) : TS := (tRet (tOp (rIxL G.K) (tLst (tCons (tC (.str "came")) (tCons (tC (.str "used")) (tCons (tC (.str "last")) (tCons (tC (.str "often")) (tCons (tC (.str "clock")) (tCons (tC (.str "high")) tNil))))))) (tCall (sp__law_drawn G) [] E0 (tCons (tVar 0) (tCons (tC (.int 6)) tNil)))))
theorem sqL_updL {K : PySem.W.Frag} {H : Hp} {L b : Addr} {xs : List V} {o : HO} (hne : b ≠ L) (h : SqL K H b xs) : SqL K (upd H L o) b xs := by
  rcases h with (h | ⟨u, h⟩) | h
  · exact .inl (.inl (by rw [upd_ne hne]; exact h))
  · exact .inl (.inr ⟨u, by rw [upd_ne hne]; exact h⟩)
  · exact .inr h
theorem len__law_start (G : Glob) (vs : List V) (H : Hp) (Q : VK) (E : XK) (h : sp__law_start G vs H Q E) : vs.length = 1 := by
  obtain ⟨_, _, rfl, _⟩ := h
  rfl
theorem rd__law_start (G : Glob) (vs : List V) (H : Hp) (Q : VK) (E : XK) (h : sp__law_start G vs H Q E) : t__law_start G { nx := fun _ H' => Q .non H', rt := Q } (start ["_law_script", "_law_mixed", "_law_cell"] vs) H := by
  obtain ⟨scr, ns, rfl, hs, q⟩ := h
  unfold t__law_start
  walk_at "go"
  refine ⟨scr, rfl, ⟨_, hs⟩, for_list (K := G.K) (a := scr) (xs := ns.map V.int) (fun i σ H' => ∃ (m : Int) (v : Option V), σ = [some (.ref scr), some (.int m), v] ∧ 0 ≤ m ∧ m < 2147483647 ∧ H' = H) ⟨1, none, rfl, by decide, by decide, rfl⟩ (fun i σ H' _ ⟨_, _, _, _, _, e⟩ => by rw [e]; exact hs) ?_ ?_⟩
  · rintro i x σ H' hx ⟨m, v, rfl, m0, m1, rfl⟩
    obtain ⟨z, hz, rfl⟩ : ∃ z, ns[i]? = some z ∧ x = V.int z := by
      rw [List.getElem?_map] at hx
      cases e : ns[i]? with
      | none => rw [e] at hx; cases hx
      | some z => rw [e] at hx; exact ⟨z, rfl, (Option.some.inj hx).symm⟩
    walk_at "go"
    refine r_kMul (.inl ⟨by omega, by omega⟩) ?_
    walk_at "go"
    refine r_kMod (by decide) ?_
    walk_at "go"
    exact ⟨_, _, rfl, Int.emod_nonneg _ (by decide), Int.emod_lt_of_pos _ (by decide), rfl⟩
  · rintro σ H' ⟨m, v, rfl, m0, m1, rfl⟩
    walk_at "go"
    refine r_newL szd fun p H1 np s1 hp => ?_
    exact q p m H1 np s1 ⟨hp, s1.seq hs, Int.le_refl _, m0, m1, Int.le_refl _⟩
theorem len__law_drawn (G : Glob) (vs : List V) (H : Hp) (Q : VK) (E : XK) (h : sp__law_drawn G vs H Q E) : vs.length = 2 := by
  obtain ⟨_, _, _, _, _, _, _, rfl, _⟩ := h
  rfl
theorem sqL_dr {K : PySem.W.Frag} {H : Hp} {st scr sc2 : Addr} {ns : List Int} {i m r : Int} {o : HO} (hst : H st = some (DrS sc2 i m r)) (h : SqL K H scr (ns.map V.int)) : SqL K (upd H st o) scr (ns.map V.int) := by
  by_cases e : scr = st
  · subst e
    rcases h with (h | ⟨u, h⟩) | h
    · rw [hst] at h
      unfold DrS at h
      injection h with h
      injection h with h
      cases ns with
      | nil => cases h
      | cons a l => injection h with h1 _; cases h1
    · rw [hst] at h
      unfold DrS at h
      injection h with h
      cases h
    · exact .inr h
  · exact sqL_updL e h
theorem DrV.next {K : PySem.W.Frag} {H : Hp} {st scr : Addr} {ns : List Int} {i m r i' m' r' : Int} (d : DrV K H st scr ns i m r) (hi : 0 ≤ i') (h0 : 0 ≤ m') (h1 : m' < 2147483647) (hr : 0 ≤ r') : DrV K (upd H st (DrS scr i' m' r')) st scr ns i' m' r' :=
  ⟨upd_same, sqL_dr d.at_ d.scr, hi, h0, h1, hr⟩
theorem fdiv_nn {a b : Int} (ha : 0 ≤ a) (hb : 0 < b) : 0 ≤ a.fdiv b := by
  rw [Int.fdiv_eq_ediv_of_nonneg _ (Int.le_of_lt hb)]
  exact Int.ediv_nonneg ha (Int.le_of_lt hb)
theorem at_i {ns : List Int} {i : Int} (h0 : 0 ≤ i) (hl : i < ns.length) : ∃ z, atI (ns.map V.int) i = some (.int z) := by
  have h1 : i.toNat < ns.length := by omega
  have q : atI (ns.map V.int) ((i.toNat : Nat) : Int) = some (.int ns[i.toNat]) := atI_nat (by rw [List.getElem?_map, List.getElem?_eq_getElem h1]; rfl)
  rw [Int.toNat_of_nonneg h0] at q
  exact ⟨_, q⟩
theorem r_setD {K : PySem.W.Frag} {H : Hp} {st scr : Addr} {i m r : Int} {k : Nat} {v : V} {QH : Hp → Prop} (hs : H st = some (DrS scr i m r)) (hk : k < 4) (h : QH (upd H st (.lst ([V.ref scr, .int i, .int m, .int r].set k v)))) : rSetL (.ref st) (.int (k : Int)) v H QH :=
  r_setL hs (ixN_nat hk) h
theorem rd__law_drawn (G : Glob) (vs : List V) (H : Hp) (Q : VK) (E : XK) (h : sp__law_drawn G vs H Q E) : t__law_drawn G { nx := fun _ H' => Q .non H', rt := Q } (start ["_law_state", "_law_many", "_law_found", "_law_cell"] vs) H := by
  obtain ⟨st, scr, ns, i, m, r, n, rfl, d, n0, n1, q⟩ := h
  unfold t__law_drawn
  walk_at "go"
  refine r_ixL (i := ((3 : Nat) : Int)) (SqL.of d.at_) (atI_nat rfl) ?_
  walk_at "go"
  refine if_dt (fun c => ?_) (fun c => ?_)
  · walk_at "go"
    refine r_ixL (i := ((3 : Nat) : Int)) (SqL.of d.at_) (atI_nat rfl) ?_
    walk_at "go"
    refine r_kMod n0 ?_
    walk_at "go"
    refine r_ixL (i := ((3 : Nat) : Int)) (SqL.of d.at_) (atI_nat rfl) ?_
    walk_at "go"
    refine r_kFdiv ⟨by omega, by omega⟩ ?_
    walk_at "go"
    refine r_setD (K := G.K) (k := 3) d.at_ (by decide) ?_
    walk_at "go"
    exact q _ _ _ _ (Int.emod_nonneg _ (by omega)) (Int.emod_lt_of_pos _ n0) (d.next d.i0 d.m0 d.m1 (fdiv_nn d.r0 n0))
  · have r0 : r = 0 := by have := d.r0; omega
    walk_at "go"
    refine r_ixL (i := ((1 : Nat) : Int)) (SqL.of d.at_) (atI_nat rfl) ?_
    walk_at "go"
    refine r_setD (K := G.K) (k := 1) d.at_ (by decide) ?_
    walk_at "go"
    have d1 : DrV G.K (upd H st (DrS scr (i + 1) m r)) st scr ns (i + 1) m r := d.next (by have := d.i0; omega) d.m0 d.m1 d.r0
    refine r_ixL (i := ((1 : Nat) : Int)) (SqL.of d1.at_) (atI_nat rfl) ?_
    walk_at "go"
    refine r_ixL (i := ((0 : Nat) : Int)) (SqL.of d1.at_) (atI_nat rfl) ?_
    walk_at "go"
    refine r_lenL d1.scr ?_
    walk_at "go"
    refine if_dt (fun c2 => ?_) (fun c2 => ?_)
    · walk_at "go"
      refine r_ixL (i := ((0 : Nat) : Int)) (SqL.of d1.at_) (atI_nat rfl) ?_
      walk_at "go"
      refine r_ixL (i := ((1 : Nat) : Int)) (SqL.of d1.at_) (atI_nat rfl) ?_
      walk_at "go"
      obtain ⟨z, hz⟩ := at_i (ns := ns) (i := i + 1 - 1) (by have := d.i0; omega) (by simp at c2; omega)
      refine r_ixL d1.scr hz ?_
      walk_at "go"
      refine ⟨10, 18, rfl, rfl, ⟨by decide, by decide, by decide⟩, ?_⟩
      walk_at "go"
      refine if_dt (fun c3 => ?_) (fun c3 => ?_)
      · walk_at "go"
        refine r_kFdiv ⟨by omega, by omega⟩ ?_
        walk_at "go"
        refine r_setD (K := G.K) (k := 3) d1.at_ (by decide) ?_
        walk_at "go"
        refine r_kMod n0 ?_
        walk_at "go"
        have z0 : 0 ≤ z := Int.le_trans (by decide) c3
        have e : upd (upd H st (DrS scr (i + 1) m r)) st (DrS scr (i + 1) m (z.fdiv n)) = upd H st (DrS scr (i + 1) m (z.fdiv n)) := upd_upd
        have := q (z % n) (i + 1) m (z.fdiv n) (Int.emod_nonneg _ (by omega)) (Int.emod_lt_of_pos _ n0) (d.next (by have := d.i0; omega) d.m0 d.m1 (fdiv_nn z0 n0))
        rw [← e] at this
        exact this
      · walk_at "go"
        refine r_setD (K := G.K) (k := 3) d1.at_ (by decide) ?_
        walk_at "go"
        refine r_kMod n0 ?_
        walk_at "go"
        have e : upd (upd H st (DrS scr (i + 1) m r)) st (DrS scr (i + 1) m 0) = upd H st (DrS scr (i + 1) m 0) := upd_upd
        have := q (z % n) (i + 1) m 0 (Int.emod_nonneg _ (by omega)) (Int.emod_lt_of_pos _ n0) (d.next (by have := d.i0; omega) d.m0 d.m1 (Int.le_refl _))
        rw [← e] at this
        exact this
    · walk_at "go"
      refine r_ixL (i := ((2 : Nat) : Int)) (SqL.of d1.at_) (atI_nat rfl) ?_
      walk_at "go"
      refine r_kMul (.inl ⟨by have := d.m0; omega, by have := d.m1; omega⟩) ?_
      walk_at "go"
      refine r_kMod (by decide) ?_
      walk_at "go"
      refine r_setD (K := G.K) (k := 2) d1.at_ (by decide) ?_
      walk_at "go"
      have d2 : DrV G.K (upd H st (DrS scr (i + 1) ((m * 48271 + 11) % 2147483647) r)) st scr ns (i + 1) ((m * 48271 + 11) % 2147483647) r := d.next (by have := d.i0; omega) (Int.emod_nonneg _ (by decide)) (Int.emod_lt_of_pos _ (by decide)) d.r0
      have e : upd (upd H st (DrS scr (i + 1) m r)) st (DrS scr (i + 1) ((m * 48271 + 11) % 2147483647) r) = upd H st (DrS scr (i + 1) ((m * 48271 + 11) % 2147483647) r) := upd_upd
      refine r_ixL (i := ((2 : Nat) : Int)) (SqL.of (xs := [.ref scr, .int (i + 1), .int ((m * 48271 + 11) % 2147483647), .int r]) upd_same) (atI_nat rfl) ?_
      walk_at "go"
      refine r_kFdiv ⟨by decide, by decide⟩ ?_
      walk_at "go"
      refine r_kMod n0 ?_
      have := q (((m * 48271 + 11) % 2147483647).fdiv 7 % n) _ _ _ (Int.emod_nonneg _ (by omega)) (Int.emod_lt_of_pos _ n0) d2
      rw [← e] at this
      exact this
theorem len__law_rule (G : Glob) (vs : List V) (H : Hp) (Q : VK) (E : XK) (h : sp__law_rule G vs H Q E) : vs.length = 1 := by
  obtain ⟨_, _, _, _, _, _, rfl, _⟩ := h
  rfl
theorem rd__law_rule (G : Glob) (vs : List V) (H : Hp) (Q : VK) (E : XK) (h : sp__law_rule G vs H Q E) : t__law_rule G { nx := fun _ H' => Q .non H', rt := Q } (start ["_law_state"] vs) H := by
  obtain ⟨st, scr, ns, i, m, r, rfl, d, q⟩ := h
  unfold t__law_rule
  walk_at "go"
  refine r_newL szd fun p H1 np s1 hp => ?_
  walk_at "go"
  have nps : p ≠ st := fun z => by rw [z, d.at_] at np; cases np
  refine ⟨st, scr, ns, i, m, r, 6, rfl, ⟨s1 _ _ d.at_, s1.seq d.scr, d.i0, d.m0, d.m1, d.r0⟩, by decide, by decide, fun x i' m' r' x0 x6 d' => ?_⟩
  have hx : x = 0 ∨ x = 1 ∨ x = 2 ∨ x = 3 ∨ x = 4 ∨ x = 5 := by omega
  have hp' : SqL G.K (upd H1 st (DrS scr i' m' r')) p [.str "came", .str "used", .str "last", .str "often", .str "clock", .str "high"] := SqL.of (by rw [upd_ne nps]; exact hp)
  have fr : ∀ b o, b ≠ st → H b = some o → upd H1 st (DrS scr i' m' r') b = some o := fun b o hb e => by rw [upd_ne hb]; exact s1 _ _ e
  rcases hx with e | e | e | e | e | e <;> subst e
  · exact r_ixL (i := ((0 : Nat) : Int)) hp' (atI_nat rfl) (q .came _ _ _ _ fr d')
  · exact r_ixL (i := ((1 : Nat) : Int)) hp' (atI_nat rfl) (q .used _ _ _ _ fr d')
  · exact r_ixL (i := ((2 : Nat) : Int)) hp' (atI_nat rfl) (q .last _ _ _ _ fr d')
  · exact r_ixL (i := ((3 : Nat) : Int)) hp' (atI_nat rfl) (q .often _ _ _ _ fr d')
  · exact r_ixL (i := ((4 : Nat) : Int)) hp' (atI_nat rfl) (q .clock _ _ _ _ fr d')
  · exact r_ixL (i := ((5 : Nat) : Int)) hp' (atI_nat rfl) (q .high _ _ _ _ fr d')
end CB

namespace CB
open PySem PySem.Spec PyProof.Rows L2
local macro_rules | `(tactic| walk_at "s1") => `(tactic| (with_reducible first
  | refine r_seq ?_ | refine r_next ?_ | refine r_asg ?_ | refine r_gname ?_ | refine r_ret ?_ | refine r_retN ?_ | refine r_drop ?_ | refine r_ifs ?_ | refine r_c ?_ | refine r_op ?_ | refine r_nil ?_ | refine r_cons ?_
  | refine r_tup ?_ | refine r_lst ?_ | refine r_test ?_ | refine r_tB ?_ | refine r_tru ?_ | refine r_exbl ?_ | refine r_tint ?_ | refine r_and ?_ | refine r_or ?_ | refine r_not ?_ | refine r_notV ?_ | refine r_andV ?_ | refine r_orV ?_ | refine r_ifE ?_ | refine r_call ?_ | refine r_CB ?_
  | refine r_kAdd ?_ | refine r_kSub ?_ | refine r_kLt ?_ | refine r_kLe ?_ | refine r_kGt ?_ | refine r_kGe ?_ | refine r_eqI ?_ | refine r_neI ?_ | refine r_eqS ?_ | refine r_isN ?_ | refine r_notN ?_
  | refine r_gcons ?_ | refine r_gnil ?_ | refine r_gsub ?_ | refine r_BM ?_ | refine r_sl ?_ | refine r_nopart ?_ | refine r_part ?_ | refine r_exint ?_ | refine r_par ?_ | refine r_par2 ?_ | refine r_chain ?_
  | refine r_dget ?_ | refine r_dput ?_ | refine iteT ?_ | refine r_for ?_ | refine r_iEnumT ?_ | refine r_iTup ?_ | refine r_iList ?_ | refine r_rng1 ?_ | refine r_rng2 ?_ | refine r_lc ?_ | refine r_gtup2 ?_ | refine r_yes ?_ | refine iteF ?_ | refine r_var (by with_unfolding_all rfl) ?_))
local macro_rules | `(tactic| walk_at "go") => `(tactic| (repeat (walk_at "s1")))


/-! ### data lemmas -/
theorem dp_ints {K : PySem.W.Frag} {H : Hp} : ∀ ns : List Int, DpAll K H (ns.map V.int) (ns.map PyData.int)
  | [] => .nil
  | n :: ns => .cons (.int n) (dp_ints ns)
theorem ints_lay : ∀ ns : List Int, PyData.canLayAll0 (ns.map PyData.int) = true
  | [] => by simp [PyData.canLayAll0]
  | n :: ns => by simp [PyData.canLayAll0, PyData.canLay0, ints_lay ns]
theorem ints_depth : ∀ ns : List Int, PyData.depthAll (ns.map PyData.int) = 0
  | [] => by simp [PyData.depthAll]
  | n :: ns => by simp [PyData.depthAll, PyData.depth, ints_depth ns]
theorem ints_shaped (ns : List Int) : SeqAt.shaped (.list (ns.map PyData.int)) = true := by
  have h2 : PyData.depth (.list (ns.map PyData.int)) ≤ 64 := by
    simp only [PyData.depth, ints_depth]
    omega
  show (PyData.canLay0 (.list (ns.map PyData.int)) && decide (PyData.depth (.list (ns.map PyData.int)) ≤ 64)) = true
  rw [Bool.and_eq_true]
  exact ⟨by simp only [PyData.canLay0]; exact ints_lay ns, decide_eq_true h2⟩
theorem ints_eqv_nil (ns : List Int) : PyData.eqv (.list (ns.map PyData.int)) (.list []) = decide (ns = []) := by
  cases ns with
  | nil => simp [PyData.eqv, PyData.eqvAll]
  | cons n ns => simp [PyData.eqv, PyData.eqvAll]
/-- xs == [] -/
theorem r_eqNil {K : PySem.W.Frag} {H : Hp} {Q : VK} {p q : Addr} {ns : List Int} (hp : SqL K H p (ns.map V.int)) (hq : H q = some (.lst [])) (h : Q (.bl (decide (ns = []))) H) : rEqD K (.ref p) (.ref q) H Q :=
  ⟨.list (ns.map PyData.int), .list [], .lst hp (dp_ints ns), .lst (SqL.of hq) .nil, ints_shaped ns, ints_shaped [], by rw [ints_eqv_nil]; exact h⟩
theorem r_neNil {K : PySem.W.Frag} {H : Hp} {Q : VK} {p q : Addr} {ns : List Int} (hp : SqL K H p (ns.map V.int)) (hq : H q = some (.lst [])) (h : Q (.bl (!decide (ns = []))) H) : rNeD K (.ref p) (.ref q) H Q :=
  ⟨.list (ns.map PyData.int), .list [], .lst hp (dp_ints ns), .lst (SqL.of hq) .nil, ints_shaped ns, ints_shaped [], by rw [ints_eqv_nil]; exact h⟩
theorem inV_ints (z : Int) (ns : List Int) : inV (.int z) (ns.map V.int) = ns.contains z := by
  unfold inV
  induction ns with
  | nil => rfl
  | cons n ns ih =>
    rw [List.map_cons, List.any_cons, ih, List.contains_cons]
    show ((n == z) || _) = ((z == n) || _)
    rw [show (n == z) = (z == n) from Bool.eq_iff_iff.mpr ⟨fun h => by rw [eq_of_beq h]; exact beq_self_eq_true z, fun h => by rw [eq_of_beq h]; exact beq_self_eq_true n⟩]
theorem r_inI {K : PySem.W.Frag} {H : Hp} {Q : VK} {p : Addr} {ns : List Int} {z : Int} (hp : SqL K H p (ns.map V.int)) (h : Q (.bl (ns.contains z)) H) : kIn K (.int z) (.ref p) H Q :=
  ⟨p, _, rfl, .inl hp, rfl, flat_ints ns, by rw [inV_ints]; exact h⟩
theorem r_notInI {K : PySem.W.Frag} {H : Hp} {Q : VK} {p : Addr} {ns : List Int} {z : Int} (hp : SqL K H p (ns.map V.int)) (h : Q (.bl (!ns.contains z)) H) : kNotIn K (.int z) (.ref p) H Q :=
  ⟨p, _, rfl, .inl hp, rfl, flat_ints ns, by rw [inV_ints]; exact h⟩
/-- what a dict by numbers holds, as a function -/
def DF {α : Type} (inj : α → V) (kvs : List (Key × V)) (f : Int → Option α) : Prop := ∀ k, valV kvs (.inl k) = (f k).map inj
theorem DF.put {α : Type} {inj : α → V} {kvs : List (Key × V)} {f : Int → Option α} (d : DF inj kvs f) (k : Int) (x : α) : DF inj (putK kvs (.inl k) (inj x)) (pset f k x) := fun j => by
  rw [valV_put, d j]
  unfold pset
  by_cases h : j = k
  · subst h; simp
  · have h' : ¬ (Sum.inl j : Key) = Sum.inl k := fun z => h (Sum.inl.inj z)
    rw [if_neg h', if_neg h]
theorem DF.nil {α : Type} {inj : α → V} : DF inj [] (fun _ => (none : Option α)) := fun _ => rfl
/-! ### the law's cache in the heap -/
structure WA where
  w : Addr
  c : Addr
  a : Addr
  o : Addr
  m : Addr
def wkv (r : Rule) (size : Nat) (A : WA) (hand : Nat) (time : Int) : List (Key × V) :=
  [(.inr "rule", .str r.s), (.inr "size", .int (size : Int)), (.inr "came", .ref A.c), (.inr "asked", .ref A.a), (.inr "often", .ref A.o), (.inr "marks", .ref A.m), (.inr "hand", .int (hand : Int)), (.inr "time", .int time)]
structure WV (H : Hp) (A : WA) (r : Rule) (size : Nat) (W : W) (n : Nat) : Prop where
  w : H A.w = some (.dK (wkv r size A W.hand W.time))
  c : H A.c = some (.lst (W.came.map V.int))
  a : ∃ kv, H A.a = some (.dK kv) ∧ DF V.int kv W.asked ∧ kv.length ≤ n
  o : ∃ kv, H A.o = some (.dK kv) ∧ DF V.int kv W.often ∧ kv.length ≤ n
  m : ∃ kv, H A.m = some (.dK kv) ∧ DF V.bl kv W.marks ∧ kv.length ≤ n
  wa : A.w ≠ A.a
  wo : A.w ≠ A.o
  wm : A.w ≠ A.m
  ao : A.a ≠ A.o
  am : A.a ≠ A.m
  om : A.o ≠ A.m
section
variable {r : Rule} {size : Nat} {A : WA} {hand h' : Nat} {time t' : Int} {c' : Addr}
theorem wk_rule : valV (wkv r size A hand time) (.inr "rule") = some (.str r.s) := by kernel_rfl
theorem wk_size : valV (wkv r size A hand time) (.inr "size") = some (.int (size : Int)) := by kernel_rfl
theorem wk_came : valV (wkv r size A hand time) (.inr "came") = some (.ref A.c) := by kernel_rfl
theorem wk_asked : valV (wkv r size A hand time) (.inr "asked") = some (.ref A.a) := by kernel_rfl
theorem wk_often : valV (wkv r size A hand time) (.inr "often") = some (.ref A.o) := by kernel_rfl
theorem wk_marks : valV (wkv r size A hand time) (.inr "marks") = some (.ref A.m) := by kernel_rfl
theorem wk_hand : valV (wkv r size A hand time) (.inr "hand") = some (.int (hand : Int)) := by kernel_rfl
theorem wk_time : valV (wkv r size A hand time) (.inr "time") = some (.int time) := by kernel_rfl
theorem wp_hand : putK (wkv r size A hand time) (.inr "hand") (.int (h' : Int)) = wkv r size A h' time := by with_unfolding_all rfl
theorem wp_time : putK (wkv r size A hand time) (.inr "time") (.int t') = wkv r size A hand t' := by with_unfolding_all rfl
theorem wp_came : putK (wkv r size A hand time) (.inr "came") (.ref c') = wkv r size { A with c := c' } hand time := by with_unfolding_all rfl
end
end CB

namespace CB
open PySem PySem.Spec PyProof.Rows L2
local macro_rules | `(tactic| walk_at "s1") => `(tactic| (with_reducible first
  | refine r_seq ?_ | refine r_next ?_ | refine r_asg ?_ | refine r_gname ?_ | refine r_ret ?_ | refine r_retN ?_ | refine r_drop ?_ | refine r_ifs ?_ | refine r_c ?_ | refine r_op ?_ | refine r_nil ?_ | refine r_cons ?_
  | refine r_tup ?_ | refine r_lst ?_ | refine r_test ?_ | refine r_tB ?_ | refine r_tru ?_ | refine r_exbl ?_ | refine r_tint ?_ | refine r_and ?_ | refine r_or ?_ | refine r_not ?_ | refine r_notV ?_ | refine r_andV ?_ | refine r_orV ?_ | refine r_ifE ?_ | refine r_call ?_ | refine r_CB ?_
  | refine r_kAdd ?_ | refine r_kSub ?_ | refine r_kLt ?_ | refine r_kLe ?_ | refine r_kGt ?_ | refine r_kGe ?_ | refine r_eqI ?_ | refine r_neI ?_ | refine r_eqS ?_ | refine r_isN ?_ | refine r_notN ?_
  | refine r_gcons ?_ | refine r_gnil ?_ | refine r_gsub ?_ | refine r_BM ?_ | refine r_sl ?_ | refine r_nopart ?_ | refine r_part ?_ | refine r_exint ?_ | refine r_par ?_ | refine r_par2 ?_ | refine r_chain ?_
  | refine r_dget ?_ | refine r_dput ?_ | refine iteT ?_ | refine r_for ?_ | refine r_iEnumT ?_ | refine r_iTup ?_ | refine r_iList ?_ | refine r_rng1 ?_ | refine r_rng2 ?_ | refine r_lc ?_ | refine r_gtup2 ?_ | refine r_yes ?_ | refine iteF ?_ | refine r_var (by with_unfolding_all rfl) ?_))
local macro_rules | `(tactic| walk_at "go") => `(tactic| (repeat (walk_at "s1")))


def W0 : W := ⟨[], fun _ => none, fun _ => none, fun _ => none, 0, 0⟩
def sp__law_started (G : Glob) : Sp := fun vs H Q _ => ∃ (r : Rule) (size : Nat), vs = [.str r.s, .int (size : Int)] ∧ ∀ A H', Same H H' → H A.w = none → H A.c = none → H A.a = none → H A.o = none → H A.m = none → WV H' A r size W0 0 → Q (.ref A.w) H'
def sp__law_loser (G : Glob) : Sp := fun vs H Q _ => ∃ (A : WA) (r : Rule) (size n : Nat) (W : W) (pa : Addr) (pins : List Int), vs = [.ref A.w, .ref pa] ∧ WV H A r size W n ∧ SqL G.K H pa (pins.map V.int) ∧ W.came.length ≤ 60 ∧ n ≤ 10000 ∧
  (∀ p ∈ W.came, ∃ t, W.asked p = some t) ∧ (∀ p ∈ W.came, ∃ t, W.often p = some t) ∧ (∀ p ∈ W.came, ∃ t, W.marks p = some t) ∧ (r = .clock → free W pins ≠ [] → ∃ k g w', sweepW pins k W = some (g, w')) ∧
  (free W pins = [] → ∀ H', Same H H' → Q .non H') ∧
  (free W pins ≠ [] → ∀ g W' H', Loses r W pins g W' → (∀ b o, b ≠ A.w → b ≠ A.m → H b = some o → H' b = some o) → WV H' A r size W' n → Q (.int g) H')
def t__law_started (G : Glob) : TS := (tRet (tDisp (((tC (.str "rule")), (tVar 0)) :: (((tC (.str "size")), (tVar 1)) :: (((tC (.str "came")), (tLst tNil)) :: (((tC (.str "asked")), tDNewK) :: (((tC (.str "often")), tDNewK) :: (((tC (.str "marks")), tDNewK) :: (((tC (.str "hand")), (tC (.int 0))) :: (((tC (.str "time")), (tC (.int 0))) :: []))))))))))
def t__law_loser (G : Glob) : TS := (tSeq (tAsg (tLc (iList G.K (tDGet (tVar 0) (tC (.str "came")))) (gName 2) (tTest (tOp (kNotIn G.K) (tVar 2) (tVar 1))) (tVar 2) [2]) (gName 3))
    (tSeq (tIfS (tTest (tOp (rEqD G.K) (tVar 3) (tLst tNil))) (tRet (tC .non)) tNext)
    (tSeq (tIfS (tTest (tOp kEq (tDGet (tVar 0) (tC (.str "rule"))) (tC (.str "came")))) (tRet (tOp (rIxL G.K) (tVar 3) (tC (.int 0)))) tNext)
    (tSeq (tIfS (tTest (tOp kEq (tDGet (tVar 0) (tC (.str "rule"))) (tC (.str "high")))) (tRet (tCB (rMax G.K) (tCons (tVar 3) tNil))) tNext)
    (tSeq (tIfS (tTest (tOp (kIn G.K) (tDGet (tVar 0) (tC (.str "rule"))) (tTup (tCons (tC (.str "used")) (tCons (tC (.str "last")) tNil))))) (tSeq (tAsg (tCB (rSortedPO G.K) (tCons (tLc (iList G.K (tVar 3)) (gName 2) tYes (tTup (tCons (tDGet (tDGet (tVar 0) (tC (.str "asked"))) (tVar 2)) (tCons (tVar 2) tNil))) [2]) tNil)) (gName 4))
    (tRet (tOp (rIxT G.K) (tOp (rIxL G.K) (tVar 4) (tIf (tTest (tOp kEq (tDGet (tVar 0) (tC (.str "rule"))) (tC (.str "used")))) (tC (.int 0)) (tOp kSub (tC (.int 0)) (tC (.int 1))))) (tC (.int 1))))) tNext)
    (tSeq (tIfS (tTest (tOp kEq (tDGet (tVar 0) (tC (.str "rule"))) (tC (.str "often")))) (tSeq (tAsg (tCB (rMin G.K) (tCons (tLc (iList G.K (tVar 3)) (gName 2) tYes (tDGet (tDGet (tVar 0) (tC (.str "often"))) (tVar 2)) [2]) tNil)) (gName 5))
    (tRet (tOp (rIxL G.K) (tLc (iList G.K (tVar 3)) (gName 2) (tTest (tOp kEq (tDGet (tDGet (tVar 0) (tC (.str "often"))) (tVar 2)) (tVar 5))) (tVar 2) [2]) (tC (.int 0))))) tNext)
    (tWhile (tB (tC (.bl true))) (tSeq (tAsg (tOp (rIxL G.K) (tDGet (tVar 0) (tC (.str "came"))) (tDGet (tVar 0) (tC (.str "hand")))) (gName 2))
    (tSeq (tIfS (tAnd (tTest (tOp (kNotIn G.K) (tVar 2) (tVar 1))) (tNot (tB (tDGet (tDGet (tVar 0) (tC (.str "marks"))) (tVar 2))))) (tRet (tVar 2)) tNext)
    (tSeq (sDPut (tDGet (tVar 0) (tC (.str "marks"))) (tVar 2) (tAndV (tDGet (tDGet (tVar 0) (tC (.str "marks"))) (tVar 2)) (tOp (kIn G.K) (tVar 2) (tVar 1))))
    (sDPut (tVar 0) (tC (.str "hand")) (tOp kMod (tOp kAdd (tDGet (tVar 0) (tC (.str "hand"))) (tC (.int 1))) (tCB (bLen G.K) (tCons (tDGet (tVar 0) (tC (.str "came"))) tNil))))))))))))))
theorem len__law_started (G : Glob) (vs : List V) (H : Hp) (Q : VK) (E : XK) (h : sp__law_started G vs H Q E) : vs.length = 2 := by
  obtain ⟨_, _, rfl, _⟩ := h
  rfl
theorem mergeK_cons (kvs : List (Key × V)) (p : Key × V) (l : List (Key × V)) : mergeK kvs (p :: l) = mergeK (putK kvs p.1 p.2) l := rfl
theorem rd__law_started (G : Glob) (vs : List V) (H : Hp) (Q : VK) (E : XK) (h : sp__law_started G vs H Q E) : t__law_started G { nx := fun _ H' => Q .non H', rt := Q } (start ["_law_rule_here", "_law_size"] vs) H := by
  obtain ⟨r, size, rfl, q⟩ := h
  unfold t__law_started
  refine r_ret ?_
  refine fun w nw => ?_
  have s0 : Same H (upd H w (.dK [])) := .new nw
  unfold tPairs
  walk_at "go"
  unfold tPairs
  walk_at "go"
  unfold tPairs
  walk_at "go"
  refine r_newL (Nat.zero_le _) fun c H1 nc s1 hc => ?_
  unfold tPairs
  walk_at "go"
  refine fun a na => ?_
  have s2 : Same H1 (upd H1 a (.dK [])) := .new na
  unfold tPairs
  walk_at "go"
  refine fun o no => ?_
  have s3 : Same (upd H1 a (.dK [])) (upd (upd H1 a (.dK [])) o (.dK [])) := .new no
  unfold tPairs
  walk_at "go"
  refine fun m nm => ?_
  have s4 : Same (upd (upd H1 a (.dK [])) o (.dK [])) (upd (upd (upd H1 a (.dK [])) o (.dK [])) m (.dK [])) := .new nm
  generalize hH2 : upd H1 a (.dK []) = H2 at *
  have ha : H2 a = some (.dK []) := by rw [← hH2]; exact upd_same
  generalize hH3 : upd H2 o (.dK []) = H3 at *
  have ho : H3 o = some (.dK []) := by rw [← hH3]; exact upd_same
  generalize hH4 : upd H3 m (.dK []) = H4 at *
  have hm : H4 m = some (.dK []) := by rw [← hH4]; exact upd_same
  unfold tPairs
  walk_at "go"
  unfold tPairs
  walk_at "go"
  unfold tPairs
  have sw : Same (upd H w (.dK [])) H4 := ((s1.trans s2).trans s3).trans s4
  have hw : H4 w = some (.dK []) := sw _ _ upd_same
  refine ⟨hw, wkv r size ⟨w, c, a, o, m⟩ 0 0, rfl, Nat.le_of_ble_eq_true rfl, ?_⟩
  have em : mergeK [] (wkv r size ⟨w, c, a, o, m⟩ 0 0) = wkv r size ⟨w, c, a, o, m⟩ 0 0 := by kernel_rfl
  have h4c : H4 c = some (.lst []) := ((s2.trans s3).trans s4) _ _ hc
  have h4a : H4 a = some (.dK []) := (s3.trans s4) _ _ ha
  have h4o : H4 o = some (.dK []) := s4 _ _ ho
  have ncw : c ≠ w := fun z => by rw [z, upd_same] at nc; cases nc
  have naw : a ≠ w := fun z => by rw [z, s1 _ _ upd_same] at na; cases na
  have now : o ≠ w := fun z => by rw [z, (s1.trans s2) _ _ upd_same] at no; cases no
  have nmw : m ≠ w := fun z => by rw [z, ((s1.trans s2).trans s3) _ _ upd_same] at nm; cases nm
  have noa : o ≠ a := fun z => by rw [z, ha] at no; cases no
  have nma : m ≠ a := fun z => by rw [z, s3 _ _ ha] at nm; cases nm
  have nmo : m ≠ o := fun z => by rw [z, ho] at nm; cases nm
  refine q ⟨w, c, a, o, m⟩ _ ?_ nw ?_ ?_ ?_ ?_ ⟨?_, ?_, ⟨[], ?_, .nil, Nat.le_refl _⟩, ⟨[], ?_, .nil, Nat.le_refl _⟩, ⟨[], ?_, .nil, Nat.le_refl _⟩, naw.symm, now.symm, nmw.symm, noa.symm, nma.symm, nmo.symm⟩
  · exact Same.mut (s0.trans sw) nw
  · exact s0.free nc
  · exact (s0.trans s1).free na
  · exact ((s0.trans s1).trans s2).free no
  · exact (((s0.trans s1).trans s2).trans s3).free nm
  · rw [em]
    exact upd_same
  · exact (upd_ne ncw).trans h4c
  · exact (upd_ne naw).trans h4a
  · exact (upd_ne now).trans h4o
  · exact (upd_ne nmw).trans hm
theorem len__law_loser (G : Glob) (vs : List V) (H : Hp) (Q : VK) (E : XK) (h : sp__law_loser G vs H Q E) : vs.length = 2 := by
  obtain ⟨_, _, _, _, _, _, _, rfl, _⟩ := h
  rfl
/-- [e for z in ns if t], ns a list of numbers at a; R tells what an item's value stands for -/
theorem lc_ints {K : PySem.W.Frag} {H : Hp} {a D : Addr} {ns : List Int} {s0 : L2.St} {n : Nat} {tt : TT} {te : TE} {Qd : Hp → Prop} (t : Int → Bool) (R : Hp → V → Int → Prop) (hs : SqL K H a (ns.map V.int)) (hl : ns.length ≤ 1000) (hn : n < s0.length) (nD : H D = none)
    (hR : ∀ H1 H2 x z, (∀ b xs, H1 b = some (.tup xs) → H2 b = some (.tup xs)) → R H1 x z → R H2 x z)
    (ht : ∀ (H' : Hp) (z : Int) (QT : Bool → Hp → Prop), Same H H' → z ∈ ns → QT (t z) H' → tt ((wipe s0 [n]).set n (some (.int z))) H' QT)
    (he : ∀ (H' : Hp) (z : Int) (Q : VK), Same H H' → z ∈ ns → t z = true → (∀ x H'', Same H' H'' → R H'' x z → Q x H'') → te ((wipe s0 [n]).set n (some (.int z))) H' Q)
    (hd : ∀ H' xs, Same H H' → H' D = some (.lst xs) → Paired (R H') xs (ns.filter t) → Qd H') :
    ∃ W : Nat → Nat → Hp → Prop, (∃ m, W 0 m (upd H D (.lst []))) ∧ ∀ i m H, W i m H →
      ((Itl K a).stop i H ∧ Qd H) ∨ ((Itl K a).go i H ∧ ∃ Nx : Hp → Prop, (∀ H', Nx H' → ∃ m', m' < m ∧ W (i + 1) m' H') ∧ ∀ x H', (Itl K a).yld i H x H' → gName n x (wipe s0 [n]) H' fun σ2 H2 => wipe σ2 [n] = wipe s0 [n] ∧ tt σ2 H2 fun b H3 =>
        if b = true then te σ2 H3 fun y H4 => ∃ acc, H4 D = some (.lst acc) ∧ acc.length < sizeLine ∧ Nx (upd H4 D (.lst (acc ++ [y]))) else Nx H3) := by
  refine lc_list (K := K) (a := a) (xs := ns.map V.int) (fun i H' => Same H H' ∧ ∃ xs, H' D = some (.lst xs) ∧ Paired (R H') xs ((ns.take i).filter t)) ⟨Same.new nD, [], upd_same, .nil⟩ (fun i H' _ z => z.1.seq hs) ?_ (fun H' z => ?_)
  · rintro i x H' hx ⟨sm, xs, hD, hP⟩
    obtain ⟨z, hz, rfl⟩ : ∃ z, ns[i]? = some z ∧ x = V.int z := by
      rw [List.getElem?_map] at hx
      cases e : ns[i]? with
      | none => rw [e] at hx; cases hx
      | some z => rw [e] at hx; exact ⟨z, rfl, (Option.some.inj hx).symm⟩
    have hmem : z ∈ ns := List.mem_of_getElem? hz
    have e1 : ns.take (i + 1) = ns.take i ++ [z] := by rw [List.take_add_one, hz]; rfl
    refine ⟨wipe_set1 _ hn, ?_⟩
    refine ht _ _ _ sm hmem ?_
    cases c : t z with
    | false =>
      refine iteF ⟨sm, xs, hD, ?_⟩
      rw [e1, List.filter_append, List.filter_cons_of_neg (by rw [c]; exact Bool.false_ne_true), List.filter_nil, List.append_nil]
      exact hP
    | true =>
      refine iteT ?_
      refine he _ _ _ sm hmem c fun y H2 s2 hy => ?_
      have hD2 : H2 D = some (.lst xs) := s2 _ _ hD
      have lx : xs.length = ((ns.take i).filter t).length := Paired.length hP
      refine ⟨xs, hD2, sz10' ?_, Same.mut (sm.trans s2) nD, xs ++ [y], upd_same, ?_⟩
      · have z1 : ((ns.take i).filter t).length ≤ ns.length := Nat.le_trans (List.length_filter_le _ _) (by simp; omega)
        omega
      · have k2 : ∀ b ys, H2 b = some (.tup ys) → upd H2 D (.lst (xs ++ [y])) b = some (.tup ys) := fun b ys e => by rw [upd_ne (ne_of e hD2 (fun z => by cases z))]; exact e
        rw [e1, List.filter_append, List.filter_cons_of_pos c, List.filter_nil]
        exact paired_append (Paired.mapP hP fun x z r => hR _ _ _ _ k2 (hR _ _ _ _ (fun b ys e => s2 _ _ e) r)) (.cons (hR _ _ _ _ k2 hy) .nil)
  · obtain ⟨sm, xs, hD, hP⟩ := z
    rw [List.length_map, List.take_length] at hP
    exact hd H' xs sm hD hP
theorem paired_eqInt {f : Int → V} : ∀ {xs : List V} {ns : List Int}, Paired (fun x z => x = f z) xs ns → xs = ns.map f
  | _, _, .nil => rfl
  | _, _, .cons r t => by rw [List.map_cons, r, paired_eqInt t]
theorem sqL_updK {K : PySem.W.Frag} {H : Hp} {L b : Addr} {xs : List V} {kvs : List (Key × V)} {o : HO} (hL : H L = some (.dK kvs)) (h : SqL K H b xs) : SqL K (upd H L o) b xs := by
  rcases h with (h | ⟨u, h⟩) | h
  · exact .inl (.inl (by rw [upd_ne (ne_of h hL (fun z => by cases z))]; exact h))
  · exact .inl (.inr ⟨u, by rw [upd_ne (ne_of h hL (fun z => by cases z))]; exact h⟩)
  · exact .inr h
theorem WV.same {H H' : Hp} {A : WA} {r : Rule} {size n : Nat} {W : W} (e : Same H H') (w : WV H A r size W n) : WV H' A r size W n :=
  ⟨e _ _ w.w, e _ _ w.c, let ⟨k, h1, h2⟩ := w.a; ⟨k, e _ _ h1, h2⟩, let ⟨k, h1, h2⟩ := w.o; ⟨k, e _ _ h1, h2⟩, let ⟨k, h1, h2⟩ := w.m; ⟨k, e _ _ h1, h2⟩, w.wa, w.wo, w.wm, w.ao, w.am, w.om⟩
theorem length_putK_in {kvs : List (Key × V)} {k : Key} {v x : V} (h : valV kvs k = some x) : (putK kvs k v).length = kvs.length := by
  have q := valV_any k kvs
  rw [h] at q
  unfold putK
  rw [if_pos (by rw [q]; rfl)]
  simp
def pairOf (H : Hp) (x : V) : Int × Int := match x with
  | .ref t => (match H t with | some (.tup [.int i, .int j]) => (i, j) | _ => (0, 0))
  | _ => (0, 0)
theorem pairOf_at {H : Hp} {t : Addr} {i j : Int} (h : H t = some (.tup [.int i, .int j])) : pairOf H (.ref t) = (i, j) := by
  simp only [pairOf, h]
theorem paired_mem {α β : Type} {F : α → β → Prop} : ∀ {l : List α} {m : List β} {x : α}, Paired F l m → x ∈ l → ∃ y, y ∈ m ∧ F x y
  | _, _, x, .nil, h => by cases h
  | _, _, x, .cons r t, h => by
    rcases List.mem_cons.mp h with e | h
    · subst e; exact ⟨_, List.mem_cons_self, r⟩
    · obtain ⟨y, h1, h2⟩ := paired_mem t h
      exact ⟨y, List.mem_cons_of_mem _ h1, h2⟩
theorem paired_mem' {α β : Type} {F : α → β → Prop} : ∀ {l : List α} {m : List β} {y : β}, Paired F l m → y ∈ m → ∃ x, x ∈ l ∧ F x y
  | _, _, y, .nil, h => by cases h
  | _, _, y, .cons r t, h => by
    rcases List.mem_cons.mp h with e | h
    · subst e; exact ⟨_, List.mem_cons_self, r⟩
    · obtain ⟨x, h1, h2⟩ := paired_mem' t h
      exact ⟨x, List.mem_cons_of_mem _ h1, h2⟩
theorem s_str {r : Rule} (c : r.s = Str.ofString "used" ∨ r.s = Str.ofString "last") : r = .used ∨ r = .last := c.imp (rs_inj (q := .used)) (rs_inj (q := .last))
theorem rd__law_loser (G : Glob) (vs : List V) (H : Hp) (Q : VK) (E : XK) (h : sp__law_loser G vs H Q E) : t__law_loser G { nx := fun _ H' => Q .non H', rt := Q } (start ["_law_w", "_law_pins", "_law_page", "_law_some", "_law_turns", "_law_least"] vs) H := by
  obtain ⟨A, r, size, n, W, pa, pins, rfl, wv, hp, h60, hn, dA, dO, dM, hck, q0, q1⟩ := h
  unfold t__law_loser
  walk_at "go"
  refine r_dgK wv.w wk_came rfl ?_
  refine ⟨A.c, rfl, ⟨_, SqL.of wv.c⟩, fun D nD => lc_ints (fun p => !pins.contains p) (fun _ x z => x = .int z) (SqL.of wv.c) (by omega) (by show 2 < 6; decide) nD (fun _ _ _ _ _ e => e) (fun H' z QT sm hz hq => ?_) (fun H' z Q sm hz ht hq => ?_) (fun H1 xs s1 hD hP => ?_)⟩
  · walk_at "go"
    refine r_notInI (sm.seq hp) ?_
    walk_at "go"
    exact hq
  · walk_at "go"
    exact hq _ _ (.refl H') rfl
  have exs := paired_eqInt hP
  subst exs
  have hD' : H1 D = some (.lst ((free W pins).map V.int)) := hD
  clear hD hP
  walk_at "go"
  refine r_newL (Nat.zero_le _) fun p2 H2 np2 s2 hp2 => ?_
  refine r_eqNil (SqL.of (s2 _ _ hD')) hp2 ?_
  walk_at "go"
  have sA : Same H H2 := s1.trans s2
  have wv2 := wv.same sA
  have hD2 : H2 D = some (.lst ((free W pins).map V.int)) := s2 _ _ hD'
  refine if_dt (fun c => ?_) (fun c => ?_)
  · walk_at "go"
    exact q0 c _ sA
  have hfc : ∀ g ∈ free W pins, g ∈ W.came := fun g hg => (List.mem_filter.mp hg).1
  walk_at "go"
  refine r_dgK wv2.w wk_rule rfl ?_
  walk_at "go"
  refine if_dt (fun c1 => ?_) (fun c1 => ?_)
  · cases rs_inj (q := .came) c1
    walk_at "go"
    cases hf : free W pins with
    | nil => exact absurd hf c
    | cons g l =>
      rw [hf] at hD2
      refine r_ixL (i := ((0 : Nat) : Int)) (SqL.of hD2) (atI_nat rfl) ?_
      exact q1 c g W H2 ⟨rfl, by rw [hf]; rfl⟩ (fun b o _ _ e => sA _ _ e) wv2
  walk_at "go"
  refine r_dgK wv2.w wk_rule rfl ?_
  walk_at "go"
  refine if_dt (fun c2 => ?_) (fun c2 => ?_)
  · cases rs_inj (q := .high) c2
    walk_at "go"
    refine ⟨D, _, rfl, SqL.of hD2, List.length_pos_iff.mpr c, fun m hm hle => ?_⟩
    exact q1 c m W H2 ⟨rfl, hm, hle⟩ (fun b o _ _ e => sA _ _ e) wv2
  walk_at "go"
  refine r_dgK wv2.w wk_rule rfl ?_
  walk_at "go"
  refine r_newT szd fun p3 H3 np3 s3 hp3 => ?_
  have wv3 := wv2.same s3
  have hD3 := s3 _ _ hD2
  have sB : Same H H3 := sA.trans s3
  refine ⟨p3, _, rfl, .inr (SqT.of hp3), rfl, rfl, ?_⟩
  have ein : inV (V.str r.s) [V.str "used", V.str "last"] = decide (r = .used ∨ r = .last) := by cases r <;> decide +kernel
  have ein2 : (if false = true then !inV (V.str r.s) [V.str "used", V.str "last"] else inV (V.str r.s) [V.str "used", V.str "last"]) = decide (r = .used ∨ r = .last) := by
    rw [if_neg Bool.false_ne_true]; exact ein
  rw [ein2]
  walk_at "go"
  refine if_dt (fun c3 => ?_) (fun c3 => ?_)
  · walk_at "go"
    refine ⟨D, rfl, ⟨_, SqL.of hD3⟩, fun D2 nD2 => lc_ints (fun _ => true) (fun H' x z => ∃ t tm, x = .ref t ∧ H' t = some (.tup [.int tm, .int z]) ∧ W.asked z = some tm) (SqL.of hD3) (Nat.le_trans (List.length_filter_le _ _) (by omega)) (by show 2 < 6; decide) nD2
      (fun H1 H2 x z k ⟨t, tm, e1, e2, e3⟩ => ⟨t, tm, e1, k _ _ e2, e3⟩) (fun H' z QT sm hz hq => ?_) (fun H' z Q sm hz ht hq => ?_) (fun H4 xs s4 hD4 hP => ?_)⟩
    · exact r_yes hq
    · obtain ⟨tm, htm⟩ := dA z (hfc z hz)
      have wv' := wv3.same sm
      obtain ⟨ka, ha, fa, la⟩ := wv'.a
      walk_at "go"
      refine r_dgK wv'.w wk_asked rfl ?_
      walk_at "go"
      refine r_dgK (k := .inl z) ha (by rw [fa z, htm]; rfl) rfl ?_
      walk_at "go"
      refine r_newT szd fun t H'' nt st ht' => ?_
      exact hq _ _ st ⟨t, tm, rfl, ht', htm⟩
    rw [List.filter_eq_self.mpr (fun _ _ => rfl)] at hP
    walk_at "go"
    have wv4 := wv3.same s4
    refine ⟨D2, xs, pairOf H4, rfl, SqL.of hD4, fun x hx => ?_, fun ys p5 hsr hst np5 => ?_⟩
    · obtain ⟨z, _, t, tm, e1, e2, _⟩ := paired_mem hP hx
      subst e1
      exact ⟨t, rfl, by rw [pairOf_at e2]; exact e2⟩
    have wv5 := wv4.same (.new (o := .lst ys) np5)
    have s5 : Same H4 (upd H4 p5 (.lst ys)) := .new np5
    have hperm := hst.perm
    have hys : ∀ y ∈ ys, ∃ z t tm, z ∈ free W pins ∧ y = .ref t ∧ H4 t = some (.tup [.int tm, .int z]) ∧ W.asked z = some tm := fun y hy => by
      obtain ⟨z, hz, t, tm, e1, e2, e3⟩ := paired_mem hP (hperm.mem_iff.mp hy)
      exact ⟨z, t, tm, hz, e1, e2, e3⟩
    have hall : ∀ z ∈ free W pins, ∃ y ∈ ys, ∃ tm, pairOf H4 y = (tm, z) ∧ W.asked z = some tm := fun z hz => by
      obtain ⟨x, hx, t, tm, e1, e2, e3⟩ := paired_mem' hP hz
      exact ⟨x, hperm.mem_iff.mpr hx, tm, by rw [e1]; exact pairOf_at e2, e3⟩
    have yne : ys ≠ [] := fun z => by
      rw [z] at hperm
      have l1 := hperm.length_eq
      have l2 : xs.length = (free W pins).length := Paired.length hP
      have l3 := List.length_pos_iff.mpr c
      simp at l1
      omega
    walk_at "go"
    refine r_dgK wv5.w wk_rule rfl ?_
    walk_at "go"
    refine if_dt (fun c4 => ?_) (fun c4 => ?_)
    · cases rs_inj (q := .used) c4
      walk_at "go"
      cases ys with
      | nil => exact absurd rfl yne
      | cons y0 ys' =>
        obtain ⟨z0, t0, tm0, hz0, rfl, ht0, ha0⟩ := hys y0 List.mem_cons_self
        refine r_ixL (i := ((0 : Nat) : Int)) (SqL.of upd_same) (atI_nat rfl) ?_
        walk_at "go"
        refine r_ixT (i := ((1 : Nat) : Int)) (SqT.of (s5 _ _ ht0)) (atI_nat rfl) ?_
        refine q1 c z0 W _ ⟨rfl, hz0, fun q hq => ?_⟩ (fun b o _ _ e => (sB.trans s4).trans s5 _ _ e) wv5
        obtain ⟨y, hy, tm, e1, e2⟩ := hall q hq
        rw [ha0, e2]
        rcases List.mem_cons.mp hy with e | hy
        · rw [e, pairOf_at ht0] at e1
          cases e1
          exact Int.le_refl _
        · have z := SrtO.lexB_no.mp (SrtO.srtd_head hsr y hy)
          rw [pairOf_at ht0, e1] at z
          simp at z
          exact z.1
    · have c5 : r = .last := c3.resolve_left (fun e => c4 (by rw [e]; rfl))
      subst c5
      walk_at "go"
      obtain ⟨ys', y0, rfl⟩ : ∃ l y, ys = l ++ [y] := ⟨_, _, (List.dropLast_concat_getLast yne).symm⟩
      obtain ⟨z0, t0, tm0, hz0, rfl, ht0, ha0⟩ := hys y0 (by simp)
      refine r_ixL (i := 0 - 1) (SqL.of upd_same) (atI_last _ _) ?_
      walk_at "go"
      refine r_ixT (i := ((1 : Nat) : Int)) (SqT.of (s5 _ _ ht0)) (atI_nat rfl) ?_
      refine q1 c z0 W _ ⟨rfl, hz0, fun q hq => ?_⟩ (fun b o _ _ e => (sB.trans s4).trans s5 _ _ e) wv5
      obtain ⟨y, hy, tm, e1, e2⟩ := hall q hq
      rw [ha0, e2]
      rcases List.mem_append.mp hy with hy | hy
      · have z := SrtO.lexB_no.mp ((List.pairwise_append.mp hsr).2.2 y hy _ (List.mem_singleton.mpr rfl))
        rw [pairOf_at ht0, e1] at z
        simp at z
        exact z.1
      · rw [List.mem_singleton.mp hy, pairOf_at ht0] at e1
        cases e1
        exact Int.le_refl _
  walk_at "go"
  refine r_dgK wv3.w wk_rule rfl ?_
  walk_at "go"
  refine if_dt (fun c4 => ?_) (fun c4 => ?_)
  · cases rs_inj (q := .often) c4
    walk_at "go"
    refine ⟨D, rfl, ⟨_, SqL.of hD3⟩, fun D2 nD2 => lc_ints (fun _ => true) (fun H' x z => x = .int ((W.often z).getD 0)) (SqL.of hD3) (Nat.le_trans (List.length_filter_le _ _) (by omega)) (by show 2 < 6; decide) nD2
      (fun _ _ _ _ _ e => e) (fun H' z QT sm hz hq => r_yes hq) (fun H' z Q sm hz ht hq => ?_) (fun H4 xs s4 hD4 hP => ?_)⟩
    · obtain ⟨tm, htm⟩ := dO z (hfc z hz)
      have wv' := wv3.same sm
      obtain ⟨ka, ha, fa, la⟩ := wv'.o
      walk_at "go"
      refine r_dgK wv'.w wk_often rfl ?_
      walk_at "go"
      refine r_dgK (k := .inl z) ha (by rw [fa z, htm]; rfl) rfl ?_
      exact hq _ _ (.refl _) (by rw [htm]; rfl)
    rw [List.filter_eq_self.mpr (fun _ _ => rfl)] at hP
    have exs := paired_eqInt hP
    have exs' : xs = ((free W pins).map fun z => (W.often z).getD 0).map V.int := by rw [exs, List.map_map]; rfl
    rw [exs'] at hD4
    walk_at "go"
    have wv4 := wv3.same s4
    refine ⟨D2, _, rfl, SqL.of hD4, by rw [List.length_map]; exact List.length_pos_iff.mpr c, fun m hm hle => ?_⟩
    walk_at "go"
    have hD5 : H4 D = some (.lst ((free W pins).map V.int)) := s4 _ _ hD3
    refine ⟨D, rfl, ⟨_, SqL.of hD5⟩, fun D3 nD3 => lc_ints (fun z => decide ((W.often z).getD 0 = m)) (fun H' x z => x = .int z) (SqL.of hD5) (Nat.le_trans (List.length_filter_le _ _) (by omega)) (by show 2 < 6; decide) nD3
      (fun _ _ _ _ _ e => e) (fun H' z QT sm hz hq => ?_) (fun H' z Q sm hz ht hq => ?_) (fun H6 xs6 s6 hD6 hP6 => ?_)⟩
    · obtain ⟨tm, htm⟩ := dO z (hfc z hz)
      have wv' := wv4.same sm
      obtain ⟨ka, ha, fa, la⟩ := wv'.o
      walk_at "go"
      refine r_dgK wv'.w wk_often rfl ?_
      walk_at "go"
      refine r_dgK (k := .inl z) ha (by rw [fa z, htm]; rfl) rfl ?_
      walk_at "go"
      rw [htm] at hq
      exact hq
    · walk_at "go"
      exact hq _ _ (.refl _) rfl
    have e6 := paired_eqInt hP6
    subst e6
    obtain ⟨z0, hz0, ez0⟩ := List.mem_map.mp hm
    have hmin : ∀ q ∈ free W pins, m ≤ (W.often q).getD 0 := fun q hq => hle _ (List.mem_map.mpr ⟨q, hq, rfl⟩)
    cases hf : (free W pins).filter (fun z => decide ((W.often z).getD 0 = m)) with
    | nil =>
      have z1 : z0 ∈ (free W pins).filter (fun z => decide ((W.often z).getD 0 = m)) := List.mem_filter.mpr ⟨hz0, decide_eq_true ez0⟩
      rw [hf] at z1
      cases z1
    | cons g l =>
      rw [hf] at hD6
      have hg : g ∈ (free W pins).filter (fun z => decide ((W.often z).getD 0 = m)) := by rw [hf]; exact List.mem_cons_self
      have hg2 := of_decide_eq_true (List.mem_filter.mp hg).2
      walk_at "go"
      refine r_ixL (i := ((0 : Nat) : Int)) (SqL.of hD6) (atI_nat rfl) ?_
      refine q1 c g W H6 ⟨rfl, fun q hq => ?_, ?_⟩ (fun b o _ _ e => ((sB.trans s4).trans s6) _ _ e) (wv4.same s6)
      · rw [hg2]; exact hmin q hq
      · rw [hg2, hf]; rfl
  walk_at "go"
  have hrk : r = .clock := by
    cases r with
    | clock => rfl
    | came => exact absurd rfl c1
    | high => exact absurd rfl c2
    | used => exact absurd (.inl rfl) c3
    | last => exact absurd (.inr rfl) c3
    | often => exact absurd rfl c4
  subst hrk
  obtain ⟨k0, g, w', hk0⟩ := hck rfl c
  have hp3' : SqL G.K H3 pa (pins.map V.int) := sB.seq hp
  refine r_while (fun k σ' H' => ∃ (W1 : CB.W) (pg s4 s5 : Option V), σ' = [some (.ref A.w), some (.ref pa), pg, some (.ref D), s4, s5] ∧ WV H' A .clock size W1 n ∧ SqL G.K H' pa (pins.map V.int) ∧ sweepW pins k W1 = some (g, w') ∧ W1.came = W.came ∧ (∀ p ∈ W.came, ∃ t, W1.marks p = some t) ∧ (∀ b o, b ≠ A.w → b ≠ A.m → H b = some o → H' b = some o))
    k0 ⟨W, none, none, none, rfl, wv3, hp3', hk0, rfl, dM, fun b o _ _ e => sB _ _ e⟩ ?_
  rintro k σ' H4 ⟨W1, pg, s4, s5, rfl, wv4, hp4, hk4, ec, dm, fr⟩
  walk_at "go"
  refine ⟨_, fun _ _ n => n, ?_⟩
  walk_at "go"
  refine r_dgK wv4.w wk_came rfl ?_
  walk_at "go"
  refine r_dgK wv4.w wk_hand rfl ?_
  cases k with
  | zero => cases hk4
  | succ k =>
  unfold sweepW at hk4
  cases hh : W1.came[W1.hand]? with
  | none => rw [hh] at hk4; cases hk4
  | some p =>
  rw [hh] at hk4
  simp only at hk4
  have hpc : p ∈ W.came := by rw [← ec]; exact List.mem_of_getElem? hh
  obtain ⟨mb, hmb⟩ := dm p hpc
  obtain ⟨km, hm, fm, lm⟩ := wv4.m
  have hgm : valV km (.inl p) = some (.bl mb) := by rw [fm p, hmb]; rfl
  refine r_ixL (SqL.of wv4.c) (atI_nat (by rw [List.getElem?_map, hh]; rfl)) ?_
  walk_at "go"
  refine r_notInI hp4 ?_
  walk_at "go"
  have step : ∀ b : Bool, b = (mb && pins.contains p) → ¬ (pins.contains p = false ∧ W1.marks p = some false) →
      (fun σ' H' => ∃ m', m' < k + 1 ∧ ∃ (W1 : CB.W) (pg s4 s5 : Option V), σ' = [some (.ref A.w), some (.ref pa), pg, some (.ref D), s4, s5] ∧ WV H' A .clock size W1 n ∧ SqL G.K H' pa (pins.map V.int) ∧ sweepW pins m' W1 = some (g, w') ∧ W1.came = W.came ∧ (∀ p ∈ W.came, ∃ t, W1.marks p = some t) ∧ (∀ b o, b ≠ A.w → b ≠ A.m → H b = some o → H' b = some o))
        [some (.ref A.w), some (.ref pa), some (.int p), some (.ref D), s4, s5]
        (upd (upd H4 A.m (.dK (putK km (.inl p) (.bl b)))) A.w (.dK (wkv .clock size A ((W1.hand + 1) % W1.came.length) W1.time))) := by
    intro b hb hno
    rw [if_neg hno] at hk4
    rw [hmb] at hk4
    have hb' : ((some mb).getD false && pins.contains p) = b := hb.symm
    rw [hb'] at hk4
    refine ⟨k, Nat.lt_succ_self k, _, _, _, _, rfl, ⟨upd_same, ?_, ?_, ?_, ⟨putK km (.inl p) (.bl b), ?_, fm.put p b, ?_⟩, wv4.wa, wv4.wo, wv4.wm, wv4.ao, wv4.am, wv4.om⟩, ?_, hk4, ec, ?_, ?_⟩
    · rw [upd_ne (ne_of wv4.c wv4.w (fun z => by cases z)), upd_ne (ne_of wv4.c hm (fun z => by cases z))]; exact wv4.c
    · obtain ⟨kv, h1, h2⟩ := wv4.a
      exact ⟨kv, by rw [upd_ne wv4.wa.symm, upd_ne wv4.am]; exact h1, h2⟩
    · obtain ⟨kv, h1, h2⟩ := wv4.o
      exact ⟨kv, by rw [upd_ne wv4.wo.symm, upd_ne wv4.om]; exact h1, h2⟩
    · rw [upd_ne wv4.wm.symm]; exact upd_same
    · rw [length_putK_in hgm]; exact lm
    · refine sqL_updK (kvs := wkv .clock size A W1.hand W1.time) ?_ (sqL_updK hm hp4)
      rw [upd_ne wv4.wm]; exact wv4.w
    · intro q hq
      by_cases e : q = p
      · subst e; exact ⟨b, pset_same⟩
      · obtain ⟨t, ht⟩ := dm q hq
        exact ⟨t, by show pset _ _ _ q = _; rw [pset_ne e]; exact ht⟩
    · intro x o h1 h2 e
      rw [upd_ne h1, upd_ne h2]; exact fr x o h1 h2 e
  have fin : ∀ D' : Ends, (∀ σ' H', (∃ m', m' < k + 1 ∧ ∃ (W1 : CB.W) (pg s4 s5 : Option V), σ' = [some (.ref A.w), some (.ref pa), pg, some (.ref D), s4, s5] ∧ WV H' A .clock size W1 n ∧ SqL G.K H' pa (pins.map V.int) ∧ sweepW pins m' W1 = some (g, w') ∧ W1.came = W.came ∧ (∀ p ∈ W.came, ∃ t, W1.marks p = some t) ∧ (∀ b o, b ≠ A.w → b ≠ A.m → H b = some o → H' b = some o)) → D'.nx σ' H') →
    ¬ (pins.contains p = false ∧ W1.marks p = some false) → tSeq (sDPut (tDGet (tVar 0) (tC (.str "marks"))) (tVar 2) (tAndV (tDGet (tDGet (tVar 0) (tC (.str "marks"))) (tVar 2)) (tOp (kIn G.K) (tVar 2) (tVar 1))))
    (sDPut (tVar 0) (tC (.str "hand")) (tOp kMod (tOp kAdd (tDGet (tVar 0) (tC (.str "hand"))) (tC (.int 1))) (tCB (bLen G.K) (tCons (tDGet (tVar 0) (tC (.str "came"))) tNil))))
      D' [some (.ref A.w), some (.ref pa), some (.int p), some (.ref D), s4, s5] H4 := by
    intro D' hD' hno
    have st2 := hD' _ _ (step _ rfl hno)
    have e1 : (W1.came.map V.int).length = W1.came.length := List.length_map ..
    have hl0 : 0 < W1.came.length := by
      have := (List.getElem?_eq_some_iff.mp hh).1
      omega
    walk_at "go"
    refine r_dgK wv4.w wk_marks rfl ?_
    walk_at "go"
    refine r_dgK (k := .inl p) hm hgm rfl ?_
    have tail : ∀ b, b = (mb && pins.contains p) → tDGet (tVar 0) (tC (V.str "marks")) [some (V.ref A.w), some (V.ref pa), some (V.int p), some (V.ref D), s4, s5] H4 fun x H2 => tVar 2 [some (V.ref A.w), some (V.ref pa), some (V.int p), some (V.ref D), s4, s5] H2 fun y H3 => ∃ a H4, x = .ref a ∧ DPut H3 a y (.bl b) H4 ∧
        sDPut (tVar 0) (tC (.str "hand")) (tOp kMod (tOp kAdd (tDGet (tVar 0) (tC (.str "hand"))) (tC (.int 1))) (tCB (bLen G.K) (tCons (tDGet (tVar 0) (tC (.str "came"))) tNil)))
          D' [some (V.ref A.w), some (V.ref pa), some (V.int p), some (V.ref D), s4, s5] H4 := by
      intro b hb
      subst hb
      walk_at "go"
      refine r_dgK wv4.w wk_marks rfl ?_
      walk_at "go"
      refine r_dpK (k := .inl p) hm (by exact sz10' (by omega)) rfl ?_
      walk_at "go"
      have hw5 : upd H4 A.m (.dK (putK km (.inl p) (.bl (mb && pins.contains p)))) A.w = some (.dK (wkv .clock size A W1.hand W1.time)) := by rw [upd_ne wv4.wm]; exact wv4.w
      have hc5 : upd H4 A.m (.dK (putK km (.inl p) (.bl (mb && pins.contains p)))) A.c = some (.lst (W1.came.map V.int)) := by rw [upd_ne (ne_of wv4.c hm (fun z => by cases z))]; exact wv4.c
      refine r_dgK hw5 wk_hand rfl ?_
      walk_at "go"
      refine r_dgK hw5 wk_came rfl ?_
      walk_at "go"
      refine r_lenL (SqL.of hc5) ?_
      walk_at "go"
      refine r_kMod (by omega) ?_
      walk_at "go"
      refine r_dpK (k := .inr "hand") hw5 (sz10' (by show 8 < 100000; decide)) rfl ?_
      have e2 : ((W1.hand : Int) + 1) % (((W1.came.map V.int).length : Nat) : Int) = (((W1.hand + 1) % W1.came.length : Nat) : Int) := by
        rw [e1, Int.natCast_emod]; rfl
      rw [e2, wp_hand]
      exact st2
    refine ⟨mb, rfl, ?_⟩
    cases mb with
    | false =>
      refine iteF ?_
      exact tail false rfl
    | true =>
      refine iteT ?_
      walk_at "go"
      refine r_inI hp4 ?_
      exact tail (pins.contains p) (by simp)
  cases hpin : pins.contains p with
  | true =>
    refine iteF ?_
    refine iteF ?_
    refine r_next ?_
    exact fin _ (fun _ _ z => z) (fun z => by rw [hpin] at z; cases z.1)
  | false =>
    refine iteT ?_
    walk_at "go"
    refine r_dgK wv4.w wk_marks rfl ?_
    walk_at "go"
    refine r_dgK (k := .inl p) hm hgm rfl ?_
    walk_at "go"
    cases mb with
    | true =>
      refine iteF ?_
      refine r_next ?_
      exact fin _ (fun _ _ z => z) (fun z => by rw [hmb] at z; cases z.2)
    | false =>
      refine iteT ?_
      walk_at "go"
      rw [if_pos ⟨hpin, hmb⟩] at hk4
      cases hk4
      exact q1 c g w' H4 ⟨k0, hk0⟩ fr wv4
end CB

namespace CB
open PySem PySem.Spec PyProof.Rows L2
local macro_rules | `(tactic| walk_at "s1") => `(tactic| (with_reducible first
  | refine r_seq ?_ | refine r_next ?_ | refine r_asg ?_ | refine r_gname ?_ | refine r_ret ?_ | refine r_retN ?_ | refine r_drop ?_ | refine r_ifs ?_ | refine r_c ?_ | refine r_op ?_ | refine r_nil ?_ | refine r_cons ?_
  | refine r_tup ?_ | refine r_lst ?_ | refine r_test ?_ | refine r_tB ?_ | refine r_tru ?_ | refine r_exbl ?_ | refine r_tint ?_ | refine r_and ?_ | refine r_or ?_ | refine r_not ?_ | refine r_notV ?_ | refine r_andV ?_ | refine r_orV ?_ | refine r_ifE ?_ | refine r_call ?_ | refine r_CB ?_
  | refine r_kAdd ?_ | refine r_kSub ?_ | refine r_kLt ?_ | refine r_kLe ?_ | refine r_kGt ?_ | refine r_kGe ?_ | refine r_eqI ?_ | refine r_neI ?_ | refine r_eqS ?_ | refine r_isN ?_ | refine r_notN ?_
  | refine r_gcons ?_ | refine r_gnil ?_ | refine r_gsub ?_ | refine r_BM ?_ | refine r_sl ?_ | refine r_nopart ?_ | refine r_part ?_ | refine r_exint ?_ | refine r_par ?_ | refine r_par2 ?_ | refine r_chain ?_
  | refine r_dget ?_ | refine r_dput ?_ | refine iteT ?_ | refine r_for ?_ | refine r_iEnumT ?_ | refine r_iTup ?_ | refine r_iList ?_ | refine r_rng1 ?_ | refine r_rng2 ?_ | refine r_lc ?_ | refine r_gtup2 ?_ | refine r_yes ?_ | refine iteF ?_ | refine r_var (by with_unfolding_all rfl) ?_))
local macro_rules | `(tactic| walk_at "go") => `(tactic| (repeat (walk_at "s1")))


section
variable {H : Hp} {A : WA} {r : Rule} {size n : Nat} {W : CB.W} {p : Int}
theorem WV.grow (w : WV H A r size W n) {m : Nat} (h : n ≤ m) : WV H A r size W m :=
  ⟨w.w, w.c, let ⟨k, h1, h2, h3⟩ := w.a; ⟨k, h1, h2, Nat.le_trans h3 h⟩, let ⟨k, h1, h2, h3⟩ := w.o; ⟨k, h1, h2, Nat.le_trans h3 h⟩, let ⟨k, h1, h2, h3⟩ := w.m; ⟨k, h1, h2, Nat.le_trans h3 h⟩, w.wa, w.wo, w.wm, w.ao, w.am, w.om⟩
theorem WV.ca (w : WV H A r size W n) : A.c ≠ A.a := let ⟨_, h, _⟩ := w.a; ne_of w.c h fun z => by cases z
theorem WV.co (w : WV H A r size W n) : A.c ≠ A.o := let ⟨_, h, _⟩ := w.o; ne_of w.c h fun z => by cases z
theorem WV.cm (w : WV H A r size W n) : A.c ≠ A.m := let ⟨_, h, _⟩ := w.m; ne_of w.c h fun z => by cases z
theorem WV.cw (w : WV H A r size W n) : A.c ≠ A.w := ne_of w.c w.w fun z => by cases z
theorem WV.putA (w : WV H A r size W n) {kv : List (Key × V)} (h1 : DF V.int kv W.asked) (h2 : kv.length ≤ n) (t : Int) : WV (upd H A.a (.dK (putK kv (.inl p) (.int t)))) A r size { W with asked := pset W.asked p t } (n + 1) := by
  refine ⟨by rw [upd_ne w.wa]; exact w.w, by rw [upd_ne w.ca]; exact w.c, ⟨_, upd_same, h1.put p t, Nat.le_trans (length_putK _ _ _) (Nat.succ_le_succ h2)⟩, ?_, ?_, w.wa, w.wo, w.wm, w.ao, w.am, w.om⟩
  · obtain ⟨k, g1, g2, g3⟩ := w.o
    exact ⟨k, by rw [upd_ne w.ao.symm]; exact g1, g2, Nat.le_succ_of_le g3⟩
  · obtain ⟨k, g1, g2, g3⟩ := w.m
    exact ⟨k, by rw [upd_ne w.am.symm]; exact g1, g2, Nat.le_succ_of_le g3⟩
theorem WV.putO (w : WV H A r size W n) {kv : List (Key × V)} (h1 : DF V.int kv W.often) (h2 : (putK kv (.inl p) (.int t)).length ≤ n + 1) : WV (upd H A.o (.dK (putK kv (.inl p) (.int t)))) A r size { W with often := pset W.often p t } (n + 1) := by
  refine ⟨by rw [upd_ne w.wo]; exact w.w, by rw [upd_ne w.co]; exact w.c, ?_, ⟨_, upd_same, h1.put p t, h2⟩, ?_, w.wa, w.wo, w.wm, w.ao, w.am, w.om⟩
  · obtain ⟨k, g1, g2, g3⟩ := w.a
    exact ⟨k, by rw [upd_ne w.ao]; exact g1, g2, Nat.le_succ_of_le g3⟩
  · obtain ⟨k, g1, g2, g3⟩ := w.m
    exact ⟨k, by rw [upd_ne w.om.symm]; exact g1, g2, Nat.le_succ_of_le g3⟩
theorem WV.putM (w : WV H A r size W n) {kv : List (Key × V)} (h1 : DF V.bl kv W.marks) (h2 : kv.length ≤ n) (t : Bool) : WV (upd H A.m (.dK (putK kv (.inl p) (.bl t)))) A r size { W with marks := pset W.marks p t } (n + 1) := by
  refine ⟨by rw [upd_ne w.wm]; exact w.w, by rw [upd_ne w.cm]; exact w.c, ?_, ?_, ⟨_, upd_same, h1.put p t, Nat.le_trans (length_putK _ _ _) (Nat.succ_le_succ h2)⟩, w.wa, w.wo, w.wm, w.ao, w.am, w.om⟩
  · obtain ⟨k, g1, g2, g3⟩ := w.a
    exact ⟨k, by rw [upd_ne w.am]; exact g1, g2, Nat.le_succ_of_le g3⟩
  · obtain ⟨k, g1, g2, g3⟩ := w.o
    exact ⟨k, by rw [upd_ne w.om]; exact g1, g2, Nat.le_succ_of_le g3⟩
theorem WV.putW (w : WV H A r size W n) {hand : Nat} {time : Int} : WV (upd H A.w (.dK (wkv r size A hand time))) A r size { W with hand := hand, time := time } n := by
  refine ⟨upd_same, by rw [upd_ne w.cw]; exact w.c, ?_, ?_, ?_, w.wa, w.wo, w.wm, w.ao, w.am, w.om⟩
  · obtain ⟨k, g1, g2, g3⟩ := w.a
    exact ⟨k, by rw [upd_ne w.wa.symm]; exact g1, g2, g3⟩
  · obtain ⟨k, g1, g2, g3⟩ := w.o
    exact ⟨k, by rw [upd_ne w.wo.symm]; exact g1, g2, g3⟩
  · obtain ⟨k, g1, g2, g3⟩ := w.m
    exact ⟨k, by rw [upd_ne w.wm.symm]; exact g1, g2, g3⟩
theorem WV.putC (w : WV H A r size W n) (l : List Int) : WV (upd H A.c (.lst (l.map V.int))) A r size { W with came := l } n := by
  refine ⟨by rw [upd_ne w.cw.symm]; exact w.w, upd_same, ?_, ?_, ?_, w.wa, w.wo, w.wm, w.ao, w.am, w.om⟩
  · obtain ⟨k, g1, g2, g3⟩ := w.a
    exact ⟨k, by rw [upd_ne w.ca.symm]; exact g1, g2, g3⟩
  · obtain ⟨k, g1, g2, g3⟩ := w.o
    exact ⟨k, by rw [upd_ne w.co.symm]; exact g1, g2, g3⟩
  · obtain ⟨k, g1, g2, g3⟩ := w.m
    exact ⟨k, by rw [upd_ne w.cm.symm]; exact g1, g2, g3⟩
/-- another list of what is held -/
theorem WV.newC (w : WV H A r size W n) {c : Addr} {l : List Int} (hc : H c = some (.lst (l.map V.int))) : WV (upd H A.w (.dK (wkv r size { A with c := c } W.hand W.time))) { A with c := c } r size { W with came := l } n := by
  refine ⟨upd_same, by rw [upd_ne (ne_of hc w.w fun z => by cases z)]; exact hc, ?_, ?_, ?_, w.wa, w.wo, w.wm, w.ao, w.am, w.om⟩
  · obtain ⟨k, g1, g2, g3⟩ := w.a
    exact ⟨k, by rw [upd_ne w.wa.symm]; exact g1, g2, g3⟩
  · obtain ⟨k, g1, g2, g3⟩ := w.o
    exact ⟨k, by rw [upd_ne w.wo.symm]; exact g1, g2, g3⟩
  · obtain ⟨k, g1, g2, g3⟩ := w.m
    exact ⟨k, by rw [upd_ne w.wm.symm]; exact g1, g2, g3⟩
end
/-- all but the cache's own objects is kept -/
def Frame (A : WA) (H H' : Hp) : Prop := ∀ b o, b ≠ A.w → b ≠ A.c → b ≠ A.a → b ≠ A.o → b ≠ A.m → H b = some o → H' b = some o
structure WNext (A A' : WA) (H : Hp) : Prop where
  w : A'.w = A.w
  a : A'.a = A.a
  o : A'.o = A.o
  m : A'.m = A.m
  c : A'.c = A.c ∨ H A'.c = none
def resV (H : Hp) (res : Option (Bool × Option Int)) (v : V) : Prop := match res with
  | none => v = .non
  | some (b, g) => ∃ t, v = .ref t ∧ H t = some (.tup [.bl b, goneV g])
def sp__law_ask (G : Glob) : Sp := fun vs H Q _ => ∃ (A : WA) (r : Rule) (size n : Nat) (W : CB.W) (p : Int) (pa : Addr) (pins : List Int), vs = [.ref A.w, .int p, .ref pa] ∧ WV H A r size W n ∧ SqL G.K H pa (pins.map V.int) ∧ W.came.length ≤ 60 ∧ n ≤ 9000 ∧
  (∀ p ∈ W.came, ∃ t, W.asked p = some t) ∧ (∀ p ∈ W.came, ∃ t, W.often p = some t) ∧ (∀ p ∈ W.came, ∃ t, W.marks p = some t) ∧ (r = .clock → W.came.length = size → free W pins ≠ [] → ∃ k g w', sweepW pins k W = some (g, w')) ∧
  ∀ res W' A' v H', Asks r size W pins p res W' → Frame A H H' → WNext A A' H → WV H' A' r size W' (n + 4) → resV H' res v → Q v H'
def t__law_ask (G : Glob) : TS := (tSeq (tAsg (tC .non) (gName 3))
    (tSeq (tAsg (tOp (kIn G.K) (tVar 1) (tDGet (tVar 0) (tC (.str "came")))) (gName 4))
    (tSeq (tIfS (tNot (tB (tVar 4))) (tSeq (tIfS (tTest (tOp kEq (tCB (bLen G.K) (tCons (tDGet (tVar 0) (tC (.str "came"))) tNil)) (tDGet (tVar 0) (tC (.str "size"))))) (tSeq (tAsg (tCall (sp__law_loser G) [] E0 (tCons (tVar 0) (tCons (tVar 2) tNil))) (gName 3))
    (tSeq (tIfS (tTest (tOp kIsN (tVar 3) (tC .non))) (tRet (tC .non)) tNext)
    (tSeq (tAsg (tBM G.K "list" (rIndex G.K) (tDGet (tVar 0) (tC (.str "came"))) (tCons (tVar 3) tNil)) (gName 5))
    (tIfS (tTest (tOp kEq (tDGet (tVar 0) (tC (.str "rule"))) (tC (.str "clock")))) (tSeq (tAsg (tVar 1) (gSub (tDGet (tVar 0) (tC (.str "came"))) (tVar 5) rSetL))
    (sDPut (tVar 0) (tC (.str "hand")) (tOp kMod (tOp kAdd (tVar 5) (tC (.int 1))) (tCB (bLen G.K) (tCons (tDGet (tVar 0) (tC (.str "came"))) tNil))))) (sDPut (tVar 0) (tC (.str "came")) (tOp rCat (tOp rCat (tSl (rSlL G.K) (tDGet (tVar 0) (tC (.str "came"))) tNoPart (tPart (tVar 5))) (tSl (rSlL G.K) (tDGet (tVar 0) (tC (.str "came"))) (tPart (tOp kAdd (tVar 5) (tC (.int 1)))) tNoPart)) (tLst (tCons (tVar 1) tNil)))))))) (tDrop (tBM G.K "list" rAppend (tDGet (tVar 0) (tC (.str "came"))) (tCons (tVar 1) tNil))))
    (sDPut (tDGet (tVar 0) (tC (.str "often"))) (tVar 1) (tC (.int 0)))) tNext)
    (tSeq (sDPut (tVar 0) (tC (.str "time")) (tOp kAdd (tDGet (tVar 0) (tC (.str "time"))) (tC (.int 1))))
    (tSeq (sDPut (tDGet (tVar 0) (tC (.str "asked"))) (tVar 1) (tDGet (tVar 0) (tC (.str "time"))))
    (tSeq (sDPut (tDGet (tVar 0) (tC (.str "often"))) (tVar 1) (tOp kAdd (tDGet (tDGet (tVar 0) (tC (.str "often"))) (tVar 1)) (tC (.int 1))))
    (tSeq (sDPut (tDGet (tVar 0) (tC (.str "marks"))) (tVar 1) (tC (.bl true)))
    (tRet (tTup (tCons (tVar 4) (tCons (tVar 3) tNil)))))))))))
theorem len__law_ask (G : Glob) (vs : List V) (H : Hp) (Q : VK) (E : XK) (h : sp__law_ask G vs H Q E) : vs.length = 3 := by
  obtain ⟨_, _, _, _, _, _, _, _, rfl, _⟩ := h
  rfl
abbrev tAskEnd : TS := tSeq (sDPut (tVar 0) (tC (.str "time")) (tOp kAdd (tDGet (tVar 0) (tC (.str "time"))) (tC (.int 1))))
    (tSeq (sDPut (tDGet (tVar 0) (tC (.str "asked"))) (tVar 1) (tDGet (tVar 0) (tC (.str "time"))))
    (tSeq (sDPut (tDGet (tVar 0) (tC (.str "often"))) (tVar 1) (tOp kAdd (tDGet (tDGet (tVar 0) (tC (.str "often"))) (tVar 1)) (tC (.int 1))))
    (tSeq (sDPut (tDGet (tVar 0) (tC (.str "marks"))) (tVar 1) (tC (.bl true)))
    (tRet (tTup (tCons (tVar 4) (tCons (tVar 3) tNil)))))))
/-- the end of _law_ask: W2 stands, with often's entry for the page -/
theorem ask_tail {G : Glob} {H : Hp} {A : WA} {r : Rule} {size n : Nat} {W2 : CB.W} {p : Int} {gone : V} {hb : Bool} {s2 s5 : Option V} {Q : VK} {t0 : Int} {DR : VK} {bk ct nx : L2.St → Hp → Prop} (wv : WV H A r size W2 n) (hn : n ≤ 9001) (ho : W2.often p = some t0)
    (hq : ∀ t H', Frame A H H' → WV H' A r size (noted W2 p W2.often) (n + 3) → H' t = some (.tup [.bl hb, gone]) → DR (.ref t) H') :
    tAskEnd ⟨nx, DR, bk, ct⟩ [some (.ref A.w), some (.int p), s2, some gone, some (.bl hb), s5] H := by
  unfold tAskEnd
  walk_at "go"
  refine r_dgK wv.w wk_time rfl ?_
  walk_at "go"
  refine r_dpK (k := .inr "time") wv.w (sz10' (by show 8 < 100000; decide)) rfl ?_
  rw [wp_time]
  have w1 := wv.putW (hand := W2.hand) (time := W2.time + 1)
  generalize hH1 : upd H A.w (.dK (wkv r size A W2.hand (W2.time + 1))) = H1 at *
  have f1 : ∀ b o, b ≠ A.w → H b = some o → H1 b = some o := fun b o hb e => by rw [← hH1, upd_ne hb]; exact e
  walk_at "go"
  refine r_dgK w1.w wk_time rfl ?_
  walk_at "go"
  refine r_dgK w1.w wk_asked rfl ?_
  walk_at "go"
  obtain ⟨ka, a1, a2, a3⟩ := w1.a
  refine r_dpK (k := .inl p) a1 (sz10' (by omega)) rfl ?_
  have w2 := w1.putA (p := p) a2 a3 (W2.time + 1)
  generalize hH2 : upd H1 A.a (.dK (putK ka (.inl p) (.int (W2.time + 1)))) = H2 at *
  have f2 : ∀ b o, b ≠ A.a → H1 b = some o → H2 b = some o := fun b o hb e => by rw [← hH2, upd_ne hb]; exact e
  walk_at "go"
  obtain ⟨ko, o1, o2, o3⟩ := w2.o
  refine r_dgK w2.w wk_often rfl ?_
  walk_at "go"
  refine r_dgK (k := .inl p) o1 (by rw [o2 p]; show (W2.often p).map V.int = some (.int t0); rw [ho]; rfl) rfl ?_
  walk_at "go"
  refine r_dgK w2.w wk_often rfl ?_
  walk_at "go"
  refine r_dpK (k := .inl p) o1 (sz10' (by omega)) rfl ?_
  have w3 := w2.putO (p := p) (t := t0 + 1) o2 (Nat.le_trans (length_putK _ _ _) (Nat.succ_le_succ o3))
  generalize hH3 : upd H2 A.o (.dK (putK ko (.inl p) (.int (t0 + 1)))) = H3 at *
  have f3 : ∀ b o, b ≠ A.o → H2 b = some o → H3 b = some o := fun b o hb e => by rw [← hH3, upd_ne hb]; exact e
  walk_at "go"
  refine r_dgK w3.w wk_marks rfl ?_
  walk_at "go"
  obtain ⟨km, m1, m2, m3⟩ := w3.m
  refine r_dpK (k := .inl p) m1 (sz10' (by omega)) rfl ?_
  have w4 := w3.putM (p := p) m2 m3 true
  generalize hH4 : upd H3 A.m (.dK (putK km (.inl p) (.bl true))) = H4 at *
  have f4 : ∀ b o, b ≠ A.m → H3 b = some o → H4 b = some o := fun b o hb e => by rw [← hH4, upd_ne hb]; exact e
  walk_at "go"
  refine r_newT szd fun t H5 nt s5 ht => ?_
  refine hq t H5 (fun b o h1 h2 h3 h4 h5 e => s5 _ _ (f4 _ _ h5 (f3 _ _ h4 (f2 _ _ h3 (f1 _ _ h1 e))))) ?_ ht
  have w5 := w4.same s5
  have e : noted W2 p W2.often = { W2 with time := W2.time + 1, asked := pset W2.asked p (W2.time + 1), often := pset W2.often p (t0 + 1), marks := pset W2.marks p true } := by
    unfold noted
    rw [ho]
    rfl
  rw [e]
  exact w5.grow (by omega)
theorem idxOf_first {l : List Int} {g : Int} (h : g ∈ l) : l[l.idxOf g]? = some g ∧ ∀ k, k < l.idxOf g → l[k]? ≠ some g := by
  induction l with
  | nil => cases h
  | cons a l ih =>
    by_cases e : a = g
    · subst e
      simp
    · have hg : g ∈ l := by
        rcases List.mem_cons.mp h with q | q
        · exact absurd q.symm e
        · exact q
      obtain ⟨h1, h2⟩ := ih hg
      have ei : (a :: l).idxOf g = l.idxOf g + 1 := by
        rw [List.idxOf_cons, beq_eq_false_iff_ne.mpr e]
        rfl
      rw [ei]
      refine ⟨by simpa using h1, fun k hk => ?_⟩
      cases k with
      | zero => simpa using e
      | succ k => simpa using h2 k (by omega)
theorem rd__law_ask (G : Glob) (vs : List V) (H : Hp) (Q : VK) (E : XK) (h : sp__law_ask G vs H Q E) : t__law_ask G { nx := fun _ H' => Q .non H', rt := Q } (start ["_law_w", "_law_page", "_law_pins", "_law_gone", "_law_was_held", "_law_k"] vs) H := by
  obtain ⟨A, r, size, n, W, p, pa, pins, rfl, wv, hp, h60, hn, dA, dO, dM, hck, q⟩ := h
  unfold t__law_ask
  walk_at "go"
  refine r_dgK wv.w wk_came rfl ?_
  refine r_inI (SqL.of wv.c) ?_
  walk_at "go"
  cases hc : W.came.contains p with
  | true =>
    refine iteF ?_
    refine r_next ?_
    have hm : p ∈ W.came := by simpa using hc
    obtain ⟨t0, ht0⟩ := dO p hm
    refine ask_tail (n := n) (G := G) (Q := Q) wv (by omega) ht0 fun t H' fr w' ht => ?_
    exact q _ _ A _ H' (.held hm) fr ⟨rfl, rfl, rfl, rfl, .inl rfl⟩ (w'.grow (by omega)) ⟨t, rfl, ht⟩
  | false =>
    have hm : p ∉ W.came := by simpa using hc
    refine iteT ?_
    walk_at "go"
    refine r_dgK wv.w wk_came rfl ?_
    walk_at "go"
    refine r_lenL (SqL.of wv.c) ?_
    walk_at "go"
    refine r_dgK wv.w wk_size rfl ?_
    walk_at "go"
    -- often's entry, and the end
    have rest : ∀ (A1 : WA) (W1 : CB.W) (H1 : Hp) (gv : V) (s2 s5 : Option V) (m : Nat) (D : Ends), m ≤ n → D.rt = Q → WV H1 A1 r size W1 m →
        (∀ t H', Frame A1 H1 H' → WV H' A1 r size (noted W1 p (pset W1.often p 0)) (n + 4) → H' t = some (.tup [.bl false, gv]) → Q (.ref t) H') →
        sDPut (tDGet (tVar 0) (tC (.str "often"))) (tVar 1) (tC (.int 0)) { D with nx := tAskEnd D } [some (.ref A1.w), some (.int p), s2, some gv, some (.bl false), s5] H1 := by
      intro A1 W1 H1 gv s2 s5 m D hmn hD w1 k
      obtain ⟨nx, rt, bk, ct⟩ := D
      subst hD
      walk_at "go"
      refine r_dgK w1.w wk_often rfl ?_
      walk_at "go"
      obtain ⟨ko, o1, o2, o3⟩ := w1.o
      refine r_dpK (k := .inl p) o1 (sz10' (by omega)) rfl ?_
      have w2 := w1.putO (p := p) (t := 0) o2 (Nat.le_trans (length_putK _ _ _) (Nat.succ_le_succ o3))
      refine ask_tail (G := G) (Q := rt) (n := m + 1) w2 (by omega) (t0 := 0) pset_same fun t H' fr w' ht => ?_
      refine k t H' (fun b o a1 a2 a3 a4 a5 e => fr b o a1 a2 a3 a4 a5 (by rw [upd_ne a4]; exact e)) ?_ ht
      have e : noted { W1 with often := pset W1.often p 0 } p (pset W1.often p 0) = noted W1 p (pset W1.often p 0) := rfl
      rw [← e]
      exact w'.grow (by omega)
    refine if_dt (fun c => ?_) (fun c => ?_)
    · have full : W.came.length = size := by rw [List.length_map] at c; omega
      walk_at "go"
      refine ⟨A, r, size, n, W, pa, pins, rfl, wv, hp, h60, by omega, dA, dO, dM, fun e h => hck e full h, fun hf H1 s1 => ?_, fun hf g W1 H1 hl fr1 w1 => ?_⟩
      · walk_at "go"
        refine if_dt (fun _ => ?_) (fun z => absurd rfl z)
        walk_at "go"
        exact q none _ A _ H1 (.stuck hm full hf) (fun b o _ _ _ _ _ e => s1 _ _ e) ⟨rfl, rfl, rfl, rfl, .inl rfl⟩ ((wv.same s1).grow (by omega)) rfl
      · obtain ⟨k1, k2, k3, k4, k5⟩ := hl.keeps
        walk_at "go"
        refine if_dt (fun z => by cases z) (fun _ => ?_)
        walk_at "go"
        refine r_dgK w1.w wk_came rfl ?_
        refine ⟨.inl ⟨rfl, _, .inl (.inl w1.c)⟩, ?_⟩
        walk_at "go"
        have hg1 : g ∈ W1.came := by rw [k1]; exact k5
        obtain ⟨i1, i2⟩ := idxOf_first hg1
        have ilt : W1.came.idxOf g < W1.came.length := (List.getElem?_eq_some_iff.mp i1).1
        refine r_indexI (SqL.of w1.c) i1 i2 ?_
        walk_at "go"
        refine r_dgK w1.w wk_rule rfl ?_
        walk_at "go"
        have fin : ∀ (A2 : WA) (H2 : Hp) (s2 s5 : Option V) (D : Ends), D.rt = Q → WNext A A2 H → Frame A H H2 → WV H2 A2 r size (comes r W1 (some g) p) n → (∀ b o, H b = some o → b ≠ A.c → b ≠ A2.c ∨ A2.c = A.c) →
            sDPut (tDGet (tVar 0) (tC (.str "often"))) (tVar 1) (tC (.int 0)) { D with nx := tAskEnd D } [some (.ref A.w), some (.int p), s2, some (.int g), some (.bl false), s5] H2 := by
          intro A2 H2 s2 s5 D hD hx fr2 w2 hne
          have e0 : A2.w = A.w := hx.w
          rw [← e0]
          refine rest A2 _ H2 (.int g) s2 s5 n D (Nat.le_refl _) hD w2 fun t H' fr w' ht => ?_
          have eo : (comes r W1 (some g) p).often = W1.often := by unfold comes; simp only; split <;> rfl
          rw [eo] at w'
          refine q _ _ A2 _ H' (.goes g W1 hm full hf hl) (fun b o a1 a2 a3 a4 a5 e => ?_) hx w' ⟨t, rfl, ht⟩
          have z := fr2 b o a1 a2 a3 a4 a5 e
          refine fr b o (by rw [hx.w]; exact a1) ?_ (by rw [hx.a]; exact a3) (by rw [hx.o]; exact a4) (by rw [hx.m]; exact a5) z
          rcases hne b o e a2 with z | z
          · exact z
          · rw [z]; exact a2
        refine if_dt (fun c2 => ?_) (fun c2 => ?_)
        · cases rs_inj (q := .clock) c2
          walk_at "go"
          refine r_dgK w1.w wk_came rfl ?_
          walk_at "go"
          refine r_setL w1.c (ixN_nat (by rw [List.length_map]; exact ilt)) ?_
          have w2 := w1.putC (W1.came.set (W1.came.idxOf g) p)
          have e2 : (W1.came.map V.int).set (W1.came.idxOf g) (V.int p) = (W1.came.set (W1.came.idxOf g) p).map V.int := by rw [List.map_set]
          rw [e2]
          generalize hH2 : upd H1 A.c (.lst ((W1.came.set (W1.came.idxOf g) p).map V.int)) = H2 at *
          walk_at "go"
          refine r_dgK w2.w wk_came rfl ?_
          walk_at "go"
          refine r_lenL (SqL.of w2.c) ?_
          walk_at "go"
          have e3 : ((W1.came.set (W1.came.idxOf g) p).map V.int).length = W1.came.length := by rw [List.length_map, List.length_set]
          refine r_kMod (by show (0 : Int) < ((((W1.came.set (W1.came.idxOf g) p).map V.int).length : Nat) : Int); rw [e3]; omega) ?_
          walk_at "go"
          refine r_dpK (k := .inr "hand") w2.w (sz10' (by show 8 < 100000; decide)) rfl ?_
          have e4 : (((W1.came.idxOf g : Nat) : Int) + 1) % ((((W1.came.set (W1.came.idxOf g) p).map V.int).length : Nat) : Int) = (((W1.came.idxOf g + 1) % W1.came.length : Nat) : Int) := by
            rw [e3, Int.natCast_emod]; rfl
          have e5 : (((W1.came.idxOf g : Nat) : Int) + 1) % ((((({ W1 with came := W1.came.set (W1.came.idxOf g) p } : CB.W).came).map V.int).length : Nat) : Int) = (((W1.came.idxOf g + 1) % W1.came.length : Nat) : Int) := e4
          rw [e5, wp_hand]
          have w3 := w2.putW (hand := (W1.came.idxOf g + 1) % W1.came.length) (time := W1.time)
          refine fin A _ _ _ _ rfl ⟨rfl, rfl, rfl, rfl, .inl rfl⟩ (fun b o a1 a2 a3 a4 a5 e => ?_) ?_ (fun _ _ _ _ => .inr rfl)
          · rw [upd_ne a1, ← hH2, upd_ne a2]
            exact fr1 b o a1 a5 e
          · have e6 : comes .clock W1 (some g) p = { W1 with came := W1.came.set (W1.came.idxOf g) p, hand := (W1.came.idxOf g + 1) % W1.came.length } := by
              unfold comes; rfl
            rw [e6]
            exact w3
        · have hrc : r ≠ .clock := fun z => c2 (by rw [z]; rfl)
          walk_at "go"
          refine r_dgK w1.w wk_came rfl ?_
          walk_at "go"
          refine ⟨A.c, _, rfl, SqL.of w1.c, fun p1 n1 => ?_⟩
          have sx1 : Same H1 (upd H1 p1 (.lst (cutV (W1.came.map V.int) none (some ((W1.came.idxOf g : Nat) : Int))))) := .new n1
          have e1 : cutV (W1.came.map V.int) none (some ((W1.came.idxOf g : Nat) : Int)) = (W1.came.take (W1.came.idxOf g)).map V.int := by
            rw [cutV_take (by rw [List.length_map]; omega), List.map_take]
          rw [e1] at sx1 ⊢
          generalize hH2 : upd H1 p1 (.lst ((W1.came.take (W1.came.idxOf g)).map V.int)) = H2 at *
          have hp1 : H2 p1 = some (.lst ((W1.came.take (W1.came.idxOf g)).map V.int)) := by rw [← hH2]; exact upd_same
          have w2 := w1.same sx1
          walk_at "go"
          refine r_dgK w2.w wk_came rfl ?_
          walk_at "go"
          refine ⟨A.c, _, rfl, SqL.of w2.c, fun p2 n2 => ?_⟩
          have ce : ((W1.came.idxOf g : Nat) : Int) + 1 = ((W1.came.idxOf g + 1 : Nat) : Int) := by omega
          have sx2 : Same H2 (upd H2 p2 (.lst (cutV (W1.came.map V.int) (some (((W1.came.idxOf g : Nat) : Int) + 1)) none))) := .new n2
          have e2 : cutV (W1.came.map V.int) (some (((W1.came.idxOf g : Nat) : Int) + 1)) none = (W1.came.drop (W1.came.idxOf g + 1)).map V.int := by
            rw [ce, cutV_drop (by rw [List.length_map]; omega), List.map_drop]
          rw [e2] at sx2 ⊢
          generalize hH3 : upd H2 p2 (.lst ((W1.came.drop (W1.came.idxOf g + 1)).map V.int)) = H3 at *
          have hp2 : H3 p2 = some (.lst ((W1.came.drop (W1.came.idxOf g + 1)).map V.int)) := by rw [← hH3]; exact upd_same
          have w3 := w2.same sx2
          have l60 : W1.came.length ≤ 60 := by rw [k1]; exact h60
          refine ⟨p1, p2, _, _, rfl, rfl, sx2 _ _ hp1, hp2, sz10 (by simp; omega), fun p3 n3 => ?_⟩
          have sx3 : Same H3 (upd H3 p3 (.lst ((W1.came.take (W1.came.idxOf g)).map V.int ++ (W1.came.drop (W1.came.idxOf g + 1)).map V.int))) := .new n3
          generalize hH4 : upd H3 p3 (.lst ((W1.came.take (W1.came.idxOf g)).map V.int ++ (W1.came.drop (W1.came.idxOf g + 1)).map V.int)) = H4 at *
          have hp3 : H4 p3 = some (.lst ((W1.came.take (W1.came.idxOf g)).map V.int ++ (W1.came.drop (W1.came.idxOf g + 1)).map V.int)) := by rw [← hH4]; exact upd_same
          have w4 := w3.same sx3
          walk_at "go"
          refine r_newL szd fun p4 H5 np4 sx4 hp4 => ?_
          have w5 := w4.same sx4
          refine ⟨p3, p4, _, _, rfl, rfl, sx4 _ _ hp3, hp4, sz10 (by simp; omega), fun p5 n5 => ?_⟩
          have sx5 : Same H5 (upd H5 p5 (.lst (((W1.came.take (W1.came.idxOf g)).map V.int ++ (W1.came.drop (W1.came.idxOf g + 1)).map V.int) ++ [V.int p]))) := .new n5
          have e5 : ((W1.came.take (W1.came.idxOf g)).map V.int ++ (W1.came.drop (W1.came.idxOf g + 1)).map V.int) ++ [V.int p] = (W1.came.take (W1.came.idxOf g) ++ W1.came.drop (W1.came.idxOf g + 1) ++ [p]).map V.int := by
            rw [List.map_append, List.map_append]; rfl
          rw [e5] at sx5 ⊢
          generalize hH6 : upd H5 p5 (.lst ((W1.came.take (W1.came.idxOf g) ++ W1.came.drop (W1.came.idxOf g + 1) ++ [p]).map V.int)) = H6 at *
          have hp5 : H6 p5 = some (.lst ((W1.came.take (W1.came.idxOf g) ++ W1.came.drop (W1.came.idxOf g + 1) ++ [p]).map V.int)) := by rw [← hH6]; exact upd_same
          have w6 := w5.same sx5
          walk_at "go"
          refine r_dpK (k := .inr "came") w6.w (sz10' (by show 8 < 100000; decide)) rfl ?_
          rw [wp_came]
          have w7 := w6.newC hp5
          have s16 : Same H1 H6 := (((sx1.trans sx2).trans sx3).trans sx4).trans sx5
          have n5' : H p5 = none := by
            have z1 : H1 p5 = none := (((sx1.trans sx2).trans sx3).trans sx4).free n5
            cases e : H p5 with
            | none => rfl
            | some o =>
              by_cases c3 : p5 = A.w
              · rw [c3, w1.w] at z1; cases z1
              · by_cases c4 : p5 = A.m
                · obtain ⟨km, m1, _⟩ := w1.m
                  rw [c4, m1] at z1; cases z1
                · rw [fr1 p5 o c3 c4 e] at z1; cases z1
          refine fin { A with c := p5 } _ _ _ _ rfl ⟨rfl, rfl, rfl, rfl, .inr n5'⟩ (fun b o a1 a2 a3 a4 a5 e => ?_) ?_ (fun b o e _ => .inl (ne_of_none e n5'))
          · rw [upd_ne a1]
            exact s16 _ _ (fr1 b o a1 a5 e)
          · have e6 : comes r W1 (some g) p = { W1 with came := W1.came.take (W1.came.idxOf g) ++ W1.came.drop (W1.came.idxOf g + 1) ++ [p] } := by
              unfold comes; simp only; rw [if_neg hrc]
            rw [e6]
            exact w7
    · have room : W.came.length ≠ size := fun z => c (by rw [List.length_map, z])
      walk_at "go"
      refine r_dgK wv.w wk_came rfl ?_
      refine ⟨.inl ⟨rfl, _, .inl (.inl wv.c)⟩, ?_⟩
      walk_at "go"
      refine r_append wv.c (sz10' (by rw [List.length_map]; omega)) ?_
      have e1 : W.came.map V.int ++ [V.int p] = (W.came ++ [p]).map V.int := by rw [List.map_append]; rfl
      rw [e1]
      have w1 := wv.putC (W.came ++ [p])
      refine rest A _ _ .non _ none n _ (Nat.le_refl _) rfl w1 fun t H' fr w' ht => ?_
      exact q _ _ A _ H' (.room hm room) (fun b o a1 a2 a3 a4 a5 e => fr b o a1 a2 a3 a4 a5 (by rw [upd_ne a2]; exact e)) ⟨rfl, rfl, rfl, rfl, .inl rfl⟩ w' ⟨t, rfl, ht⟩
end CB

/-! lambdas kept as values: with or without one default, by captured cells -/
namespace LmX
open PySem PySem.Spec PyProof.Rows L2 LamX NdefX
/-- a lambda's words -/
structure LF where
  qual : Str
  params : Arguments
  body : Expr
  scope : Scope
  cl : List (Str × Addr)
  dv : Value
  c : Addr
abbrev LF.fd (F : LF) (doc pm ctv : Value) : FuncData := PySem.W.kdv_fn "<lambda>" F.qual F.params (.expr F.body) F.scope F.cl F.dv doc pm (.ref F.c) ctv
abbrev LF.nf (F : LF) : NF := ⟨"<lambda>", F.qual, F.params, [], F.scope, F.cl, F.c⟩
def LmO (f : Addr) (F : LF) : HO := .ext fun h => ∃ (od : Option Addr) (sl : Array (Option Value)) (doc pm ctv : Value), h.get? f = some (⟨.type "function", od, .func (F.fd doc pm ctv), sl⟩ : Obj)
theorem lmO_at {P : Program} {w : World} {H : Hp} {h : Heap} {f : Addr} {F : LF} (ok : HOk P w H h) (e : H f = some (LmO f F)) : ∃ (od : Option Addr) (sl : Array (Option Value)) (doc pm ctv : Value), h.get? f = some (⟨.type "function", od, .func (F.fd doc pm ctv), sl⟩ : Obj) := (ok f _ e).1
/-- its defaults -/
def DfA (H : Hp) (dv : Value) (dl : List V) : Prop := (dl = [] ∧ dv = .none) ∨ (dl ≠ [] ∧ ∃ d, dv = .ref d ∧ H d = some (.tup dl))
/-- what is known of a lambda at f: its object, its code, its default -/
structure LmAt (H : Hp) (f : Addr) (F : LF) (dl : List V) : Prop where
  fn : H f = some (LmO f F)
  co : H F.c = some (CodeO F.c F.qual)
  df : DfA H F.dv dl
theorem LmAt.keeps {H H' : Hp} {f : Addr} {F : LF} {dl : List V} (a : LmAt H f F dl) (k : ∀ b o, H b = some o → H' b = some o) : LmAt H' f F dl :=
  ⟨k _ _ a.fn, k _ _ a.co, a.df.imp id fun ⟨n, d, e1, e2⟩ => ⟨n, d, e1, k _ _ e2⟩⟩
theorem codeO_not {c : Addr} {q : Str} (ps : Array Value) : CodeO c q ≠ .tbl ps := codeO_ne ps
theorem lmO_not {f : Addr} {F : LF} (ps : Array Value) : LmO f F ≠ .tbl ps := fun z => by
  unfold LmO at z
  cases z
theorem LmAt.ext {H H' : Hp} {f : Addr} {F : LF} {dl : List V} (a : LmAt H f F dl) (k : ExtN H H') : LmAt H' f F dl :=
  ⟨k _ _ a.fn lmO_not, k _ _ a.co codeO_not, a.df.imp id fun ⟨n, d, e1, e2⟩ => ⟨n, d, e1, k _ _ e2 fun ps z => by cases z⟩⟩
section
variable {X : Cx} {pins : List (Addr × Obj)} {σ : L2.St} {H : Hp} {s : Shared}
/-- a lambda's object, laid on top -/
theorem inv_lm {F : LF} {o : Obj} {t' : Nat} {doc pm ctv : Value} (J : Inv X pins σ H s) (eo : o = { cls := .type "function", data := .func (F.fd doc pm ctv) }) :
    Inv X pins σ (upd H s.heap.objs.size (LmO s.heap.objs.size F)) { s with heap := s.heap.push o, toks := t' } := by
  subst eo
  have e : (s.heap.push ({ cls := .type "function", data := .func (F.fd doc pm ctv) } : Obj)).get? s.heap.objs.size = some ({ cls := .type "function", data := .func (F.fd doc pm ctv) } : Obj) := Heap.get?_push_size _ rfl
  exact J.laid (fun b u e => Heap.get?_push_of_some _ e) (Nat.le_refl _) ⟨⟨none, #[], doc, pm, ctv, e⟩, ⟨_, e⟩, fun g1 g2 ⟨x1, x2, x3, x4, x5, x6⟩ st => ⟨x1, x2, x3, x4, x5, st _ x6⟩⟩
theorem lm_make {T : List (Addr × Str)} {c P : Addr} {params : Arguments} {body : Expr} {scope : Scope} {pos : Pos} {dV : Value} {E Q : Value → Shared → Prop} (J : Inv X pins σ H s) (B : TabB X.base X.mg c P) (ec : X.env.code = .ref c)
    (inT : (P, X.env.qual ++ "<lambda>") ∈ T) (one : ∀ p ∈ T, p.1 = P → p.2 = X.env.qual ++ "<lambda>") (tabs : Tabs T H) (fr : ∀ y ∈ scope.names, y.2 = .free → ∃ a, X.env.cells.lookup y.1 = some a)
    (go : ∀ (f c' : Addr) (H1 : Hp) (s' : Shared), Inv X pins σ H1 s' → ExtN H H1 → Tabs T H1 → H f = none →
      H1 f = some (LmO f ⟨X.env.qual ++ "<lambda>", params, body, scope, cloFrom X.env.cells scope.names [], dV, c'⟩) → H1 c' = some (CodeO c' (X.env.qual ++ "<lambda>")) → Q (.ref f) s') :
    wpAny (model X.prog X.w) X.A (makeTail "<lambda>" (X.env.qual ++ "<lambda>") params (.expr body) scope X.env dV .none none pos pos.line) Q E s := by
  obtain ⟨ps, hP, tr, am⟩ := tabs _ inT
  have gP : s.heap.get? P = some { cls := .none, data := .fields ps } := J.hok P _ hP
  have bP : s.heap.BuiltinsAt X.mg P := B.bm.keeps J.bk
  have clo := closure_ok fr
  cases hc : codeAmong pos ps.toList with
  | some cv =>
    obtain ⟨c', e, hco⟩ := am pos cv hc
    subst e
    refine PySem.W.kdv_makeTailHit clo J.ok.glob (J.mod.glob.keeps J.bk) ec (B.code.keeps J.bk) gP tr hc bP fun ctv doc h' tk kp sz => ?_
    have J1 : Inv X pins σ H { s with heap := h', toks := tk } := J.kept kp
    have nF : H h'.objs.size = none := J1.hok.fresh (Nat.le_refl _)
    have J2 := inv_lm (F := ⟨X.env.qual ++ "<lambda>", params, body, scope, cloFrom X.env.cells scope.names [], dV, c'⟩) (t' := tk) (doc := doc) (pm := (X.mg "__name__").getD .none) (ctv := ctv) J1 rfl
    exact go _ c' _ _ J2 (fun b o e n => (upd_ne (ne_of_none e nF)).trans e) (tabs.ext fun b o e => (upd_ne (ne_of_none e nF)).trans e) nF upd_same ((upd_ne (ne_of_none hco nF)).trans hco)
  | none =>
    refine PySem.W.kdv_makeTail clo J.ok.glob (J.mod.glob.keeps J.bk) ec (B.code.keeps J.bk) gP tr hc B.gP bP fun c' ctv doc h' tk kp ge lt rec_ tb => ?_
    obtain ⟨c2, oc, vs, tk2, e2, g1, g2, g3⟩ := rec_
    cases e2
    have nC : H c' = none := J.hok.fresh ge
    have J1 := inv_table (t' := tk) (more := #[rawInt pos.line, rawInt pos.col, .ref c']) (h' := h') J hP (fun b o hb e => kp b o hb e) tb ge ⟨oc, vs, tk2, g1, g2, g3⟩
    generalize eH : upd (upd H P (.tbl (ps ++ #[rawInt pos.line, rawInt pos.col, .ref c']))) c' (CodeO c' (X.env.qual ++ "<lambda>")) = H1 at J1
    have at_c : H1 c' = some (CodeO c' (X.env.qual ++ "<lambda>")) := by
      rw [← eH]
      exact upd_same
    have at_P : H1 P = some (.tbl (ps ++ #[rawInt pos.line, rawInt pos.col, .ref c'])) := by
      rw [← eH, upd_ne (ne_of_none hP nC), upd_same]
    have at_o : ∀ b, b ≠ P → b ≠ c' → H1 b = H b := fun b n1 n2 => by
      rw [← eH, upd_ne n2, upd_ne n1]
    have hE : ExtN H H1 := fun b o e n => by
      rw [at_o b (fun z => n ps (Option.some.inj (e.symm.trans (by rw [z]; exact hP)))) (ne_of_none e nC)]
      exact e
    have T1 : Tabs T H1 := fun p hp => by
      by_cases hb : p.1 = P
      · rw [one p hp hb, hb]
        have eL : (ps ++ #[rawInt pos.line, rawInt pos.col, .ref c']).toList = ps.toList ++ [rawInt pos.line, rawInt pos.col, .ref c'] := by simp
        refine ⟨_, at_P, by rw [eL]; exact PySem.TriplesOk_snoc _ _ _ _ tr, fun p' cv hcv => ?_⟩
        rw [eL] at hcv
        exact (among_app _ tr hcv).elim (fun z => let ⟨c0, e1, e2⟩ := am p' cv z; ⟨c0, e1, hE _ _ e2 codeO_ne⟩) fun z => ⟨c', z, at_c⟩
      · obtain ⟨qs, a1, a2, a3⟩ := tabs p hp
        have a4 : H1 p.1 = some (.tbl qs) := by
          rw [at_o _ hb (ne_of_none a1 nC)]
          exact a1
        exact ⟨qs, a4, a2, fun p' cv hcv => let ⟨c0, e1, e2⟩ := a3 p' cv hcv; ⟨c0, e1, hE _ _ e2 codeO_ne⟩⟩
    have nF := J1.hok.fresh (Nat.le_refl _)
    have nF0 : H h'.objs.size = none := J.hok.fresh (Nat.le_trans ge (Nat.le_of_lt lt))
    have J2 := inv_lm (F := ⟨X.env.qual ++ "<lambda>", params, body, scope, cloFrom X.env.cells scope.names [], dV, c'⟩) (t' := tk) (doc := doc) (pm := (X.mg "__name__").getD .none) (ctv := ctv) J1 rfl
    exact go _ c' _ _ J2 (fun b o e n => (upd_ne (ne_of_none (hE b o e n) nF)).trans (hE b o e n)) (T1.ext fun b o e => (upd_ne (ne_of_none e nF)).trans e) nF0 upd_same ((upd_ne (ne_of_none at_c nF)).trans at_c)
end
/-! ### the expressions -/
/-- lambda: e -/
def tLm (T : List (Addr × Str)) (mk : Value → Addr → LF) : TE := fun σ H Q => Tabs T H ∧ ∀ (f c' : Addr) (H1 : Hp), ExtN H H1 → Tabs T H1 → H f = none → LmAt H1 f (mk .none c') [] → Q (.ref f) H1
/-- lambda a=0: e -/
def tLmD (T : List (Addr × Str)) (z : Int) (mk : Value → Addr → LF) : TE := fun σ H Q => Tabs T H ∧ ∀ (f c' d : Addr) (H1 : Hp), ExtN H H1 → Tabs T H1 → H f = none → LmAt H1 f (mk (.ref d) c') [V.int z] → Q (.ref f) H1
/-- the words of a lambda that has a name of its own in the proof -/
def LF.of (q : Str) (params : Arguments) (body : Expr) (scope : Scope) (cl : List (Str × Addr)) (dv : Value) (c : Addr) : LF := ⟨q, params, body, scope, cl, dv, c⟩
section
variable {X : Cx}
theorem pe_lm {T : List (Addr × Str)} {c P : Addr} {params : Arguments} {body : Expr} {scope : Scope} {pos : Pos} (B : TabB X.base X.mg c P) (ec : X.env.code = .ref c) (inT : (P, X.env.qual ++ "<lambda>") ∈ T) (one : ∀ p ∈ T, p.1 = P → p.2 = X.env.qual ++ "<lambda>")
    (fr : ∀ y ∈ scope.names, y.2 = .free → X.env.scope.names.lookup y.1 = some .cell ∨ X.env.scope.names.lookup y.1 = some .free) (dfl : defaultsOf params X.env = ([], [])) :
    PE X (.Lambda params body scope pos) (tLm T (LF.of (X.env.qual ++ "<lambda>") params body scope (cloFrom X.env.cells scope.names []))) := by
  refine ⟨fun pins s σ H Q J h => ?_⟩
  obtain ⟨tabs, h⟩ := h
  refine PySem.W.kla_eval dfl ?_
  rw [makeFunction_eq]
  simp only [List.zip_nil_right, List.filterMap_nil, List.isEmpty_nil, if_true, pure_bind]
  exact lm_make J B ec inT one tabs (fun y hy e => (fr y hy e).elim (fun z => J.ok.has _ (.inl z)) fun z => J.ok.has _ (.inr z)) fun f c' H1 s' J1 e1 t1 n1 a1 a2 => ⟨.ref f, H1, J1, rfl, h f c' H1 e1 t1 n1 ⟨a1, a2, .inl ⟨rfl, rfl⟩⟩⟩
theorem pe_lmD {T : List (Addr × Str)} {c P : Addr} {params : Arguments} {body : Expr} {scope : Scope} {pos p1 : Pos} {z : Int} {j : Nat} (B : TabB X.base X.mg c P) (ec : X.env.code = .ref c) (inT : (P, X.env.qual ++ "<lambda>") ∈ T) (one : ∀ p ∈ T, p.1 = P → p.2 = X.env.qual ++ "<lambda>")
    (fr : ∀ y ∈ scope.names, y.2 = .free → X.env.scope.names.lookup y.1 = some .cell ∨ X.env.scope.names.lookup y.1 = some .free) (ed : params.defaults = [.Constant (.int z) j p1]) (ek : params.kw_defaults = []) :
    PE X (.Lambda params body scope pos) (tLmD T z (LF.of (X.env.qual ++ "<lambda>") params body scope (cloFrom X.env.cells scope.names []))) := by
  refine ⟨fun pins s σ H Q J h => ?_⟩
  obtain ⟨tabs, h⟩ := h
  refine PySem.W.kdv_lam (by rw [ed]; rfl) ek ?_
  rw [ed]
  refine PySem.W.kdv_all1 (thn ((pe_int (X := X) (i := z)).run pins s σ H (fun v H' => v = .int z ∧ H' = H) J ⟨rfl, rfl⟩) fun u s1 ⟨v, H1, J1, r1, q1, q2⟩ => ?_)
  subst q1
  rw [q2] at J1
  refine PySem.W.kdv_all0 ?_
  rw [makeFunction_eq]
  simp only [List.zip_nil_right, List.filterMap_nil, List.isEmpty_nil, if_true, pure_bind, List.isEmpty_cons, Bool.false_eq_true, if_false]
  refine wpAny_bind (wpAny_newTextTuple ?_)
  have nd : H s1.heap.objs.size = none := J1.hok.fresh (Nat.le_refl _)
  have J2 : Inv X pins σ (upd H s1.heap.objs.size (.tup [V.int z])) { s1 with heap := s1.heap.push { cls := .type "tuple", data := .seq [u].toArray }, toks := s1.toks } :=
    J1.laid (fun b u e => Heap.get?_push_of_some _ e) (Nat.le_refl _) ⟨by show 1 ≤ sizeLine; decide, [u], .cons r1 .nil, ⟨_, Heap.get?_push_size _ rfl, rfl, _, rfl⟩⟩
  have ex : ∀ b o, H b = some o → upd H s1.heap.objs.size (.tup [V.int z]) b = some o := fun b o e => (upd_ne (ne_of_none e nd)).trans e
  refine lm_make J2 B ec inT one (tabs.ext ex) (fun y hy e => (fr y hy e).elim (fun z => J.ok.has _ (.inl z)) fun z => J.ok.has _ (.inr z)) fun f c' H1 s' J3 e1 t1 n1 a1 a2 => ⟨.ref f, H1, J3, rfl, h f c' s1.heap.objs.size H1 ((ExtN.of ex).trans e1) t1 (upd_none n1) ⟨a1, a2, .inr ⟨by simp, _, rfl, e1 _ _ upd_same (fun ps z => by cases z)⟩⟩⟩
end
/-! ### the calls -/
/-- the promise of the lambda F: sp ws, ws what its cells hold at the call -/
structure LOk (P : Program) (w : World) (K : PySem.W.Frag) (mg : Str → Option Value) (base : Heap) (CX : CXT) (k : Nat) (F : LF) (dl : List V) (fr : List Str) (sp : List (Option V) → Hp → VK → XK → Prop) : Prop where
  run : ∀ (f : Addr) (A : Around) (outer : List Env) (s : Shared) (H : Hp) (ws : List (Option V)) (Q : VK) (E : XK), Room k A → Env0 P w K mg base A outer s H → LmAt H f F dl → CellsAt F.cl fr ws s.heap H → sp ws H Q E →
    codeAny (model P w) A (.call (.ref f) ⟨[], []⟩) (CR CX outer P w H s Q E) s
theorem lok_of {CX : CXT} {P : Program} {w : World} {K : PySem.W.Frag} {mg : Str → Option Value} {base : Heap} {N ps fr : List Str} {F : LF} {dl : List V} {k : Nat} {sp : List (Option V) → Hp → VK → XK → Prop} (S : NScope N ps fr F.scope) (hl : dl.length = ps.length)
    (hb0 : dl = [] → ∀ doc pm ctv : Value, F.dv = .none → bindArgs (F.fd doc pm ctv) ⟨[], []⟩ = pure [])
    (hb1 : dl ≠ [] → ∀ (d : Addr) (u doc pm ctv : Value), F.dv = .ref d → ∃ g, bindArgs (F.fd doc pm ctv) ⟨[], []⟩ = seqItems? (.ref d) >>= g ∧ ∀ us : List Value, us.length = dl.length → g (some us.toArray) = pure (ps.zip us))
    (body : ∀ (f : Addr) (A : Around) (outer : List Env) (s : Shared) (H : Hp) (ws : List (Option V)) (Q : VK) (E : XK), Room k (A.deeper (envF F.nf f s.heap.objs.size)) → ws.length = fr.length → sp ws H Q E →
      ∃ t, PE (ncx CX P w K mg base N F.nf f A outer s H E) F.body t ∧ t (startF N dl ws) H Q) : LOk P w K mg base CX (k + 1) F dl fr sp := by
  refine ⟨fun f A outer s H ws Q E hr e0 at_ C hsp => ?_⟩
  have lim : s.heap.NoLimit := e0.mod.nolimit.keeps fun b o e => (e0.bs b o e).1
  obtain ⟨od, sl, doc, pm, ctv, ho⟩ := lmO_at e0.hok at_.fn
  obtain ⟨us, hus, hbind⟩ : ∃ us, Vals dl us ∧ BindsTo s (F.fd doc pm ctv) ⟨[], []⟩ (ps.zip us) := by
    rcases at_.df with ⟨e1, e2⟩ | ⟨ne, d, e1, e2⟩
    · refine ⟨[], by rw [e1]; exact .nil, ?_⟩
      have e3 : ps.zip ([] : List Value) = [] := List.zip_nil_right
      rw [e3]
      exact .of_eq (hb0 e1 doc pm ctv e2)
    · obtain ⟨_, its, r, o, h1, h2, n, h3⟩ := e0.hok d _ e2
      obtain ⟨g, g1, g2⟩ := hb1 ne d .none doc pm ctv e1
      exact ⟨its, r, BindsTo.of_defaults (T := d) e1 h1 h3 (by rw [show (F.fd doc pm ctv).defaults = F.dv from rfl, e1]; exact g1) (g2 its r.length.symm)⟩
  refine PySem.W.kla_callFunE (fd := F.fd doc pm ctv) (body := F.body) hr.depth ho rfl S.co S.gen rfl (codeO_at e0.hok at_.co) (hbind _ _ _ _ ?_)
  refine wpAny_newFunctionEnv S.nocell (fun ⟨n, _⟩ hy => S.par n (List.of_mem_zip hy).1) (fun h₁ hns hsb => ⟨lim.fresh _ hsb, ?_⟩) S.kind
  show codeAny _ _ (.expr F.body (envF F.nf f s.heap.objs.size)) _ _
  have kp : ∀ b o, s.heap.get? b = some o → h₁.get? b = some o := fun b o e => hsb.extBut b o (Nat.ne_of_lt (Heap.lt_size e)) (Heap.get?_push_of_some _ e)
  obtain ⟨t, ht, hq⟩ := body f A outer s H ws Q E (hr.deeper _) C.len hsp
  have J : Inv (ncx CX P w K mg base N F.nf f A outer s H E) [] (startF N dl ws) H { s with heap := h₁, toks := s.toks + (ps.zip us).length } := inv_startN S hr.hd e0 hl hus C hns kp
  refine PySem.W.kla_codeExpr (wpAny_mono (ht.run [] _ (startF N dl ws) H _ J hq) (fun v s' hs => ?_) fun e s' hs => hs)
  obtain ⟨w', H', J', rv, q⟩ := hs
  exact ⟨w', H', J'.os, J'.bare, J'.base, J'.hok, rv, q⟩
/-- what the cells hold they hold still, behind whatever ran since -/
theorem CellsAt.moved {cl : List (Str × Addr)} {fr : List Str} {ws : List (Option V)} {fs ex : List Addr} {H H' : Hp} {h h' : Heap} (C : CellsAt cl fr ws h H) (u : Un fs ex H H' h h') (out : ∀ y c, cl.lookup y = some c → c ∉ ex) : CellsAt cl fr ws h' H' := by
  have kp : ∀ y c, cl.lookup y = some c → ∀ v, h.IsCell c v → h'.IsCell c v := fun y c e v ⟨o, g1, g2⟩ =>
    let ⟨sl, q⟩ := u.any g1 (C.all y c e).1 (out y c e)
    ⟨_, q, g2⟩
  refine ⟨C.len, fun y c e => ?_, C.inj, fun i y e => ?_⟩
  · obtain ⟨n, v, z⟩ := C.all y c e
    have z' := kp y c e v z
    obtain ⟨o, g1, _⟩ := z
    exact ⟨u.free c o g1 n (out y c e), v, z'⟩
  · obtain ⟨c, hc, hv⟩ := C.has i y e
    exact ⟨c, hc, fun v ev => let ⟨x, r, z⟩ := hv v ev; ⟨x, r, kp y c hc _ z⟩⟩
section
variable {X : Cx}
/-- a(), a the slot i that holds the lambda; the cells are told of the heap at the def's entry; what it raises is told to W -/
theorem pe_lmcall {F : LF} {dl : List V} {fr : List Str} {ws : List (Option V)} {sp : List (Option V) → Hp → VK → XK → Prop} {f : Addr} {j k i : Nat} {a : Str} {W : WX} {p1 p2 : Pos} (L : LOk X.prog X.w X.K X.mg X.base (L2.CX X.prog X.w) k F dl fr sp) (hr : Room j X.A) (hk : k ≤ j) (tk : Takes X W)
    (C : CellsAt F.cl fr ws X.s_0.heap X.H_0) (hex : X.ex = []) (hN : X.N[i]? = some a) (hv : Vis X.env.scope a) (hd : (a == ("__debug__" : Str)) = false := by decide) (hcd : (a == ("__classdict__" : Str)) = false := by decide) :
    PE X (.Call (.Name a p1) [] [] p2) (fun σ H Q => σ[i]? = some (some (.ref f)) ∧ LmAt H f F dl ∧ sp ws H Q fun cls d H' => W cls d σ H') := by
  refine ⟨fun pins s σ H Q I h => ?_⟩
  obtain ⟨hs, at_, q⟩ := h
  refine wpAny_Call_Name_kw (thn ((pe_var (pos := p1) hN hv hd hcd).run pins s σ H (fun v H1 => v = .ref f ∧ H1 = H) I ⟨.ref f, hs, rfl, rfl⟩) fun u s1 ⟨v, H1, I1, r1, q1⟩ => ?_)
  obtain ⟨ev, eH⟩ := q1
  subst ev
  rw [eH] at I1
  obtain rfl : u = Value.ref f := r1
  obtain ⟨od, sl, doc, pm, ctv, ho⟩ := lmO_at I1.hok at_.fn
  refine PySem.W.callWith_F0 ⟨_, od, _, sl, ho⟩ ?_
  refine wpAny_call (codeAny_mono (L.run f X.A X.stack s1 H ws Q _ (hr.mono hk) I1.env0 at_ (CellsAt.moved C I1.base fun y c e => by rw [hex]; simp) q) fun r s' hq => ?_)
  cases r with
  | error e => exact tk e s' (XE.of_call I1 (fun cls d H' x => x) hq)
  | ok fl =>
    cases fl with
    | ret u => exact I1.after hq
    | next => exact False.elim hq
    | brk => exact False.elim hq
    | cont => exact False.elim hq
end
end LmX

/-! a comprehension whose element is told what stood when its block began -/
namespace LmX
open PySem PySem.Spec PyProof.Rows L2 LamX NdefX
/-- the reading: the element's one knows the slots of the def that holds the comprehension -/
def tLcAt (wi : TI) (g : TG) (te : L2.St → TE) (vs : List Nat) : TE := fun σ H Q => tLc wi g tYes (te σ) vs σ H Q
section
variable {X : Cx}
/-- the block's own context -/
abbrev blkAt (X : Cx) (s : Shared) (H : Hp) (sc : Scope) (fp : List Addr) : Cx := X.blk s H sc (compEnvC sc (cellsFrom (s.heap.objs.size + 1) sc.names (cloFrom X.env.cells sc.names [])) s.heap.objs.size X.env) fp
structure ElAt (X : Cx) (elt : Expr) (sc : Scope) (te : L2.St → TE) : Prop where
  run : ∀ (pins : List (Addr × Obj)) (σ : L2.St) (s : Shared) (H : Hp) (fp : List Addr), Inv X pins σ H s → (∀ b ∈ fp, FpOk X pins H b) → PE (blkAt X s H sc fp) elt (te σ)
theorem pe_lcAt {elt tg iter : Expr} {sc : Scope} {own : List (Str × Nat)} {pos : Pos} {wi : TI} {g : TG} {te : L2.St → TE} (calm : X.calm = true) (nd : X.N.Nodup) (hi : PI X tg iter wi) (ok : BlkOk X.N X.env.scope sc own)
    (hg : ∀ (s : Shared) (H : Hp) (fp : List Addr), PG (blkAt X s H sc fp) tg g) (he : ElAt X elt sc te) (hs : ∀ x, foldedSetIterable iter X.env x = pure x := by intro _; rfl) :
    PE X (.ListComp elt [⟨tg, iter, [], 0⟩] sc pos) (tLcAt wi g te (own.map (·.2))) := by
  refine ⟨fun pins s σ H Q J h => ?_⟩
  rw [eval_ListComp]
  have look : ∀ y ∈ sc.names, y.2 = .free → ∃ a, X.env.cells.lookup y.1 = some a := fun y hy e => J.ok.has _ (ok.free y hy e)
  refine wpAny_comprehension_free (use := none) rfl hs (closure_ok look) ok.kind (fun y hy e => (ok.uniq y hy).trans (congrArg some e)) ?_
  refine thn (hi.run pins s σ H _ J h) fun xv sA hA => thn hA fun itv sB hB => ?_
  obtain ⟨it, fp, tn, T, HB, rfl, JB, tu, tB, fB, plan⟩ := hB
  refine wpAny_newObj_type (newEnv_comp ?_) (by show 0 ≤ sizeLine; decide)
  -- the list is there
  have nD : HB sB.heap.objs.size = none := JB.hok.fresh (Nat.le_refl _)
  obtain ⟨W, ⟨m0, w0⟩, turn⟩ := plan _ nD
  have JC : Inv X pins σ (upd HB sB.heap.objs.size (.lst [])) { sB with heap := sB.heap.push { cls := .type "list", data := .seq ([] : List Value).toArray } } :=
    JB.laid (t' := sB.toks) (fun b o e => Heap.get?_push_of_some _ e) (Nat.le_refl _) ⟨Nat.zero_le _, [], 0, .nil, Heap.get?_push_size _ rfl⟩
  have fC : ∀ b ∈ fp, FpOk X pins (upd HB sB.heap.objs.size (.lst [])) b ∧ b < (sB.heap.push { cls := .type "list", data := .seq ([] : List Value).toArray }).objs.size := fun b hb => by
    obtain ⟨o, eo, _⟩ := tu.obj _ _ tB b hb
    have lt := Heap.lt_size eo
    refine ⟨⟨(upd_ne (Nat.ne_of_lt lt)).trans (fB b hb).1, (fB b hb).2⟩, ?_⟩
    rw [Heap.size_push]
    exact Nat.lt_succ_of_lt lt
  have tC : tn 0 (sB.heap.push { cls := .type "list", data := .seq ([] : List Value).toArray }) := tu.keep _ _ _ tB fun b _ o e => Heap.get?_push_of_some _ e
  generalize eC : ({ sB with heap := sB.heap.push { cls := .type "list", data := .seq ([] : List Value).toArray } } : Shared) = sC at JC
  have hC : sB.heap.push { cls := .type "list", data := .seq ([] : List Value).toArray } = sC.heap := by rw [← eC]
  have atC : ({ sB with heap := sB.heap.push { cls := .type "list", data := .seq #[] } } : Shared) = sC := by rw [← eC]
  rw [hC] at fC tC
  generalize sB.heap.objs.size = Dl at *
  generalize upd HB Dl (.lst []) = HC at JC fC w0
  have pe : PE (X.blk sC HC sc (compEnvC sc (cellsFrom (sC.heap.objs.size + 1) sc.names (cloFrom X.env.cells sc.names [])) sC.heap.objs.size X.env) fp) elt (te σ) := he.run pins σ sC HC fp JC fun b hb => (fC b hb).1
  have pg : PG (X.blk sC HC sc (compEnvC sc (cellsFrom (sC.heap.objs.size + 1) sc.names (cloFrom X.env.cells sc.names [])) sC.heap.objs.size X.env) fp) tg g := hg sC HC fp
  have J0 := block_start JC ok nd fC
  -- the block
  generalize eB : compEnvC sc (cellsFrom (sC.heap.objs.size + 1) sc.names (cloFrom X.env.cells sc.names [])) sC.heap.objs.size X.env = be at pe pg J0
  have lB : be.locals = sC.heap.objs.size := by rw [← eB]; rfl
  have tS : tn 0 ({ sC with heap := pushCells (sC.heap.push { cls := .type "dict", data := .dict #[] }) sc.names } : Shared).heap := tu.keep _ _ _ tC fun b _ o e => pushCells_keeps _ _ _ _ (Heap.get?_push_of_some _ e)
  suffices go : codeAny (model X.prog X.w) X.A (.compLoop (.ListComp elt [⟨tg, iter, [], 0⟩] sc pos) 0 (.ref it) (.ref Dl) be) (compPost (model X.prog X.w) X.A X.xe none (EP X pins σ Q) (.ref Dl) sC.heap.objs.size) { sC with heap := pushCells (sC.heap.push { cls := .type "dict", data := .dict #[] }) sc.names } by
    have r := codeAny_compStart_list go (tu.self X.A 0 _ _ _ tS go)
    rw [← eB] at r
    exact r
  generalize ({ sC with heap := pushCells (sC.heap.push { cls := .type "dict", data := .dict #[] }) sc.names } : Shared) = sS at J0 tS ⊢
  have own_fp : ∀ {τ : L2.St} {H' : Hp} {s' : Shared}, Inv (X.blk sC HC sc be fp) [] τ H' s' → (∀ b ∈ fp, H' b = none) → ∀ b ∈ fp, FpOk (X.blk sC HC sc be fp) [] H' b := fun {τ H' s'} K n b hb => by
    have x1 := K.ok.exf b hb
    have x2 := K.ok.exfs b hb
    exact ⟨n b hb, x1.1, x2, .inl hb, x1.2, fun p hp => nomatch (show p ∈ ([] : List (Addr × Obj)) from hp)⟩
  refine compLoop_any (fun n s' => ∃ i H', (Inv (X.blk sC HC sc be fp) [] (wipe σ (own.map (·.2))) H' s' ∧ W i n H') ∧ tn i s'.heap ∧ ∀ b ∈ fp, H' b = none) (fun n s1 hI => ?_) m0 ⟨0, HC, ⟨J0, w0⟩, tS, fun b hb => (fC b hb).1.1⟩
  obtain ⟨i, H1, ⟨J1, w1⟩, t1, n1⟩ := hI
  have f1 := own_fp J1 n1
  rcases turn i n H1 w1 with ⟨stop, fin⟩ | ⟨more, Nx, less, step⟩
  · refine thnF (tu.done (X.blk sC HC sc be fp) rfl rfl rfl calm i [] s1 _ H1 (fun _ _ => False) J1 f1 t1 stop) fun r s2 ⟨er, J2⟩ => ?_
    rw [er]
    have J3 : Inv X pins σ H1 s2 := JC.call' (ch := fp) J2.os J2.base J2.hok J2.bare fun b hb => by
      obtain ⟨_, a2, _, a4, a5, a6⟩ := (fC b hb).1
      exact ⟨a4, a2, a5, a6⟩
    obtain ⟨m, ns, _⟩ := J2.loc
    have ns' : s2.heap.Ns sC.heap.objs.size m := by
      rw [← lB]
      exact ns
    have gone : H1 sC.heap.objs.size = none := by
      rw [← lB]
      exact J2.free
    obtain ⟨y0, y1, y2, y3, y4, y5⟩ := JC.fpOk (Nat.le_refl _) gone
    exact ⟨m, ns', fun h'' sb => ⟨.ref Dl, H1, J3.turned (t' := s2.toks) (fun b o hb e => (sb.2 b hb).trans e) y0 y1 y3 y4 y5, rfl, fin⟩⟩
  · refine thnF (tu.item (X.blk sC HC sc be fp) rfl rfl rfl calm i [] s1 _ H1 (fun _ _ => False) J1 f1 t1 more) fun r s2 ⟨u, er, h2⟩ => ?_
    rw [er]
    refine thnF h2 fun _ s3 ⟨x, H3, J3, r3, y3, t3, n3⟩ => ?_
    have o3 := tu.obj _ _ t3
    refine thnF (pg.run _ s3 _ H3 x u _ (J3.pinned (own_fp J3 n3) o3) r3 (step x H3 y3)) fun _ s4 ⟨τ, H4, J4, e4, q4⟩ => ?_
    refine thnF ((pts_nil (X := X.blk sC HC sc be fp)).run _ s4 τ H4 _ J4 q4) fun b s5 ⟨H5, J5, q5⟩ => ?_
    have turned : ∀ (s7 : Shared) (H7 : Hp), Inv (X.blk sC HC sc be fp) ([] ++ pinsAt fp s3.heap) τ H7 s7 → Nx H7 → ∃ m, m < n ∧ ∃ i H', (Inv (X.blk sC HC sc be fp) [] (wipe σ (own.map (·.2))) H' s7 ∧ W i m H') ∧ tn i s7.heap ∧ ∀ b ∈ fp, H' b = none := fun s7 H7 J7 nx => by
      obtain ⟨m', lt, w7⟩ := less _ nx
      have pin7 : ∀ b ∈ fp, ∀ o, s3.heap.get? b = some o → s7.heap.get? b = some o ∧ H7 b = none := fun b hb o e => by
        have z := J7.pin (b, o) (List.mem_append_right _ (List.mem_append_right _ (mem_pinsAt hb e)))
        exact ⟨z.1, z.2.1⟩
      refine ⟨m', lt, i + 1, _, ⟨(J7.unpinned (pins := [])).weak (by rw [← e4, wipe_length]) fun j v' e => ?_, w7⟩, tu.keep _ _ _ t3 fun b hb o e => (pin7 b hb o e).1, fun b hb => ?_⟩
      · rw [← e4] at e
        exact (wipe_some e).1
      · obtain ⟨o, e, _⟩ := o3 b hb
        exact (pin7 b hb o e).2
    cases b with
    | false => exact turned _ _ J5 q5
    | true =>
      rw [if_pos rfl] at q5 ⊢
      refine thnF (pe.run _ s5 τ H5 _ J5 q5) fun z s6 ⟨v, H6, J6, r6, acc, d6, l6, nx⟩ => ?_
      exact app_ok (X := X.blk sC HC sc be fp) J6 d6 l6 r6 fun s7 J7 => turned _ _ J7 nx
end
end LmX

/-! what the law makes of a refusal: its kind -/
namespace CB
open PySem PySem.Spec PyProof.Rows L2
local macro_rules | `(tactic| walk_at "s1") => `(tactic| (with_reducible first
  | refine r_seq ?_ | refine r_next ?_ | refine r_asg ?_ | refine r_gname ?_ | refine r_ret ?_ | refine r_retN ?_ | refine r_drop ?_ | refine r_ifs ?_ | refine r_c ?_ | refine r_op ?_ | refine r_nil ?_ | refine r_cons ?_
  | refine r_tup ?_ | refine r_lst ?_ | refine r_test ?_ | refine r_tB ?_ | refine r_tru ?_ | refine r_exbl ?_ | refine r_tint ?_ | refine r_and ?_ | refine r_or ?_ | refine r_not ?_ | refine r_notV ?_ | refine r_andV ?_ | refine r_orV ?_ | refine r_ifE ?_ | refine r_call ?_ | refine r_CB ?_
  | refine r_kAdd ?_ | refine r_kSub ?_ | refine r_kLt ?_ | refine r_kLe ?_ | refine r_kGt ?_ | refine r_kGe ?_ | refine r_eqI ?_ | refine r_neI ?_ | refine r_eqS ?_ | refine r_isN ?_ | refine r_notN ?_
  | refine r_gcons ?_ | refine r_gnil ?_ | refine r_gsub ?_ | refine r_BM ?_ | refine r_sl ?_ | refine r_nopart ?_ | refine r_part ?_ | refine r_exint ?_ | refine r_par ?_ | refine r_par2 ?_ | refine r_chain ?_
  | refine r_dget ?_ | refine r_dput ?_ | refine iteT ?_ | refine r_for ?_ | refine r_iEnumT ?_ | refine r_iTup ?_ | refine r_iList ?_ | refine r_rng1 ?_ | refine r_rng2 ?_ | refine r_lc ?_ | refine r_gtup2 ?_ | refine r_yes ?_ | refine iteF ?_ | refine r_var (by with_unfolding_all rfl) ?_))
local macro_rules | `(tactic| walk_at "go") => `(tactic| (repeat (walk_at "s1")))


section
variable {X : Cx}
/-- l.count(x), truth values -/
def rCntB (K : PySem.W.Frag) : V → List V → Hp → VK → Prop := fun x xs H Q => ∃ (p : Addr) (bs : List Bool) (b : Bool), x = .ref p ∧ xs = [.bl b] ∧ SqL K H p (bs.map V.bl) ∧ Q (.int ((bs.countP fun y => decide (y = b) : Nat) : Int)) H
theorem holdB {h : Heap} : ∀ {bs : List Bool} {its : List Value}, Vals (bs.map V.bl) its → PySem.W.HoldAll h its bs
  | [], [], _ => .nil
  | b :: bs, u :: its, r => by
    cases r with
    | cons r1 r2 =>
      obtain rfl : u = Value.bool b := r1
      exact .cons (PySem.W.holds_bool b) (holdB r2)
theorem mt_countB (hu : X.A.units + 1 < cLine) : MtR X "list.count" (rCntB X.K) := by
  intro pins s σ H x xs v us Q I rx rxs h
  obtain ⟨p, bs, b, rfl, rfl, hs, q⟩ := h
  cases rx
  obtain ⟨u, rfl, ru⟩ := rxs.one
  obtain rfl : u = Value.bool b := ru
  obtain ⟨its, rv, hl, _⟩ := I.list hs
  refine PySem.W.count_list_datum (α := Bool) (xs := bs) (x := b) hl.isList (by simpa using holdB rv) (PySem.W.holds_bool b) hu ?_
  exact ⟨.int _, H, I.tok _, ⟨_, rfl⟩, q⟩
abbrev rSplit : V → List V → Hp → VK → Prop := fun x xs H Q => ∃ a b, x = .str a ∧ xs = [.str b] ∧ (b.length == 0) = false ∧ a.length + 2 ≤ sizeLine ∧ rNewStrs (Txt.split a b) H Q
/-- what is never asked -/
def tNvE : TE := fun _ _ _ => False
theorem pe_never {e : Expr} : PE X e tNvE := ⟨fun _ _ _ _ _ _ h => h.elim⟩
end
/-- the statements of the one except clause of a body that is a try -/
def suiteOf : List Stmt → List Stmt
  | [.Try _ [.ExceptHandler _ _ su _] _ _ _] => su
  | _ => []
/-- the kinds of refusals, in the law's turn -/
def errs : List Str := ["BadRule", "BadSize", "BadStream", "BadCosts", "BadCount", "BadPage", "NoRoom", "BadName", "NoPoint", "BadPaper", "BadText"]
/-- the classes as they stand; R: those that may be raised here -/
structure ErrG (K : PySem.W.Frag) (mg : Str → Option Value) (ea : Str → Addr) (R : List Str) : Prop where
  mg_ : ∀ x ∈ errs, mg x = some (.ref (ea x))
  top : mg "CacheError" = some (.ref (ea "CacheError"))
  nV : mg "ValueError" = none
  sub : ∀ r ∈ R, r ∈ errs
  kit : ∀ r ∈ R, ∀ x ∈ errs, PySem.W.kitOne K (.ref (ea r)) (.ref (ea x)) = some (decide (r = x))
  val : ∀ r ∈ R, PySem.W.kitOne K (.ref (ea r)) (.type "ValueError") = some true
  exm : ∀ r ∈ R, PySem.W.exmOne K (.ref (ea r)) (.ref (ea "CacheError")) = some true
  exc : ∀ r ∈ R, ExcC K (ea r)
def t_suite (G : Glob) (ea : Str → Addr) (D a : Addr) : TS := (tSeq (tAsg (tLst (tCons (tCB (rIsE G.K D a) (tCons (tVar 1) (tCons (tC (.ref (ea "BadRule"))) tNil))) (tCons (tCB (rIsE G.K D a) (tCons (tVar 1) (tCons (tC (.ref (ea "BadSize"))) tNil))) (tCons (tCB (rIsE G.K D a) (tCons (tVar 1) (tCons (tC (.ref (ea "BadStream"))) tNil))) (tCons (tCB (rIsE G.K D a) (tCons (tVar 1) (tCons (tC (.ref (ea "BadCosts"))) tNil))) tNil))))) (gName 2))
    (tSeq (tAsg (tOp rCat (tVar 2) (tLst (tCons (tCB (rIsE G.K D a) (tCons (tVar 1) (tCons (tC (.ref (ea "BadCount"))) tNil))) (tCons (tCB (rIsE G.K D a) (tCons (tVar 1) (tCons (tC (.ref (ea "BadPage"))) tNil))) (tCons (tCB (rIsE G.K D a) (tCons (tVar 1) (tCons (tC (.ref (ea "NoRoom"))) tNil))) tNil))))) (gName 2))
    (tSeq (tAsg (tOp rCat (tVar 2) (tLst (tCons (tCB (rIsE G.K D a) (tCons (tVar 1) (tCons (tC (.ref (ea "BadName"))) tNil))) (tCons (tCB (rIsE G.K D a) (tCons (tVar 1) (tCons (tC (.ref (ea "NoPoint"))) tNil))) (tCons (tCB (rIsE G.K D a) (tCons (tVar 1) (tCons (tC (.ref (ea "BadPaper"))) tNil))) tNil))))) (gName 2))
    (tSeq (tDrop (tBM G.K "list" rAppend (tVar 2) (tCons (tCB (rIsE G.K D a) (tCons (tVar 1) (tCons (tC (.ref (ea "BadText"))) tNil))) tNil)))
    (tSeq (tAsg (tC (.str "BadRule BadSize BadStream BadCosts BadCount BadPage NoRoom BadName NoPoint BadPaper BadText")) (gName 3))
    (tSeq (tIfS (tOr (tTest (tOp kNe (tBM G.K "list" (rCntB G.K) (tVar 2) (tCons (tC (.bl true)) tNil)) (tC (.int 1)))) (tNot (tB (tCB (rIsE G.K D a) (tCons (tVar 1) (tCons (tC (.ty "ValueError")) tNil)))))) (tRet (tC (.str "other"))) tNext)
    (tSeq (tAsg (tOp (rIxL G.K) (tBM G.K "str" rSplit (tVar 3) (tCons (tC (.str " ")) tNil)) (tBM G.K "list" (rIndex G.K) (tVar 2) (tCons (tC (.bl true)) tNil))) (gName 4))
    (tSeq (tIfS (tTest (tOp kEq (tVar 4) (tC (.str "BadStream")))) (tRet (tTup (tCons (tVar 4) (tCons tNvE tNil)))) tNext)
    (tRet (tIf (tTest (tOp kEq (tVar 4) (tC (.str "BadText")))) (tTup (tCons (tVar 4) (tCons tNvE tNil))) (tVar 4)))))))))))
/-- one of the questions -/
theorem r_isE {K : PySem.W.Frag} {mg : Str → Option Value} {ea : Str → Addr} {R : List Str} {r x : Str} {a : Addr} {H : Hp} {Q : VK} (eg : ErrG K mg ea R) (hr : r ∈ R) (hx : x ∈ errs) (h : Q (.bl (decide (r = x))) H) : rIsE K (ea r) a [.ref a, .ref (ea x)] H Q :=
  ⟨.ref (ea x), .ref (ea x), _, rfl, fun _ e => e, eg.kit r hr x hx, h⟩
theorem r_isV {K : PySem.W.Frag} {mg : Str → Option Value} {ea : Str → Addr} {R : List Str} {r : Str} {a : Addr} {H : Hp} {Q : VK} (eg : ErrG K mg ea R) (hr : r ∈ R) (h : Q (.bl true) H) : rIsE K (ea r) a [.ref a, .ty "ValueError"] H Q :=
  ⟨.ty "ValueError", .type "ValueError", _, rfl, fun _ e => e, eg.val r hr, h⟩
def bitsOf (r : Str) : List Bool := errs.map fun x => decide (r = x)
theorem bits_count : ∀ r ∈ errs, (bitsOf r).countP (fun y => decide (y = true)) = 1 := by decide +kernel
theorem bits_at : ∀ r ∈ errs, (bitsOf r)[errs.idxOf r]? = some true := by decide +kernel
theorem bits_no : ∀ r ∈ errs, ∀ m, m < errs.idxOf r → (bitsOf r)[m]? = some false := by decide +kernel
theorem errs_at : ∀ r ∈ errs, errs[errs.idxOf r]? = some r := by decide +kernel
theorem words_errs : Txt.split "BadRule BadSize BadStream BadCosts BadCount BadPage NoRoom BadName NoPoint BadPaper BadText" " " = errs := by decide +kernel
theorem r_catL {H : Hp} {Q : VK} {l b : Addr} {xs zs : List V} (h1 : H l = some (.lst xs)) (h2 : H b = some (.lst zs)) (hz : xs.length + zs.length ≤ 100000) (h : ∀ p H', H p = none → Same H H' → H' p = some (.lst (xs ++ zs)) → Q (.ref p) H') : rCat (.ref l) (.ref b) H Q :=
  ⟨l, b, xs, zs, rfl, rfl, h1, h2, sz10 hz, fun p hp => h p _ hp (.new hp) upd_same⟩
theorem flat_bits : ∀ bs : List Bool, (bs.map V.bl).all flatV = true
  | [] => rfl
  | _ :: bs => flat_bits bs
theorem rd_suite (G : Glob) {mg : Str → Option Value} {ea : Str → Addr} {R : List Str} {r : Str} {a : Addr} {H : Hp} {D : Ends} {z : V} (eg : ErrG G.K mg ea R) (hr : r ∈ R) (n1 : r ≠ "BadStream") (n2 : r ≠ "BadText") (q : ∀ H', Same H H' → D.rt (.str r) H') :
    t_suite G ea (ea r) a D [some z, some (.ref a), none, none, none] H := by
  have he := eg.sub r hr
  unfold t_suite
  walk_at "go"
  refine r_isE eg hr (by decide) ?_
  walk_at "go"
  refine r_isE eg hr (by decide) ?_
  walk_at "go"
  refine r_isE eg hr (by decide) ?_
  walk_at "go"
  refine r_isE eg hr (by decide) ?_
  walk_at "go"
  refine r_newL szd fun p1 H1 np1 s1 hp1 => ?_
  walk_at "go"
  refine r_isE eg hr (by decide) ?_
  walk_at "go"
  refine r_isE eg hr (by decide) ?_
  walk_at "go"
  refine r_isE eg hr (by decide) ?_
  walk_at "go"
  refine r_newL szd fun p2 H2 np2 s2 hp2 => ?_
  refine r_catL (s2 _ _ hp1) hp2 szd fun p3 H3 np3 s3 hp3 => ?_
  walk_at "go"
  refine r_isE eg hr (by decide) ?_
  walk_at "go"
  refine r_isE eg hr (by decide) ?_
  walk_at "go"
  refine r_isE eg hr (by decide) ?_
  walk_at "go"
  refine r_newL szd fun p4 H4 np4 s4 hp4 => ?_
  refine r_catL (s4 _ _ hp3) hp4 szd fun p5 H5 np5 s5 hp5 => ?_
  walk_at "go"
  refine ⟨.inl ⟨rfl, _, SqL.of hp5⟩, ?_⟩
  walk_at "go"
  refine r_isE eg hr (by decide) ?_
  walk_at "go"
  refine r_append hp5 (sz10' (Nat.le_of_ble_eq_true rfl)) ?_
  have sm : Same H H5 := fun b o e => s5 _ _ (s4 _ _ (s3 _ _ (s2 _ _ (s1 _ _ e))))
  have n5 : H p5 = none := by
    cases e : H p5 with
    | none => rfl
    | some u =>
      rw [s4 _ _ (s3 _ _ (s2 _ _ (s1 _ _ e)))] at np5
      cases np5
  generalize eH : upd H5 p5 _ = H6
  have hp6 : H6 p5 = some (.lst ((bitsOf r).map V.bl)) := by
    rw [← eH]
    exact upd_same
  have sm6 : Same H H6 := by
    rw [← eH]
    exact sm.mut n5
  walk_at "go"
  refine ⟨.inl ⟨rfl, _, SqL.of hp6⟩, ?_⟩
  walk_at "go"
  refine ⟨p5, bitsOf r, true, rfl, rfl, SqL.of hp6, ?_⟩
  rw [bits_count r he]
  walk_at "go"
  rw [if_neg (by decide)]
  walk_at "go"
  refine r_isV eg hr ?_
  walk_at "go"
  rw [if_neg (by decide)]
  walk_at "go"
  refine ⟨rfl, ?_⟩
  walk_at "go"
  refine ⟨_, _, rfl, rfl, by decide, sz10 (Nat.le_of_ble_eq_true rfl), ?_⟩
  rw [words_errs]
  intro p7 np7
  have hq7 : (upd H6 p7 (.lst (errs.map V.str))) p7 = some (.lst (errs.map V.str)) := upd_same
  have sm7 : Same H (upd H6 p7 (.lst (errs.map V.str))) := sm6.new' np7
  have hp7 : (upd H6 p7 (.lst (errs.map V.str))) p5 = some (.lst ((bitsOf r).map V.bl)) := (Same.new np7) _ _ hp6
  generalize upd H6 p7 (.lst (errs.map V.str)) = H7 at hq7 sm7 hp7
  walk_at "go"
  refine ⟨.inl ⟨rfl, _, SqL.of hp7⟩, ?_⟩
  walk_at "go"
  refine ⟨p5, (bitsOf r).map V.bl, .bl true, errs.idxOf r, .bl true, rfl, rfl, SqL.of hp7, rfl, flat_bits _, by rw [List.getElem?_map, bits_at r he]; rfl, rfl, fun m z' hm hz => ?_, ?_⟩
  · rw [List.getElem?_map, bits_no r he m hm] at hz
    obtain rfl := Option.some.inj hz
    rfl
  refine r_ixL (SqL.of hq7) (atI_nat (by rw [List.getElem?_map, errs_at r he]; rfl)) ?_
  walk_at "go"
  refine if_dt (fun e => (n1 e).elim) fun _ => ?_
  walk_at "go"
  refine if_dt (fun e => (n2 e).elim) fun _ => ?_
  walk_at "go"
  exact q H7 sm7
end CB

namespace CB
open PySem PySem.Spec PyProof.Rows L2
local macro_rules | `(tactic| walk_at "s1") => `(tactic| (with_reducible first
  | refine r_seq ?_ | refine r_next ?_ | refine r_asg ?_ | refine r_gname ?_ | refine r_ret ?_ | refine r_retN ?_ | refine r_drop ?_ | refine r_ifs ?_ | refine r_c ?_ | refine r_op ?_ | refine r_nil ?_ | refine r_cons ?_
  | refine r_tup ?_ | refine r_lst ?_ | refine r_test ?_ | refine r_tB ?_ | refine r_tru ?_ | refine r_exbl ?_ | refine r_tint ?_ | refine r_and ?_ | refine r_or ?_ | refine r_not ?_ | refine r_notV ?_ | refine r_andV ?_ | refine r_orV ?_ | refine r_ifE ?_ | refine r_call ?_ | refine r_CB ?_
  | refine r_kAdd ?_ | refine r_kSub ?_ | refine r_kLt ?_ | refine r_kLe ?_ | refine r_kGt ?_ | refine r_kGe ?_ | refine r_eqI ?_ | refine r_neI ?_ | refine r_eqS ?_ | refine r_isN ?_ | refine r_notN ?_
  | refine r_gcons ?_ | refine r_gnil ?_ | refine r_gsub ?_ | refine r_BM ?_ | refine r_sl ?_ | refine r_nopart ?_ | refine r_part ?_ | refine r_exint ?_ | refine r_par ?_ | refine r_par2 ?_ | refine r_chain ?_
  | refine r_dget ?_ | refine r_dput ?_ | refine iteT ?_ | refine r_for ?_ | refine r_iEnumT ?_ | refine r_iTup ?_ | refine r_iList ?_ | refine r_rng1 ?_ | refine r_rng2 ?_ | refine r_lc ?_ | refine r_gtup2 ?_ | refine r_yes ?_ | refine iteF ?_ | refine r_var (by with_unfolding_all rfl) ?_))
local macro_rules | `(tactic| walk_at "go") => `(tactic| (repeat (walk_at "s1")))


/-- a refusal's class, as the program raises it -/
structure XF (K : PySem.W.Frag) (mg : Str → Option Value) (n : Str) (c : Addr) : Prop where
  x : PySem.W.excIn K c [.type "ValueError", .type "Exception", .type "BaseException", .type "object"] "ValueError.__new__" = true
  g : mg n = some (.ref c)
  k : PySem.W.keepIn K (.ref c) = true
  b : PySem.W.subIn K (.ref c) (.type "BaseException") = some true
  t : PySem.W.typeIn K (.ref c) = some (.type "type")
/-- raise X(e) -/
def tRs (ta : TE) (c : Addr) (E : XK) : TS := fun _ σ H => ta σ H fun _ H1 => E (.ref c) none H1
theorem ps_rs {X : Cx} {x : Str} {C : Addr} {e : Expr} {ta : TE} {E : XK} {p pos pos2 : Pos} (xf : XF X.K X.mg x C) (hc : X.calm = true) (tk : Takes X (fun cls d _ H => E cls d H)) (hg : Gl X x) (he : PE X e ta)
    (hs : starEach [e] X.env = (false, eval e X.env) :: starEach [] X.env := by rfl) (hdb : (x == ("__debug__" : Str)) = false := by decide) : PS X (.Raise (some (.Call (.Name x p) [e] [] pos)) none pos2) (tRs ta C E) :=
  ps_raise hc tk (SkE.pmk_own1 PySem.F.excBase_ValueError xf.x xf.g xf.k (raises_own xf.b xf.t) hg he hs hdb)
/-- f'..' -/
def tFS (ts : List TE) : TE := fun σ H Q => tJs ts Str.empty σ H fun out H1 => Q (.str out) H1
/-- what may be handed in where a number is due -/
inductive NumV : V → Prop
  | non : NumV .non
  | bl (b : Bool) : NumV (.bl b)
  | int (n : Int) : NumV (.int n)
def numIn : V → Int → Int → Bool
  | .int n, lo, hi => decide (lo ≤ n) && decide (n ≤ hi)
  | _, _, _ => false
def sp_is_number (G : Glob) : Sp := fun vs H Q _ => ∃ (x : V) (lo hi : Int), vs = [x, .int lo, .int hi] ∧ NumV x ∧ Q (.bl (numIn x lo hi)) H
def rulesV : List V := [.str "came", .str "used", .str "last", .str "high", .str "often", .str "clock"]
def sp_check_rule (G : Glob) (ea : Str → Addr) : Sp := fun vs H Q E => ∃ (x : Str), vs = [.str x] ∧ (∀ H, SqT G.K H G.aRULES rulesV) ∧ ((∃ r : Rule, x = r.s) → Q .non H) ∧ ((∀ r : Rule, x ≠ r.s) → E (.ref (ea "BadRule")) none H)
def sp_check_size (G : Glob) (ea : Str → Addr) : Sp := fun vs H Q E => ∃ (x : V), vs = [x] ∧ NumV x ∧ (numIn x 1 6 = true → Q .non H) ∧ (numIn x 1 6 = false → E (.ref (ea "BadSize")) none H)
def sp_check_count (G : Glob) (ea : Str → Addr) : Sp := fun vs H Q E => ∃ (x : V) (lo hi : Nat), vs = [x, .int (lo : Int), .int (hi : Int)] ∧ NumV x ∧ lo < 100 ∧ hi < 100 ∧ (numIn x lo hi = true → Q .non H) ∧ (numIn x lo hi = false → E (.ref (ea "BadCount")) none H)
def sp_least_not_held (G : Glob) : Sp := fun vs H Q _ => ∃ (a : Addr) (ps : List Int), vs = [.ref a] ∧ SqT G.K H a (ps.map V.int) ∧ ps.length ≤ 100 ∧ ∀ k : Nat, IsLeast ps k → Q (.int (k : Int)) H
/-- the first stream that r misses throughout -/
def CruelOf (r : Rule) (s n : Nat) (st : List Int) : Prop := ∃ l h, Cr r s n l h st
def sp_cruel (G : Glob) (ea : Str → Addr) : Sp := fun vs H Q E => ∃ (x : Str) (vs_ vp vl : V), vs = [.str x, vs_, vp, vl] ∧ (∀ H, SqT G.K H G.aRULES rulesV) ∧ (∃ b, (∀ H, SqT G.K H G.aEMPTY [.ref b, .int 0]) ∧ ∀ H, SqT G.K H b []) ∧ NumV vs_ ∧ NumV vp ∧ NumV vl ∧
  ((∀ r : Rule, x ≠ r.s) → E (.ref (ea "BadRule")) none H) ∧ ((∃ r : Rule, x = r.s) → numIn vs_ 1 6 = false → E (.ref (ea "BadSize")) none H) ∧
  ∀ (r : Rule) (s : Nat), x = r.s → vs_ = .int (s : Int) → 1 ≤ s → s ≤ 6 → (numIn vp (s + 1 : Nat) 10 = false ∨ (numIn vl 0 60 = false) → E (.ref (ea "BadCount")) none H) ∧
    ∀ n : Nat, numIn vp (s + 1 : Nat) 10 = true → vl = .int (n : Int) → n ≤ 60 → ∀ a H' st, Same H H' → CruelOf r s n st → H' a = some (.tup (st.map V.int)) → Q (.ref a) H'
def t_is_number (G : Glob) : TS := (tSeq (tIfS (tOr (tB (tCB (rIsi G.K) (tCons (tVar 0) (tCons (tC (.ty "bool")) tNil)))) (tNot (tB (tCB (rIsi G.K) (tCons (tVar 0) (tCons (tC (.ty "int")) tNil)))))) (tRet (tC (.bl false))) tNext)
    (tRet (tChain kLe kLe (tVar 1) (tVar 0) (tVar 2))))
def t_check_rule (G : Glob) (ea : Str → Addr) (E : XK) : TS := (tIfS (tTest (tOp (kNotIn G.K) (tVar 0) (tC (.ref G.aRULES)))) (tRs (tC (.str "no such rule")) (ea "BadRule") E) tNext)
def t_check_size (G : Glob) (ea : Str → Addr) (E : XK) : TS := (tIfS (tNot (tB (tCall (sp_is_number G) [] E0 (tCons (tVar 0) (tCons (tC (.int 1)) (tCons (tC (.int 6)) tNil)))))) (tRs (tFS ((tC (.str "a size is a number from 1 to ")) :: ((tFmt (tC (.int 6))) :: []))) (ea "BadSize") E) tNext)
def t_check_count (G : Glob) (ea : Str → Addr) (E : XK) : TS := (tIfS (tNot (tB (tCall (sp_is_number G) [] E0 (tCons (tVar 0) (tCons (tVar 1) (tCons (tVar 2) tNil)))))) (tRs (tFS ((tC (.str "not a number from ")) :: ((tFmt (tVar 1)) :: ((tC (.str " to ")) :: ((tFmt (tVar 2)) :: []))))) (ea "BadCount") E) tNext)
def t_least_not_held (G : Glob) : TS := (tSeq (tAsg (tC (.int 0)) (gName 1))
    (tSeq (tWhile (tTest (tOp (kIn G.K) (tVar 1) (tVar 0))) (tAug 1 (tC (.int 1)) (ipI fun i j => i + j)))
    (tRet (tVar 1))))
def t_cruel (G : Glob) (ea : Str → Addr) (E : XK) : TS := (tSeq (tDrop (tCall (sp_check_rule G ea) [] E (tCons (tVar 0) tNil)))
    (tSeq (tDrop (tCall (sp_check_size G ea) [] E (tCons (tVar 1) tNil)))
    (tSeq (tDrop (tCall (sp_check_count G ea) [] E (tCons (tVar 2) (tCons (tOp kAdd (tVar 1) (tC (.int 1))) (tCons (tC (.int 10)) tNil)))))
    (tSeq (tDrop (tCall (sp_check_count G ea) [] E (tCons (tVar 3) (tCons (tC (.int 0)) (tCons (tC (.int 60)) tNil)))))
    (tSeq (tAsg (tC (.ref G.aEMPTY)) (gName 4))
    (tSeq (tAsg (tLst tNil) (gName 5))
    (tSeq (tFor (iRng1 (tCons (tVar 3) tNil)) (gName 6) (tSeq (tAsg (tCall (sp_least_not_held G) [] E0 (tCons (tCall (sp_pages_held G) [] E0 (tCons (tVar 4) tNil)) tNil)) (gName 7))
    (tSeq (tDrop (tBM G.K "list" rAppend (tVar 5) (tCons (tVar 7) tNil)))
    (tAsg (tOp (rIxT G.K) (tCall (sp_step G) [] E0 (tCons (tVar 0) (tCons (tVar 1) (tCons (tVar 4) (tCons (tVar 7) tNil))))) (tC (.int 2))) (gName 4)))))
    (tRet (tCB (bTuple G.K) (tCons (tVar 5) tNil))))))))))

theorem len_is_number (G : Glob) (vs : List V) (H : Hp) (Q : VK) (E : XK) (h : sp_is_number G vs H Q E) : vs.length = 3 := by
  obtain ⟨_, _, _, rfl, _⟩ := h
  rfl
theorem kt_nb {K : PySem.W.Frag} : PySem.W.kitOne K (.type "NoneType") (.type "bool") = some false := by kernel_rfl
theorem kt_ni {K : PySem.W.Frag} : PySem.W.kitOne K (.type "NoneType") (.type "int") = some false := by kernel_rfl
theorem kt_bb {K : PySem.W.Frag} : PySem.W.kitOne K (.type "bool") (.type "bool") = some true := by kernel_rfl
theorem kt_bi {K : PySem.W.Frag} : PySem.W.kitOne K (.type "bool") (.type "int") = some true := by kernel_rfl
theorem kt_ib {K : PySem.W.Frag} : PySem.W.kitOne K (.type "int") (.type "bool") = some false := by kernel_rfl
theorem kt_ii {K : PySem.W.Frag} : PySem.W.kitOne K (.type "int") (.type "int") = some true := by kernel_rfl
theorem r_isi {K : PySem.W.Frag} {H : Hp} {Q : VK} {x c : V} {t u : Value} {b : Bool} (hc : ClsV c u) (ht : TyX K H x t) (hk : PySem.W.kitOne K t u = some b) (h : Q (.bl b) H) : rIsi K [x, c] H Q := ⟨x, c, t, u, b, rfl, hc, ht, hk, h⟩
theorem rd_is_number (G : Glob) (vs : List V) (H : Hp) (Q : VK) (E : XK) (h : sp_is_number G vs H Q E) : t_is_number G { nx := fun _ H' => Q .non H', rt := Q } (start ["value", "low", "high"] vs) H := by
  obtain ⟨x, lo, hi, rfl, hx, q⟩ := h
  unfold t_is_number
  walk_at "go"
  cases hx with
  | non =>
    refine r_isi (b := false) (.ty "bool") (.base .non) kt_nb ?_
    walk_at "go"
    refine r_isi (b := false) (.ty "int") (.base .non) kt_ni ?_
    walk_at "go"
    exact q
  | bl b =>
    refine r_isi (b := true) (.ty "bool") (.base (.bl b)) kt_bb ?_
    walk_at "go"
    exact q
  | int n =>
    refine r_isi (b := false) (.ty "bool") (.base (.int n)) kt_ib ?_
    walk_at "go"
    refine r_isi (b := true) (.ty "int") (.base (.int n)) kt_ii ?_
    walk_at "go"
    have q : Q (.bl (decide (lo ≤ n) && decide (n ≤ hi))) H := q
    rw [if_neg (by decide)]
    walk_at "go"
    by_cases c1 : lo ≤ n
    · rw [decide_eq_true c1] at q ⊢
      rw [if_pos rfl]
      walk_at "go"
      exact q
    · rw [decide_eq_false c1] at q ⊢
      rw [if_neg Bool.false_ne_true]
      exact q
theorem len_check_rule (G : Glob) (ea : Str → Addr) (vs : List V) (H : Hp) (Q : VK) (E : XK) (h : sp_check_rule G ea vs H Q E) : vs.length = 1 := by
  obtain ⟨_, rfl, _⟩ := h
  rfl
theorem in_rules (r : Rule) : inV (.str r.s) rulesV = true := by
  cases r <;> decide +kernel
theorem not_rules {x : Str} (h : ∀ r : Rule, x ≠ r.s) : inV (.str x) rulesV = false := by
  have h1 := h .came
  have h2 := h .used
  have h3 := h .last
  have h4 := h .high
  have h5 := h .often
  have h6 := h .clock
  unfold inV
  rw [List.any_eq_false]
  intro y hy
  have e : y = .str "came" ∨ y = .str "used" ∨ y = .str "last" ∨ y = .str "high" ∨ y = .str "often" ∨ y = .str "clock" := by
    unfold rulesV at hy
    simpa using hy
  have ne : ∀ z : Str, x ≠ z → ¬ eqV (.str z) (.str x) = true := fun z hz q => hz ((beq_iff_eq.mp (show (z == x) = true from q)).symm)
  rcases e with rfl | rfl | rfl | rfl | rfl | rfl
  · exact ne _ h1
  · exact ne _ h2
  · exact ne _ h3
  · exact ne _ h4
  · exact ne _ h5
  · exact ne _ h6
theorem r_rs {ta : TE} {c : Addr} {E : XK} {D : Ends} {σ : L2.St} {H : Hp} (h : ta σ H fun _ H1 => E (.ref c) none H1) : tRs ta c E D σ H := h
theorem rule_or (x : Str) : (∃ r : Rule, x = r.s) ∨ ∀ r : Rule, x ≠ r.s := by
  by_cases h : ∃ r : Rule, x = r.s
  · exact .inl h
  · exact .inr fun r e => h ⟨r, e⟩
theorem rd_check_rule (G : Glob) (ea : Str → Addr) (vs : List V) (H : Hp) (Q : VK) (E : XK) (h : sp_check_rule G ea vs H Q E) : t_check_rule G ea E { nx := fun _ H' => Q .non H', rt := Q } (start ["rule"] vs) H := by
  obtain ⟨x, rfl, hR, q1, q2⟩ := h
  unfold t_check_rule
  walk_at "go"
  refine ⟨G.aRULES, rulesV, rfl, .inr (hR H), rfl, by decide, ?_⟩
  rw [if_pos rfl]
  rcases rule_or x with ⟨r, rfl⟩ | c
  · rw [in_rules r]
    walk_at "go"
    exact q1 ⟨r, rfl⟩
  · rw [not_rules c]
    walk_at "go"
    exact q2 c
theorem len_check_size (G : Glob) (ea : Str → Addr) (vs : List V) (H : Hp) (Q : VK) (E : XK) (h : sp_check_size G ea vs H Q E) : vs.length = 1 := by
  obtain ⟨_, rfl, _⟩ := h
  rfl
theorem num_len : ∀ n : Nat, n < 100 → (Str.ofString (toString (n : Int))).length ≤ 2 := by decide +kernel
theorem num_log {n : Nat} (h : n < 100) : ((n : Int)).natAbs.log2 < 1920 := by
  have e : ((n : Int)).natAbs = n := by omega
  rw [e]
  by_cases c : n = 0
  · rw [c]; decide
  · exact Nat.lt_of_le_of_lt (Nat.log2_le_self n) (by omega)
theorem r_rsF {ts : List TE} {c : Addr} {E : XK} {D : Ends} {σ : L2.St} {H : Hp} (h : tJs ts Str.empty σ H fun _ H1 => E (.ref c) none H1) : tRs (tFS ts) c E D σ H := h
theorem r_fs {ts : List TE} {σ : L2.St} {H : Hp} {Q : VK} (h : tJs ts Str.empty σ H fun out H1 => Q (.str out) H1) : tFS ts σ H Q := h
theorem r_jC {x : Str} {ts : List TE} {acc : Str} {σ : L2.St} {H : Hp} {Q : Str → Hp → Prop} (hl : (acc ++ x).length ≤ 100000) (h : tJs ts (acc ++ x) σ H Q) : tJs (tC (.str x) :: ts) acc σ H Q := ⟨x, rfl, sz10 hl, h⟩
theorem r_jN {te : TE} {n : Nat} {ts : List TE} {acc : Str} {σ : L2.St} {H : Hp} {Q : Str → Hp → Prop} (hn : n < 100) (ht : ∀ R : VK, R (.int (n : Int)) H → te σ H R) (hl : acc.length + 2 ≤ 100000) (h : tJs ts (acc ++ Str.ofString (toString (n : Int))) σ H Q) : tJs (tFmt te :: ts) acc σ H Q := by
  refine ht _ (.inr ⟨(n : Int), rfl, num_log hn, Str.ofString (toString (n : Int)), rfl, sz10 ?_, h⟩)
  rw [Str.length_append]
  have := num_len n hn
  omega
theorem r_jE {acc : Str} {σ : L2.St} {H : Hp} {Q : Str → Hp → Prop} (h : Q acc H) : tJs [] acc σ H Q := h
theorem rd_check_size (G : Glob) (ea : Str → Addr) (vs : List V) (H : Hp) (Q : VK) (E : XK) (h : sp_check_size G ea vs H Q E) : t_check_size G ea E { nx := fun _ H' => Q .non H', rt := Q } (start ["size"] vs) H := by
  obtain ⟨x, rfl, hx, q1, q2⟩ := h
  unfold t_check_size
  walk_at "go"
  refine ⟨x, 1, 6, rfl, hx, ?_⟩
  cases c : numIn x 1 6 with
  | true =>
    walk_at "go"
    exact q1 c
  | false =>
    walk_at "go"
    rw [if_pos (by decide)]
    refine r_rsF ?_
    refine r_jC (by decide) ?_
    refine r_jN (n := 6) (by decide) (fun R h => h) (by decide) ?_
    exact q2 c
theorem len_check_count (G : Glob) (ea : Str → Addr) (vs : List V) (H : Hp) (Q : VK) (E : XK) (h : sp_check_count G ea vs H Q E) : vs.length = 3 := by
  obtain ⟨_, _, _, rfl, _⟩ := h
  rfl
theorem rd_check_count (G : Glob) (ea : Str → Addr) (vs : List V) (H : Hp) (Q : VK) (E : XK) (h : sp_check_count G ea vs H Q E) : t_check_count G ea E { nx := fun _ H' => Q .non H', rt := Q } (start ["count", "low", "high"] vs) H := by
  obtain ⟨x, lo, hi, rfl, hx, l1, l2, q1, q2⟩ := h
  unfold t_check_count
  walk_at "go"
  refine ⟨x, lo, hi, rfl, hx, ?_⟩
  cases c : numIn x lo hi with
  | true =>
    walk_at "go"
    exact q1 c
  | false =>
    walk_at "go"
    have n1 := num_len lo l1
    rw [if_pos (by decide)]
    refine r_rsF ?_
    refine r_jC (by decide) ?_
    refine r_jN (n := lo) l1 (fun R h => ⟨_, rfl, h⟩) (by decide) ?_
    refine r_jC ?_ ?_
    rotate_left
    refine r_jN (n := hi) l2 (fun R h => ⟨_, rfl, h⟩) ?_ (q2 c)
    rotate_left
    · rw [Str.length_append, Str.length_append]
      exact Nat.le_trans (Nat.add_le_add_right (Nat.add_le_add_left n1 _) _) (by decide)
    · rw [Str.length_append, Str.length_append]
      exact Nat.le_trans (Nat.add_le_add_right (Nat.add_le_add_right (Nat.add_le_add_left n1 _) _) _) (by decide)
theorem len_least_not_held (G : Glob) (vs : List V) (H : Hp) (Q : VK) (E : XK) (h : sp_least_not_held G vs H Q E) : vs.length = 1 := by
  obtain ⟨_, _, rfl, _⟩ := h
  rfl
theorem rd_least_not_held (G : Glob) (vs : List V) (H : Hp) (Q : VK) (E : XK) (h : sp_least_not_held G vs H Q E) : t_least_not_held G { nx := fun _ H' => Q .non H', rt := Q } (start ["held", "page"] vs) H := by
  obtain ⟨a, ps, rfl, ha, hl, q⟩ := h
  obtain ⟨k0, k1, k2⟩ := least_is ps
  unfold t_least_not_held
  walk_at "go"
  refine r_while (fun m σ H' => H' = H ∧ ∃ k : Nat, m = k0 - k ∧ k ≤ k0 ∧ σ = [some (.ref a), some (.int (k : Int))] ∧ ∀ j : Nat, j < k → (j : Int) ∈ ps) k0 ?_ ?_
  · exact ⟨rfl, 0, rfl, Nat.zero_le _, rfl, fun j hj => absurd hj (Nat.not_lt_zero _)⟩
  rintro m σ H' ⟨e1, k, e2, hk, e3, all⟩
  subst e1 e2 e3
  walk_at "go"
  refine ⟨a, ps.map V.int, rfl, .inr ha, rfl, flat_ints ps, ?_⟩
  rw [inV_ints]
  cases c : ps.contains (k : Int) with
  | false =>
    refine ⟨false, rfl, ?_⟩
    rw [if_neg Bool.false_ne_true]
    walk_at "go"
    exact q k ⟨fun z => by (rw [List.contains_iff_mem.mpr z] at c; cases c), all⟩
  | true =>
    have hm : (k : Int) ∈ ps := List.contains_iff_mem.mp c
    have lt : k < k0 := by
      rcases Nat.lt_or_ge k k0 with z | z
      · exact z
      · have e : k = k0 := Nat.le_antisymm hk z
        rw [e] at hm
        exact absurd hm k2.1
    refine ⟨true, rfl, ?_⟩
    rw [if_pos rfl]
    refine ⟨fun σ' H2 => H2 = H' ∧ σ' = [some (.ref a), some (.int ((k + 1 : Nat) : Int))], ?_, ?_⟩
    · rintro σ' H2 ⟨z1, z2⟩
      exact ⟨k0 - (k + 1), by omega, z1, k + 1, rfl, lt, z2, fun j hj => by
        by_cases e : j = k
        · rw [e]; exact hm
        · exact all j (by omega)⟩
    · exact ⟨_, rfl, _, _, rfl, rfl, rfl, rfl⟩
section
variable {K : PySem.W.Frag} {H : Hp} {x v : V} {xs : List V} {l : List Row} {p : Row} {h : Nat} {L : Addr} {ys : List V} {o : HO}
theorem StV.updL (hL : H L = some (.lst ys)) (s : StV K H v l h) : StV K (upd H L o) v l h := by
  obtain ⟨a, x, e1, e2, b, zs, e3, e4, e5, e6⟩ := s
  exact ⟨a, x, e1, sqT_upd hL e2, b, zs, e3, sqT_upd hL e4, Paired.mapP e5 fun u q ⟨c, z1, z2⟩ => ⟨c, z1, sqT_upd hL z2⟩, e6⟩
end
theorem len_cruel (G : Glob) (ea : Str → Addr) (vs : List V) (H : Hp) (Q : VK) (E : XK) (h : sp_cruel G ea vs H Q E) : vs.length = 4 := by
  obtain ⟨_, _, _, _, rfl, _⟩ := h
  rfl
theorem numIn_int {x : V} {lo hi : Int} (h : numIn x lo hi = true) : ∃ n : Int, x = .int n ∧ lo ≤ n ∧ n ≤ hi := by
  cases x with
  | int n =>
    have h : (decide (lo ≤ n) && decide (n ≤ hi)) = true := h
    rw [Bool.and_eq_true, decide_eq_true_eq, decide_eq_true_eq] at h
    exact ⟨n, rfl, h.1, h.2⟩
  | _ => cases h
theorem rd_cruel (G : Glob) (ea : Str → Addr) (vs : List V) (H : Hp) (Q : VK) (E : XK) (h : sp_cruel G ea vs H Q E) : t_cruel G ea E { nx := fun _ H' => Q .non H', rt := Q } (start ["rule", "size", "pages", "long", "state", "stream", "_", "page"] vs) H := by
  obtain ⟨x, vz, vp, vl, rfl, hR, ⟨nil, hE, hE0⟩, nz, np, nl, q1, q2, q3⟩ := h
  unfold t_cruel
  walk_at "go"
  refine ⟨x, rfl, hR, fun hx => ?_, q1⟩
  walk_at "go"
  refine ⟨vz, rfl, nz, fun hz => ?_, q2 hx⟩
  obtain ⟨zi, rfl, z1, z2⟩ := numIn_int hz
  obtain ⟨s, rfl⟩ : ∃ s : Nat, zi = (s : Int) := ⟨zi.toNat, (Int.toNat_of_nonneg (by omega)).symm⟩
  obtain ⟨r, rfl⟩ := hx
  obtain ⟨q4, q5⟩ := q3 r s rfl rfl (by omega) (by omega)
  walk_at "go"
  refine ⟨vp, s + 1, 10, rfl, np, by omega, by decide, fun hp => ?_, fun c => q4 (.inl c)⟩
  walk_at "go"
  refine ⟨vl, 0, 60, rfl, nl, by decide, by decide, fun hl => ?_, fun c => q4 (.inr c)⟩
  obtain ⟨ni, rfl, n1, n2⟩ := numIn_int hl
  obtain ⟨n, rfl⟩ : ∃ n : Nat, ni = (n : Int) := ⟨ni.toNat, (Int.toNat_of_nonneg (by omega)).symm⟩
  walk_at "go"
  refine r_newL szd fun L H1 nL s1 hL => ?_
  walk_at "go"
  refine ⟨_, rfl, by omega, by omega, ?_⟩
  rw [Int.toNat_natCast]
  refine for_range (fun i σ H' => ∃ (v : V) (l : List Row) (h : Nat) (st : List Int) (u6 u7 : Option V), σ = [some (.str r.s), some (.int (s : Int)), some vp, some (.int (n : Int)), some v, some (.ref L), u6, u7] ∧ Same H H' ∧ i ≤ n ∧ Cr r s i l h st ∧ StV G.K H' v l h ∧ H' L = some (.lst (st.map V.int))) ?_ ?_ ?_
  · exact ⟨_, [], 0, [], none, none, rfl, s1, Nat.zero_le _, .zero, ⟨G.aEMPTY, _, rfl, hE H1, nil, [], rfl, hE0 H1, .nil, Nat.zero_le _⟩, hL⟩
  · rintro i σ H2 hi ⟨v, l, h, st, u6, u7, rfl, sm, hn, cr, sv, h2⟩
    have inv := Cr.inv (by omega) cr
    have ln := cr.len
    walk_at "go"
    refine ⟨v, l, h, rfl, sv, by omega, fun a ps H3 s3 pe so h3 => ?_⟩
    have pl := pe.length_eq
    rw [List.length_map] at pl
    refine ⟨a, ps, rfl, SqT.of h3, by omega, fun k hk => ?_⟩
    have hk' : IsLeast (l.map (·.1)) k := ⟨fun z => hk.1 (pe.mem_iff.mpr z), fun j hj => pe.mem_iff.mp (hk.2 j hj)⟩
    walk_at "go"
    have h2' := s3 _ _ h2
    refine ⟨.inl ⟨rfl, _, SqL.of h2'⟩, ?_⟩
    walk_at "go"
    refine r_append h2' (sz10' (by rw [List.length_map, ln]; omega)) ?_
    have sv4 : StV G.K (upd H3 L (.lst (st.map V.int ++ [V.int (k : Int)]))) v l h := (sv.mono s3).updL h2'
    have h4 : (upd H3 L (.lst (st.map V.int ++ [V.int (k : Int)]))) L = some (.lst ((st ++ [(k : Int)]).map V.int)) := by rw [upd_same, List.map_append]; rfl
    have sm4 : Same H (upd H3 L (.lst (st.map V.int ++ [V.int (k : Int)]))) := Same.mut (fun b o e => s3 _ _ (sm _ _ e)) nL
    generalize upd H3 L (.lst (st.map V.int ++ [V.int (k : Int)])) = H4 at sv4 h4 sm4
    walk_at "go"
    refine ⟨r, s, v, l, h, (k : Int), rfl, sv4, by omega, inv.1, by omega, fun e1 e2 => (inv.2 e1).2 e2, fun b y H5 s5 h5 sv5 => ?_⟩
    refine r_ixT (SqT.of h5) (by rfl) ?_
    walk_at "go"
    exact ⟨_, _, _, _, _, _, rfl, fun b o e => s5 _ _ (sm4 _ _ e), hi, .succ cr hk', sv5, s5 _ _ h4⟩
  · rintro σ H2 ⟨v, l, h, st, u6, u7, rfl, sm, _, cr, sv, h2⟩
    walk_at "go"
    refine r_tuple_L (SqL.of h2) fun p H3 np3 s3 hp3 => ?_
    exact q5 n hp rfl (by omega) p H3 st (fun b o e => s3 _ _ (sm _ _ e)) ⟨l, h, cr⟩ hp3
end CB

namespace CB
open PySem PySem.Spec PyProof.Rows L2
local macro_rules | `(tactic| walk_at "s1") => `(tactic| (with_reducible first
  | refine r_seq ?_ | refine r_next ?_ | refine r_asg ?_ | refine r_gname ?_ | refine r_ret ?_ | refine r_retN ?_ | refine r_drop ?_ | refine r_ifs ?_ | refine r_c ?_ | refine r_op ?_ | refine r_nil ?_ | refine r_cons ?_
  | refine r_tup ?_ | refine r_lst ?_ | refine r_test ?_ | refine r_tB ?_ | refine r_tru ?_ | refine r_exbl ?_ | refine r_tint ?_ | refine r_and ?_ | refine r_or ?_ | refine r_not ?_ | refine r_notV ?_ | refine r_andV ?_ | refine r_orV ?_ | refine r_ifE ?_ | refine r_call ?_ | refine r_CB ?_
  | refine r_kAdd ?_ | refine r_kSub ?_ | refine r_kLt ?_ | refine r_kLe ?_ | refine r_kGt ?_ | refine r_kGe ?_ | refine r_eqI ?_ | refine r_neI ?_ | refine r_eqS ?_ | refine r_isN ?_ | refine r_notN ?_
  | refine r_gcons ?_ | refine r_gnil ?_ | refine r_gsub ?_ | refine r_BM ?_ | refine r_sl ?_ | refine r_nopart ?_ | refine r_part ?_ | refine r_exint ?_ | refine r_par ?_ | refine r_par2 ?_ | refine r_chain ?_
  | refine r_dget ?_ | refine r_dput ?_ | refine iteT ?_ | refine r_for ?_ | refine r_iEnumT ?_ | refine r_iTup ?_ | refine r_iList ?_ | refine r_rng1 ?_ | refine r_rng2 ?_ | refine r_lc ?_ | refine r_gtup2 ?_ | refine r_yes ?_ | refine iteF ?_ | refine r_var (by with_unfolding_all rfl) ?_))
local macro_rules | `(tactic| walk_at "go") => `(tactic| (repeat (walk_at "s1")))


/-! ### the same, and of the same kinds: what holds of equal data -/
inductive SameD (K : PySem.W.Frag) (H : Hp) : Nat → V → V → Prop
  | non (n : Nat) : SameD K H n .non .non
  | bl (n : Nat) (b : Bool) : SameD K H n (.bl b) (.bl b)
  | int (n : Nat) (i : Int) : SameD K H n (.int i) (.int i)
  | str (n : Nat) (x : Str) : SameD K H n (.str x) (.str x)
  | tup {n : Nat} {a b : Addr} {xs ys : List V} : SqT K H a xs → SqT K H b ys → xs.length = ys.length → xs.length ≤ 1000 → (∀ (i : Nat) (x y : V), xs[i]? = some x → ys[i]? = some y → SameD K H n x y) → SameD K H (n + 1) (.ref a) (.ref b)
  | lst {n : Nat} {a b : Addr} {xs ys : List V} : SqL K H a xs → SqL K H b ys → xs.length = ys.length → xs.length ≤ 1000 → (∀ (i : Nat) (x y : V), xs[i]? = some x → ys[i]? = some y → SameD K H n x y) → SameD K H (n + 1) (.ref a) (.ref b)
theorem SameD.mono {K : PySem.W.Frag} {H H' : Hp} (e : Same H H') {n : Nat} {x y : V} (d : SameD K H n x y) : SameD K H' n x y := by
  induction d with
  | non n => exact .non n
  | bl n b => exact .bl n b
  | int n i => exact .int n i
  | str n z => exact .str n z
  | tup h1 h2 h3 h4 _ ih => exact .tup (sqT_same e h1) (sqT_same e h2) h3 h4 ih
  | lst h1 h2 h3 h4 _ ih => exact .lst (e.seq h1) (e.seq h2) h3 h4 ih
/-- n: how deep, and one (0: never) -/
def sp__law_same (G : Glob) : Nat → Sp
  | 0 => fun _ _ _ _ => False
  | n + 1 => fun vs H Q _ => ∃ x y, vs = [x, y] ∧ SameD G.K H n x y ∧ ∀ H', Same H H' → Q (.bl true) H'
/-- an item of a list or a tuple -/
def rIxA (K : PySem.W.Frag) : R2 := fun x y H Q => rIxL K x y H Q ∨ rIxT K x y H Q
theorem ix_any {X : Cx} : IxR X (rIxA X.K) := IxR.or ix_list ix_tup
def t__law_same (G : Glob) (n : Nat) : TS := (tSeq (tIfS (tB (tCB (rIsiT G.K) (tCons (tVar 1) (tCons (tTup (tCons (tC (.ty "tuple")) (tCons (tC (.ty "list")) tNil))) tNil)))) (tSeq (tIfS (tOr (tNot (tB (tCB (rIsiT G.K) (tCons (tVar 0) (tCons (tTup (tCons (tC (.ty "tuple")) (tCons (tC (.ty "list")) tNil))) tNil))))) (tTest (tOp kNe (tCB (rIsi G.K) (tCons (tVar 0) (tCons (tC (.ty "list")) tNil))) (tCB (rIsi G.K) (tCons (tVar 1) (tCons (tC (.ty "list")) tNil)))))) (tRet (tC (.bl false))) tNext)
    (tSeq (tIfS (tTest (tOp kNe (tCB (bLen G.K) (tCons (tVar 0) tNil)) (tCB (bLen G.K) (tCons (tVar 1) tNil)))) (tRet (tC (.bl false))) tNext)
    (tRet (tOp (rEqD G.K) (tLc (iRng1 (tCons (tCB (bLen G.K) (tCons (tVar 1) tNil)) tNil)) (gName 3) (tNot (tB (tCall (sp__law_same G n) [] E0 (tCons (tOp (rIxA G.K) (tVar 0) (tVar 3)) (tCons (tOp (rIxA G.K) (tVar 1) (tVar 3)) tNil))))) (tVar 3) [3]) (tLst tNil))))) tNext)
    (tSeq (tAsg (tAndV (tOp kEq (tCB (rIsi G.K) (tCons (tVar 0) (tCons (tC (.ty "bool")) tNil))) (tCB (rIsi G.K) (tCons (tVar 1) (tCons (tC (.ty "bool")) tNil)))) (tOp kEq (tCB (rIsi G.K) (tCons (tVar 0) (tCons (tC (.ty "int")) tNil))) (tCB (rIsi G.K) (tCons (tVar 1) (tCons (tC (.ty "int")) tNil))))) (gName 2))
    (tRet (tAndV (tVar 2) (tOp kEq (tVar 0) (tVar 1))))))
theorem tyT {K : PySem.W.Frag} {H : Hp} {a : Addr} {xs : List V} (h : SqT K H a xs) : TyX K H (.ref a) (.type "tuple") := by
  rcases h with (h | ⟨o, h⟩) | ⟨o, its, n, h1, h2, _⟩
  · exact .base (.tup h)
  · exact .fTuple h
  · exact .kTuple h1 h2
theorem tyL {K : PySem.W.Frag} {H : Hp} {a : Addr} {xs : List V} (h : SqL K H a xs) : TyX K H (.ref a) (.type "list") := by
  rcases h with (h | ⟨o, h⟩) | ⟨o, its, n, h1, h2, _⟩
  · exact .base (.lst h)
  · exact .base (.frz h)
  · exact .kList h1 h2
theorem kt_tT {K : PySem.W.Frag} : PySem.W.kitAny K (.type "tuple") [.type "tuple", .type "list"] = some true := by kernel_rfl
theorem kt_lT {K : PySem.W.Frag} : PySem.W.kitAny K (.type "list") [.type "tuple", .type "list"] = some true := by kernel_rfl
theorem kt_nT {K : PySem.W.Frag} : PySem.W.kitAny K (.type "NoneType") [.type "tuple", .type "list"] = some false := by kernel_rfl
theorem kt_bT {K : PySem.W.Frag} : PySem.W.kitAny K (.type "bool") [.type "tuple", .type "list"] = some false := by kernel_rfl
theorem kt_iT {K : PySem.W.Frag} : PySem.W.kitAny K (.type "int") [.type "tuple", .type "list"] = some false := by kernel_rfl
theorem kt_sT {K : PySem.W.Frag} : PySem.W.kitAny K (.type "str") [.type "tuple", .type "list"] = some false := by kernel_rfl
theorem kt_tl {K : PySem.W.Frag} : PySem.W.kitOne K (.type "tuple") (.type "list") = some false := by kernel_rfl
theorem kt_ll {K : PySem.W.Frag} : PySem.W.kitOne K (.type "list") (.type "list") = some true := by kernel_rfl
theorem kt_sb {K : PySem.W.Frag} : PySem.W.kitOne K (.type "str") (.type "bool") = some false := by kernel_rfl
theorem kt_si {K : PySem.W.Frag} : PySem.W.kitOne K (.type "str") (.type "int") = some false := by kernel_rfl
theorem r_isiT {K : PySem.W.Frag} {H : Hp} {Q : VK} {x : V} {p : Addr} {t : Value} {b : Bool} (hp : H p = some (.tup [.ty "tuple", .ty "list"])) (ht : TyX K H x t) (hk : PySem.W.kitAny K t [.type "tuple", .type "list"] = some b) (h : Q (.bl b) H) : rIsiT K [x, .ref p] H Q :=
  ⟨x, p, _, t, _, b, rfl, hp, .cons (.ty _) (.cons (.ty _) .nil), ht, hk, h⟩
theorem r_neB {b c : Bool} {H : Hp} {Q : VK} (h : Q (.bl (!decide (b = c))) H) : kNe (.bl b) (.bl c) H Q := ⟨rfl, by
  have e : decide (V.bl b = V.bl c) = decide (b = c) := by cases b <;> cases c <;> decide
  rw [e]
  exact h⟩
theorem r_eqB {b c : Bool} {H : Hp} {Q : VK} (h : Q (.bl (decide (b = c))) H) : kEq (.bl b) (.bl c) H Q := ⟨rfl, by
  have e : decide (V.bl b = V.bl c) = decide (b = c) := by cases b <;> cases c <;> decide
  rw [e]
  exact h⟩
theorem len__law_same (G : Glob) (n : Nat) (vs : List V) (H : Hp) (Q : VK) (E : XK) (h : sp__law_same G n vs H Q E) : vs.length = 2 := by
  cases n with
  | zero => exact h.elim
  | succ n =>
    obtain ⟨_, _, rfl, _⟩ := h
    rfl
/-- a leaf -/
theorem rd_leaf (G : Glob) (n : Nat) {x : V} {t : Value} {H : Hp} {Q : VK} {b1 b2 : Bool} (ht : ∀ H, TyX G.K H x t) (k0 : PySem.W.kitAny G.K t [.type "tuple", .type "list"] = some false) (k1 : PySem.W.kitOne G.K t (.type "bool") = some b1) (k2 : PySem.W.kitOne G.K t (.type "int") = some b2)
    (he : ∀ (H : Hp) (R : VK), R (.bl true) H → kEq x x H R) (q : ∀ H', Same H H' → Q (.bl true) H') : t__law_same G n { nx := fun _ H' => Q .non H', rt := Q } (start ["_law_found", "_law_due", "_law_alike", "_law_k"] [x, x]) H := by
  unfold t__law_same
  walk_at "go"
  refine r_newT szd fun p H1 np s1 hp => ?_
  walk_at "go"
  refine r_isiT hp (ht H1) k0 ?_
  walk_at "go"
  refine r_isi (.ty "bool") (ht H1) k1 ?_
  walk_at "go"
  refine r_isi (.ty "bool") (ht H1) k1 ?_
  refine r_eqB ?_
  rw [decide_eq_true rfl]
  refine ⟨true, rfl, ?_⟩
  rw [if_pos rfl]
  walk_at "go"
  refine r_isi (.ty "int") (ht H1) k2 ?_
  walk_at "go"
  refine r_isi (.ty "int") (ht H1) k2 ?_
  refine r_eqB ?_
  rw [decide_eq_true rfl]
  walk_at "go"
  refine he _ _ ?_
  exact q H1 s1
theorem kEq_non (H : Hp) (R : VK) (h : R (.bl true) H) : kEq .non .non H R := ⟨rfl, by rw [decide_eq_true rfl]; exact h⟩
theorem ifnt {A B : Prop} (h : B) : if (!true) = true then A else B := by rw [if_neg (by decide)]; exact h
theorem ifnf {A B : Prop} (h : A) : if (!false) = true then A else B := by rw [if_pos (by decide)]; exact h
/-- a list or a tuple -/
theorem rd_branch (G : Glob) (n : Nat) {a b : Addr} {T : Value} {bl : Bool} {xs ys : List V} {H : Hp} {Q : VK} (ta : ∀ H', Same H H' → TyX G.K H' (.ref a) T) (tb : ∀ H', Same H H' → TyX G.K H' (.ref b) T)
    (k0 : PySem.W.kitAny G.K T [.type "tuple", .type "list"] = some true) (k1 : PySem.W.kitOne G.K T (.type "list") = some bl) (la : ∀ H', Same H H' → ∀ R : VK, R (.int xs.length) H' → bLen G.K [.ref a] H' R) (lb : ∀ H', Same H H' → ∀ R : VK, R (.int ys.length) H' → bLen G.K [.ref b] H' R)
    (ia : ∀ H' (i : Nat) x, Same H H' → xs[i]? = some x → ∀ R : VK, R x H' → rIxA G.K (.ref a) (.int (i : Int)) H' R) (ib : ∀ H' (i : Nat) x, Same H H' → ys[i]? = some x → ∀ R : VK, R x H' → rIxA G.K (.ref b) (.int (i : Int)) H' R)
    (hl : xs.length = ys.length) (hz : xs.length ≤ 1000) (items : ∀ (i : Nat) (x y : V), xs[i]? = some x → ys[i]? = some y → SameD G.K H n x y) (q : ∀ H', Same H H' → Q (.bl true) H') :
    t__law_same G (n + 1) { nx := fun _ H' => Q .non H', rt := Q } (start ["_law_found", "_law_due", "_law_alike", "_law_k"] [.ref a, .ref b]) H := by
  unfold t__law_same
  walk_at "go"
  refine r_newT szd fun p H1 np s1 hp => ?_
  walk_at "go"
  refine r_isiT hp (tb H1 s1) k0 ?_
  walk_at "go"
  refine r_newT szd fun p2 H2 np2 s2 hp2 => ?_
  have sm2 : Same H H2 := fun b o e => s2 _ _ (s1 _ _ e)
  walk_at "go"
  refine r_isiT hp2 (ta H2 sm2) k0 ?_
  walk_at "go"
  refine ifnt ?_
  walk_at "go"
  refine r_isi (.ty "list") (ta H2 sm2) k1 ?_
  walk_at "go"
  refine r_isi (.ty "list") (tb H2 sm2) k1 ?_
  refine r_neB ?_
  rw [decide_eq_true rfl]
  walk_at "go"
  refine ifnt ?_
  walk_at "go"
  refine la H2 sm2 _ ?_
  walk_at "go"
  refine lb H2 sm2 _ ?_
  rw [hl]
  walk_at "go"
  rw [decide_eq_true rfl]
  refine ifnt ?_
  walk_at "go"
  refine lb H2 sm2 _ ?_
  refine ⟨_, rfl, by omega, by omega, fun D nD => ?_⟩
  rw [Int.toNat_natCast]
  refine lc_range (fun i H' => Same H2 H' ∧ H' D = some (.lst [])) ⟨.new nD, upd_same⟩ (fun i H3 hi ⟨s3, hD⟩ => ?_) fun H3 ⟨s3, hD⟩ => ?_
  · have sm3 : Same H H3 := fun b o e => s3 _ _ (sm2 _ _ e)
    obtain ⟨y, hy⟩ : ∃ y, ys[i]? = some y := ⟨_, List.getElem?_eq_getElem hi⟩
    obtain ⟨x, hx⟩ : ∃ x, xs[i]? = some x := ⟨_, List.getElem?_eq_getElem (by omega)⟩
    rw [Int.zero_add]
    walk_at "go"
    refine ⟨rfl, ?_⟩
    walk_at "go"
    refine ia H3 i x sm3 hx _ ?_
    walk_at "go"
    refine ib H3 i y sm3 hy _ ?_
    walk_at "go"
    refine ⟨x, y, rfl, (items i x y hx hy).mono sm3, fun H4 s4 => ?_⟩
    walk_at "go"
    exact ⟨fun b o e => s4 _ _ (s3 _ _ e), s4 _ _ hD⟩
  · walk_at "go"
    refine r_newL szd fun D2 H4 n4 s4 h4 => ?_
    refine r_eqNil (ns := []) (SqL.of (s4 _ _ hD)) h4 ?_
    exact q H4 fun b o e => s4 _ _ (s3 _ _ (sm2 _ _ e))
theorem rd__law_same (G : Glob) (n : Nat) (vs : List V) (H : Hp) (Q : VK) (E : XK) (h : sp__law_same G (n + 1) vs H Q E) : t__law_same G n { nx := fun _ H' => Q .non H', rt := Q } (start ["_law_found", "_law_due", "_law_alike", "_law_k"] vs) H := by
  obtain ⟨x, y, rfl, d, q⟩ := h
  cases d with
  | non _ => exact rd_leaf G n (fun _ => .base .non) kt_nT kt_nb kt_ni kEq_non q
  | bl _ b => exact rd_leaf G n (fun _ => .base (.bl b)) kt_bT kt_bb kt_bi (fun H R h => r_eqB (by rw [decide_eq_true rfl]; exact h)) q
  | int _ i => exact rd_leaf G n (fun _ => .base (.int i)) kt_iT kt_ib kt_ii (fun H R h => r_eqI (by rw [decide_eq_true rfl]; exact h)) q
  | str _ z => exact rd_leaf G n (fun _ => .base (.str z)) kt_sT kt_sb kt_si (fun H R h => r_eqS (by rw [decide_eq_true rfl]; exact h)) q
  | @tup n a b xs ys h1 h2 hl hz items =>
    exact rd_branch G n (fun H' e => tyT (sqT_same e h1)) (fun H' e => tyT (sqT_same e h2)) kt_tT kt_tl (fun H' e R r => r_lenT (sqT_same e h1) r) (fun H' e R r => r_lenT (sqT_same e h2) r)
      (fun H' i x e hx R r => .inr (r_ixT (sqT_same e h1) (atI_nat hx) r)) (fun H' i x e hx R r => .inr (r_ixT (sqT_same e h2) (atI_nat hx) r)) hl hz items q
  | @lst n a b xs ys h1 h2 hl hz items =>
    exact rd_branch G n (fun H' e => tyL (e.seq h1)) (fun H' e => tyL (e.seq h2)) kt_lT kt_ll (fun H' e R r => r_lenL (e.seq h1) r) (fun H' e R r => r_lenL (e.seq h2) r)
      (fun H' i x e hx R r => .inl (r_ixL (e.seq h1) (atI_nat hx) r)) (fun H' i x e hx R r => .inl (r_ixL (e.seq h2) (atI_nat hx) r)) hl hz items q
end CB

namespace CB
open PySem PySem.Spec PyProof.Rows L2
def topS (i : Nat) : Stmt := PySem.Challenge.pw_cachebet_k09_cruel_streams.main.body.getD i (.Pass ⟨0, 0, 0, 0⟩)
abbrev s_first_mark : Stmt := topS 19
abbrev s_place_of : Stmt := topS 18
abbrev s_rows_asked : Stmt := topS 20
abbrev s_place_to_go : Stmt := topS 21
abbrev s_swept : Stmt := topS 22
abbrev s_step : Stmt := topS 16
abbrev s_pages_held : Stmt := topS 17
theorem sc_first_mark : FnScope ["rule"] ["rule"] (defScope s_first_mark) := ⟨rfl, rfl, rfl, by decide +kernel, rfl, by decide +kernel, by decide +kernel⟩
theorem ok_first_mark {P : Program} {w : World} {mg : Str → Option Value} {base : Heap} (G : Glob) (T : Bl mg)  {f : Addr} {fd : FuncData} (F : Fun G.K "first_mark" "first_mark" s_first_mark f fd) (hm : mg "first_mark" = some (.ref f)) : Cal P w G.K mg base CX0 1 "first_mark" ["rule"] (sp_first_mark G) := by
  refine ⟨f, fd, hm, F.kp, F.binds (ps := ["rule"]) (fun _ _ _ _ _ _ us hl => match us, hl with | [_], _ => rfl), ?_⟩
  refine F.ok sc_first_mark (fun vs H Q E h => len_first_mark G vs H Q E h) (fun cdv A outer s H vs Q E hr h => ⟨t_first_mark G, ?_, rd_first_mark G vs H Q E h⟩)
  have hu := hu_of hr
  have nd := sc_first_mark.nd
  exact (pss_cons (ps_if (PW.pt (pw_or (pt_cmpR oEq (pv 0) pe_str (nomark _)) (pw_or1 (pt_cmpR oEq (pv 0) pe_str (nomark _))))) (pss_one (ps_ret pe_int)) pss_nil)
    (pss_one (ps_ret pe_int)))

theorem sc_place_of : FnScope ["rows", "page", "place", "row"] ["rows", "page"] (defScope s_place_of) := ⟨rfl, rfl, rfl, by decide +kernel, rfl, by decide +kernel, by decide +kernel⟩
theorem ok_place_of {P : Program} {w : World} {mg : Str → Option Value} {base : Heap} (G : Glob) (T : Bl mg)  {f : Addr} {fd : FuncData} (F : Fun G.K "place_of" "place_of" s_place_of f fd) (hm : mg "place_of" = some (.ref f)) : Cal P w G.K mg base CX0 1 "place_of" ["rows", "page"] (sp_place_of G) := by
  refine ⟨f, fd, hm, F.kp, F.binds (ps := ["rows", "page"]) (fun _ _ _ _ _ _ us hl => match us, hl with | [_, _], _ => rfl), ?_⟩
  refine F.ok sc_place_of (fun vs H Q E h => len_place_of G vs H Q E h) (fun cdv A outer s H vs Q E hr h => ⟨t_place_of G, ?_, rd_place_of G vs H Q E h⟩)
  have hu := hu_of hr
  have nd := sc_place_of.nd
  exact (pss_cons (ps_for PassesOwn.never rfl (pi_enumT rfl T.n_enumerate (pa_cons (pv 0) pa_nil)) (pg_tup rfl (pgs_cons (pg_name (i := 2) nd rfl (Or.inl rfl)) (pgs_cons (pg_name (i := 3) nd rfl (Or.inl rfl)) pgs_nil))) (pss_one (ps_if (pt_cmpR oEq (pe_ix ix_tup (pv 3) pe_int (fun _ _ => rfl)) (pv 1) (nomark _)) (pss_one (ps_ret (pv 2))) pss_nil)))
    (pss_one (ps_ret pe_non)))

theorem sc_rows_asked : FnScope ["rule", "rows", "place", "page", "mark"] ["rule", "rows", "place"] (defScope s_rows_asked) := ⟨rfl, rfl, rfl, by decide +kernel, rfl, by decide +kernel, by decide +kernel⟩
theorem ok_rows_asked {P : Program} {w : World} {mg : Str → Option Value} {base : Heap} (G : Glob) (T : Bl mg)  {f : Addr} {fd : FuncData} (F : Fun G.K "rows_asked" "rows_asked" s_rows_asked f fd) (hm : mg "rows_asked" = some (.ref f)) : Cal P w G.K mg base CX0 1 "rows_asked" ["rule", "rows", "place"] (sp_rows_asked G) := by
  refine ⟨f, fd, hm, F.kp, F.binds (ps := ["rule", "rows", "place"]) (fun _ _ _ _ _ _ us hl => match us, hl with | [_, _, _], _ => rfl), ?_⟩
  refine F.ok sc_rows_asked (fun vs H Q E h => len_rows_asked G vs H Q E h) (fun cdv A outer s H vs Q E hr h => ⟨t_rows_asked G, ?_, rd_rows_asked G vs H Q E h⟩)
  have hu := hu_of hr
  have nd := sc_rows_asked.nd
  exact (pss_cons (ps_asg (pe_ix ix_tup (pv 1) (pv 2) (fun _ _ => rfl)) (pg_tup rfl (pgs_cons (pg_name (i := 3) nd rfl (Or.inl rfl)) (pgs_cons (pg_name (i := 4) nd rfl (Or.inl rfl)) pgs_nil))))
    (pss_cons (ps_if (PW.pt (pw_or (pt_cmpR oEq (pv 0) pe_str (nomark _)) (pw_or1 (pt_cmpR oEq (pv 0) pe_str (nomark _))))) (pss_one (ps_ret (pe_op op_catA (pe_op op_catA (pe_slice sl_tupA (pv 1) po_none (po_some (pv 2))) (pe_slice sl_tupA (pv 1) (po_some (pe_op oAdd (pv 2) pe_int)) po_none)) (pe_tup (pa_cons (pe_tup (pa_cons (pv 3) (pa_cons (pv 4) pa_nil))) pa_nil))))) pss_nil)
    (pss_cons (ps_if (pt_cmpR oEq (pv 0) pe_str (nomark _)) (pss_one (ps_ret (pe_op op_catA (pe_op op_catA (pe_slice sl_tupA (pv 1) po_none (po_some (pv 2))) (pe_tup (pa_cons (pe_tup (pa_cons (pv 3) (pa_cons (pe_op oAdd (pv 4) pe_int) pa_nil))) pa_nil))) (pe_slice sl_tupA (pv 1) (po_some (pe_op oAdd (pv 2) pe_int)) po_none)))) pss_nil)
    (pss_cons (ps_if (pt_cmpR oEq (pv 0) pe_str (nomark _)) (pss_one (ps_ret (pe_op op_catA (pe_op op_catA (pe_slice sl_tupA (pv 1) po_none (po_some (pv 2))) (pe_tup (pa_cons (pe_tup (pa_cons (pv 3) (pa_cons pe_int pa_nil))) pa_nil))) (pe_slice sl_tupA (pv 1) (po_some (pe_op oAdd (pv 2) pe_int)) po_none)))) pss_nil)
    (pss_one (ps_ret (pv 1)))))))

theorem sc_place_to_go : FnScope ["rule", "rows", "pages", "marks", "row"] ["rule", "rows"] (defScope s_place_to_go) := ⟨rfl, rfl, rfl, by decide +kernel, rfl, by decide +kernel, by decide +kernel⟩
theorem ok_place_to_go {P : Program} {w : World} {mg : Str → Option Value} {base : Heap} (G : Glob) (T : Bl mg)  {f : Addr} {fd : FuncData} (F : Fun G.K "place_to_go" "place_to_go" s_place_to_go f fd) (hm : mg "place_to_go" = some (.ref f)) : Cal P w G.K mg base CX0 1 "place_to_go" ["rule", "rows"] (sp_place_to_go G) := by
  refine ⟨f, fd, hm, F.kp, F.binds (ps := ["rule", "rows"]) (fun _ _ _ _ _ _ us hl => match us, hl with | [_, _], _ => rfl), ?_⟩
  refine F.ok sc_place_to_go (fun vs H Q E h => len_place_to_go G vs H Q E h) (fun cdv A outer s H vs Q E hr h => ⟨t_place_to_go G, ?_, rd_place_to_go G vs H Q E h⟩)
  have hu := hu_of hr
  have nd := sc_place_to_go.nd
  exact (pss_cons (ps_if (pt_cmpR oEq (pv 0) pe_str (nomark _)) (pss_one (ps_ret (pe_op oSub (pe_callB cbLen (by rfl) T.n_len (by decide +kernel) (pa_cons (pv 1) pa_nil)) pe_int))) pss_nil)
    (pss_cons (ps_if (pt_cmpR oEq (pv 0) pe_str (nomark _)) (pss_cons (ps_setLc (i := 2) (own := [("row", 4)]) (g := (gName 4)) (tt := tYes) rfl nd rfl rfl (sw_true rfl rfl rfl (by decide +kernel)) (pi_tup (pv 1)) (blkOk_by (N := ["rule", "rows", "pages", "marks", "row"]) (sc := defScope s_place_to_go) (by decide +kernel)) (fun _ _ _ _ _ => (pg_name (i := 4) nd rfl (Or.inl rfl))) (fun _ _ _ _ _ => pts_nil) (fun _ _ _ _ _ => (pe_ix ix_tup (pv 4) pe_int (fun _ _ => rfl))))
    (pss_one (ps_ret (pe_bm PySem.F.plainAttrs_list PySem.F.slot_list_index PySem.F.type_list_index mt_index (pv 2) (pa_cons (pe_callB (cr_max rfl) (by rfl) T.n_max (by decide +kernel) (pa_cons (pv 2) pa_nil)) pa_nil))))) pss_nil)
    (pss_cons (ps_if (pt_cmpR oEq (pv 0) pe_str (nomark _)) (pss_cons (ps_setLc (i := 3) (own := [("row", 4)]) (g := (gName 4)) (tt := tYes) rfl nd rfl rfl (sw_true rfl rfl rfl (by decide +kernel)) (pi_tup (pv 1)) (blkOk_by (N := ["rule", "rows", "pages", "marks", "row"]) (sc := defScope s_place_to_go) (by decide +kernel)) (fun _ _ _ _ _ => (pg_name (i := 4) nd rfl (Or.inl rfl))) (fun _ _ _ _ _ => pts_nil) (fun _ _ _ _ _ => (pe_ix ix_tup (pv 4) pe_int (fun _ _ => rfl))))
    (pss_one (ps_ret (pe_bm PySem.F.plainAttrs_list PySem.F.slot_list_index PySem.F.type_list_index mt_index (pv 3) (pa_cons (pe_callB (cr_min rfl) (by rfl) T.n_min (by decide +kernel) (pa_cons (pv 3) pa_nil)) pa_nil))))) pss_nil)
    (pss_one (ps_ret pe_int)))))

theorem sc_swept : FnScope ["rows", "hand", "left"] ["rows", "hand"] (defScope s_swept) := ⟨rfl, rfl, rfl, by decide +kernel, rfl, by decide +kernel, by decide +kernel⟩
theorem ok_swept {P : Program} {w : World} {mg : Str → Option Value} {base : Heap} (G : Glob) (T : Bl mg)  {f : Addr} {fd : FuncData} (F : Fun G.K "swept" "swept" s_swept f fd) (hm : mg "swept" = some (.ref f)) : Cal P w G.K mg base CX0 1 "swept" ["rows", "hand"] (sp_swept G) := by
  refine ⟨f, fd, hm, F.kp, F.binds (ps := ["rows", "hand"]) (fun _ _ _ _ _ _ us hl => match us, hl with | [_, _], _ => rfl), ?_⟩
  refine F.ok sc_swept (fun vs H Q E h => len_swept G vs H Q E h) (fun cdv A outer s H vs Q E hr h => ⟨t_swept G, ?_, rd_swept G vs H Q E h⟩)
  have hu := hu_of hr
  have nd := sc_swept.nd
  exact (pss_cons (ps_set (i := 2) nd rfl (Or.inl rfl) (pe_callTy cbList (by rfl) T.n_list (by decide +kernel) (pa_cons (pv 0) pa_nil)))
    (pss_cons (ps_while PassesOwn.never (pt_truth (pe_ix ix_tup (pe_ix ix_list (pv 2) (pv 1) (fun _ _ => rfl)) pe_int (fun _ _ => rfl)) (by intro _; rfl)) (pss_cons (ps_asg (pe_tup (pa_cons (pe_ix ix_tup (pe_ix ix_list (pv 2) (pv 1) (fun _ _ => rfl)) pe_int (fun _ _ => rfl)) (pa_cons pe_int pa_nil))) (pg_sub (pv 2) (pv 1) set_list))
    (pss_one (ps_set (i := 1) nd rfl (Or.inl rfl) (pe_op oMod (pe_op oAdd (pv 1) pe_int) (pe_callB cbLen (by rfl) T.n_len (by decide +kernel) (pa_cons (pv 2) pa_nil)))))))
    (pss_one (ps_ret (pe_tup (pa_cons (pe_callTy cbTuple (by rfl) T.n_tuple (by decide +kernel) (pa_cons (pv 2) pa_nil)) (pa_cons (pv 1) pa_nil)))))))

theorem sc_step : FnScope ["rule", "size", "state", "page", "rows", "hand", "place", "comer", "behind"] ["rule", "size", "state", "page"] (defScope s_step) := ⟨rfl, rfl, rfl, by decide +kernel, rfl, by decide +kernel, by decide +kernel⟩
theorem ok_step {P : Program} {w : World} {mg : Str → Option Value} {base : Heap} (G : Glob) (T : Bl mg) (c_place_of : Cal P w G.K mg base CX0 1 "place_of" ["rows", "page"] (sp_place_of G)) (c_rows_asked : Cal P w G.K mg base CX0 1 "rows_asked" ["rule", "rows", "place"] (sp_rows_asked G)) (c_first_mark : Cal P w G.K mg base CX0 1 "first_mark" ["rule"] (sp_first_mark G)) (c_swept : Cal P w G.K mg base CX0 1 "swept" ["rows", "hand"] (sp_swept G)) (c_place_to_go : Cal P w G.K mg base CX0 1 "place_to_go" ["rule", "rows"] (sp_place_to_go G)) {f : Addr} {fd : FuncData} (F : Fun G.K "step" "step" s_step f fd) (hm : mg "step" = some (.ref f)) : Cal P w G.K mg base CX0 2 "step" ["rule", "size", "state", "page"] (sp_step G) := by
  refine ⟨f, fd, hm, F.kp, F.binds (ps := ["rule", "size", "state", "page"]) (fun _ _ _ _ _ _ us hl => match us, hl with | [_, _, _, _], _ => rfl), ?_⟩
  refine F.ok sc_step (fun vs H Q E h => len_step G vs H Q E h) (fun cdv A outer s H vs Q E hr h => ⟨t_step G, ?_, rd_step G vs H Q E h⟩)
  have hu := hu_of hr
  have nd := sc_step.nd
  exact (pss_cons (ps_asg (pv 2) (pg_tup rfl (pgs_cons (pg_name (i := 4) nd rfl (Or.inl rfl)) (pgs_cons (pg_name (i := 5) nd rfl (Or.inl rfl)) pgs_nil))))
    (pss_cons (ps_set (i := 6) nd rfl (Or.inl rfl) (pe_cal c_place_of hr (by decide) rfl pass0 (pa_cons (pv 4) (pa_cons (pv 3) pa_nil))))
    (pss_cons (ps_if (pt_cmpR oNotN (pv 6) pe_non (nomark _)) (pss_one (ps_ret (pe_tup (pa_cons pe_bl (pa_cons pe_non (pa_cons (pe_tup (pa_cons (pe_cal c_rows_asked hr (by decide) rfl pass0 (pa_cons (pv 0) (pa_cons (pv 4) (pa_cons (pv 6) pa_nil)))) (pa_cons (pv 5) pa_nil))) pa_nil)))))) pss_nil)
    (pss_cons (ps_set (i := 7) nd rfl (Or.inl rfl) (pe_tup (pa_cons (pv 3) (pa_cons (pe_cal c_first_mark hr (by decide) rfl pass0 (pa_cons (pv 0) pa_nil)) pa_nil))))
    (pss_cons (ps_if (pt_cmpR oLt (pe_callB cbLen (by rfl) T.n_len (by decide +kernel) (pa_cons (pv 4) pa_nil)) (pv 1) (nomark _)) (pss_one (ps_ret (pe_tup (pa_cons pe_bl (pa_cons pe_non (pa_cons (pe_tup (pa_cons (pe_op op_catA (pv 4) (pe_tup (pa_cons (pv 7) pa_nil))) (pa_cons (pv 5) pa_nil))) pa_nil)))))) pss_nil)
    (pss_cons (ps_if (pt_cmpR oEq (pv 0) pe_str (nomark _)) (pss_cons (ps_asg (pe_cal c_swept hr (by decide) rfl pass0 (pa_cons (pv 4) (pa_cons (pv 5) pa_nil))) (pg_tup rfl (pgs_cons (pg_name (i := 4) nd rfl (Or.inl rfl)) (pgs_cons (pg_name (i := 6) nd rfl (Or.inl rfl)) pgs_nil))))
    (pss_one (ps_set (i := 8) nd rfl (Or.inl rfl) (pe_tup (pa_cons (pe_op op_catA (pe_op op_catA (pe_slice sl_tupA (pv 4) po_none (po_some (pv 6))) (pe_tup (pa_cons (pv 7) pa_nil))) (pe_slice sl_tupA (pv 4) (po_some (pe_op oAdd (pv 6) pe_int)) po_none)) (pa_cons (pe_op oMod (pe_op oAdd (pv 6) pe_int) (pe_callB cbLen (by rfl) T.n_len (by decide +kernel) (pa_cons (pv 4) pa_nil))) pa_nil)))))) (pss_cons (ps_set (i := 6) nd rfl (Or.inl rfl) (pe_cal c_place_to_go hr (by decide) rfl pass0 (pa_cons (pv 0) (pa_cons (pv 4) pa_nil))))
    (pss_one (ps_set (i := 8) nd rfl (Or.inl rfl) (pe_tup (pa_cons (pe_op op_catA (pe_op op_catA (pe_slice sl_tupA (pv 4) po_none (po_some (pv 6))) (pe_slice sl_tupA (pv 4) (po_some (pe_op oAdd (pv 6) pe_int)) po_none)) (pe_tup (pa_cons (pv 7) pa_nil))) (pa_cons (pv 5) pa_nil)))))))
    (pss_one (ps_ret (pe_tup (pa_cons pe_bl (pa_cons (pe_ix ix_tup (pe_ix ix_tup (pv 4) (pv 6) (fun _ _ => rfl)) pe_int (fun _ _ => rfl)) (pa_cons (pv 8) pa_nil))))))))))))

theorem sc_pages_held : FnScope ["state", "row"] ["state"] (defScope s_pages_held) := ⟨rfl, rfl, rfl, by decide +kernel, rfl, by decide +kernel, by decide +kernel⟩
theorem ok_pages_held {P : Program} {w : World} {mg : Str → Option Value} {base : Heap} (G : Glob) (T : Bl mg)  {f : Addr} {fd : FuncData} (F : Fun G.K "pages_held" "pages_held" s_pages_held f fd) (hm : mg "pages_held" = some (.ref f)) : Cal P w G.K mg base CX0 1 "pages_held" ["state"] (sp_pages_held G) := by
  refine ⟨f, fd, hm, F.kp, F.binds (ps := ["state"]) (fun _ _ _ _ _ _ us hl => match us, hl with | [_], _ => rfl), ?_⟩
  refine F.ok sc_pages_held (fun vs H Q E h => len_pages_held G vs H Q E h) (fun cdv A outer s H vs Q E hr h => ⟨t_pages_held G, ?_, rd_pages_held G vs H Q E h⟩)
  have hu := hu_of hr
  have nd := sc_pages_held.nd
  exact (pss_one (ps_ret (pe_callTy cbTuple (by rfl) T.n_tuple (by decide +kernel) (pa_cons (pe_callB cr_sorted (by rfl) T.n_sorted (by decide +kernel) (pa_cons (pe_lc (own := [("row", 1)]) (g := (gName 1)) (tt := tYes) rfl nd (pi_tup (pe_ix ix_tup (pv 0) pe_int (fun _ _ => rfl))) (blkOk_by (N := ["state", "row"]) (sc := defScope s_pages_held) (by decide +kernel)) (fun _ _ _ _ _ => (pg_name (i := 1) nd rfl (Or.inl rfl))) (fun _ _ _ _ _ => pts_nil) (fun _ _ _ _ _ => (pe_ix ix_tup (pv 1) pe_int (fun _ _ => rfl)))) pa_nil)) pa_nil))))

end CB

namespace CB
open PySem PySem.Spec PyProof.Rows L2

abbrev s_is_number : Stmt := topS 27
abbrev s_check_rule : Stmt := topS 28
abbrev s_check_size : Stmt := topS 29
abbrev s_check_count : Stmt := topS 30
abbrev s_least_not_held : Stmt := topS 33
abbrev s_cruel : Stmt := topS 32
theorem sc_is_number : FnScope ["value", "low", "high"] ["value", "low", "high"] (defScope s_is_number) := ⟨rfl, rfl, rfl, by decide +kernel, rfl, by decide +kernel, by decide +kernel⟩
theorem ok_is_number {P : Program} {w : World} {mg : Str → Option Value} {base : Heap} (G : Glob) (T : Bl mg)  {f : Addr} {fd : FuncData} (F : Fun G.K "is_number" "is_number" s_is_number f fd) (hm : mg "is_number" = some (.ref f)) : Cal P w G.K mg base CX0 1 "is_number" ["value", "low", "high"] (sp_is_number G) := by
  refine ⟨f, fd, hm, F.kp, F.binds (ps := ["value", "low", "high"]) (fun _ _ _ _ _ _ us hl => match us, hl with | [_, _, _], _ => rfl), ?_⟩
  refine F.ok sc_is_number (fun vs H Q E h => len_is_number G vs H Q E h) (fun cdv A outer s H vs Q E hr h => ⟨t_is_number G, ?_, rd_is_number G vs H Q E h⟩)
  have hu := hu_of hr
  have nd := sc_is_number.nd
  exact (pss_cons (ps_if (PW.pt (pw_or (pt_val (pe_callB call_isi (by rfl) T.n_isinstance (by decide +kernel) (pa_cons (pv 0) (pa_cons (pe_bltn rfl T.n_bool rfl rfl) pa_nil)))) (pw_or1 (pt_not (pt_val (pe_callB call_isi (by rfl) T.n_isinstance (by decide +kernel) (pa_cons (pv 0) (pa_cons (pe_bltn rfl T.n_int rfl rfl) pa_nil)))))))) (pss_one (ps_ret pe_bl)) pss_nil)
    (pss_one (ps_ret (pe_chain oLe oLe (pv 1) (pv 0) (pv 2)))))

theorem sc_check_rule : FnScope ["rule"] ["rule"] (defScope s_check_rule) := ⟨rfl, rfl, rfl, by decide +kernel, rfl, by decide +kernel, by decide +kernel⟩
theorem ok_check_rule {P : Program} {w : World} {mg : Str → Option Value} {base : Heap} (G : Glob) (ea : Str → Addr) (T : Bl mg) (g_RULES : mg "RULES" = some (.ref G.aRULES)) (x_BadRule : XF G.K mg "BadRule" (ea "BadRule")) {f : Addr} {fd : FuncData} (F : Fun G.K "check_rule" "check_rule" s_check_rule f fd) (hm : mg "check_rule" = some (.ref f)) : Cal P w G.K mg base (L2.CX P w) 1 "check_rule" ["rule"] (sp_check_rule G ea) := by
  refine ⟨f, fd, hm, F.kp, F.binds (ps := ["rule"]) (fun _ _ _ _ _ _ us hl => match us, hl with | [_], _ => rfl), ?_⟩
  refine F.okX sc_check_rule (fun vs H Q E h => len_check_rule G ea vs H Q E h) (fun cdv A outer s H vs Q E hr h => ⟨t_check_rule G ea E, ?_, rd_check_rule G ea vs H Q E h⟩)
  have hu := hu_of hr
  have nd := sc_check_rule.nd
  exact (pss_one (ps_if (pt_cmpR oNotIn (pv 0) (pe_glob rfl g_RULES rfl) (by first | exact nomark _ | rfl)) (pss_one (ps_rs x_BadRule rfl (takes_of rfl rfl rfl rfl) rfl pe_str)) pss_nil))

theorem sc_check_size : FnScope ["size"] ["size"] (defScope s_check_size) := ⟨rfl, rfl, rfl, by decide +kernel, rfl, by decide +kernel, by decide +kernel⟩
theorem ok_check_size {P : Program} {w : World} {mg : Str → Option Value} {base : Heap} (G : Glob) (ea : Str → Addr) (T : Bl mg) (c_is_number : Cal P w G.K mg base CX0 1 "is_number" ["value", "low", "high"] (sp_is_number G)) (g_MOST_SIZE : ∃ t, mg "MOST_SIZE" = some (.int 6 t)) (x_BadSize : XF G.K mg "BadSize" (ea "BadSize")) {f : Addr} {fd : FuncData} (F : Fun G.K "check_size" "check_size" s_check_size f fd) (hm : mg "check_size" = some (.ref f)) : Cal P w G.K mg base (L2.CX P w) 2 "check_size" ["size"] (sp_check_size G ea) := by
  refine ⟨f, fd, hm, F.kp, F.binds (ps := ["size"]) (fun _ _ _ _ _ _ us hl => match us, hl with | [_], _ => rfl), ?_⟩
  refine F.okX sc_check_size (fun vs H Q E h => len_check_size G ea vs H Q E h) (fun cdv A outer s H vs Q E hr h => ⟨t_check_size G ea E, ?_, rd_check_size G ea vs H Q E h⟩)
  have hu := hu_of hr
  have nd := sc_check_size.nd
  exact (pss_one (ps_if (pt_not (pt_val (pe_cal c_is_number hr (by decide) rfl pass0 (pa_cons (pv 0) (pa_cons pe_int (pa_cons (pe_gint g_MOST_SIZE rfl) pa_nil)))))) (pss_one (ps_rs x_BadSize rfl (takes_of rfl rfl rfl rfl) rfl (pe_joined (PJ.cons pe_str (PJ.cons (pe_fmt (pe_gint g_MOST_SIZE rfl)) PJ.nil))))) pss_nil))

theorem sc_check_count : FnScope ["count", "low", "high"] ["count", "low", "high"] (defScope s_check_count) := ⟨rfl, rfl, rfl, by decide +kernel, rfl, by decide +kernel, by decide +kernel⟩
theorem ok_check_count {P : Program} {w : World} {mg : Str → Option Value} {base : Heap} (G : Glob) (ea : Str → Addr) (T : Bl mg) (c_is_number : Cal P w G.K mg base CX0 1 "is_number" ["value", "low", "high"] (sp_is_number G)) (x_BadCount : XF G.K mg "BadCount" (ea "BadCount")) {f : Addr} {fd : FuncData} (F : Fun G.K "check_count" "check_count" s_check_count f fd) (hm : mg "check_count" = some (.ref f)) : Cal P w G.K mg base (L2.CX P w) 2 "check_count" ["count", "low", "high"] (sp_check_count G ea) := by
  refine ⟨f, fd, hm, F.kp, F.binds (ps := ["count", "low", "high"]) (fun _ _ _ _ _ _ us hl => match us, hl with | [_, _, _], _ => rfl), ?_⟩
  refine F.okX sc_check_count (fun vs H Q E h => len_check_count G ea vs H Q E h) (fun cdv A outer s H vs Q E hr h => ⟨t_check_count G ea E, ?_, rd_check_count G ea vs H Q E h⟩)
  have hu := hu_of hr
  have nd := sc_check_count.nd
  exact (pss_one (ps_if (pt_not (pt_val (pe_cal c_is_number hr (by decide) rfl pass0 (pa_cons (pv 0) (pa_cons (pv 1) (pa_cons (pv 2) pa_nil)))))) (pss_one (ps_rs x_BadCount rfl (takes_of rfl rfl rfl rfl) rfl (pe_joined (PJ.cons pe_str (PJ.cons (pe_fmt (pv 1)) (PJ.cons pe_str (PJ.cons (pe_fmt (pv 2)) PJ.nil))))))) pss_nil))

theorem sc_least_not_held : FnScope ["held", "page"] ["held"] (defScope s_least_not_held) := ⟨rfl, rfl, rfl, by decide +kernel, rfl, by decide +kernel, by decide +kernel⟩
theorem ok_least_not_held {P : Program} {w : World} {mg : Str → Option Value} {base : Heap} (G : Glob) (T : Bl mg)  {f : Addr} {fd : FuncData} (F : Fun G.K "least_not_held" "least_not_held" s_least_not_held f fd) (hm : mg "least_not_held" = some (.ref f)) : Cal P w G.K mg base CX0 1 "least_not_held" ["held"] (sp_least_not_held G) := by
  refine ⟨f, fd, hm, F.kp, F.binds (ps := ["held"]) (fun _ _ _ _ _ _ us hl => match us, hl with | [_], _ => rfl), ?_⟩
  refine F.ok sc_least_not_held (fun vs H Q E h => len_least_not_held G vs H Q E h) (fun cdv A outer s H vs Q E hr h => ⟨t_least_not_held G, ?_, rd_least_not_held G vs H Q E h⟩)
  have hu := hu_of hr
  have nd := sc_least_not_held.nd
  exact (pss_cons (ps_set (i := 1) nd rfl (Or.inl rfl) pe_int)
    (pss_cons (ps_while PassesOwn.never (pt_cmpR oIn (pv 1) (pv 0) (by first | exact nomark _ | rfl)) (pss_one (ps_aug (i := 1) nd rfl (Or.inl rfl) pe_int ip_add)))
    (pss_one (ps_ret (pv 1)))))

theorem sc_cruel : FnScope ["rule", "size", "pages", "long", "state", "stream", "_", "page"] ["rule", "size", "pages", "long"] (defScope s_cruel) := ⟨rfl, rfl, rfl, by decide +kernel, rfl, by decide +kernel, by decide +kernel⟩
theorem ok_cruel {P : Program} {w : World} {mg : Str → Option Value} {base : Heap} (G : Glob) (ea : Str → Addr) (T : Bl mg) (c_check_rule : Cal P w G.K mg base (L2.CX P w) 1 "check_rule" ["rule"] (sp_check_rule G ea)) (c_check_size : Cal P w G.K mg base (L2.CX P w) 2 "check_size" ["size"] (sp_check_size G ea)) (c_check_count : Cal P w G.K mg base (L2.CX P w) 2 "check_count" ["count", "low", "high"] (sp_check_count G ea)) (c_least_not_held : Cal P w G.K mg base CX0 1 "least_not_held" ["held"] (sp_least_not_held G)) (c_pages_held : Cal P w G.K mg base CX0 1 "pages_held" ["state"] (sp_pages_held G)) (c_step : Cal P w G.K mg base CX0 2 "step" ["rule", "size", "state", "page"] (sp_step G)) (g_EMPTY : mg "EMPTY" = some (.ref G.aEMPTY)) (g_PAGES : ∃ t, mg "PAGES" = some (.int 10 t)) (g_MOST_ASKS : ∃ t, mg "MOST_ASKS" = some (.int 60 t)) {f : Addr} {fd : FuncData} (F : Fun G.K "cruel" "cruel" s_cruel f fd) (hm : mg "cruel" = some (.ref f)) : Cal P w G.K mg base (L2.CX P w) 3 "cruel" ["rule", "size", "pages", "long"] (sp_cruel G ea) := by
  refine ⟨f, fd, hm, F.kp, F.binds (ps := ["rule", "size", "pages", "long"]) (fun _ _ _ _ _ _ us hl => match us, hl with | [_, _, _, _], _ => rfl), ?_⟩
  refine F.okX sc_cruel (fun vs H Q E h => len_cruel G ea vs H Q E h) (fun cdv A outer s H vs Q E hr h => ⟨t_cruel G ea E, ?_, rd_cruel G ea vs H Q E h⟩)
  have hu := hu_of hr
  have nd := sc_cruel.nd
  exact (pss_cons (ps_expr (pe_cal c_check_rule hr (by decide) rfl (passes_call (takes_of rfl rfl rfl rfl) (fun _ _ _ _ h => h)) (pa_cons (pv 0) pa_nil)))
    (pss_cons (ps_expr (pe_cal c_check_size hr (by decide) rfl (passes_call (takes_of rfl rfl rfl rfl) (fun _ _ _ _ h => h)) (pa_cons (pv 1) pa_nil)))
    (pss_cons (ps_expr (pe_cal c_check_count hr (by decide) rfl (passes_call (takes_of rfl rfl rfl rfl) (fun _ _ _ _ h => h)) (pa_cons (pv 2) (pa_cons (pe_op oAdd (pv 1) pe_int) (pa_cons (pe_gint g_PAGES rfl) pa_nil)))))
    (pss_cons (ps_expr (pe_cal c_check_count hr (by decide) rfl (passes_call (takes_of rfl rfl rfl rfl) (fun _ _ _ _ h => h)) (pa_cons (pv 3) (pa_cons pe_int (pa_cons (pe_gint g_MOST_ASKS rfl) pa_nil)))))
    (pss_cons (ps_set (i := 4) nd rfl (Or.inl rfl) (pe_glob rfl g_EMPTY rfl))
    (pss_cons (ps_set (i := 5) nd rfl (Or.inl rfl) (pe_lst pa_nil))
    (pss_cons (ps_for (passes_of rfl) rfl (pi_range1 rfl T.n_range (pa_cons (pv 3) pa_nil)) (pg_name (i := 6) nd rfl (Or.inl rfl)) (pss_cons (ps_set (i := 7) nd rfl (Or.inl rfl) (pe_cal c_least_not_held hr (by decide) rfl pass0 (pa_cons (pe_cal c_pages_held hr (by decide) rfl pass0 (pa_cons (pv 4) pa_nil)) pa_nil)))
    (pss_cons (ps_expr (pe_bm PySem.F.plainAttrs_list PySem.F.slot_list_append PySem.F.type_list_append mt_append (pv 5) (pa_cons (pv 7) pa_nil)))
    (pss_one (ps_set (i := 4) nd rfl (Or.inl rfl) (pe_ix ix_tup (pe_cal c_step hr (by decide) rfl pass0 (pa_cons (pv 0) (pa_cons (pv 1) (pa_cons (pv 4) (pa_cons (pv 7) pa_nil))))) pe_int (fun _ _ => rfl)))))))
    (pss_one (ps_ret (pe_callTy cbTuple (by rfl) T.n_tuple (by decide +kernel) (pa_cons (pv 5) pa_nil)))))))))))

end CB

namespace CB
open PySem PySem.Spec PyProof.Rows L2

abbrev s__law_start : Stmt := topS 35
abbrev s__law_drawn : Stmt := topS 36
abbrev s__law_rule : Stmt := topS 39
abbrev s__law_started : Stmt := topS 40
abbrev s__law_loser : Stmt := topS 41
abbrev s__law_ask : Stmt := topS 42
theorem sc__law_start : FnScope ["_law_script", "_law_mixed", "_law_cell"] ["_law_script"] (defScope s__law_start) := ⟨rfl, rfl, rfl, by decide +kernel, rfl, by decide +kernel, by decide +kernel⟩
theorem ok__law_start {P : Program} {w : World} {mg : Str → Option Value} {base : Heap} (G : Glob) (T : Bl mg)  {f : Addr} {fd : FuncData} (F : Fun G.K "_law_start" "_law_start" s__law_start f fd) (hm : mg "_law_start" = some (.ref f)) : Cal P w G.K mg base CX0 1 "_law_start" ["_law_script"] (sp__law_start G) := by
  refine ⟨f, fd, hm, F.kp, F.binds (ps := ["_law_script"]) (fun _ _ _ _ _ _ us hl => match us, hl with | [_], _ => rfl), ?_⟩
  refine F.ok sc__law_start (fun vs H Q E h => len__law_start G vs H Q E h) (fun cdv A outer s H vs Q E hr h => ⟨t__law_start G, ?_, rd__law_start G vs H Q E h⟩)
  have hu := hu_of hr
  have nd := sc__law_start.nd
  exact (pss_cons (ps_set (i := 1) nd rfl (Or.inl rfl) pe_int)
    (pss_cons (ps_for PassesOwn.never rfl (pi_list (pv 0)) (pg_name (i := 2) nd rfl (Or.inl rfl)) (pss_one (ps_set (i := 1) nd rfl (Or.inl rfl) (pe_op oMod (pe_op oAdd (pe_op oAdd (pe_op oMul (pv 1) pe_int) (pv 2)) pe_int) pe_int))))
    (pss_one (ps_ret (pe_lst (pa_cons (pv 0) (pa_cons pe_int (pa_cons (pv 1) (pa_cons pe_int pa_nil)))))))))

theorem sc__law_drawn : FnScope ["_law_state", "_law_many", "_law_found", "_law_cell"] ["_law_state", "_law_many"] (defScope s__law_drawn) := ⟨rfl, rfl, rfl, by decide +kernel, rfl, by decide +kernel, by decide +kernel⟩
theorem ok__law_drawn {P : Program} {w : World} {mg : Str → Option Value} {base : Heap} (G : Glob) (T : Bl mg)  {f : Addr} {fd : FuncData} (F : Fun G.K "_law_drawn" "_law_drawn" s__law_drawn f fd) (hm : mg "_law_drawn" = some (.ref f)) : Cal P w G.K mg base CX0 1 "_law_drawn" ["_law_state", "_law_many"] (sp__law_drawn G) := by
  refine ⟨f, fd, hm, F.kp, F.binds (ps := ["_law_state", "_law_many"]) (fun _ _ _ _ _ _ us hl => match us, hl with | [_, _], _ => rfl), ?_⟩
  refine F.ok sc__law_drawn (fun vs H Q E h => len__law_drawn G vs H Q E h) (fun cdv A outer s H vs Q E hr h => ⟨t__law_drawn G, ?_, rd__law_drawn G vs H Q E h⟩)
  have hu := hu_of hr
  have nd := sc__law_drawn.nd
  exact (pss_cons (ps_if (pt_cmpR oGt (pe_ix ix_list (pv 0) pe_int (fun _ _ => rfl)) pe_int (nomark _)) (pss_cons (ps_set (i := 2) nd rfl (Or.inl rfl) (pe_op oMod (pe_ix ix_list (pv 0) pe_int (fun _ _ => rfl)) (pv 1)))
    (pss_cons (ps_asg (pe_op oFdiv (pe_ix ix_list (pv 0) pe_int (fun _ _ => rfl)) (pv 1)) (pg_sub (pv 0) pe_int set_list))
    (pss_one (ps_ret (pv 2))))) pss_nil)
    (pss_cons (ps_asg (pe_op oAdd (pe_ix ix_list (pv 0) pe_int (fun _ _ => rfl)) pe_int) (pg_sub (pv 0) pe_int set_list))
    (pss_cons (ps_if (pt_cmpR oLe (pe_ix ix_list (pv 0) pe_int (fun _ _ => rfl)) (pe_callB cbLen (by rfl) T.n_len (by decide +kernel) (pa_cons (pe_ix ix_list (pv 0) pe_int (fun _ _ => rfl)) pa_nil)) (nomark _)) (pss_cons (ps_set (i := 3) nd rfl (Or.inl rfl) (pe_ix ix_list (pe_ix ix_list (pv 0) pe_int (fun _ _ => rfl)) (pe_op oSub (pe_ix ix_list (pv 0) pe_int (fun _ _ => rfl)) pe_int) (fun _ _ => rfl)))
    (pss_cons (ps_asg (pe_ifExp (pt_cmpR oGe (pv 3) (pe_op oPow pe_int pe_int) (nomark _)) (pe_op oFdiv (pv 3) (pv 1)) pe_int) (pg_sub (pv 0) pe_int set_list))
    (pss_one (ps_ret (pe_op oMod (pv 3) (pv 1)))))) pss_nil)
    (pss_cons (ps_asg (pe_op oMod (pe_op oAdd (pe_op oMul (pe_ix ix_list (pv 0) pe_int (fun _ _ => rfl)) pe_int) pe_int) pe_int) (pg_sub (pv 0) pe_int set_list))
    (pss_one (ps_ret (pe_op oMod (pe_op oFdiv (pe_ix ix_list (pv 0) pe_int (fun _ _ => rfl)) pe_int) (pv 1))))))))

theorem sc__law_rule : FnScope ["_law_state"] ["_law_state"] (defScope s__law_rule) := ⟨rfl, rfl, rfl, by decide +kernel, rfl, by decide +kernel, by decide +kernel⟩
theorem ok__law_rule {P : Program} {w : World} {mg : Str → Option Value} {base : Heap} (G : Glob) (T : Bl mg) (c__law_drawn : Cal P w G.K mg base CX0 1 "_law_drawn" ["_law_state", "_law_many"] (sp__law_drawn G)) {f : Addr} {fd : FuncData} (F : Fun G.K "_law_rule" "_law_rule" s__law_rule f fd) (hm : mg "_law_rule" = some (.ref f)) : Cal P w G.K mg base CX0 2 "_law_rule" ["_law_state"] (sp__law_rule G) := by
  refine ⟨f, fd, hm, F.kp, F.binds (ps := ["_law_state"]) (fun _ _ _ _ _ _ us hl => match us, hl with | [_], _ => rfl), ?_⟩
  refine F.ok sc__law_rule (fun vs H Q E h => len__law_rule G vs H Q E h) (fun cdv A outer s H vs Q E hr h => ⟨t__law_rule G, ?_, rd__law_rule G vs H Q E h⟩)
  have hu := hu_of hr
  have nd := sc__law_rule.nd
  exact (pss_one (ps_ret (pe_ix ix_list (pe_lst (pa_cons pe_str (pa_cons pe_str (pa_cons pe_str (pa_cons pe_str (pa_cons pe_str (pa_cons pe_str pa_nil))))))) (pe_cal c__law_drawn hr (by decide) rfl pass0 (pa_cons (pv 0) (pa_cons pe_int pa_nil))) (fun _ _ => rfl))))

theorem sc__law_started : FnScope ["_law_rule_here", "_law_size"] ["_law_rule_here", "_law_size"] (defScope s__law_started) := ⟨rfl, rfl, rfl, by decide +kernel, rfl, by decide +kernel, by decide +kernel⟩
theorem ok__law_started {P : Program} {w : World} {mg : Str → Option Value} {base : Heap} (G : Glob) (T : Bl mg)  {f : Addr} {fd : FuncData} (F : Fun G.K "_law_started" "_law_started" s__law_started f fd) (hm : mg "_law_started" = some (.ref f)) : Cal P w G.K mg base CX0 1 "_law_started" ["_law_rule_here", "_law_size"] (sp__law_started G) := by
  refine ⟨f, fd, hm, F.kp, F.binds (ps := ["_law_rule_here", "_law_size"]) (fun _ _ _ _ _ _ us hl => match us, hl with | [_, _], _ => rfl), ?_⟩
  refine F.ok sc__law_started (fun vs H Q E h => len__law_started G vs H Q E h) (fun cdv A outer s H vs Q E hr h => ⟨t__law_started G, ?_, rd__law_started G vs H Q E h⟩)
  have hu := hu_of hr
  have nd := sc__law_started.nd
  exact (pss_one (ps_ret (pe_disp (pps_cons pe_str (pv 0) (pps_cons pe_str (pv 1) (pps_cons pe_str (pe_lst pa_nil) (pps_cons pe_str pe_dnewK (pps_cons pe_str pe_dnewK (pps_cons pe_str pe_dnewK (pps_cons pe_str pe_int (pps_cons pe_str pe_int pps_nil)))))))) (by rfl) (by rfl) (fun z => by cases z) (by decide))))

theorem sc__law_loser : FnScope ["_law_w", "_law_pins", "_law_page", "_law_some", "_law_turns", "_law_least"] ["_law_w", "_law_pins"] (defScope s__law_loser) := ⟨rfl, rfl, rfl, by decide +kernel, rfl, by decide +kernel, by decide +kernel⟩
theorem ok__law_loser {P : Program} {w : World} {mg : Str → Option Value} {base : Heap} (G : Glob) (T : Bl mg)  {f : Addr} {fd : FuncData} (F : Fun G.K "_law_loser" "_law_loser" s__law_loser f fd) (hm : mg "_law_loser" = some (.ref f)) : Cal P w G.K mg base CX0 1 "_law_loser" ["_law_w", "_law_pins"] (sp__law_loser G) := by
  refine ⟨f, fd, hm, F.kp, F.binds (ps := ["_law_w", "_law_pins"]) (fun _ _ _ _ _ _ us hl => match us, hl with | [_, _], _ => rfl), ?_⟩
  refine F.ok sc__law_loser (fun vs H Q E h => len__law_loser G vs H Q E h) (fun cdv A outer s H vs Q E hr h => ⟨t__law_loser G, ?_, rd__law_loser G vs H Q E h⟩)
  have hu := hu_of hr
  have nd := sc__law_loser.nd
  exact (pss_cons (ps_setLc (i := 3) (own := [("_law_page", 2)]) (g := (gName 2)) (tt := (tTest (tOp (kNotIn G.K) (tVar 2) (tVar 1)))) rfl nd rfl rfl (sw_true rfl rfl rfl (by decide +kernel)) (pi_list (pe_dget hu (pv 0) pe_str (fun _ _ => rfl))) (blkOk_by (N := ["_law_w", "_law_pins", "_law_page", "_law_some", "_law_turns", "_law_least"]) (sc := defScope s__law_loser) (by decide +kernel)) (fun _ _ _ _ _ => (pg_name (i := 2) nd rfl (Or.inl rfl))) (fun _ _ _ _ _ => (pts_one (pt_cmpR oNotIn (pv 2) (pv 1) (by first | exact nomark _ | rfl)))) (fun _ _ _ _ _ => (pv 2)))
    (pss_cons (ps_if (pt_cmpR (op_eqD hr.units) (pv 3) (pe_lst pa_nil) (nomark _)) (pss_one (ps_ret pe_non)) pss_nil)
    (pss_cons (ps_if (pt_cmpR oEq (pe_dget hu (pv 0) pe_str (fun _ _ => rfl)) pe_str (nomark _)) (pss_one (ps_ret (pe_ix ix_list (pv 3) pe_int (fun _ _ => rfl)))) pss_nil)
    (pss_cons (ps_if (pt_cmpR oEq (pe_dget hu (pv 0) pe_str (fun _ _ => rfl)) pe_str (nomark _)) (pss_one (ps_ret (pe_callB (cr_max rfl) (by rfl) T.n_max (by decide +kernel) (pa_cons (pv 3) pa_nil)))) pss_nil)
    (pss_cons (ps_if (pt_cmpR oIn (pe_dget hu (pv 0) pe_str (fun _ _ => rfl)) (pe_tup (pa_cons pe_str (pa_cons pe_str pa_nil))) (by first | exact nomark _ | rfl)) (pss_cons (ps_set (i := 4) nd rfl (Or.inl rfl) (pe_callB cr_sortedPO (by rfl) T.n_sorted (by decide +kernel) (pa_cons (pe_lc (own := [("_law_page", 2)]) (g := (gName 2)) (tt := tYes) rfl nd (pi_list (pv 3)) (blkOk_by (N := ["_law_w", "_law_pins", "_law_page", "_law_some", "_law_turns", "_law_least"]) (sc := defScope s__law_loser) (by decide +kernel)) (fun _ _ _ _ _ => (pg_name (i := 2) nd rfl (Or.inl rfl))) (fun _ _ _ _ _ => pts_nil) (fun _ _ _ _ _ => (pe_tup (pa_cons (pe_dget hu (pe_dget hu (pv 0) pe_str (fun _ _ => rfl)) (pv 2) (fun _ _ => rfl)) (pa_cons (pv 2) pa_nil))))) pa_nil)))
    (pss_one (ps_ret (pe_ix ix_tup (pe_ix ix_list (pv 4) (pe_ifExp (pt_cmpR oEq (pe_dget hu (pv 0) pe_str (fun _ _ => rfl)) pe_str (nomark _)) pe_int (pe_op oSub pe_int pe_int)) (fun _ _ => rfl)) pe_int (fun _ _ => rfl))))) pss_nil)
    (pss_cons (ps_if (pt_cmpR oEq (pe_dget hu (pv 0) pe_str (fun _ _ => rfl)) pe_str (nomark _)) (pss_cons (ps_set (i := 5) nd rfl (Or.inr rfl) (pe_callB (cr_min rfl) (by rfl) T.n_min (by decide +kernel) (pa_cons (pe_lc (own := [("_law_page", 2)]) (g := (gName 2)) (tt := tYes) rfl nd (pi_list (pv 3)) (blkOk_by (N := ["_law_w", "_law_pins", "_law_page", "_law_some", "_law_turns", "_law_least"]) (sc := defScope s__law_loser) (by decide +kernel)) (fun _ _ _ _ _ => (pg_name (i := 2) nd rfl (Or.inl rfl))) (fun _ _ _ _ _ => pts_nil) (fun _ _ _ _ _ => (pe_dget hu (pe_dget hu (pv 0) pe_str (fun _ _ => rfl)) (pv 2) (fun _ _ => rfl)))) pa_nil)))
    (pss_one (ps_ret (pe_ix ix_list (pe_lc (own := [("_law_page", 2)]) (g := (gName 2)) (tt := (tTest (tOp kEq (tDGet (tDGet (tVar 0) (tC (.str "often"))) (tVar 2)) (tVar 5)))) rfl nd (pi_list (pv 3)) (blkOk_by (N := ["_law_w", "_law_pins", "_law_page", "_law_some", "_law_turns", "_law_least"]) (sc := defScope s__law_loser) (by decide +kernel)) (fun _ _ _ _ _ => (pg_name (i := 2) nd rfl (Or.inl rfl))) (fun _ _ _ _ _ => (pts_one (pt_cmpR oEq (pe_dget hu (pe_dget hu (pv 0) pe_str (fun _ _ => rfl)) (pv 2) (fun _ _ => rfl)) (pv 5) (nomark _)))) (fun _ _ _ _ _ => (pv 2))) pe_int (fun _ _ => rfl))))) pss_nil)
    (pss_one (ps_while PassesOwn.never (pt_val pe_bl) (pss_cons (ps_set (i := 2) nd rfl (Or.inl rfl) (pe_ix ix_list (pe_dget hu (pv 0) pe_str (fun _ _ => rfl)) (pe_dget hu (pv 0) pe_str (fun _ _ => rfl)) (fun _ _ => rfl)))
    (pss_cons (ps_if (PW.pt (pw_and (pt_cmpR oNotIn (pv 2) (pv 1) (by first | exact nomark _ | rfl)) (pw_and1 (pt_not (pt_val (pe_dget hu (pe_dget hu (pv 0) pe_str (fun _ _ => rfl)) (pv 2) (fun _ _ => rfl))))))) (pss_one (ps_ret (pv 2))) pss_nil)
    (pss_cons (ps_dput hu (pe_dget hu (pv 0) pe_str (fun _ _ => rfl)) (pv 2) (pe_and (pe_dget hu (pe_dget hu (pv 0) pe_str (fun _ _ => rfl)) (pv 2) (fun _ _ => rfl)) (pe_one (pe_cmpR oIn (pv 2) (pv 1) (by first | exact nomark _ | rfl)))) rfl)
    (pss_one (ps_dput hu (pv 0) pe_str (pe_op oMod (pe_op oAdd (pe_dget hu (pv 0) pe_str (fun _ _ => rfl)) pe_int) (pe_callB cbLen (by rfl) T.n_len (by decide +kernel) (pa_cons (pe_dget hu (pv 0) pe_str (fun _ _ => rfl)) pa_nil))) rfl)))))))))))))

theorem sc__law_ask : FnScope ["_law_w", "_law_page", "_law_pins", "_law_gone", "_law_was_held", "_law_k"] ["_law_w", "_law_page", "_law_pins"] (defScope s__law_ask) := ⟨rfl, rfl, rfl, by decide +kernel, rfl, by decide +kernel, by decide +kernel⟩
theorem ok__law_ask {P : Program} {w : World} {mg : Str → Option Value} {base : Heap} (G : Glob) (T : Bl mg) (c__law_loser : Cal P w G.K mg base CX0 1 "_law_loser" ["_law_w", "_law_pins"] (sp__law_loser G)) {f : Addr} {fd : FuncData} (F : Fun G.K "_law_ask" "_law_ask" s__law_ask f fd) (hm : mg "_law_ask" = some (.ref f)) : Cal P w G.K mg base CX0 2 "_law_ask" ["_law_w", "_law_page", "_law_pins"] (sp__law_ask G) := by
  refine ⟨f, fd, hm, F.kp, F.binds (ps := ["_law_w", "_law_page", "_law_pins"]) (fun _ _ _ _ _ _ us hl => match us, hl with | [_, _, _], _ => rfl), ?_⟩
  refine F.ok sc__law_ask (fun vs H Q E h => len__law_ask G vs H Q E h) (fun cdv A outer s H vs Q E hr h => ⟨t__law_ask G, ?_, rd__law_ask G vs H Q E h⟩)
  have hu := hu_of hr
  have nd := sc__law_ask.nd
  exact (pss_cons (ps_set (i := 3) nd rfl (Or.inl rfl) pe_non)
    (pss_cons (ps_set (i := 4) nd rfl (Or.inl rfl) (pe_cmpR oIn (pv 1) (pe_dget hu (pv 0) pe_str (fun _ _ => rfl)) (by first | exact nomark _ | rfl)))
    (pss_cons (ps_if (pt_not (pt_val (pv 4))) (pss_cons (ps_if (pt_cmpR oEq (pe_callB cbLen (by rfl) T.n_len (by decide +kernel) (pa_cons (pe_dget hu (pv 0) pe_str (fun _ _ => rfl)) pa_nil)) (pe_dget hu (pv 0) pe_str (fun _ _ => rfl)) (nomark _)) (pss_cons (ps_set (i := 3) nd rfl (Or.inl rfl) (pe_cal c__law_loser hr (by decide) rfl pass0 (pa_cons (pv 0) (pa_cons (pv 2) pa_nil))))
    (pss_cons (ps_if (pt_cmpR oIsN (pv 3) pe_non (nomark _)) (pss_one (ps_ret pe_non)) pss_nil)
    (pss_cons (ps_set (i := 5) nd rfl (Or.inl rfl) (pe_bm PySem.F.plainAttrs_list PySem.F.slot_list_index PySem.F.type_list_index mt_index (pe_dget hu (pv 0) pe_str (fun _ _ => rfl)) (pa_cons (pv 3) pa_nil)))
    (pss_one (ps_if (pt_cmpR oEq (pe_dget hu (pv 0) pe_str (fun _ _ => rfl)) pe_str (nomark _)) (pss_cons (ps_asg (pv 1) (pg_sub (pe_dget hu (pv 0) pe_str (fun _ _ => rfl)) (pv 5) set_list))
    (pss_one (ps_dput hu (pv 0) pe_str (pe_op oMod (pe_op oAdd (pv 5) pe_int) (pe_callB cbLen (by rfl) T.n_len (by decide +kernel) (pa_cons (pe_dget hu (pv 0) pe_str (fun _ _ => rfl)) pa_nil))) rfl))) (pss_one (ps_dput hu (pv 0) pe_str (pe_op op_cat (pe_op op_cat (pe_slice sl_list (pe_dget hu (pv 0) pe_str (fun _ _ => rfl)) po_none (po_some (pv 5))) (pe_slice sl_list (pe_dget hu (pv 0) pe_str (fun _ _ => rfl)) (po_some (pe_op oAdd (pv 5) pe_int)) po_none)) (pe_lst (pa_cons (pv 1) pa_nil))) rfl))))))) (pss_one (ps_expr (pe_bm PySem.F.plainAttrs_list PySem.F.slot_list_append PySem.F.type_list_append mt_append (pe_dget hu (pv 0) pe_str (fun _ _ => rfl)) (pa_cons (pv 1) pa_nil)))))
    (pss_one (ps_dput hu (pe_dget hu (pv 0) pe_str (fun _ _ => rfl)) (pv 1) pe_int rfl))) pss_nil)
    (pss_cons (ps_dput hu (pv 0) pe_str (pe_op oAdd (pe_dget hu (pv 0) pe_str (fun _ _ => rfl)) pe_int) rfl)
    (pss_cons (ps_dput hu (pe_dget hu (pv 0) pe_str (fun _ _ => rfl)) (pv 1) (pe_dget hu (pv 0) pe_str (fun _ _ => rfl)) rfl)
    (pss_cons (ps_dput hu (pe_dget hu (pv 0) pe_str (fun _ _ => rfl)) (pv 1) (pe_op oAdd (pe_dget hu (pe_dget hu (pv 0) pe_str (fun _ _ => rfl)) (pv 1) (fun _ _ => rfl)) pe_int) rfl)
    (pss_cons (ps_dput hu (pe_dget hu (pv 0) pe_str (fun _ _ => rfl)) (pv 1) pe_bl rfl)
    (pss_one (ps_ret (pe_tup (pa_cons (pv 4) (pa_cons (pv 3) pa_nil))))))))))))

end CB

namespace CB
open PySem PySem.Spec PyProof.Rows L2
abbrev s__law_same : Stmt := topS 37
theorem sc__law_same : FnScope ["_law_found", "_law_due", "_law_alike", "_law_k"] ["_law_found", "_law_due"] (defScope s__law_same) := ⟨rfl, rfl, rfl, by decide +kernel, rfl, by decide +kernel, by decide +kernel⟩
theorem ok__law_same {P : Program} {w : World} {mg : Str → Option Value} {base : Heap} (G : Glob) (T : Bl mg) {f : Addr} {fd : FuncData} (F : Fun G.K "_law_same" "_law_same" s__law_same f fd) (hm : mg "_law_same" = some (.ref f)) :
    ∀ n : Nat, Cal P w G.K mg base CX0 n "_law_same" ["_law_found", "_law_due"] (sp__law_same G n)
  | 0 => ⟨f, fd, hm, F.kp, F.binds (ps := ["_law_found", "_law_due"]) (fun _ _ _ _ _ _ us hl => match us, hl with | [_, _], _ => rfl), ⟨fun vs H Q E h => h.elim, fun A outer s H args us vs Q E _ _ _ _ h => h.elim⟩⟩
  | n + 1 => by
    have c__law_same : Cal P w G.K mg base CX0 n "_law_same" ["_law_found", "_law_due"] (sp__law_same G n) := ok__law_same G T F hm n
    refine ⟨f, fd, hm, F.kp, F.binds (ps := ["_law_found", "_law_due"]) (fun _ _ _ _ _ _ us hl => match us, hl with | [_, _], _ => rfl), ?_⟩
    refine F.ok sc__law_same (fun vs H Q E h => len__law_same G _ vs H Q E h) (fun cdv A outer s H vs Q E hr h => ⟨t__law_same G n, ?_, rd__law_same G n vs H Q E h⟩)
    have hu := hu_of hr
    have nd := sc__law_same.nd
    exact (pss_cons (ps_if (pt_val (pe_callB call_isiT (by rfl) T.n_isinstance (by decide +kernel) (pa_cons (pv 1) (pa_cons (pe_tup (pa_cons (pe_bltn rfl T.n_tuple rfl rfl) (pa_cons (pe_bltn rfl T.n_list rfl rfl) pa_nil))) pa_nil)))) (pss_cons (ps_if (PW.pt (pw_or (pt_not (pt_val (pe_callB call_isiT (by rfl) T.n_isinstance (by decide +kernel) (pa_cons (pv 0) (pa_cons (pe_tup (pa_cons (pe_bltn rfl T.n_tuple rfl rfl) (pa_cons (pe_bltn rfl T.n_list rfl rfl) pa_nil))) pa_nil))))) (pw_or1 (pt_cmpR oNe (pe_callB call_isi (by rfl) T.n_isinstance (by decide +kernel) (pa_cons (pv 0) (pa_cons (pe_bltn rfl T.n_list rfl rfl) pa_nil))) (pe_callB call_isi (by rfl) T.n_isinstance (by decide +kernel) (pa_cons (pv 1) (pa_cons (pe_bltn rfl T.n_list rfl rfl) pa_nil))) (nomark _))))) (pss_one (ps_ret pe_bl)) pss_nil)
    (pss_cons (ps_if (pt_cmpR oNe (pe_callB cbLen (by rfl) T.n_len (by decide +kernel) (pa_cons (pv 0) pa_nil)) (pe_callB cbLen (by rfl) T.n_len (by decide +kernel) (pa_cons (pv 1) pa_nil)) (nomark _)) (pss_one (ps_ret pe_bl)) pss_nil)
    (pss_one (ps_ret (pe_cmpR (op_eqD hr.units) (pe_lc (own := [("_law_k", 3)]) (g := (gName 3)) (tt := (tNot (tB (tCall (sp__law_same G n) [] E0 (tCons (tOp (rIxA G.K) (tVar 0) (tVar 3)) (tCons (tOp (rIxA G.K) (tVar 1) (tVar 3)) tNil)))))) rfl nd (pi_range1 rfl T.n_range (pa_cons (pe_callB cbLen (by rfl) T.n_len (by decide +kernel) (pa_cons (pv 1) pa_nil)) pa_nil)) (blkOk_by (N := ["_law_found", "_law_due", "_law_alike", "_law_k"]) (sc := defScope s__law_same) (by decide +kernel)) (fun _ _ _ _ _ => (pg_name (i := 3) nd rfl (Or.inl rfl))) (fun _ _ _ _ _ => (pts_one (pt_not (pt_val (pe_cal c__law_same hr (Nat.le_refl _) rfl pass0 (pa_cons (pe_ix ix_any (pv 0) (pv 3) (fun _ _ => rfl)) (pa_cons (pe_ix ix_any (pv 1) (pv 3) (fun _ _ => rfl)) pa_nil))))))) (fun _ _ _ _ _ => (pv 3))) (pe_lst pa_nil) (nomark _)))))) pss_nil)
    (pss_cons (ps_set (i := 2) nd rfl (Or.inl rfl) (pe_and (pe_cmpR oEq (pe_callB call_isi (by rfl) T.n_isinstance (by decide +kernel) (pa_cons (pv 0) (pa_cons (pe_bltn rfl T.n_bool rfl rfl) pa_nil))) (pe_callB call_isi (by rfl) T.n_isinstance (by decide +kernel) (pa_cons (pv 1) (pa_cons (pe_bltn rfl T.n_bool rfl rfl) pa_nil))) (nomark _)) (pe_one (pe_cmpR oEq (pe_callB call_isi (by rfl) T.n_isinstance (by decide +kernel) (pa_cons (pv 0) (pa_cons (pe_bltn rfl T.n_int rfl rfl) pa_nil))) (pe_callB call_isi (by rfl) T.n_isinstance (by decide +kernel) (pa_cons (pv 1) (pa_cons (pe_bltn rfl T.n_int rfl rfl) pa_nil))) (nomark _)))))
    (pss_one (ps_ret (pe_and (pv 2) (pe_one (pe_cmpR oEq (pv 0) (pv 1) (nomark _))))))))
end CB

namespace CB
open PySem PySem.Spec PyProof.Rows L2
abbrev s__law_kind : Stmt := topS 38
theorem sc__law_kind : FnScope ["_law_work", "e", "_law_kinds", "_law_words", "_law_word"] ["_law_work"] (defScope s__law_kind) := ⟨rfl, rfl, rfl, by decide +kernel, rfl, by decide +kernel, by decide +kernel⟩
/-- the suite of the except clause -/
theorem ok_suite {P : Program} {w : World} {mg : Str → Option Value} {base : Heap} {f : Addr} {cdv : Value} {A : Around} {outer : List Env} {s : Shared} {H : Hp} {E : XK} {k : Nat} (G : Glob) (T : Bl mg) {ea : Str → Addr} {R : List Str} (eg : ErrG G.K mg ea R)
    (hr : Room k (A.deeper (envOfC "_law_kind" (defScope s__law_kind) s.heap.objs.size f cdv))) {D a : Addr} {oe : Obj} {pn : List (Addr × Obj)} (C : ExcC G.K D) (hz : Zc (.ref D) none oe) (hf : ∃ vs, oe.data = .fields vs) :
    PSs ((cxOf CX0 P w G.K mg base ["_law_work", "e", "_law_kinds", "_law_words", "_law_word"] "_law_kind" (defScope s__law_kind) f cdv A outer s H E).nox.suite a ((a, oe) :: pn)) (suiteOf (defBody s__law_kind)) (t_suite G ea D a) := by
  have nd := sc__law_kind.nd
  have hu := hu_of hr
  have n_ValueError : mg "ValueError" = none := eg.nV
  exact (pss_cons (ps_set (i := 2) nd rfl (Or.inl rfl) (pe_lst (pa_cons (pe_callB (call_isE C hz hf) (by rfl) T.n_isinstance (by decide +kernel) (pa_cons (pv 1) (pa_cons (pe_glob rfl (eg.mg_ "BadRule" (by decide)) rfl) pa_nil))) (pa_cons (pe_callB (call_isE C hz hf) (by rfl) T.n_isinstance (by decide +kernel) (pa_cons (pv 1) (pa_cons (pe_glob rfl (eg.mg_ "BadSize" (by decide)) rfl) pa_nil))) (pa_cons (pe_callB (call_isE C hz hf) (by rfl) T.n_isinstance (by decide +kernel) (pa_cons (pv 1) (pa_cons (pe_glob rfl (eg.mg_ "BadStream" (by decide)) rfl) pa_nil))) (pa_cons (pe_callB (call_isE C hz hf) (by rfl) T.n_isinstance (by decide +kernel) (pa_cons (pv 1) (pa_cons (pe_glob rfl (eg.mg_ "BadCosts" (by decide)) rfl) pa_nil))) pa_nil))))))
    (pss_cons (ps_set (i := 2) nd rfl (Or.inl rfl) (pe_op op_cat (pv 2) (pe_lst (pa_cons (pe_callB (call_isE C hz hf) (by rfl) T.n_isinstance (by decide +kernel) (pa_cons (pv 1) (pa_cons (pe_glob rfl (eg.mg_ "BadCount" (by decide)) rfl) pa_nil))) (pa_cons (pe_callB (call_isE C hz hf) (by rfl) T.n_isinstance (by decide +kernel) (pa_cons (pv 1) (pa_cons (pe_glob rfl (eg.mg_ "BadPage" (by decide)) rfl) pa_nil))) (pa_cons (pe_callB (call_isE C hz hf) (by rfl) T.n_isinstance (by decide +kernel) (pa_cons (pv 1) (pa_cons (pe_glob rfl (eg.mg_ "NoRoom" (by decide)) rfl) pa_nil))) pa_nil))))))
    (pss_cons (ps_set (i := 2) nd rfl (Or.inl rfl) (pe_op op_cat (pv 2) (pe_lst (pa_cons (pe_callB (call_isE C hz hf) (by rfl) T.n_isinstance (by decide +kernel) (pa_cons (pv 1) (pa_cons (pe_glob rfl (eg.mg_ "BadName" (by decide)) rfl) pa_nil))) (pa_cons (pe_callB (call_isE C hz hf) (by rfl) T.n_isinstance (by decide +kernel) (pa_cons (pv 1) (pa_cons (pe_glob rfl (eg.mg_ "NoPoint" (by decide)) rfl) pa_nil))) (pa_cons (pe_callB (call_isE C hz hf) (by rfl) T.n_isinstance (by decide +kernel) (pa_cons (pv 1) (pa_cons (pe_glob rfl (eg.mg_ "BadPaper" (by decide)) rfl) pa_nil))) pa_nil))))))
    (pss_cons (ps_expr (pe_bm PySem.F.plainAttrs_list PySem.F.slot_list_append PySem.F.type_list_append mt_append (pv 2) (pa_cons (pe_callB (call_isE C hz hf) (by rfl) T.n_isinstance (by decide +kernel) (pa_cons (pv 1) (pa_cons (pe_glob rfl (eg.mg_ "BadText" (by decide)) rfl) pa_nil))) pa_nil)))
    (pss_cons (ps_set (i := 3) nd rfl (Or.inl rfl) pe_str)
    (pss_cons (ps_if (PW.pt (pw_or (pt_cmpR oNe (pe_bm PySem.F.plainAttrs_list PySem.F.slot_list_count PySem.F.type_list_count (mt_countB hu) (pv 2) (pa_cons pe_bl pa_nil)) pe_int (nomark _)) (pw_or1 (pt_not (pt_val (pe_callB (call_isE C hz hf) (by rfl) T.n_isinstance (by decide +kernel) (pa_cons (pv 1) (pa_cons (pe_bltn rfl n_ValueError rfl rfl) pa_nil)))))))) (pss_one (ps_ret pe_str)) pss_nil)
    (pss_cons (ps_set (i := 4) nd rfl (Or.inl rfl) (pe_ix ix_list (pe_bm PySem.F.plainAttrs_str PySem.F.slot_str_split PySem.F.type_str_split mt_split (pv 3) (pa_cons pe_str pa_nil)) (pe_bm PySem.F.plainAttrs_list PySem.F.slot_list_index PySem.F.type_list_index mt_index (pv 2) (pa_cons pe_bl pa_nil)) (fun _ _ => rfl)))
    (pss_cons (ps_if (pt_cmpR oEq (pv 4) pe_str (nomark _)) (pss_one (ps_ret (pe_tup (pa_cons (pv 4) (pa_cons pe_never pa_nil))))) pss_nil)
    (pss_one (ps_ret (pe_ifExp (pt_cmpR oEq (pv 4) pe_str (nomark _)) (pe_tup (pa_cons (pv 4) (pa_cons pe_never pa_nil))) (pv 4))))))))))))
/-- what the law makes of a refusal -/
def kindE (ea : Str → Addr) (R : List Str) (Q : VK) : XK := fun cls d H => ∃ r ∈ R, r ≠ "BadStream" ∧ r ≠ "BadText" ∧ cls = .ref (ea r) ∧ d = none ∧ ∀ H', Same H H' → Q (.str r) H'
open LmX NdefX in
/-- _law_kind(e), e a lambda that is known -/
def tKind (X : Cx) (k : Nat) (ea : Str → Addr) (R : List Str) (te : TE) : TE := fun σ H Q => te σ H fun v H1 => ∃ (f : Addr) (F : LF) (dl : List V) (fr : List Str) (ws : List (Option V)) (sp : List (Option V) → Hp → VK → XK → Prop),
  v = .ref f ∧ LmAt H1 f F dl ∧ LOk X.prog X.w X.K X.mg X.base (L2.CX X.prog X.w) k F dl fr sp ∧ CellsAt F.cl fr ws X.s_0.heap X.H_0 ∧ (∀ y c, F.cl.lookup y = some c → c ∉ X.ex) ∧ ∀ E : XK, (∀ cls d H2, kindE ea R Q cls d H2 → E cls d H2) → sp ws H1 Q E
open LmX NdefX in
theorem pe_kind {X : Cx} (G : Glob) (hK : X.K = G.K) (T : Bl X.mg) {ea : Str → Addr} {R : List Str} (eg : ErrG G.K X.mg ea R) {g : Addr} {fd : FuncData} (F : Fun X.K "_law_kind" "_law_kind" s__law_kind g fd) (hm : X.mg "_law_kind" = some (.ref g)) {j k : Nat} (hr : Room j X.A) (hj : k + 2 ≤ j) {e : Expr} {te : TE} {p pos : Pos}
    (hg : Gl X "_law_kind") (ha : PE X e te) (hst : starEach [e] X.env = (false, eval e X.env) :: starEach [] X.env := by rfl) (hpl : (backTo pos (starEach [] X.env)).any (·.1) = false := by rfl) : PE X (.Call (.Name "_law_kind" p) [e] [] pos) (tKind X k ea R te) := by
  refine ⟨fun pins s σ H Q I h => ?_⟩
  refine wpAny_Call_Name_kw (ld_glob I hg hm ?_ (by decide))
  refine PySem.W.callWith_K (h₀ := X.base) I.ok.mod.kin F.kp ?_ hst hpl
  refine thn ((pa_cons ha pa_nil hst).run pos pins s σ H (fun vs H1 => match vs with
    | [v] => ∃ (f : Addr) (F : LF) (dl : List V) (fr : List Str) (ws : List (Option V)) (sp : List (Option V) → Hp → VK → XK → Prop),
      v = .ref f ∧ LmAt H1 f F dl ∧ LOk X.prog X.w X.K X.mg X.base (L2.CX X.prog X.w) k F dl fr sp ∧ CellsAt F.cl fr ws X.s_0.heap X.H_0 ∧ (∀ y c, F.cl.lookup y = some c → c ∉ X.ex) ∧ ∀ E : XK, (∀ cls d H2, kindE ea R Q cls d H2 → E cls d H2) → sp ws H1 Q E
    | _ => False) I h) fun us s1 ⟨vs, H1, I1, r, q⟩ => ?_
  refine ⟨I1.kIn, ?_⟩
  match vs, q with
  | [v], q =>
  obtain ⟨f, Fl, dl, fr, ws, sp, rfl, at_, L, C, out, q⟩ := q
  obtain ⟨u, rfl, ru⟩ := r.one
  obtain rfl : u = Value.ref f := ru
  have hb := F.binds (ps := ["_law_work"]) (fun _ _ _ _ _ _ us hl => match us, hl with | [_], _ => rfl)
  obtain ⟨oc, od, kV, doc, pm, an, cdv, ct, osl, efd, lk, hcd⟩ := F.ex
  subst efd
  have C1 := CellsAt.moved C I1.base out
  have rc : codeAny (model X.prog X.w) X.A (.call (.ref g) ⟨[.ref f], []⟩) (CR CX0 X.stack X.prog X.w H1 s1 Q E0) s1 := by
    refine LamX.run_ofS (N := ["_law_work", "e", "_law_kinds", "_law_words", "_law_word"]) (ps := ["_law_work"]) (us := [.ref f]) (vs := [.ref f]) lk hcd sc__law_kind (hr.mono hj) I1.env0 (hb s1 [.ref f] I1.kIn rfl) (.cons rfl .nil) rfl fun hr' => ?_
    rw [hK] at *
    refine ⟨_, (PSs.nox (pss_one (ps_try_as (i := 1) (Wout := fun _ _ _ _ => False) (ts := fun a cls d D σ H' => ∃ r ∈ R, cls = .ref (ea r) ∧ d = none ∧ t_suite G ea (ea r) a D σ H') (tb := fun W => tRet fun σ H' Q' => σ[0]? = some (some (.ref f)) ∧ LmAt H' f Fl dl ∧ sp ws H' Q' fun cls d H2 => W cls d σ H2)
      rfl rfl sc__law_kind.nd rfl rfl ⟨rfl, by decide, .inl eg.top⟩ takes0 (fun W pn xe tk _ => pss_one (ps_ret (pe_lmcall (i := 0) L hr' (by omega) tk C1 rfl rfl (.inl rfl)))) fun a oe cls d pn hz hf => ?_))), ?_⟩
    · refine ⟨fun pins s σ H D J h => ?_⟩
      obtain ⟨r, hR, rfl, rfl, h⟩ := h
      exact (ok_suite G T eg hr' (eg.exc r hR) hz hf).run pins s σ H D J h
    · refine ⟨rfl, at_, q _ fun cls d H2 ⟨r, hR, n1, n2, e1, e2, x⟩ => ?_⟩
      subst e1 e2
      exact ⟨true, eg.exm r hR, fun _ a _ => ⟨r, hR, rfl, rfl, rd_suite G eg hR n1 n2 x⟩, fun z => nomatch z⟩
  refine wpAny_call (codeAny_mono rc fun r s' hq => ?_)
  cases r with
  | error e => exact (show False from hq).elim
  | ok fl =>
    cases fl with
    | ret u => exact I1.after hq
    | next => exact False.elim hq
    | brk => exact False.elim hq
    | cont => exact False.elim hq
end CB

namespace CB
open PySem PySem.Spec PyProof.Rows L2 LmX NdefX LamX
local macro_rules | `(tactic| walk_at "s1") => `(tactic| (with_reducible first
  | refine r_seq ?_ | refine r_next ?_ | refine r_asg ?_ | refine r_gname ?_ | refine r_ret ?_ | refine r_retN ?_ | refine r_drop ?_ | refine r_ifs ?_ | refine r_c ?_ | refine r_op ?_ | refine r_nil ?_ | refine r_cons ?_
  | refine r_tup ?_ | refine r_lst ?_ | refine r_test ?_ | refine r_tB ?_ | refine r_tru ?_ | refine r_exbl ?_ | refine r_tint ?_ | refine r_and ?_ | refine r_or ?_ | refine r_not ?_ | refine r_notV ?_ | refine r_andV ?_ | refine r_orV ?_ | refine r_ifE ?_ | refine r_call ?_ | refine r_CB ?_
  | refine r_kAdd ?_ | refine r_kSub ?_ | refine r_kLt ?_ | refine r_kLe ?_ | refine r_kGt ?_ | refine r_kGe ?_ | refine r_eqI ?_ | refine r_neI ?_ | refine r_eqS ?_ | refine r_isN ?_ | refine r_notN ?_
  | refine r_gcons ?_ | refine r_gnil ?_ | refine r_gsub ?_ | refine r_BM ?_ | refine r_sl ?_ | refine r_nopart ?_ | refine r_part ?_ | refine r_exint ?_ | refine r_par ?_ | refine r_par2 ?_ | refine r_chain ?_
  | refine r_dget ?_ | refine r_dput ?_ | refine iteT ?_ | refine r_for ?_ | refine r_iEnumT ?_ | refine r_iTup ?_ | refine r_iList ?_ | refine r_rng1 ?_ | refine r_rng2 ?_ | refine r_lc ?_ | refine r_gtup2 ?_ | refine r_yes ?_ | refine iteF ?_ | refine r_var (by with_unfolding_all rfl) ?_))
local macro_rules | `(tactic| walk_at "go") => `(tactic| (repeat (walk_at "s1")))


abbrev s_law : Stmt := topS 43
/-! ### the law's four lambdas, by where they stand -/
def forBody : Stmt → List Stmt
  | .For (body := b) .. => b
  | _ => []
def asgVal : Stmt → Expr
  | .Assign _ v _ => v
  | _ => .Constant .none 0 ⟨0, 0, 0, 0⟩
def itemAt : Expr → Nat → Expr
  | .List es _, i => es.getD i (.Constant .none 0 ⟨0, 0, 0, 0⟩)
  | .BinOp _ _ r _, i => match r with
    | .List es _ => es.getD i (.Constant .none 0 ⟨0, 0, 0, 0⟩)
    | e => e
  | e, _ => e
def turnS : List Stmt := forBody ((defBody s_law).getD 1 (.Pass ⟨0, 0, 0, 0⟩))
def lamE : Nat → Expr
  | 0 => itemAt (asgVal (turnS.getD 7 (.Pass ⟨0, 0, 0, 0⟩))) 0
  | 1 => itemAt (asgVal (turnS.getD 7 (.Pass ⟨0, 0, 0, 0⟩))) 1
  | 2 => itemAt (asgVal (turnS.getD 8 (.Pass ⟨0, 0, 0, 0⟩))) 0
  | _ => itemAt (asgVal (turnS.getD 8 (.Pass ⟨0, 0, 0, 0⟩))) 1
def lamA : Expr → Arguments
  | .Lambda p _ _ _ => p
  | _ => defArgs s_law
def lamB : Expr → Expr
  | .Lambda _ b _ _ => b
  | e => e
def lamS : Expr → Scope
  | .Lambda _ _ s _ => s
  | _ => defScope s_law
def lamQ : Str := (envOfC "law" (defScope s_law) 0 0 .none).qual ++ "<lambda>"
def lamF (cells : List (Str × Addr)) (i : Nat) : Value → Addr → LF := LF.of lamQ (lamA (lamE i)) (lamB (lamE i)) (lamS (lamE i)) (cloFrom cells (lamS (lamE i)).names [])
def frF : Nat → List Str
  | 0 => ["_law_odd", "_law_bad"]
  | 1 => ["_law_rule_here", "_law_turn", "_law_odd", "_law_bad"]
  | 2 => ["_law_rule_here", "_law_size", "_law_odd", "_law_long"]
  | _ => ["_law_rule_here", "_law_size", "_law_pages", "_law_bad"]
def psF : Nat → List Str
  | 0 => []
  | 1 => ["_law_a"]
  | 2 => ["_law_b"]
  | _ => ["_law_c"]
def dlF : Nat → List V
  | 0 => []
  | _ => [.int 0]
theorem nsF0 : NScope (psF 0 ++ frF 0) (psF 0) (frF 0) (lamS (lamE 0)) := nscope_by (by decide +kernel)
theorem nsF1 : NScope (psF 1 ++ frF 1) (psF 1) (frF 1) (lamS (lamE 1)) := nscope_by (by decide +kernel)
theorem nsF2 : NScope (psF 2 ++ frF 2) (psF 2) (frF 2) (lamS (lamE 2)) := nscope_by (by decide +kernel)
theorem nsF3 : NScope (psF 3 ++ frF 3) (psF 3) (frF 3) (lamS (lamE 3)) := nscope_by (by decide +kernel)
def spL (G : Glob) (ea : Str → Addr) : Nat → List (Option V) → Hp → VK → XK → Prop
  | 0 => fun ws H Q E => ∃ odd bad, ws = [some odd, some bad] ∧ sp_cruel G ea [.str "", .int 0, odd, bad] H Q E
  | 1 => fun ws H Q E => ∃ (ru odd bad x : V) (t : Nat), ws = [some ru, some (.int (t : Int)), some odd, some bad] ∧ [V.int 0, .int 7, .non, .bl true][t]? = some x ∧ ∀ H', Same H H' → sp_cruel G ea [ru, x, odd, bad] H' Q E
  | 2 => fun ws H Q E => ∃ ru sz odd lg, ws = [some ru, some sz, some odd, some lg] ∧ sp_cruel G ea [ru, sz, odd, lg] H Q E
  | _ => fun ws H Q E => ∃ ru sz pg bad, ws = [some ru, some sz, some pg, some bad] ∧ sp_cruel G ea [ru, sz, pg, bad] H Q E
theorem binds_one {d : Addr} {F : LF} {doc pm ctv : Value} {ps : List Str} (h : ∃ g, bindArgs (F.fd doc pm ctv) ⟨[], []⟩ = seqItems? F.dv >>= g ∧ ∀ u, g (some #[u]) = pure (ps.zip [u])) (e : F.dv = .ref d) :
    ∃ g, bindArgs (F.fd doc pm ctv) ⟨[], []⟩ = seqItems? (.ref d) >>= g ∧ ∀ us : List Value, us.length = 1 → g (some us.toArray) = pure (ps.zip us) := by
  obtain ⟨g, h1, h2⟩ := h
  refine ⟨g, by rw [h1, e], fun us hl => ?_⟩
  match us, hl with
  | [u], _ => exact h2 u
section
variable {P : Program} {w : World} {mg : Str → Option Value} {base : Heap}
theorem lok0 (G : Glob) (ea : Str → Addr) (T : Bl mg) {n : Nat} (c_cruel : Cal P w G.K mg base (L2.CX P w) n "cruel" ["rule", "size", "pages", "long"] (sp_cruel G ea)) (cells : List (Str × Addr)) (dv : Value) (c : Addr) :
    LOk P w G.K mg base (L2.CX P w) (n + 1) (lamF cells 0 dv c) (dlF 0) (frF 0) (spL G ea 0) := by
  refine lok_of (N := psF 0 ++ frF 0) (ps := psF 0) nsF0 rfl (fun _ doc pm ctv e => ?_) (fun z => absurd rfl z) fun f A outer s H ws Q E hr hw h => ?_
  · show bindArgs (PySem.W.kdv_fn "<lambda>" lamQ (lamA (lamE 0)) (.expr (lamB (lamE 0))) (lamS (lamE 0)) _ dv doc pm (.ref c) ctv) ⟨[], []⟩ = _
    rw [show dv = .none from e]
    rfl
  · obtain ⟨odd, bad, rfl, h⟩ := h
    refine ⟨_, pe_cal c_cruel hr (Nat.le_refl _) rfl (passes_call (takes_of rfl rfl rfl rfl) (fun _ _ _ _ h => h)) (pa_cons pe_str (pa_cons pe_int (pa_cons (pv 0) (pa_cons (pv 1) pa_nil)))), ?_⟩
    exact ⟨odd, rfl, bad, rfl, h⟩
theorem lok1 (G : Glob) (ea : Str → Addr) (T : Bl mg) {n : Nat} (c_cruel : Cal P w G.K mg base (L2.CX P w) n "cruel" ["rule", "size", "pages", "long"] (sp_cruel G ea)) (cells : List (Str × Addr)) (dv : Value) (c : Addr) :
    LOk P w G.K mg base (L2.CX P w) (n + 1) (lamF cells 1 dv c) (dlF 1) (frF 1) (spL G ea 1) := by
  refine lok_of (N := psF 1 ++ frF 1) (ps := psF 1) nsF1 rfl (fun z => nomatch z) (fun _ d u doc pm ctv e => binds_one ⟨_, rfl, fun _ => rfl⟩ e) fun f A outer s H ws Q E hr hw h => ?_
  obtain ⟨ru, odd, bad, x, t, rfl, hx, h⟩ := h
  refine ⟨_, pe_cal c_cruel hr (Nat.le_refl _) rfl (passes_call (takes_of rfl rfl rfl rfl) (fun _ _ _ _ h => h)) (pa_cons (pv 1) (pa_cons (pe_ix ix_list (pe_lst (pa_cons pe_int (pa_cons pe_int (pa_cons pe_non (pa_cons pe_bl pa_nil))))) (pv 2) (fun _ _ => rfl)) (pa_cons (pv 3) (pa_cons (pv 4) pa_nil)))), ?_⟩
  refine ⟨ru, rfl, ?_⟩
  walk_at "go"
  refine r_newL szd fun p H1 np s1 hp => ?_
  refine ⟨.int (t : Int), rfl, r_ixL (SqL.of hp) (atI_nat hx) ?_⟩
  exact ⟨odd, rfl, bad, rfl, h H1 s1⟩
theorem lok2 (G : Glob) (ea : Str → Addr) (T : Bl mg) {n : Nat} (c_cruel : Cal P w G.K mg base (L2.CX P w) n "cruel" ["rule", "size", "pages", "long"] (sp_cruel G ea)) (cells : List (Str × Addr)) (dv : Value) (c : Addr) :
    LOk P w G.K mg base (L2.CX P w) (n + 1) (lamF cells 2 dv c) (dlF 2) (frF 2) (spL G ea 2) := by
  refine lok_of (N := psF 2 ++ frF 2) (ps := psF 2) nsF2 rfl (fun z => nomatch z) (fun _ d u doc pm ctv e => binds_one ⟨_, rfl, fun _ => rfl⟩ e) fun f A outer s H ws Q E hr hw h => ?_
  obtain ⟨ru, sz, odd, lg, rfl, h⟩ := h
  refine ⟨_, pe_cal c_cruel hr (Nat.le_refl _) rfl (passes_call (takes_of rfl rfl rfl rfl) (fun _ _ _ _ h => h)) (pa_cons (pv 1) (pa_cons (pv 2) (pa_cons (pv 3) (pa_cons (pv 4) pa_nil)))), ?_⟩
  exact ⟨ru, rfl, sz, rfl, odd, rfl, lg, rfl, h⟩
theorem lok3 (G : Glob) (ea : Str → Addr) (T : Bl mg) {n : Nat} (c_cruel : Cal P w G.K mg base (L2.CX P w) n "cruel" ["rule", "size", "pages", "long"] (sp_cruel G ea)) (cells : List (Str × Addr)) (dv : Value) (c : Addr) :
    LOk P w G.K mg base (L2.CX P w) (n + 1) (lamF cells 3 dv c) (dlF 3) (frF 3) (spL G ea 3) := by
  refine lok_of (N := psF 3 ++ frF 3) (ps := psF 3) nsF3 rfl (fun z => nomatch z) (fun _ d u doc pm ctv e => binds_one ⟨_, rfl, fun _ => rfl⟩ e) fun f A outer s H ws Q E hr hw h => ?_
  obtain ⟨ru, sz, pg, bad, rfl, h⟩ := h
  refine ⟨_, pe_cal c_cruel hr (Nat.le_refl _) rfl (passes_call (takes_of rfl rfl rfl rfl) (fun _ _ _ _ h => h)) (pa_cons (pv 1) (pa_cons (pv 2) (pa_cons (pv 3) (pa_cons (pv 4) pa_nil)))), ?_⟩
  exact ⟨ru, rfl, sz, rfl, pg, rfl, bad, rfl, h⟩
end
end CB

namespace CB
open PySem PySem.Spec PyProof.Rows L2 LmX NdefX LamX
local macro_rules | `(tactic| walk_at "s1") => `(tactic| (with_reducible first
  | refine r_seq ?_ | refine r_next ?_ | refine r_asg ?_ | refine r_gname ?_ | refine r_ret ?_ | refine r_retN ?_ | refine r_drop ?_ | refine r_ifs ?_ | refine r_c ?_ | refine r_op ?_ | refine r_nil ?_ | refine r_cons ?_
  | refine r_tup ?_ | refine r_lst ?_ | refine r_test ?_ | refine r_tB ?_ | refine r_tru ?_ | refine r_exbl ?_ | refine r_tint ?_ | refine r_and ?_ | refine r_or ?_ | refine r_not ?_ | refine r_notV ?_ | refine r_andV ?_ | refine r_orV ?_ | refine r_ifE ?_ | refine r_call ?_ | refine r_CB ?_
  | refine r_kAdd ?_ | refine r_kSub ?_ | refine r_kLt ?_ | refine r_kLe ?_ | refine r_kGt ?_ | refine r_kGe ?_ | refine r_eqI ?_ | refine r_neI ?_ | refine r_eqS ?_ | refine r_isN ?_ | refine r_notN ?_
  | refine r_gcons ?_ | refine r_gnil ?_ | refine r_gsub ?_ | refine r_BM ?_ | refine r_sl ?_ | refine r_nopart ?_ | refine r_part ?_ | refine r_exint ?_ | refine r_par ?_ | refine r_par2 ?_ | refine r_chain ?_
  | refine r_dget ?_ | refine r_dput ?_ | refine iteT ?_ | refine r_for ?_ | refine r_iEnumT ?_ | refine r_iTup ?_ | refine r_iList ?_ | refine r_rng1 ?_ | refine r_rng2 ?_ | refine r_lc ?_ | refine r_gtup2 ?_ | refine r_yes ?_ | refine iteF ?_ | refine r_var (by with_unfolding_all rfl) ?_))
local macro_rules | `(tactic| walk_at "go") => `(tactic| (repeat (walk_at "s1")))


def jsF : Nat → List Nat
  | 0 => [9, 7]
  | 1 => [11, 13, 9, 7]
  | 2 => [11, 12, 9, 8]
  | _ => [11, 12, 10, 7]
def Rk : List Str := ["BadRule", "BadSize", "BadCount"]
/-- what the comprehension's element is told -/
def teK (G : Glob) (ea : Str → Addr) (cells : List (Str × Addr)) : L2.St → TE := fun σ σ' H' Q => ∃ (i : Nat) (f : Addr) (dv : Value) (c : Addr), i < 4 ∧ σ'[14]? = some (some (.ref f)) ∧ LmAt H' f (lamF cells i dv c) (dlF i) ∧
  ∀ E : XK, (∀ cls d H2, kindE ea Rk Q cls d H2 → E cls d H2) → spL G ea i ((jsF i).map (slotAt σ)) H' Q E
def t_law (G : Glob) (ea : Str → Addr) (cells : List (Str × Addr)) (TT : List (Addr × Str)) : TS := (tSeq (tAsg (tCall (sp__law_start G) [] E0 (tCons (tVar 0) tNil)) (gName 1))
    (tSeq (tFor (iRng1 (tCons (tC (.int 4)) tNil)) (gName 13) (tSeq (tAsg (tTup (tCons (tCall (sp__law_rule G) [] E0 (tCons (tVar 1) tNil)) (tCons (tOp kAdd (tC (.int 1)) (tCall (sp__law_drawn G) [] E0 (tCons (tVar 1) (tCons (tC (.int 6)) tNil)))) tNil))) (gTup G.K 2 (gCons (gName 11) (gCons (gName 12) gNil))))
    (tSeq (tAsg (tTup (tCons (tOp kAdd (tOp kAdd (tVar 12) (tC (.int 1))) (tCall (sp__law_drawn G) [] E0 (tCons (tVar 1) (tCons (tOp kSub (tC (.int 10)) (tVar 12)) tNil)))) (tCons (tOp (rIxL G.K) (tLst (tCons (tC (.int 60)) (tCons (tCall (sp__law_drawn G) [] E0 (tCons (tVar 1) (tCons (tC (.int 61)) tNil))) (tCons (tC (.int 0)) tNil)))) (tCall (sp__law_drawn G) [] E0 (tCons (tVar 1) (tCons (tC (.int 3)) tNil)))) tNil))) (gTup G.K 2 (gCons (gName 10) (gCons (gName 8) gNil))))
    (tSeq (tAsg (tTup (tCons (tCall (sp__law_started G) [] E0 (tCons (tVar 11) (tCons (tVar 12) tNil))) (tCons (tLst tNil) tNil))) (gTup G.K 2 (gCons (gName 2) (gCons (gName 3) gNil))))
    (tSeq (tFor (iRng1 (tCons (tVar 8) tNil)) (gName 4) (tSeq (tAsg (tOp (rIxL G.K) (tLc (iRng1 (tCons (tVar 10) tNil)) (gName 15) (tTest (tOp (kNotIn G.K) (tVar 15) (tDGet (tVar 2) (tC (.str "came"))))) (tVar 15) [15]) (tC (.int 0))) (gName 5))
    (tSeq (tDrop (tBM G.K "list" rAppend (tVar 3) (tCons (tVar 5) tNil)))
    (tDrop (tCall (sp__law_ask G) [] E0 (tCons (tVar 2) (tCons (tVar 5) (tCons (tLst tNil) tNil))))))))
    (tSeq (tIfS (tNot (tB (tCall (sp__law_same G 2) [] E0 (tCons (tCall (sp_cruel G ea) [] E0 (tCons (tVar 11) (tCons (tVar 12) (tCons (tVar 10) (tCons (tVar 8) tNil))))) (tCons (tCB (bTuple G.K) (tCons (tVar 3) tNil)) tNil))))) (tRet (tC (.bl false))) tNext)
    (tSeq (tAsg (tOp (rIxL G.K) (tLst (tCons (tVar 12) (tCons (tC (.int 11)) (tCons (tC (.bl true)) (tCons (tC .non) (tCons (tC (.int 0)) tNil)))))) (tCall (sp__law_drawn G) [] E0 (tCons (tVar 1) (tCons (tC (.int 5)) tNil)))) (gName 9))
    (tSeq (tAsg (tOp (rIxL G.K) (tLst (tCons (tC (.int 61)) (tCons (tOp kSub (tC (.int 0)) (tC (.int 1))) (tCons (tC .non) (tCons (tC (.bl true)) tNil))))) (tVar 13)) (gName 7))
    (tSeq (tAsg (tLst (tCons (tLm TT (lamF cells 0)) (tCons (tLmD TT 0 (lamF cells 1)) tNil))) (gName 6))
    (tSeq (tAsg (tOp rCat (tVar 6) (tLst (tCons (tLmD TT 0 (lamF cells 2)) (tCons (tLmD TT 0 (lamF cells 3)) tNil)))) (gName 6))
    (tIfS (tTest (tOp (rNeD G.K) (tLcAt (iList G.K (tVar 6)) (gName 14) (teK G ea cells) [14]) (tLst (tCons (tC (.str "BadRule")) (tCons (tC (.str "BadSize")) (tCons (tC (.str "BadCount")) (tCons (tC (.str "BadCount")) tNil))))))) (tRet (tC (.bl false))) tNext)))))))))))
    (tRet (tC (.bl true)))))
def sp_law (G : Glob) (Pt : Addr) : Sp := fun vs H Q _ => ∃ (scr : Addr) (ns : List Int), vs = [.ref scr] ∧ SqL G.K H scr (ns.map V.int) ∧ H Pt = some (.tbl #[]) ∧ (∀ H, SqT G.K H G.aRULES rulesV) ∧ (∃ b, (∀ H, SqT G.K H G.aEMPTY [.ref b, .int 0]) ∧ ∀ H, SqT G.K H b []) ∧ ∀ H', Q (.bl true) H'
theorem len_law (G : Glob) (Pt : Addr) (vs : List V) (H : Hp) (Q : VK) (E : XK) (h : sp_law G Pt vs H Q E) : vs.length = 1 := by
  obtain ⟨_, _, rfl, _⟩ := h
  rfl
theorem Tabs.keep {T : List (Addr × Str)} {H H' : Hp} {a : Addr} {xs : List V} (h : Tabs T H) (ha : H a = some (.lst xs)) (k : ∀ b o, b ≠ a → H b = some o → H' b = some o) : Tabs T H' := fun p hp => by
  obtain ⟨ps, h1, h2, h3⟩ := h p hp
  refine ⟨ps, k _ _ (ne_of h1 ha fun z => by cases z) h1, h2, fun pos cv hc => ?_⟩
  obtain ⟨c, e1, e2⟩ := h3 pos cv hc
  refine ⟨c, e1, k _ _ (ne_of e2 ha fun z => ?_) e2⟩
  unfold CodeO at z
  cases z
theorem DrV.same {K : PySem.W.Frag} {H H' : Hp} {st scr : Addr} {ns : List Int} {i m r : Int} (d : DrV K H st scr ns i m r) (e : Same H H') : DrV K H' st scr ns i m r := ⟨e _ _ d.at_, e.seq d.scr, d.i0, d.m0, d.m1, d.r0⟩
theorem upd_keep {H : Hp} {a : Addr} {o : HO} : ∀ b u, b ≠ a → H b = some u → upd H a o b = some u := fun b u n e => (upd_ne n).trans e
theorem least_head {ps : List Int} {m n : Nat} (h : IsLeast ps m) (hn : m < n) : ((List.range n).filter fun k : Nat => !ps.contains (k : Int))[0]? = some m := by
  rw [← List.head?_eq_getElem?, List.head?_filter, List.find?_range_eq_some]
  refine ⟨?_, List.mem_range.mpr hn, fun j hj => ?_⟩
  · have e : ps.contains (m : Int) = false := by
      cases c : ps.contains (m : Int) with
      | false => rfl
      | true => exact absurd (List.contains_iff_mem.mp c) h.1
    rw [e]
    rfl
  · rw [List.contains_iff_mem.mpr (h.2 j hj)]
    rfl
theorem WV.out {H : Hp} {A : WA} {r : Rule} {size n : Nat} {W : CB.W} {a : Addr} {ys : List V} {o : HO} (wv : WV H A r size W n) (ha : H a = some (.lst ys)) (hc : a ≠ A.c) : WV (upd H a o) A r size W n := by
  have d : ∀ {b : Addr} {kv : List (Key × V)}, H b = some (.dK kv) → upd H a o b = some (.dK kv) := fun {b kv} e => (upd_ne (ne_of e ha fun z => by cases z)).trans e
  exact ⟨d wv.w, (upd_ne (Ne.symm hc)).trans wv.c, let ⟨k, h1, h2⟩ := wv.a; ⟨k, d h1, h2⟩, let ⟨k, h1, h2⟩ := wv.o; ⟨k, d h1, h2⟩, let ⟨k, h1, h2⟩ := wv.m; ⟨k, d h1, h2⟩, wv.wa, wv.wo, wv.wm, wv.ao, wv.am, wv.om⟩
theorem numIn_t {n lo hi : Int} (h1 : lo ≤ n) (h2 : n ≤ hi) : numIn (.int n) lo hi = true := by
  show (decide (lo ≤ n) && decide (n ≤ hi)) = true
  rw [decide_eq_true h1, decide_eq_true h2]
  rfl
theorem numIn_f {n lo hi : Int} (h : n < lo ∨ hi < n) : numIn (.int n) lo hi = false := by
  show (decide (lo ≤ n) && decide (n ≤ hi)) = false
  rcases h with h | h
  · rw [decide_eq_false (by omega)]
    rfl
  · rw [decide_eq_false (by omega : ¬ n ≤ hi), Bool.and_false]
theorem DrV.extN {K : PySem.W.Frag} {H H' : Hp} {st scr : Addr} {ns : List Int} {i m r : Int} (d : DrV K H st scr ns i m r) (e : ExtN H H') : DrV K H' st scr ns i m r :=
  ⟨e _ _ d.at_ (fun ps z => by cases z), by
    rcases d.scr with (z | ⟨o, z⟩) | z
    · exact .inl (.inl (e _ _ z fun ps y => by cases y))
    · exact .inl (.inr ⟨o, e _ _ z fun ps y => by cases y⟩)
    · exact .inr z, d.i0, d.m0, d.m1, d.r0⟩
theorem r_lcAt {wi : TI} {g : TG} {te : L2.St → TE} {vs : List Nat} {σ : L2.St} {H : Hp} {Q : VK} (h : tLc wi g tYes (te σ) vs σ H Q) : tLcAt wi g te vs σ H Q := h
theorem same_item {K : PySem.W.Frag} {H : Hp} {n : Nat} {ns : List Int} {i : Nat} {x y : V} (hx : (ns.map V.int)[i]? = some x) (hy : (ns.map V.int)[i]? = some y) : SameD K H n x y := by
  rw [hx] at hy
  obtain rfl := Option.some.inj hy
  rw [List.getElem?_map] at hx
  cases e : ns[i]? with
  | none => rw [e] at hx; cases hx
  | some z =>
    rw [e] at hx
    obtain rfl := Option.some.inj hx
    exact .int n z
def kinds : List Str := ["BadRule", "BadSize", "BadCount", "BadCount"]
def kindsD : PyData := .list (kinds.map PyData.str)
theorem dp_strs {K : PySem.W.Frag} {H : Hp} : ∀ xs : List Str, DpAll K H (xs.map V.str) (xs.map PyData.str)
  | [] => .nil
  | x :: xs => .cons (.str x) (dp_strs xs)
theorem kinds_shaped : SeqAt.shaped kindsD = true := by decide +kernel
theorem kinds_eqv : PyData.eqv kindsD kindsD = true := by decide +kernel
theorem no_rule (r : Rule) : ("" : Str) ≠ r.s := by
  cases r <;> decide +kernel
theorem filt_succ (p : Nat → Bool) (j : Nat) : (List.range (j + 1)).filter (fun k => !p k) = (List.range j).filter (fun k => !p k) ++ (if p j = true then [] else [j]) := by
  rw [List.range_succ, List.filter_append]
  cases c : p j <;> simp [c]
theorem rd_law (G : Glob) (ea : Str → Addr) (Pt : Addr) (cells : List (Str × Addr)) (vs : List V) (H : Hp) (Q : VK) (E : XK) (h : sp_law G Pt vs H Q E) :
    t_law G ea cells [(Pt, lamQ)] { nx := fun _ H' => Q .non H', rt := Q } (start ["_law_script", "_law_state", "_law_w", "_law_due", "_law_step", "_law_page", "_law_works", "_law_bad", "_law_long", "_law_odd", "_law_pages", "_law_rule_here", "_law_size", "_law_turn", "_law_work", "_law_one"] vs) H := by
  obtain ⟨scr, ns, rfl, hs, hP, hR, hE, q⟩ := h
  have tb0 : Tabs [(Pt, lamQ)] H := fun p hp => by
    cases hp with
    | head => exact TabS.nil hP
    | tail _ z => cases z
  unfold t_law
  walk_at "go"
  refine ⟨scr, ns, rfl, hs, fun st m H1 nst s1 dr => ?_⟩
  have tb1 := tb0.ext s1
  walk_at "go"
  refine ⟨4, rfl, by decide, by decide, ?_⟩
  refine for_range (fun i σ H' => ∃ (u2 u3 u4 u5 u6 u7 u8 u9 u10 u11 u12 u13 u14 u15 : Option V) (i' m' r' : Int), σ = [some (.ref scr), some (.ref st), u2, u3, u4, u5, u6, u7, u8, u9, u10, u11, u12, u13, u14, u15] ∧ DrV G.K H' st scr ns i' m' r' ∧ Tabs [(Pt, lamQ)] H') ?_ ?_ ?_
  · exact ⟨_, _, _, _, _, _, _, _, _, _, _, _, _, _, _, _, _, rfl, dr, tb1⟩
  · rintro t σ H2 ht ⟨u2, u3, u4, u5, u6, u7, u8, u9, u10, u11, u12, u13, u14, u15, i2, m2, r2, rfl, dr2, tb2⟩
    rw [Int.zero_add]
    walk_at "go"
    refine ⟨st, scr, ns, i2, m2, r2, rfl, dr2, fun r i3 m3 r3 H3 k3 dr3 => ?_⟩
    have tb3 := Tabs.keep tb2 dr2.at_ k3
    walk_at "go"
    refine ⟨st, scr, ns, i3, m3, r3, 6, rfl, dr3, by decide, by decide, fun x i4 m4 r4 x0 x1 dr4 => ?_⟩
    have tb4 := Tabs.keep tb3 dr3.at_ (upd_keep (o := DrS scr i4 m4 r4))
    generalize upd H3 st (DrS scr i4 m4 r4) = H4 at dr4 tb4
    walk_at "go"
    obtain ⟨sz, hsz⟩ : ∃ sz : Nat, 1 + x = (sz : Int) := ⟨(1 + x).toNat, (Int.toNat_of_nonneg (by omega)).symm⟩
    rw [hsz]
    have sz1 : 1 ≤ sz := by omega
    have sz6 : sz ≤ 6 := by omega
    refine r_newT szd fun p5 H5 np5 s5 hp5 => ?_
    refine r_gtup (SqT.of hp5) rfl ?_
    have dr5 := dr4.same s5
    have tb5 := tb4.ext s5
    walk_at "go"
    refine ⟨st, scr, ns, i4, m4, r4, 10 - (sz : Int), rfl, dr5, by omega, by omega, fun y i6 m6 r6 y0 y1 dr6 => ?_⟩
    have tb6 := Tabs.keep tb5 dr5.at_ (upd_keep (o := DrS scr i6 m6 r6))
    generalize upd H5 st (DrS scr i6 m6 r6) = H6 at dr6 tb6
    walk_at "go"
    obtain ⟨pg, hpg⟩ : ∃ pg : Nat, (sz : Int) + 1 + y = (pg : Int) := ⟨((sz : Int) + 1 + y).toNat, (Int.toNat_of_nonneg (by omega)).symm⟩
    rw [hpg]
    have pg1 : sz + 1 ≤ pg := by omega
    have pg2 : pg ≤ 10 := by omega
    refine ⟨st, scr, ns, i6, m6, r6, 61, rfl, dr6, by decide, by decide, fun z i7 m7 r7 z0 z1 dr7 => ?_⟩
    have tb7 := Tabs.keep tb6 dr6.at_ (upd_keep (o := DrS scr i7 m7 r7))
    generalize upd H6 st (DrS scr i7 m7 r7) = H7 at dr7 tb7
    walk_at "go"
    refine r_newL szd fun p8 H8 np8 s8 hp8 => ?_
    have dr8 := dr7.same s8
    have tb8 := tb7.ext s8
    have ne8 : p8 ≠ st := fun e => by
      rw [e, dr7.at_] at np8
      cases np8
    walk_at "go"
    refine ⟨st, scr, ns, i7, m7, r7, 3, rfl, dr8, by decide, by decide, fun c i9 m9 r9 c0 c1 dr9 => ?_⟩
    have tb9 := Tabs.keep tb8 dr8.at_ (upd_keep (o := DrS scr i9 m9 r9))
    have hp9 := upd_keep (o := DrS scr i9 m9 r9) _ _ ne8 hp8
    generalize upd H8 st (DrS scr i9 m9 r9) = H9 at dr9 tb9 hp9
    obtain ⟨lg, hlg, lg1⟩ : ∃ lg : Nat, atI [V.int 60, V.int z, V.int 0] c = some (.int (lg : Int)) ∧ lg ≤ 60 := by
      obtain ⟨zn, rfl⟩ : ∃ zn : Nat, z = (zn : Int) := ⟨z.toNat, (Int.toNat_of_nonneg z0).symm⟩
      have e : c = 0 ∨ c = 1 ∨ c = 2 := by omega
      rcases e with rfl | rfl | rfl
      · exact ⟨60, rfl, by omega⟩
      · exact ⟨zn, rfl, by omega⟩
      · exact ⟨0, rfl, by omega⟩
    refine r_ixL (SqL.of hp9) hlg ?_
    walk_at "go"
    refine r_newT szd fun p10 H10 np10 s10 hp10 => ?_
    refine r_gtup (SqT.of hp10) rfl ?_
    have dr10 := dr9.same s10
    have tb10 := tb9.ext s10
    walk_at "go"
    refine ⟨r, sz, rfl, fun A H11 s11 w1 w2 w3 w4 w5 wv0 => ?_⟩
    walk_at "go"
    refine r_newL szd fun due H12 nd12 s12 hd12 => ?_
    walk_at "go"
    refine r_newT szd fun p13 H13 np13 s13 hp13 => ?_
    refine r_gtup (SqT.of hp13) rfl ?_
    walk_at "go"
    have s13' : Same H10 H13 := fun b o e => s13 _ _ (s12 _ _ (s11 _ _ e))
    have ndue : H10 due = none := by
      cases e : H10 due with
      | none => rfl
      | some o => rw [s11 _ _ e] at nd12; cases nd12
    have dueA : due ≠ A.c := fun e => by
      rw [e, wv0.c] at nd12
      cases nd12
    have wv13 : WV H13 A r sz W0 0 := (wv0.same s12).same s13
    have hd13 := s13 _ _ hd12
    refine ⟨(lg : Int), rfl, by omega, by omega, ?_⟩
    rw [Int.toNat_natCast]
    refine for_range (fun i σ H' => ∃ (v4 v5 : Option V) (A' : WA) (W : CB.W) (dl : List Int), σ = [some (.ref scr), some (.ref st), some (.ref A.w), some (.ref due), v4, v5, u6, u7, some (.int (lg : Int)), u9, some (.int (pg : Int)), some (.str r.s), some (.int (sz : Int)), some (.int (t : Int)), u14, u15] ∧
      Same H10 H' ∧ WV H' A' r sz W (4 * i) ∧ Du r sz W0 i W dl ∧ H' due = some (.lst (dl.map V.int)) ∧ A'.w = A.w ∧ A'.a = A.a ∧ A'.o = A.o ∧ A'.m = A.m ∧ H10 A'.c = none ∧ due ≠ A'.c ∧ i ≤ 60) ?_ ?_ ?_
    · exact ⟨_, _, A, W0, [], rfl, s13', wv13, .zero, hd13, rfl, rfl, rfl, rfl, w2, dueA, by omega⟩
    · rintro i σ H14 hi ⟨v4, v5, A', W, dl, rfl, s14, wv, du, hdue, e1, e2, e3, e4, nc, dc, i60⟩
      obtain ⟨l0, h0, S0⟩ := du_sim sz1 (w0 := W0) rfl rfl du
      have wok := S0.ok sz1
      have dll : dl.length = i := by
        have : ∀ {n w due}, Du r sz W0 n w due → due.length = n := fun {n w due} d => by
          induction d with
          | zero => rfl
          | succ _ _ _ ih => rw [List.length_append, ih]; rfl
        exact this du
      obtain ⟨k, kl, hk⟩ := least_is W.came
      have kpg : k < pg := by have := wok.len; omega
      walk_at "go"
      refine ⟨(pg : Int), rfl, by omega, by omega, fun D nD => ?_⟩
      rw [Int.toNat_natCast]
      refine lc_range (fun j H' => Same H14 H' ∧ H' D = some (.lst ((((List.range j).filter fun k : Nat => !W.came.contains (k : Int)).map fun k : Nat => (k : Int)).map V.int)) ∧ j ≤ pg) ⟨.new nD, upd_same, Nat.zero_le _⟩ (fun j H15 hj ⟨s15, h15, jp⟩ => ?_) fun H15 ⟨s15, h15, _⟩ => ?_
      · rw [Int.zero_add]
        walk_at "go"
        refine ⟨rfl, ?_⟩
        walk_at "go"
        refine r_dgK (by rw [← e1]; exact s15 _ _ wv.w) wk_came rfl ?_
        walk_at "go"
        refine r_notInI (SqL.of (s15 _ _ wv.c)) ?_
        walk_at "go"
        have er : (List.range (j + 1)).filter (fun k : Nat => !W.came.contains (k : Int)) = (List.range j).filter (fun k : Nat => !W.came.contains (k : Int)) ++ (if W.came.contains (j : Int) = true then [] else [j]) := by
          exact filt_succ (fun k : Nat => W.came.contains (k : Int)) j
        have lr : ((List.range j).filter (fun k : Nat => !W.came.contains (k : Int))).length ≤ j := Nat.le_trans (List.length_filter_le _ _) (by simp)
        cases c : W.came.contains (j : Int) with
        | true =>
          refine ifnt ?_
          rw [er, if_pos c, List.append_nil]
          exact ⟨s15, h15, hj⟩
        | false =>
          refine ifnf ?_
          walk_at "go"
          refine ⟨_, h15, sz10' (by rw [List.length_map, List.length_map]; omega), .mut s15 nD, ?_, hj⟩
          rw [upd_same, er, if_neg (by rw [c]; exact Bool.false_ne_true), List.map_append, List.map_append]
          rfl
      · refine r_ixL (SqL.of h15) (atI_nat (j := 0) (v := V.int (k : Int)) ?_) ?_
        · rw [List.getElem?_map, List.getElem?_map, least_head hk kpg]
          rfl
        walk_at "go"
        have hdue15 := s15 _ _ hdue
        refine ⟨.inl ⟨rfl, _, SqL.of hdue15⟩, ?_⟩
        walk_at "go"
        refine r_append hdue15 (sz10' (by rw [List.length_map]; omega)) ?_
        walk_at "go"
        have sm15 : Same H10 H15 := fun b o e => s15 _ _ (s14 _ _ e)
        have wv16 : WV (upd H15 due (.lst (dl.map V.int ++ [V.int (k : Int)]))) A' r sz W (4 * i) := (wv.same s15).out hdue15 dc
        have h16 : (upd H15 due (.lst (dl.map V.int ++ [V.int (k : Int)]))) due = some (.lst ((dl ++ [(k : Int)]).map V.int)) := by rw [upd_same, List.map_append]; rfl
        have s16 : Same H10 (upd H15 due (.lst (dl.map V.int ++ [V.int (k : Int)]))) := Same.mut sm15 ndue
        generalize upd H15 due (.lst (dl.map V.int ++ [V.int (k : Int)])) = H16 at wv16 h16 s16
        refine r_newL szd fun pa H17 npa s17 hpa => ?_
        have wv17 := wv16.same s17
        have h17 := s17 _ _ h16
        have sm17 : Same H10 H17 := fun b o e => s17 _ _ (s16 _ _ e)
        have wl := wok.len
        refine ⟨A', r, sz, 4 * i, W, (k : Int), pa, [], by rw [e1], wv17, SqL.of hpa, by omega, by omega, wok.asked, wok.often, wok.marks, fun hr hl _ => clock_goes wok hr hl, fun res W' A'' v H18 asks fr wn wv18 _ => ?_⟩
        have dk : ∀ {b : Addr} {kv : List (Key × V)}, H17 b = some (.dK kv) → due ≠ b := fun {b kv} e => ne_of h17 e fun z => by cases z
        obtain ⟨_, ha1, _⟩ := wv17.a
        obtain ⟨_, ho1, _⟩ := wv17.o
        obtain ⟨_, hm1, _⟩ := wv17.m
        have no : ∀ {b : Addr} {o : HO} {a : Addr}, H10 b = some o → H10 a = none → b ≠ a := fun {b o a} e n z => by rw [z, n] at e; cases e
        refine ⟨_, _, A'', W', dl ++ [(k : Int)], rfl, fun b o e => fr b o (no e (by rw [e1]; exact w1)) (no e nc) (no e (by rw [e2]; exact w3)) (no e (by rw [e3]; exact w4)) (no e (by rw [e4]; exact w5)) (sm17 _ _ e), ?_, .succ du hk asks, fr _ _ (dk wv17.w) dc (dk ha1) (dk ho1) (dk hm1) h17,
          wn.w.trans e1, wn.a.trans e2, wn.o.trans e3, wn.m.trans e4, ?_, ?_, by omega⟩
        · rw [show 4 * (i + 1) = 4 * i + 4 from by omega]
          exact wv18
        · rcases wn.c with z | z
          · rw [z]
            exact nc
          · cases e : H10 A''.c with
            | none => rfl
            | some o => rw [sm17 _ _ e] at z; cases z
        · rcases wn.c with z | z
          · rw [z]
            exact dc
          · exact ne_of_none h17 z
    · rintro σ H14 ⟨v4, v5, A', W, dl, rfl, s14, wv, du, hdue, e1, e2, e3, e4, nc, dc, i60⟩
      walk_at "go"
      refine ⟨r.s, .int (sz : Int), .int (pg : Int), .int (lg : Int), rfl, hR, hE, .int _, .int _, .int _, fun h => absurd rfl (h r), fun _ h => ?_, fun r' s' z1 z2 z3 z4 => ⟨fun z => ?_, fun n hp hl hn a H15 stL s15 cr h15 => ?_⟩⟩
      · rw [numIn_t (by omega) (by omega)] at h
        cases h
      · have ez : sz = s' := by have := V.int.inj z2; omega
        rw [numIn_t (by omega) (by omega), numIn_t (by omega) (by omega)] at z
        rcases z with z | z <;> cases z
      · have ez : sz = s' := by have := V.int.inj z2; omega
        have en : lg = n := by have := V.int.inj hl; omega
        have er := rs_inj z1
        subst ez en er
        obtain ⟨l1, h1, cr⟩ := cr
        obtain ⟨ed, _⟩ := cr_du sz1 (w0 := W0) rfl rfl cr du
        subst ed
        have ln := cr.len
        walk_at "go"
        refine r_tuple_L (SqL.of (s15 _ _ hdue)) fun p16 H16 np16 s16 hp16 => ?_
        walk_at "go"
        refine ⟨.ref a, .ref p16, rfl, .tup (SqT.of (s16 _ _ h15)) (SqT.of hp16) rfl (by rw [List.length_map]; omega) (fun i x y hx hy => same_item hx hy), fun H17 s17 => ?_⟩
        have sm17 : Same H10 H17 := fun b o e => s17 _ _ (s16 _ _ (s15 _ _ (s14 _ _ e)))
        have dr17 := dr10.same sm17
        have tb17 := tb10.ext sm17
        walk_at "go"
        refine ifnt ?_
        walk_at "go"
        refine r_newL szd fun p18 H18 np18 s18 hp18 => ?_
        have dr18 := dr17.same s18
        have tb18 := tb17.ext s18
        have ne18 : p18 ≠ st := fun e => by
          rw [e, dr17.at_] at np18
          cases np18
        walk_at "go"
        refine ⟨st, scr, ns, i9, m9, r9, 5, rfl, dr18, by decide, by decide, fun c2 i19 m19 r19 c20 c21 dr19 => ?_⟩
        have tb19 := Tabs.keep tb18 dr18.at_ (upd_keep (o := DrS scr i19 m19 r19))
        have hp19 := upd_keep (o := DrS scr i19 m19 r19) _ _ ne18 hp18
        generalize upd H18 st (DrS scr i19 m19 r19) = H19 at dr19 tb19 hp19
        obtain ⟨odd, hodd, oddN, oddF⟩ : ∃ odd, atI [V.int (sz : Int), V.int 11, V.bl true, V.non, V.int 0] c2 = some odd ∧ NumV odd ∧ numIn odd (sz + 1 : Nat) 10 = false := by
          have e : c2 = 0 ∨ c2 = 1 ∨ c2 = 2 ∨ c2 = 3 ∨ c2 = 4 := by omega
          rcases e with rfl | rfl | rfl | rfl | rfl
          · exact ⟨_, rfl, .int _, numIn_f (.inl (by omega))⟩
          · exact ⟨_, rfl, .int _, numIn_f (.inr (by omega))⟩
          · exact ⟨_, rfl, .bl _, rfl⟩
          · exact ⟨_, rfl, .non, rfl⟩
          · exact ⟨_, rfl, .int _, numIn_f (.inl (by omega))⟩
        refine r_ixL (SqL.of hp19) hodd ?_
        walk_at "go"
        refine r_newL szd fun p20 H20 np20 s20 hp20 => ?_
        have dr20 := dr19.same s20
        have tb20 := tb19.ext s20
        obtain ⟨bad, hbad, badN, badF⟩ : ∃ bad, [V.int 61, V.int (0 - 1), V.non, V.bl true][t]? = some bad ∧ NumV bad ∧ numIn bad 0 60 = false := by
          have e : t = 0 ∨ t = 1 ∨ t = 2 ∨ t = 3 := by
            have : t < 4 := ht
            omega
          rcases e with rfl | rfl | rfl | rfl
          · exact ⟨_, rfl, .int _, numIn_f (.inr (by omega))⟩
          · exact ⟨_, rfl, .int _, numIn_f (.inl (by omega))⟩
          · exact ⟨_, rfl, .non, rfl⟩
          · exact ⟨_, rfl, .bl _, rfl⟩
        walk_at "go"
        refine r_ixL (SqL.of hp20) (atI_nat hbad) ?_
        walk_at "go"
        refine ⟨tb20, fun f0 a0 H21 x21 tb21 nf0 l0 => ?_⟩
        have dr21 := dr20.extN x21
        walk_at "go"
        refine ⟨tb21, fun f1 a1 d1 H22 x22 tb22 nf1 l1 => ?_⟩
        have dr22 := dr21.extN x22
        have l0 := l0.ext x22
        walk_at "go"
        refine r_newL szd fun p23 H23 np23 s23 hp23 => ?_
        have dr23 := dr22.same s23
        have tb23 := tb22.ext s23
        have l0 := l0.keeps s23
        have l1 := l1.keeps s23
        walk_at "go"
        refine ⟨tb23, fun f2 a2 d2 H24 x24 tb24 nf2 l2 => ?_⟩
        have dr24 := dr23.extN x24
        have l0 := l0.ext x24
        have l1 := l1.ext x24
        have hp24 := x24 _ _ hp23 (fun ps z => by cases z)
        walk_at "go"
        refine ⟨tb24, fun f3 a3 d3 H25 x25 tb25 nf3 l3 => ?_⟩
        have dr25 := dr24.extN x25
        have l0 := l0.ext x25
        have l1 := l1.ext x25
        have l2 := l2.ext x25
        have hp25 := x25 _ _ hp24 (fun ps z => by cases z)
        walk_at "go"
        refine r_newL szd fun p26 H26 np26 s26 hp26 => ?_
        refine r_catL (s26 _ _ hp25) hp26 szd fun p27 H27 np27 s27 hp27 => ?_
        have dr27 := (dr25.same s26).same s27
        have tb27 := (tb25.ext s26).ext s27
        have l0 := (l0.keeps s26).keeps s27
        have l1 := (l1.keeps s26).keeps s27
        have l2 := (l2.keeps s26).keeps s27
        have l3 := (l3.keeps s26).keeps s27
        walk_at "go"
        refine r_lcAt ?_
        walk_at "go"
        refine ⟨p27, rfl, ⟨_, SqL.of hp27⟩, fun D nD => ?_⟩
        refine lc_list (K := G.K) (a := p27) (xs := [.ref f0, .ref f1, .ref f2, .ref f3]) (fun i H' => Same H27 H' ∧ H' D = some (.lst ((kinds.take i).map V.str)) ∧ i ≤ 4) ⟨.new nD, upd_same, by omega⟩ (fun i H' _ ⟨e, _⟩ => SqL.of (e _ _ hp27)) (fun i x H28 hx ⟨s28, h28, i4'⟩ => ?_) fun H28 ⟨s28, h28, _⟩ => ?_
        · have hi : i < 4 := by
            have := (List.getElem?_eq_some_iff.mp hx).1
            exact this
          -- what the end of a turn is
          have fin : ∀ (H29 : Hp) (y : Str), kinds[i]? = some y → Same H28 H29 → ∃ acc, H29 D = some (.lst acc) ∧ acc.length < sizeLine ∧ (Same H27 (upd H29 D (.lst (acc ++ [V.str y]))) ∧ (upd H29 D (.lst (acc ++ [V.str y]))) D = some (.lst ((kinds.take (i + 1)).map V.str)) ∧ i + 1 ≤ 4) := fun H29 y hy s29 => by
            refine ⟨_, s29 _ _ h28, sz10' ?_, .mut (fun b o e => s29 _ _ (s28 _ _ e)) nD, ?_, hi⟩
            · rw [List.length_map]
              have := List.length_take_le i kinds
              omega
            · rw [upd_same]
              have e : kinds.take (i + 1) = kinds.take i ++ [y] := by rw [List.take_succ, hy]; rfl
              rw [e, List.map_append]
              rfl
          have told : ∀ (E : XK) (Qk : VK) (H29 : Hp) (y : Str), (∀ cls d H2, kindE ea Rk Qk cls d H2 → E cls d H2) → y ∈ Rk → kinds[i]? = some y → Same H28 H29 → (∀ H3, Same H28 H3 → Qk (.str y) H3) → E (.ref (ea y)) none H29 := fun E Qk H29 y hE hy hk s29 hq =>
            hE _ _ _ ⟨y, hy, fun z => by rw [z] at hy; exact absurd hy (by decide), fun z => by rw [z] at hy; exact absurd hy (by decide), rfl, rfl, fun H3 s3 => hq H3 fun b o e => s3 _ _ (s29 _ _ e)⟩
          walk_at "go"
          refine ⟨rfl, ?_⟩
          walk_at "go"
          have hi4 : i = 0 ∨ i = 1 ∨ i = 2 ∨ i = 3 := by omega
          rcases hi4 with rfl | rfl | rfl | rfl
          · obtain rfl := (Option.some.inj hx).symm
            refine ⟨0, f0, .none, a0, by decide, rfl, l0.keeps s28, fun E hE' => ⟨odd, bad, rfl, "", .int 0, odd, bad, rfl, hR, hE, .int 0, oddN, badN, fun _ => ?_, fun ⟨r', e⟩ => absurd e (no_rule r'), fun r' s' e => absurd e (no_rule r')⟩⟩
            exact told E _ H28 "BadRule" hE' (by decide) rfl (.refl _) fun H3 s3 => fin H3 _ rfl s3
          · obtain rfl := (Option.some.inj hx).symm
            obtain ⟨x1, hx1, x1N, x1F⟩ : ∃ x1, [V.int 0, V.int 7, V.non, V.bl true][t]? = some x1 ∧ NumV x1 ∧ numIn x1 1 6 = false := by
              have e : t = 0 ∨ t = 1 ∨ t = 2 ∨ t = 3 := by
                have : t < 4 := ht
                omega
              rcases e with rfl | rfl | rfl | rfl
              · exact ⟨_, rfl, .int _, numIn_f (.inl (by omega))⟩
              · exact ⟨_, rfl, .int _, numIn_f (.inr (by omega))⟩
              · exact ⟨_, rfl, .non, rfl⟩
              · exact ⟨_, rfl, .bl _, rfl⟩
            refine ⟨1, f1, .ref d1, a1, by decide, rfl, l1.keeps s28, fun E hE' => ⟨.str r.s, odd, bad, x1, t, rfl, hx1, fun H29 s29 => ⟨r.s, x1, odd, bad, rfl, hR, hE, x1N, oddN, badN, fun h => absurd rfl (h r), fun _ _ => ?_, fun r' s' z1 z2 z3 z4 => ?_⟩⟩⟩
            · exact told E _ H29 "BadSize" hE' (by decide) rfl s29 fun H3 s3 => fin H3 _ rfl s3
            · rw [z2, numIn_t (by omega) (by omega)] at x1F
              cases x1F
          · obtain rfl := (Option.some.inj hx).symm
            refine ⟨2, f2, .ref d2, a2, by decide, rfl, l2.keeps s28, fun E hE' => ⟨.str r.s, .int (sz : Int), odd, .int (lg : Int), rfl, r.s, .int (sz : Int), odd, .int (lg : Int), rfl, hR, hE, .int _, oddN, .int _, fun h => absurd rfl (h r), fun _ z => ?_, fun r' s' z1 z2 z3 z4 => ⟨fun _ => ?_, fun n hp => ?_⟩⟩⟩
            · rw [numIn_t (by omega) (by omega)] at z
              cases z
            · exact told E _ H28 "BadCount" hE' (by decide) rfl (.refl _) fun H3 s3 => fin H3 _ rfl s3
            · have ez : sz = s' := by have := V.int.inj z2; omega
              rw [← ez, oddF] at hp
              cases hp
          · obtain rfl := (Option.some.inj hx).symm
            refine ⟨3, f3, .ref d3, a3, by decide, rfl, l3.keeps s28, fun E hE' => ⟨.str r.s, .int (sz : Int), .int (pg : Int), bad, rfl, r.s, .int (sz : Int), .int (pg : Int), bad, rfl, hR, hE, .int _, .int _, badN, fun h => absurd rfl (h r), fun _ z => ?_, fun r' s' z1 z2 z3 z4 => ⟨fun _ => ?_, fun n hp hl hn => ?_⟩⟩⟩
            · rw [numIn_t (by omega) (by omega)] at z
              cases z
            · exact told E _ H28 "BadCount" hE' (by decide) rfl (.refl _) fun H3 s3 => fin H3 _ rfl s3
            · rw [hl, numIn_t (by omega) (by omega)] at badF
              cases badF
        · walk_at "go"
          refine r_newL szd fun p29 H29 np29 s29 hp29 => ?_
          refine ⟨kindsD, kindsD, .lst (SqL.of (s29 _ _ h28)) (dp_strs kinds), .lst (SqL.of hp29) (dp_strs kinds), kinds_shaped, kinds_shaped, ?_⟩
          rw [kinds_eqv]
          walk_at "go"
          refine ifnt ?_
          walk_at "go"
          exact ⟨_, _, _, _, _, _, _, _, _, _, _, _, _, _, _, _, _, rfl, (dr27.same s28).same s29, (tb27.ext s28).ext s29⟩
  · rintro σ H2 ⟨u2, u3, u4, u5, u6, u7, u8, u9, u10, u11, u12, u13, u14, u15, i2, m2, r2, rfl, dr2, tb2⟩
    walk_at "go"
    exact q H2
end CB

namespace CB
open PySem PySem.Spec PyProof.Rows L2 LmX NdefX LamX
abbrev NN : List Str := ["_law_script", "_law_state", "_law_w", "_law_due", "_law_step", "_law_page", "_law_works", "_law_bad", "_law_long", "_law_odd", "_law_pages", "_law_rule_here", "_law_size", "_law_turn", "_law_work", "_law_one"]
theorem sc_law : FnScope NN ["_law_script"] (defScope s_law) := ⟨rfl, rfl, rfl, by decide +kernel, rfl, by decide +kernel, by decide +kernel⟩
theorem passL {X : Cx} : Passes (L2.CX X.prog X.w) X E0 := fun pins σ H s e s' I h => by
  obtain ⟨_, _, _, _, _, _, _, _, _, _, _, _, x⟩ := h
  exact x.elim
theorem _root_.L2.PE.impl {X : Cx} {e : Expr} {t t' : TE} (p : PE X e t) (h : ∀ σ H Q, t' σ H Q → t σ H Q) : PE X e t' := ⟨fun pins s σ H Q I q => p.run pins s σ H Q I (h _ _ _ q)⟩
theorem ndb (i : Nat) (hi : i < 4) : ndefB (defScope s_law) (lamS (lamE i)) (frF i) = true := by
  have e : i = 0 ∨ i = 1 ∨ i = 2 ∨ i = 3 := by omega
  rcases e with rfl | rfl | rfl | rfl <;> decide +kernel
theorem jsb (i : Nat) (hi : i < 4) : (jsF i).map (fun j => NN[j]?) = (frF i).map some := by
  have e : i = 0 ∨ i = 1 ∨ i = 2 ∨ i = 3 := by omega
  rcases e with rfl | rfl | rfl | rfl <;> decide +kernel
theorem ke {X : Cx} (G : Glob) (ea : Str → Addr) (hK : X.K = G.K) (T : Bl X.mg) (eg : ErrG G.K X.mg ea Rk) {g : Addr} {fk : FuncData} (Fk : Fun X.K "_law_kind" "_law_kind" s__law_kind g fk) (hm : X.mg "_law_kind" = some (.ref g)) (hr : Room 6 X.A)
    (c_cruel : Cal X.prog X.w X.K X.mg X.base (L2.CX X.prog X.w) 3 "cruel" ["rule", "size", "pages", "long"] (sp_cruel G ea)) (hN : X.N = NN) (hsc : X.env.scope = defScope s_law) {sc : Scope} {p p2 pos : Pos}
    (hg : ∀ s H fp, Gl (blkAt X s H sc fp) "_law_kind") (hv : ∀ s H fp, PE (blkAt X s H sc fp) (.Name "_law_work" p2) (tVar 14)) : ElAt X (.Call (.Name "_law_kind" p) [.Name "_law_work" p2] [] pos) sc (teK G ea X.env.cells) := by
  refine ⟨fun pins σ s H fp I hfp => ?_⟩
  refine (pe_kind (X := blkAt X s H sc fp) (k := 4) G hK T eg Fk hm hr (by decide) (hg s H fp) (hv s H fp)).impl fun σ' H' Q h => ?_
  obtain ⟨i, f, dv, c, hi, hf, at_, h⟩ := h
  have fr := ndef_free (hsc ▸ ndb i hi)
  have fr2 := ndef_fr (ndb i hi)
  have js := jsb i hi
  rw [← hN] at js
  have cp : Caps X (cloFrom X.env.cells (lamS (lamE i)).names []) (frF i) (jsF i) := Caps.made I.ok fr fr2 js
  have lok : LOk X.prog X.w X.K X.mg X.base (L2.CX X.prog X.w) 4 (lamF X.env.cells i dv c) (dlF i) (frF i) (spL G ea i) := by
    have e : i = 0 ∨ i = 1 ∨ i = 2 ∨ i = 3 := by omega
    rw [hK] at c_cruel ⊢
    rcases e with rfl | rfl | rfl | rfl
    · exact lok0 G ea T c_cruel _ dv c
    · exact lok1 G ea T c_cruel _ dv c
    · exact lok2 G ea T c_cruel _ dv c
    · exact lok3 G ea T c_cruel _ dv c
  have vis : ∃ v, σ'[14]? = some (some v) ∧ v = .ref f := ⟨_, hf, rfl⟩
  refine ⟨.ref f, hf, f, lamF X.env.cells i dv c, dlF i, frF i, (jsF i).map (slotAt σ), spL G ea i, rfl, at_, lok, cells_of I cp, fun y a e => ?_, h⟩
  have ec := clo_cm (fun y hy e => (fr y hy e).elim (fun z => I.ok.has _ (.inl z)) fun z => I.ok.has _ (.inr z)) e
  exact fun z => (hfp a z).2.2.2.2.1 y a ec rfl
theorem ok_law {P : Program} {w : World} {mg : Str → Option Value} {base : Heap} (G : Glob) (ea : Str → Addr) (T : Bl mg) (eg : ErrG G.K mg ea Rk) {c Pt : Addr} (TB : TabB base mg c Pt)
    (c__law_start : Cal P w G.K mg base CX0 1 "_law_start" ["_law_script"] (sp__law_start G)) (c__law_drawn : Cal P w G.K mg base CX0 1 "_law_drawn" ["_law_state", "_law_many"] (sp__law_drawn G)) (c__law_rule : Cal P w G.K mg base CX0 2 "_law_rule" ["_law_state"] (sp__law_rule G))
    (c__law_started : Cal P w G.K mg base CX0 1 "_law_started" ["_law_rule_here", "_law_size"] (sp__law_started G)) (c__law_ask : Cal P w G.K mg base CX0 2 "_law_ask" ["_law_w", "_law_page", "_law_pins"] (sp__law_ask G)) (c__law_same : Cal P w G.K mg base CX0 2 "_law_same" ["_law_found", "_law_due"] (sp__law_same G 2))
    (c_cruel : Cal P w G.K mg base (L2.CX P w) 3 "cruel" ["rule", "size", "pages", "long"] (sp_cruel G ea)) {gk : Addr} {fk : FuncData} (Fk : Fun G.K "_law_kind" "_law_kind" s__law_kind gk fk) (hmk : mg "_law_kind" = some (.ref gk)) {f : Addr} {fd : FuncData} (F : Fun G.K "law" "law" s_law f fd) (hcode : fd.code = .ref c) :
    FnOk P w G.K mg base CX0 7 f fd ["_law_script"] (sp_law G Pt) := by
  obtain ⟨oc, od, kV, doc, pm, an, cdv, ct, osl, rfl, lk, hcd⟩ := F.ex
  refine fn_of lk hcd sc_law (fun vs H Q E h => len_law G Pt vs H Q E h) fun A outer s H vs Q E hr h => ?_
  have ec0 : cdv = .ref c := hcode
  subst ec0
  have hu := hu_of hr
  have nd := sc_law.nd
  generalize ecx : (cellsFrom (s.heap.objs.size + 1) (defScope s_law).names []) = cells
  have inT : (Pt, lamQ) ∈ [(Pt, lamQ)] := List.mem_singleton.mpr rfl
  have one : ∀ p ∈ [(Pt, lamQ)], p.1 = Pt → p.2 = lamQ := fun p hp _ => by
    rw [List.mem_singleton.mp hp]
  have key : PSs (cxOf CX0 P w G.K mg base NN "law" (defScope s_law) f (.ref c) A outer s H E).nox (defBody s_law) (t_law G ea cells [(Pt, lamQ)]) := by
    subst ecx
    have KE := fun {sc : Scope} {p p2 pos : Pos} => ke (X := (cxOf CX0 P w G.K mg base NN "law" (defScope s_law) f (.ref c) A outer s H E).nox) (sc := sc) (p := p) (p2 := p2) (pos := pos) G ea rfl T eg Fk hmk hr c_cruel rfl rfl
    exact (pss_cons (ps_set (i := 1) nd rfl (Or.inl rfl) (pe_cal c__law_start hr (by decide) rfl pass0 (pa_cons (pv 0) pa_nil)))
    (pss_cons (ps_for PassesOwn.never rfl (pi_range1 rfl T.n_range (pa_cons pe_int pa_nil)) (pg_name (i := 13) nd rfl (Or.inr rfl)) (pss_cons (ps_asg (pe_tup (pa_cons (pe_cal c__law_rule hr (by decide) rfl pass0 (pa_cons (pv 1) pa_nil)) (pa_cons (pe_op oAdd pe_int (pe_cal c__law_drawn hr (by decide) rfl pass0 (pa_cons (pv 1) (pa_cons pe_int pa_nil)))) pa_nil))) (pg_tup rfl (pgs_cons (pg_name (i := 11) nd rfl (Or.inr rfl)) (pgs_cons (pg_name (i := 12) nd rfl (Or.inr rfl)) pgs_nil))))
    (pss_cons (ps_asg (pe_tup (pa_cons (pe_op oAdd (pe_op oAdd (pv 12) pe_int) (pe_cal c__law_drawn hr (by decide) rfl pass0 (pa_cons (pv 1) (pa_cons (pe_op oSub pe_int (pv 12)) pa_nil)))) (pa_cons (pe_ix ix_list (pe_lst (pa_cons pe_int (pa_cons (pe_cal c__law_drawn hr (by decide) rfl pass0 (pa_cons (pv 1) (pa_cons pe_int pa_nil))) (pa_cons pe_int pa_nil)))) (pe_cal c__law_drawn hr (by decide) rfl pass0 (pa_cons (pv 1) (pa_cons pe_int pa_nil))) (fun _ _ => rfl)) pa_nil))) (pg_tup rfl (pgs_cons (pg_name (i := 10) nd rfl (Or.inr rfl)) (pgs_cons (pg_name (i := 8) nd rfl (Or.inr rfl)) pgs_nil))))
    (pss_cons (ps_asg (pe_tup (pa_cons (pe_cal c__law_started hr (by decide) rfl pass0 (pa_cons (pv 11) (pa_cons (pv 12) pa_nil))) (pa_cons (pe_lst pa_nil) pa_nil))) (pg_tup rfl (pgs_cons (pg_name (i := 2) nd rfl (Or.inr rfl)) (pgs_cons (pg_name (i := 3) nd rfl (Or.inl rfl)) pgs_nil))))
    (pss_cons (ps_for PassesOwn.never rfl (pi_range1 rfl T.n_range (pa_cons (pv 8) pa_nil)) (pg_name (i := 4) nd rfl (Or.inl rfl)) (pss_cons (ps_set (i := 5) nd rfl (Or.inl rfl) (pe_ix ix_list (pe_lc (own := [("_law_one", 15)]) (g := (gName 15)) (tt := (tTest (tOp (kNotIn G.K) (tVar 15) (tDGet (tVar 2) (tC (.str "came")))))) rfl nd (pi_range1 rfl T.n_range (pa_cons (pv 10) pa_nil)) (blkOk_by (N := ["_law_script", "_law_state", "_law_w", "_law_due", "_law_step", "_law_page", "_law_works", "_law_bad", "_law_long", "_law_odd", "_law_pages", "_law_rule_here", "_law_size", "_law_turn", "_law_work", "_law_one"]) (sc := defScope s_law) (by decide +kernel)) (fun _ _ _ _ _ => (pg_name (i := 15) nd rfl (Or.inl rfl))) (fun _ _ _ _ _ => (pts_one (pt_cmpR oNotIn (pv 15) (pe_dget hu (pv 2) pe_str (fun _ _ => rfl)) (by first | exact nomark _ | rfl)))) (fun _ _ _ _ _ => (pv 15))) pe_int (fun _ _ => rfl)))
    (pss_cons (ps_expr (pe_bm PySem.F.plainAttrs_list PySem.F.slot_list_append PySem.F.type_list_append mt_append (pv 3) (pa_cons (pv 5) pa_nil)))
    (pss_one (ps_expr (pe_cal c__law_ask hr (by decide) rfl pass0 (pa_cons (pv 2) (pa_cons (pv 5) (pa_cons (pe_lst pa_nil) pa_nil)))))))))
    (pss_cons (ps_if (pt_not (pt_val (pe_cal c__law_same hr (by decide) rfl pass0 (pa_cons (pe_cal c_cruel hr (by decide) rfl passL (pa_cons (pv 11) (pa_cons (pv 12) (pa_cons (pv 10) (pa_cons (pv 8) pa_nil))))) (pa_cons (pe_callTy cbTuple (by rfl) T.n_tuple (by decide +kernel) (pa_cons (pv 3) pa_nil)) pa_nil))))) (pss_one (ps_ret pe_bl)) pss_nil)
    (pss_cons (ps_set (i := 9) nd rfl (Or.inr rfl) (pe_ix ix_list (pe_lst (pa_cons (pv 12) (pa_cons pe_int (pa_cons pe_bl (pa_cons pe_non (pa_cons pe_int pa_nil)))))) (pe_cal c__law_drawn hr (by decide) rfl pass0 (pa_cons (pv 1) (pa_cons pe_int pa_nil))) (fun _ _ => rfl)))
    (pss_cons (ps_set (i := 7) nd rfl (Or.inr rfl) (pe_ix ix_list (pe_lst (pa_cons pe_int (pa_cons (pe_op oSub pe_int pe_int) (pa_cons pe_non (pa_cons pe_bl pa_nil))))) (pv 13) (fun _ _ => rfl)))
    (pss_cons (ps_set (i := 6) nd rfl (Or.inl rfl) (pe_lst (pa_cons (pe_lm TB rfl inT one (ndef_free (fr := frF 0) (ndb 0 (by decide))) rfl) (pa_cons (pe_lmD TB rfl inT one (ndef_free (fr := frF 1) (ndb 1 (by decide))) rfl rfl) pa_nil))))
    (pss_cons (ps_set (i := 6) nd rfl (Or.inl rfl) (pe_op op_cat (pv 6) (pe_lst (pa_cons (pe_lmD TB rfl inT one (ndef_free (fr := frF 2) (ndb 2 (by decide))) rfl rfl) (pa_cons (pe_lmD TB rfl inT one (ndef_free (fr := frF 3) (ndb 3 (by decide))) rfl rfl) pa_nil)))))
    (pss_one (ps_if (pt_cmpR (op_neD hr.units) (pe_lcAt (own := [("_law_work", 14)]) (g := gName 14) (wi := iList G.K (tVar 6)) rfl nd (pi_list (pv 6)) (blkOk_by (N := NN) (sc := defScope s_law) (by decide +kernel)) (fun _ _ _ => pg_name (i := 14) nd rfl (Or.inl rfl)) (KE (fun _ _ _ => rfl) (fun _ _ _ => pv 14))) (pe_lst (pa_cons pe_str (pa_cons pe_str (pa_cons pe_str (pa_cons pe_str pa_nil))))) (nomark _)) (pss_one (ps_ret pe_bl)) pss_nil))))))))))))
    (pss_one (ps_ret pe_bl))))
  exact ⟨_, key.nox, rd_law G ea Pt cells vs H Q E h⟩
end CB

namespace CB
open PySem PySem.Spec PyProof.Rows L2 LmX NdefX LamX
/-! ### what the top has written -/
def eaK (K : PySem.W.Frag) (n : Str) : Addr := match PySem.W.nsIn K mainGlobals n with
  | some (some (.ref a)) => a
  | _ => 0
def vE : List Value := [.type "ValueError", .type "Exception", .type "BaseException", .type "object"]
def oneErr (K : PySem.W.Frag) (r : Str) : Bool :=
  (errs.all fun x => PySem.W.kitOne K (.ref (eaK K r)) (.ref (eaK K x)) == some (decide (r = x))) && (PySem.W.kitOne K (.ref (eaK K r)) (.type "ValueError") == some true) && (PySem.W.exmOne K (.ref (eaK K r)) (.ref (eaK K "CacheError")) == some true) &&
  (PySem.W.findIn K (.ref (eaK K r)) "__getattribute__" == some (some (.builtin "BaseException.__getattribute__"))) && (PySem.W.findIn K (.ref (eaK K r)) "__getattr__" == some none) && (PySem.W.subIn K (.ref (eaK K r)) (.type "BaseException") == some true) &&
  PySem.W.hasDictIn K (eaK K r) && (PySem.W.findIn K (.ref (eaK K r)) "__class__" == some (some (.builtin "object.__class__"))) && (PySem.W.specialIn K (.builtin "object.__class__") "__get__" == some (some (.builtin "getset_descriptor.__get__"))) &&
  (PySem.W.takesIn K (.builtin "object.__class__") == some true) && (PySem.W.mroIn K (eaK K r) (.type "object") == some true) && PySem.W.excIn K (eaK K r) vE "ValueError.__new__" && PySem.W.keepIn K (.ref (eaK K r)) && (PySem.W.typeIn K (.ref (eaK K r)) == some (.type "type"))
def refAt (K : PySem.W.Frag) (n : Str) : Bool := match PySem.W.nsIn K mainGlobals n with
  | some (some (.ref _)) => true
  | _ => false
def errB (K : PySem.W.Frag) : Bool := (Rk.all fun r => oneErr K r) && (errs.all fun x => refAt K x) && refAt K "CacheError"
def bnames : List Str := ["len", "list", "tuple", "sorted", "max", "min", "range", "enumerate", "isinstance", "bool", "int", "ValueError"]
def noneB (K : PySem.W.Frag) : Bool := bnames.all fun x => PySem.W.nsIn K mainGlobals x == some none
theorem refAt_of {K : PySem.W.Frag} {h : Heap} {mg : Str → Option Value} {n : Str} (X : K.In h) (G : h.Ns mainGlobals mg) (e : refAt K n = true) : mg n = some (.ref (eaK K n)) := by
  unfold refAt at e
  unfold eaK
  split at e
  · rename_i a q
    exact PySem.W.mg_of X G q
  · cases e
theorem errG_of {K : PySem.W.Frag} {h : Heap} {mg : Str → Option Value} (X : K.In h) (G : h.Ns mainGlobals mg) (e : errB K = true) (nV : mg "ValueError" = none) : ErrG K mg (eaK K) Rk ∧ ∀ r ∈ Rk, XF K mg r (eaK K r) := by
  unfold errB at e
  simp only [Bool.and_eq_true, List.all_eq_true] at e
  obtain ⟨⟨e1, e2⟩, e3⟩ := e
  have one : ∀ r ∈ Rk, _ := fun r hr => e1 r hr
  simp only [oneErr, Bool.and_eq_true, List.all_eq_true, beq_iff_eq] at one
  have sub : ∀ r ∈ Rk, r ∈ errs := by decide
  refine ⟨⟨fun x hx => refAt_of X G (e2 x hx), refAt_of X G e3, nV, sub, fun r hr x hx => ?_, fun r hr => ?_, fun r hr => ?_, fun r hr => ?_⟩, fun r hr => ?_⟩
  all_goals obtain ⟨⟨⟨⟨⟨⟨⟨⟨⟨⟨⟨⟨⟨z1, z2⟩, z3⟩, z4⟩, z5⟩, z6⟩, z7⟩, z8⟩, z9⟩, z10⟩, z11⟩, z12⟩, z13⟩, z14⟩ := one r hr
  · exact z1 x hx
  · exact z2
  · exact z3
  · exact ⟨z4, z5, z6, z7, z8, z9, z10, z11⟩
  · exact ⟨z12, refAt_of X G (e2 r (sub r hr)), z13, z6, z14⟩
theorem bl_of {K : PySem.W.Frag} {h : Heap} {mg : Str → Option Value} (X : K.In h) (G : h.Ns mainGlobals mg) (e : noneB K = true) : Bl mg ∧ mg "ValueError" = none := by
  unfold noneB at e
  simp only [List.all_eq_true, beq_iff_eq] at e
  have z : ∀ x ∈ bnames, mg x = none := fun x hx => PySem.W.mg_none_of X G (e x hx)
  exact ⟨⟨z _ (by decide), z _ (by decide), z _ (by decide), z _ (by decide), z _ (by decide), z _ (by decide), z _ (by decide), z _ (by decide), z _ (by decide), z _ (by decide), z _ (by decide)⟩, z _ (by decide)⟩
theorem sqT_K {K : PySem.W.Frag} {a : Addr} {od : Option Addr} {its : List Value} {n : Nat} {sl : Array (Option Value)} {xs : List V} (e : K.lookup a = some ⟨.type "tuple", od, .seq its.toArray n, sl⟩) (hl : its.length ≤ 1000) (r : Vals xs its) (H : Hp) : SqT K H a xs :=
  .inr ⟨_, its.toArray, n, e, rfl, rfl, by rw [List.size_toArray]; exact Nat.le_trans hl (by decide), by simpa using r⟩
theorem all_mk {l : PySem.W.OpenLaw} {w : World} {K : PySem.W.Frag} {h : Heap} {mg : Str → Option Value} {fa : Addr} (X : K.In h) (G0 : h.Ns mainGlobals mg) (hfa : mg "law" = some (.ref fa))
    {f_first_mark : Addr} {od_first_mark an_first_mark : Option Addr} {sl_first_mark : Array (Option Value)} {oc_first_mark kV_first_mark dc_first_mark pm_first_mark cd_first_mark ct_first_mark : Value}
    {f_place_of : Addr} {od_place_of an_place_of : Option Addr} {sl_place_of : Array (Option Value)} {oc_place_of kV_place_of dc_place_of pm_place_of cd_place_of ct_place_of : Value}
    {f_rows_asked : Addr} {od_rows_asked an_rows_asked : Option Addr} {sl_rows_asked : Array (Option Value)} {oc_rows_asked kV_rows_asked dc_rows_asked pm_rows_asked cd_rows_asked ct_rows_asked : Value}
    {f_place_to_go : Addr} {od_place_to_go an_place_to_go : Option Addr} {sl_place_to_go : Array (Option Value)} {oc_place_to_go kV_place_to_go dc_place_to_go pm_place_to_go cd_place_to_go ct_place_to_go : Value}
    {f_swept : Addr} {od_swept an_swept : Option Addr} {sl_swept : Array (Option Value)} {oc_swept kV_swept dc_swept pm_swept cd_swept ct_swept : Value}
    {f_step : Addr} {od_step an_step : Option Addr} {sl_step : Array (Option Value)} {oc_step kV_step dc_step pm_step cd_step ct_step : Value}
    {f_pages_held : Addr} {od_pages_held an_pages_held : Option Addr} {sl_pages_held : Array (Option Value)} {oc_pages_held kV_pages_held dc_pages_held pm_pages_held cd_pages_held ct_pages_held : Value}
    {f_is_number : Addr} {od_is_number an_is_number : Option Addr} {sl_is_number : Array (Option Value)} {oc_is_number kV_is_number dc_is_number pm_is_number cd_is_number ct_is_number : Value}
    {f_check_rule : Addr} {od_check_rule an_check_rule : Option Addr} {sl_check_rule : Array (Option Value)} {oc_check_rule kV_check_rule dc_check_rule pm_check_rule cd_check_rule ct_check_rule : Value}
    {f_check_size : Addr} {od_check_size an_check_size : Option Addr} {sl_check_size : Array (Option Value)} {oc_check_size kV_check_size dc_check_size pm_check_size cd_check_size ct_check_size : Value}
    {f_check_count : Addr} {od_check_count an_check_count : Option Addr} {sl_check_count : Array (Option Value)} {oc_check_count kV_check_count dc_check_count pm_check_count cd_check_count ct_check_count : Value}
    {f_least_not_held : Addr} {od_least_not_held an_least_not_held : Option Addr} {sl_least_not_held : Array (Option Value)} {oc_least_not_held kV_least_not_held dc_least_not_held pm_least_not_held cd_least_not_held ct_least_not_held : Value}
    {f_cruel : Addr} {od_cruel an_cruel : Option Addr} {sl_cruel : Array (Option Value)} {oc_cruel kV_cruel dc_cruel pm_cruel cd_cruel ct_cruel : Value}
    {f__law_start : Addr} {od__law_start an__law_start : Option Addr} {sl__law_start : Array (Option Value)} {oc__law_start kV__law_start dc__law_start pm__law_start cd__law_start ct__law_start : Value}
    {f__law_drawn : Addr} {od__law_drawn an__law_drawn : Option Addr} {sl__law_drawn : Array (Option Value)} {oc__law_drawn kV__law_drawn dc__law_drawn pm__law_drawn cd__law_drawn ct__law_drawn : Value}
    {f__law_rule : Addr} {od__law_rule an__law_rule : Option Addr} {sl__law_rule : Array (Option Value)} {oc__law_rule kV__law_rule dc__law_rule pm__law_rule cd__law_rule ct__law_rule : Value}
    {f__law_started : Addr} {od__law_started an__law_started : Option Addr} {sl__law_started : Array (Option Value)} {oc__law_started kV__law_started dc__law_started pm__law_started cd__law_started ct__law_started : Value}
    {f__law_loser : Addr} {od__law_loser an__law_loser : Option Addr} {sl__law_loser : Array (Option Value)} {oc__law_loser kV__law_loser dc__law_loser pm__law_loser cd__law_loser ct__law_loser : Value}
    {f__law_ask : Addr} {od__law_ask an__law_ask : Option Addr} {sl__law_ask : Array (Option Value)} {oc__law_ask kV__law_ask dc__law_ask pm__law_ask cd__law_ask ct__law_ask : Value}
    {f__law_same : Addr} {od__law_same an__law_same : Option Addr} {sl__law_same : Array (Option Value)} {oc__law_same kV__law_same dc__law_same pm__law_same cd__law_same ct__law_same : Value}
    {f__law_kind : Addr} {od__law_kind an__law_kind : Option Addr} {sl__law_kind : Array (Option Value)} {oc__law_kind kV__law_kind dc__law_kind pm__law_kind cd__law_kind ct__law_kind : Value}
    {f_law : Addr} {od_law an_law : Option Addr} {sl_law : Array (Option Value)} {oc_law kV_law dc_law pm_law  ct_law : Value}
    {cLaw Pt aE aR bE : Addr} {odE odB odR : Option Addr} {nE nB nR : Nat} {slE slB slR : Array (Option Value)} {tE tR1 tR2 tR3 tR4 tR5 tR6 tP tS tA : Tok}
    (a_first_mark : PySem.W.nsIn K mainGlobals "first_mark" = some (some (.ref f_first_mark)))
    (l_first_mark : K.lookup f_first_mark = some ⟨oc_first_mark, od_first_mark, .func (PySem.W.fnOf "first_mark" "first_mark" (defArgs s_first_mark) (defBody s_first_mark) (defScope s_first_mark) .none kV_first_mark dc_first_mark pm_first_mark an_first_mark cd_first_mark ct_first_mark), sl_first_mark⟩)
    (c_first_mark : PySem.W.codeIn K cd_first_mark "first_mark" = true)
    (k_first_mark : PySem.W.keepIn K (.ref f_first_mark) = true)
    (a_place_of : PySem.W.nsIn K mainGlobals "place_of" = some (some (.ref f_place_of)))
    (l_place_of : K.lookup f_place_of = some ⟨oc_place_of, od_place_of, .func (PySem.W.fnOf "place_of" "place_of" (defArgs s_place_of) (defBody s_place_of) (defScope s_place_of) .none kV_place_of dc_place_of pm_place_of an_place_of cd_place_of ct_place_of), sl_place_of⟩)
    (c_place_of : PySem.W.codeIn K cd_place_of "place_of" = true)
    (k_place_of : PySem.W.keepIn K (.ref f_place_of) = true)
    (a_rows_asked : PySem.W.nsIn K mainGlobals "rows_asked" = some (some (.ref f_rows_asked)))
    (l_rows_asked : K.lookup f_rows_asked = some ⟨oc_rows_asked, od_rows_asked, .func (PySem.W.fnOf "rows_asked" "rows_asked" (defArgs s_rows_asked) (defBody s_rows_asked) (defScope s_rows_asked) .none kV_rows_asked dc_rows_asked pm_rows_asked an_rows_asked cd_rows_asked ct_rows_asked), sl_rows_asked⟩)
    (c_rows_asked : PySem.W.codeIn K cd_rows_asked "rows_asked" = true)
    (k_rows_asked : PySem.W.keepIn K (.ref f_rows_asked) = true)
    (a_place_to_go : PySem.W.nsIn K mainGlobals "place_to_go" = some (some (.ref f_place_to_go)))
    (l_place_to_go : K.lookup f_place_to_go = some ⟨oc_place_to_go, od_place_to_go, .func (PySem.W.fnOf "place_to_go" "place_to_go" (defArgs s_place_to_go) (defBody s_place_to_go) (defScope s_place_to_go) .none kV_place_to_go dc_place_to_go pm_place_to_go an_place_to_go cd_place_to_go ct_place_to_go), sl_place_to_go⟩)
    (c_place_to_go : PySem.W.codeIn K cd_place_to_go "place_to_go" = true)
    (k_place_to_go : PySem.W.keepIn K (.ref f_place_to_go) = true)
    (a_swept : PySem.W.nsIn K mainGlobals "swept" = some (some (.ref f_swept)))
    (l_swept : K.lookup f_swept = some ⟨oc_swept, od_swept, .func (PySem.W.fnOf "swept" "swept" (defArgs s_swept) (defBody s_swept) (defScope s_swept) .none kV_swept dc_swept pm_swept an_swept cd_swept ct_swept), sl_swept⟩)
    (c_swept : PySem.W.codeIn K cd_swept "swept" = true)
    (k_swept : PySem.W.keepIn K (.ref f_swept) = true)
    (a_step : PySem.W.nsIn K mainGlobals "step" = some (some (.ref f_step)))
    (l_step : K.lookup f_step = some ⟨oc_step, od_step, .func (PySem.W.fnOf "step" "step" (defArgs s_step) (defBody s_step) (defScope s_step) .none kV_step dc_step pm_step an_step cd_step ct_step), sl_step⟩)
    (c_step : PySem.W.codeIn K cd_step "step" = true)
    (k_step : PySem.W.keepIn K (.ref f_step) = true)
    (a_pages_held : PySem.W.nsIn K mainGlobals "pages_held" = some (some (.ref f_pages_held)))
    (l_pages_held : K.lookup f_pages_held = some ⟨oc_pages_held, od_pages_held, .func (PySem.W.fnOf "pages_held" "pages_held" (defArgs s_pages_held) (defBody s_pages_held) (defScope s_pages_held) .none kV_pages_held dc_pages_held pm_pages_held an_pages_held cd_pages_held ct_pages_held), sl_pages_held⟩)
    (c_pages_held : PySem.W.codeIn K cd_pages_held "pages_held" = true)
    (k_pages_held : PySem.W.keepIn K (.ref f_pages_held) = true)
    (a_is_number : PySem.W.nsIn K mainGlobals "is_number" = some (some (.ref f_is_number)))
    (l_is_number : K.lookup f_is_number = some ⟨oc_is_number, od_is_number, .func (PySem.W.fnOf "is_number" "is_number" (defArgs s_is_number) (defBody s_is_number) (defScope s_is_number) .none kV_is_number dc_is_number pm_is_number an_is_number cd_is_number ct_is_number), sl_is_number⟩)
    (c_is_number : PySem.W.codeIn K cd_is_number "is_number" = true)
    (k_is_number : PySem.W.keepIn K (.ref f_is_number) = true)
    (a_check_rule : PySem.W.nsIn K mainGlobals "check_rule" = some (some (.ref f_check_rule)))
    (l_check_rule : K.lookup f_check_rule = some ⟨oc_check_rule, od_check_rule, .func (PySem.W.fnOf "check_rule" "check_rule" (defArgs s_check_rule) (defBody s_check_rule) (defScope s_check_rule) .none kV_check_rule dc_check_rule pm_check_rule an_check_rule cd_check_rule ct_check_rule), sl_check_rule⟩)
    (c_check_rule : PySem.W.codeIn K cd_check_rule "check_rule" = true)
    (k_check_rule : PySem.W.keepIn K (.ref f_check_rule) = true)
    (a_check_size : PySem.W.nsIn K mainGlobals "check_size" = some (some (.ref f_check_size)))
    (l_check_size : K.lookup f_check_size = some ⟨oc_check_size, od_check_size, .func (PySem.W.fnOf "check_size" "check_size" (defArgs s_check_size) (defBody s_check_size) (defScope s_check_size) .none kV_check_size dc_check_size pm_check_size an_check_size cd_check_size ct_check_size), sl_check_size⟩)
    (c_check_size : PySem.W.codeIn K cd_check_size "check_size" = true)
    (k_check_size : PySem.W.keepIn K (.ref f_check_size) = true)
    (a_check_count : PySem.W.nsIn K mainGlobals "check_count" = some (some (.ref f_check_count)))
    (l_check_count : K.lookup f_check_count = some ⟨oc_check_count, od_check_count, .func (PySem.W.fnOf "check_count" "check_count" (defArgs s_check_count) (defBody s_check_count) (defScope s_check_count) .none kV_check_count dc_check_count pm_check_count an_check_count cd_check_count ct_check_count), sl_check_count⟩)
    (c_check_count : PySem.W.codeIn K cd_check_count "check_count" = true)
    (k_check_count : PySem.W.keepIn K (.ref f_check_count) = true)
    (a_least_not_held : PySem.W.nsIn K mainGlobals "least_not_held" = some (some (.ref f_least_not_held)))
    (l_least_not_held : K.lookup f_least_not_held = some ⟨oc_least_not_held, od_least_not_held, .func (PySem.W.fnOf "least_not_held" "least_not_held" (defArgs s_least_not_held) (defBody s_least_not_held) (defScope s_least_not_held) .none kV_least_not_held dc_least_not_held pm_least_not_held an_least_not_held cd_least_not_held ct_least_not_held), sl_least_not_held⟩)
    (c_least_not_held : PySem.W.codeIn K cd_least_not_held "least_not_held" = true)
    (k_least_not_held : PySem.W.keepIn K (.ref f_least_not_held) = true)
    (a_cruel : PySem.W.nsIn K mainGlobals "cruel" = some (some (.ref f_cruel)))
    (l_cruel : K.lookup f_cruel = some ⟨oc_cruel, od_cruel, .func (PySem.W.fnOf "cruel" "cruel" (defArgs s_cruel) (defBody s_cruel) (defScope s_cruel) .none kV_cruel dc_cruel pm_cruel an_cruel cd_cruel ct_cruel), sl_cruel⟩)
    (c_cruel : PySem.W.codeIn K cd_cruel "cruel" = true)
    (k_cruel : PySem.W.keepIn K (.ref f_cruel) = true)
    (a__law_start : PySem.W.nsIn K mainGlobals "_law_start" = some (some (.ref f__law_start)))
    (l__law_start : K.lookup f__law_start = some ⟨oc__law_start, od__law_start, .func (PySem.W.fnOf "_law_start" "_law_start" (defArgs s__law_start) (defBody s__law_start) (defScope s__law_start) .none kV__law_start dc__law_start pm__law_start an__law_start cd__law_start ct__law_start), sl__law_start⟩)
    (c__law_start : PySem.W.codeIn K cd__law_start "_law_start" = true)
    (k__law_start : PySem.W.keepIn K (.ref f__law_start) = true)
    (a__law_drawn : PySem.W.nsIn K mainGlobals "_law_drawn" = some (some (.ref f__law_drawn)))
    (l__law_drawn : K.lookup f__law_drawn = some ⟨oc__law_drawn, od__law_drawn, .func (PySem.W.fnOf "_law_drawn" "_law_drawn" (defArgs s__law_drawn) (defBody s__law_drawn) (defScope s__law_drawn) .none kV__law_drawn dc__law_drawn pm__law_drawn an__law_drawn cd__law_drawn ct__law_drawn), sl__law_drawn⟩)
    (c__law_drawn : PySem.W.codeIn K cd__law_drawn "_law_drawn" = true)
    (k__law_drawn : PySem.W.keepIn K (.ref f__law_drawn) = true)
    (a__law_rule : PySem.W.nsIn K mainGlobals "_law_rule" = some (some (.ref f__law_rule)))
    (l__law_rule : K.lookup f__law_rule = some ⟨oc__law_rule, od__law_rule, .func (PySem.W.fnOf "_law_rule" "_law_rule" (defArgs s__law_rule) (defBody s__law_rule) (defScope s__law_rule) .none kV__law_rule dc__law_rule pm__law_rule an__law_rule cd__law_rule ct__law_rule), sl__law_rule⟩)
    (c__law_rule : PySem.W.codeIn K cd__law_rule "_law_rule" = true)
    (k__law_rule : PySem.W.keepIn K (.ref f__law_rule) = true)
    (a__law_started : PySem.W.nsIn K mainGlobals "_law_started" = some (some (.ref f__law_started)))
    (l__law_started : K.lookup f__law_started = some ⟨oc__law_started, od__law_started, .func (PySem.W.fnOf "_law_started" "_law_started" (defArgs s__law_started) (defBody s__law_started) (defScope s__law_started) .none kV__law_started dc__law_started pm__law_started an__law_started cd__law_started ct__law_started), sl__law_started⟩)
    (c__law_started : PySem.W.codeIn K cd__law_started "_law_started" = true)
    (k__law_started : PySem.W.keepIn K (.ref f__law_started) = true)
    (a__law_loser : PySem.W.nsIn K mainGlobals "_law_loser" = some (some (.ref f__law_loser)))
    (l__law_loser : K.lookup f__law_loser = some ⟨oc__law_loser, od__law_loser, .func (PySem.W.fnOf "_law_loser" "_law_loser" (defArgs s__law_loser) (defBody s__law_loser) (defScope s__law_loser) .none kV__law_loser dc__law_loser pm__law_loser an__law_loser cd__law_loser ct__law_loser), sl__law_loser⟩)
    (c__law_loser : PySem.W.codeIn K cd__law_loser "_law_loser" = true)
    (k__law_loser : PySem.W.keepIn K (.ref f__law_loser) = true)
    (a__law_ask : PySem.W.nsIn K mainGlobals "_law_ask" = some (some (.ref f__law_ask)))
    (l__law_ask : K.lookup f__law_ask = some ⟨oc__law_ask, od__law_ask, .func (PySem.W.fnOf "_law_ask" "_law_ask" (defArgs s__law_ask) (defBody s__law_ask) (defScope s__law_ask) .none kV__law_ask dc__law_ask pm__law_ask an__law_ask cd__law_ask ct__law_ask), sl__law_ask⟩)
    (c__law_ask : PySem.W.codeIn K cd__law_ask "_law_ask" = true)
    (k__law_ask : PySem.W.keepIn K (.ref f__law_ask) = true)
    (a__law_same : PySem.W.nsIn K mainGlobals "_law_same" = some (some (.ref f__law_same)))
    (l__law_same : K.lookup f__law_same = some ⟨oc__law_same, od__law_same, .func (PySem.W.fnOf "_law_same" "_law_same" (defArgs s__law_same) (defBody s__law_same) (defScope s__law_same) .none kV__law_same dc__law_same pm__law_same an__law_same cd__law_same ct__law_same), sl__law_same⟩)
    (c__law_same : PySem.W.codeIn K cd__law_same "_law_same" = true)
    (k__law_same : PySem.W.keepIn K (.ref f__law_same) = true)
    (a__law_kind : PySem.W.nsIn K mainGlobals "_law_kind" = some (some (.ref f__law_kind)))
    (l__law_kind : K.lookup f__law_kind = some ⟨oc__law_kind, od__law_kind, .func (PySem.W.fnOf "_law_kind" "_law_kind" (defArgs s__law_kind) (defBody s__law_kind) (defScope s__law_kind) .none kV__law_kind dc__law_kind pm__law_kind an__law_kind cd__law_kind ct__law_kind), sl__law_kind⟩)
    (c__law_kind : PySem.W.codeIn K cd__law_kind "_law_kind" = true)
    (k__law_kind : PySem.W.keepIn K (.ref f__law_kind) = true)
    (a_law : PySem.W.nsIn K mainGlobals "law" = some (some (.ref f_law)))
    (l_law : K.lookup f_law = some ⟨oc_law, od_law, .func (PySem.W.fnOf "law" "law" (defArgs s_law) (defBody s_law) (defScope s_law) .none kV_law dc_law pm_law an_law (.ref cLaw) ct_law), sl_law⟩)
    (c_law : PySem.W.codeIn K (.ref cLaw) "law" = true)
    (k_law : PySem.W.keepIn K (.ref f_law) = true)
    (a_PAGES : PySem.W.nsIn K mainGlobals "PAGES" = some (some (.int 10 tP)))
    (a_MOST_SIZE : PySem.W.nsIn K mainGlobals "MOST_SIZE" = some (some (.int 6 tS)))
    (a_MOST_ASKS : PySem.W.nsIn K mainGlobals "MOST_ASKS" = some (some (.int 60 tA)))
    (a_EMPTY : PySem.W.nsIn K mainGlobals "EMPTY" = some (some (.ref aE)))
    (l_EMPTY : K.lookup aE = some ⟨.type "tuple", odE, .seq [Value.ref bE, .int 0 tE].toArray nE, slE⟩)
    (l_nil : K.lookup bE = some ⟨.type "tuple", odB, .seq ([] : List Value).toArray nB, slB⟩)
    (a_RULES : PySem.W.nsIn K mainGlobals "RULES" = some (some (.ref aR)))
    (l_RULES : K.lookup aR = some ⟨.type "tuple", odR, .seq [Value.str "came" tR1, .str "used" tR2, .str "last" tR3, .str "high" tR4, .str "often" tR5, .str "clock" tR6].toArray nR, slR⟩)
    (eB : errB K = true)
    (nB_ : noneB K = true)
    (cH : PySem.W.codeHdIn K cLaw Pt = true)
    (nT : K.lookup Pt = none)
    (hT : h.get? Pt = some { cls := .none, data := .fields #[] }) :
    LawAtS l w K CX0 7 63 "_law_script" mg fa h := by
  have e := hfa.symm.trans (PySem.W.mg_of X G0 a_law)
  cases e
  obtain ⟨T, nV⟩ := bl_of X G0 nB_
  obtain ⟨eg, xf⟩ := errG_of X G0 eB nV
  let G : Glob := ⟨K, aE, aR, 0, 0, 0, 0, 0, 0, 0⟩
  have hR : ∀ H, SqT K H aR rulesV := sqT_K l_RULES (Nat.le_of_ble_eq_true rfl) (.cons ⟨_, rfl⟩ (.cons ⟨_, rfl⟩ (.cons ⟨_, rfl⟩ (.cons ⟨_, rfl⟩ (.cons ⟨_, rfl⟩ (.cons ⟨_, rfl⟩ .nil))))))
  have hE : ∃ b, (∀ H, SqT K H aE [.ref b, .int 0]) ∧ ∀ H, SqT K H b [] := ⟨bE, sqT_K l_EMPTY (Nat.le_of_ble_eq_true rfl) (.cons rfl (.cons ⟨_, rfl⟩ .nil)), sqT_K l_nil (Nat.le_of_ble_eq_true rfl) .nil⟩
  have g_EMPTY := PySem.W.mg_of X G0 a_EMPTY
  have g_RULES := PySem.W.mg_of X G0 a_RULES
  have g_PAGES : ∃ t, mg "PAGES" = some (.int 10 t) := ⟨_, PySem.W.mg_of X G0 a_PAGES⟩
  have g_MOST_SIZE : ∃ t, mg "MOST_SIZE" = some (.int 6 t) := ⟨_, PySem.W.mg_of X G0 a_MOST_SIZE⟩
  have g_MOST_ASKS : ∃ t, mg "MOST_ASKS" = some (.int 60 t) := ⟨_, PySem.W.mg_of X G0 a_MOST_ASKS⟩
  have x_BadRule := xf "BadRule" (by decide)
  have x_BadSize := xf "BadSize" (by decide)
  have x_BadCount := xf "BadCount" (by decide)
  have F_first_mark := fun_mk (st := s_first_mark) l_first_mark c_first_mark k_first_mark
  have F_place_of := fun_mk (st := s_place_of) l_place_of c_place_of k_place_of
  have F_rows_asked := fun_mk (st := s_rows_asked) l_rows_asked c_rows_asked k_rows_asked
  have F_place_to_go := fun_mk (st := s_place_to_go) l_place_to_go c_place_to_go k_place_to_go
  have F_swept := fun_mk (st := s_swept) l_swept c_swept k_swept
  have F_step := fun_mk (st := s_step) l_step c_step k_step
  have F_pages_held := fun_mk (st := s_pages_held) l_pages_held c_pages_held k_pages_held
  have F_is_number := fun_mk (st := s_is_number) l_is_number c_is_number k_is_number
  have F_check_rule := fun_mk (st := s_check_rule) l_check_rule c_check_rule k_check_rule
  have F_check_size := fun_mk (st := s_check_size) l_check_size c_check_size k_check_size
  have F_check_count := fun_mk (st := s_check_count) l_check_count c_check_count k_check_count
  have F_least_not_held := fun_mk (st := s_least_not_held) l_least_not_held c_least_not_held k_least_not_held
  have F_cruel := fun_mk (st := s_cruel) l_cruel c_cruel k_cruel
  have F__law_start := fun_mk (st := s__law_start) l__law_start c__law_start k__law_start
  have F__law_drawn := fun_mk (st := s__law_drawn) l__law_drawn c__law_drawn k__law_drawn
  have F__law_rule := fun_mk (st := s__law_rule) l__law_rule c__law_rule k__law_rule
  have F__law_started := fun_mk (st := s__law_started) l__law_started c__law_started k__law_started
  have F__law_loser := fun_mk (st := s__law_loser) l__law_loser c__law_loser k__law_loser
  have F__law_ask := fun_mk (st := s__law_ask) l__law_ask c__law_ask k__law_ask
  have F__law_same := fun_mk (st := s__law_same) l__law_same c__law_same k__law_same
  have F__law_kind := fun_mk (st := s__law_kind) l__law_kind c__law_kind k__law_kind
  have F_law := fun_mk (st := s_law) l_law c_law k_law
  refine ⟨PySem.W.fnOf "law" "law" (defArgs s_law) (defBody s_law) (defScope s_law) .none kV_law dc_law pm_law an_law (.ref cLaw) ct_law, [(cLaw, Pt)], sp_law G Pt, fun p hp => ?_, fun p hp => ?_, fun p hp => ?_, fun s u => .of_eq rfl, fun H a ns _ _ ht hs => ⟨a, ns, rfl, hs, ht (cLaw, Pt) (List.mem_singleton.mpr rfl), hR, hE, fun _ => rfl⟩, fun base _ _ tb => ?_⟩
  · rw [List.mem_singleton.mp hp]; exact hT
  · rw [List.mem_singleton.mp hp]; exact nT
  · rw [List.mem_singleton.mp hp]; exact PySem.W.codeHd_of_K X cH
  have q_first_mark := ok_first_mark (P := l.prog) (w := w) (base := base) G T F_first_mark (PySem.W.mg_of X G0 a_first_mark)
  have q_place_of := ok_place_of (P := l.prog) (w := w) (base := base) G T F_place_of (PySem.W.mg_of X G0 a_place_of)
  have q_rows_asked := ok_rows_asked (P := l.prog) (w := w) (base := base) G T F_rows_asked (PySem.W.mg_of X G0 a_rows_asked)
  have q_place_to_go := ok_place_to_go (P := l.prog) (w := w) (base := base) G T F_place_to_go (PySem.W.mg_of X G0 a_place_to_go)
  have q_swept := ok_swept (P := l.prog) (w := w) (base := base) G T F_swept (PySem.W.mg_of X G0 a_swept)
  have q_step := ok_step (P := l.prog) (w := w) (base := base) G T q_place_of q_rows_asked q_first_mark q_swept q_place_to_go F_step (PySem.W.mg_of X G0 a_step)
  have q_pages_held := ok_pages_held (P := l.prog) (w := w) (base := base) G T F_pages_held (PySem.W.mg_of X G0 a_pages_held)
  have q_is_number := ok_is_number (P := l.prog) (w := w) (base := base) G T F_is_number (PySem.W.mg_of X G0 a_is_number)
  have q_check_rule := ok_check_rule (P := l.prog) (w := w) (base := base) G (eaK K) T g_RULES x_BadRule F_check_rule (PySem.W.mg_of X G0 a_check_rule)
  have q_check_size := ok_check_size (P := l.prog) (w := w) (base := base) G (eaK K) T q_is_number g_MOST_SIZE x_BadSize F_check_size (PySem.W.mg_of X G0 a_check_size)
  have q_check_count := ok_check_count (P := l.prog) (w := w) (base := base) G (eaK K) T q_is_number x_BadCount F_check_count (PySem.W.mg_of X G0 a_check_count)
  have q_least_not_held := ok_least_not_held (P := l.prog) (w := w) (base := base) G T F_least_not_held (PySem.W.mg_of X G0 a_least_not_held)
  have q_cruel := ok_cruel (P := l.prog) (w := w) (base := base) G (eaK K) T q_check_rule q_check_size q_check_count q_least_not_held q_pages_held q_step g_EMPTY g_PAGES g_MOST_ASKS F_cruel (PySem.W.mg_of X G0 a_cruel)
  have q__law_start := ok__law_start (P := l.prog) (w := w) (base := base) G T F__law_start (PySem.W.mg_of X G0 a__law_start)
  have q__law_drawn := ok__law_drawn (P := l.prog) (w := w) (base := base) G T F__law_drawn (PySem.W.mg_of X G0 a__law_drawn)
  have q__law_rule := ok__law_rule (P := l.prog) (w := w) (base := base) G T q__law_drawn F__law_rule (PySem.W.mg_of X G0 a__law_rule)
  have q__law_started := ok__law_started (P := l.prog) (w := w) (base := base) G T F__law_started (PySem.W.mg_of X G0 a__law_started)
  have q__law_loser := ok__law_loser (P := l.prog) (w := w) (base := base) G T F__law_loser (PySem.W.mg_of X G0 a__law_loser)
  have q__law_ask := ok__law_ask (P := l.prog) (w := w) (base := base) G T q__law_loser F__law_ask (PySem.W.mg_of X G0 a__law_ask)
  have q__law_same := ok__law_same (P := l.prog) (w := w) (base := base) G T F__law_same (PySem.W.mg_of X G0 a__law_same) 2
  exact ok_law G (eaK K) T eg (tb (cLaw, Pt) (List.mem_singleton.mpr rfl)) q__law_start q__law_drawn q__law_rule q__law_started q__law_ask q__law_same q_cruel F__law_kind (PySem.W.mg_of X G0 a__law_kind) F_law rfl
end CB

open PySem PySem.W PyProof.Rows in
set_option maxRecDepth 100000 in
set_option maxHeartbeats 0 in
theorem PySem.Challenge.cw_cachebet_k09_cruel_streams_holds : PySem.Challenge.rw_cachebet_k09_cruel_streams.Holds := by
  w_on; o_law; k_head; (case hw => w_witness2)
  k_fill
  refine LamX.walk_ofTs (l := PySem.Challenge.rw_cachebet_k09_cruel_streams) (n := 63) (k := 7) (x := "_law_script") (CX := fun _ => L2.CX0) rfl (by decide) rfl ⟨rfl, by decide, by decide⟩ (fun w h Y => PySem.W.km_in_of Y) ?F (fun _ _ _ _ _ z => z)
  case F =>
    intro w mg fa h Y KX G hmg
    refine' CB.all_mk KX G hmg ?a_first_mark ?l_first_mark ?c_first_mark ?k_first_mark ?a_place_of ?l_place_of ?c_place_of ?k_place_of ?a_rows_asked ?l_rows_asked ?c_rows_asked ?k_rows_asked ?a_place_to_go ?l_place_to_go ?c_place_to_go ?k_place_to_go ?a_swept ?l_swept ?c_swept ?k_swept ?a_step ?l_step ?c_step ?k_step ?a_pages_held ?l_pages_held ?c_pages_held ?k_pages_held ?a_is_number ?l_is_number ?c_is_number ?k_is_number ?a_check_rule ?l_check_rule ?c_check_rule ?k_check_rule ?a_check_size ?l_check_size ?c_check_size ?k_check_size ?a_check_count ?l_check_count ?c_check_count ?k_check_count ?a_least_not_held ?l_least_not_held ?c_least_not_held ?k_least_not_held ?a_cruel ?l_cruel ?c_cruel ?k_cruel ?a__law_start ?l__law_start ?c__law_start ?k__law_start ?a__law_drawn ?l__law_drawn ?c__law_drawn ?k__law_drawn ?a__law_rule ?l__law_rule ?c__law_rule ?k__law_rule ?a__law_started ?l__law_started ?c__law_started ?k__law_started ?a__law_loser ?l__law_loser ?c__law_loser ?k__law_loser ?a__law_ask ?l__law_ask ?c__law_ask ?k__law_ask ?a__law_same ?l__law_same ?c__law_same ?k__law_same ?a__law_kind ?l__law_kind ?c__law_kind ?k__law_kind ?a_law ?l_law ?c_law ?k_law ?a_PAGES ?a_MOST_SIZE ?a_MOST_ASKS ?a_EMPTY ?l_EMPTY ?l_nil ?a_RULES ?l_RULES ?eB ?nB_ ?cH ?nT ?hT
    (case hT => exact PySem.W.km_tabs_of Y _ (List.Mem.head _))
    (case a_first_mark => k_is)
    (case l_first_mark => k_is)
    (case c_first_mark => k_is)
    (case k_first_mark => k_is)
    (case a_place_of => k_is)
    (case l_place_of => k_is)
    (case c_place_of => k_is)
    (case k_place_of => k_is)
    (case a_rows_asked => k_is)
    (case l_rows_asked => k_is)
    (case c_rows_asked => k_is)
    (case k_rows_asked => k_is)
    (case a_place_to_go => k_is)
    (case l_place_to_go => k_is)
    (case c_place_to_go => k_is)
    (case k_place_to_go => k_is)
    (case a_swept => k_is)
    (case l_swept => k_is)
    (case c_swept => k_is)
    (case k_swept => k_is)
    (case a_step => k_is)
    (case l_step => k_is)
    (case c_step => k_is)
    (case k_step => k_is)
    (case a_pages_held => k_is)
    (case l_pages_held => k_is)
    (case c_pages_held => k_is)
    (case k_pages_held => k_is)
    (case a_is_number => k_is)
    (case l_is_number => k_is)
    (case c_is_number => k_is)
    (case k_is_number => k_is)
    (case a_check_rule => k_is)
    (case l_check_rule => k_is)
    (case c_check_rule => k_is)
    (case k_check_rule => k_is)
    (case a_check_size => k_is)
    (case l_check_size => k_is)
    (case c_check_size => k_is)
    (case k_check_size => k_is)
    (case a_check_count => k_is)
    (case l_check_count => k_is)
    (case c_check_count => k_is)
    (case k_check_count => k_is)
    (case a_least_not_held => k_is)
    (case l_least_not_held => k_is)
    (case c_least_not_held => k_is)
    (case k_least_not_held => k_is)
    (case a_cruel => k_is)
    (case l_cruel => k_is)
    (case c_cruel => k_is)
    (case k_cruel => k_is)
    (case a__law_start => k_is)
    (case l__law_start => k_is)
    (case c__law_start => k_is)
    (case k__law_start => k_is)
    (case a__law_drawn => k_is)
    (case l__law_drawn => k_is)
    (case c__law_drawn => k_is)
    (case k__law_drawn => k_is)
    (case a__law_rule => k_is)
    (case l__law_rule => k_is)
    (case c__law_rule => k_is)
    (case k__law_rule => k_is)
    (case a__law_started => k_is)
    (case l__law_started => k_is)
    (case c__law_started => k_is)
    (case k__law_started => k_is)
    (case a__law_loser => k_is)
    (case l__law_loser => k_is)
    (case c__law_loser => k_is)
    (case k__law_loser => k_is)
    (case a__law_ask => k_is)
    (case l__law_ask => k_is)
    (case c__law_ask => k_is)
    (case k__law_ask => k_is)
    (case a__law_same => k_is)
    (case l__law_same => k_is)
    (case c__law_same => k_is)
    (case k__law_same => k_is)
    (case a__law_kind => k_is)
    (case l__law_kind => k_is)
    (case c__law_kind => k_is)
    (case k__law_kind => k_is)
    (case a_law => k_is)
    (case l_law => k_is)
    (case c_law => k_is)
    (case k_law => k_is)
    (case a_PAGES => k_is)
    (case a_MOST_SIZE => k_is)
    (case a_MOST_ASKS => k_is)
    (case a_EMPTY => k_is)
    (case l_EMPTY => k_is)
    (case l_nil => k_is)
    (case a_RULES => k_is)
    (case l_RULES => k_is)
    (case eB => kernel_rfl)
    (case nB_ => kernel_rfl)
    (case cH => kernel_rfl)
    (case nT => kernel_rfl)
#print axioms PySem.Challenge.cw_cachebet_k09_cruel_streams_holds
