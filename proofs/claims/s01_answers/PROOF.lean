import PyProof.Rows.All
import Wide.All
import OpenK.AllK
import Wide.FinOn
import PyProof.EqAt
import PyProof.EqKinds
import PyProof.TupleCall
import KE.BitLaws
import Open.SpecLaws
import KE.OsHead
import KE.OsGo
import KE.KDictLaws
import PyProof.ZipIter
import PyProof.ListNew
import PyProof.CollectWalk
import PyProof.SliceList
import PyProof.Rows.SetFrom
import PyFlatLaws
import PySem.Challenge.RW_toolchoice_s01_answers
set_option Elab.async false
section
set_option linter.all false
namespace TC
open Vabldf

/-! ### the need of a toolchain, by settings -/
def putN (acc : List (Nat × List Nat)) (k v : Nat) : List (Nat × List Nat) :=
  if acc.any (fun e => decide (e.1 = k)) = true then acc.map (fun e => if e.1 = k then (e.1, e.2 ++ [v]) else e) else acc ++ [(k, [v])]
def needOf (l : Pairs) : List (Nat × List Nat) := l.foldl (fun acc x => putN acc x.1 x.2) []

theorem fst_map (acc : List (Nat × List Nat)) (k v : Nat) : (acc.map (fun e => if e.1 = k then (e.1, e.2 ++ [v]) else e)).map (·.1) = acc.map (·.1) := by
  rw [List.map_map]
  refine List.map_congr_left fun e _ => ?_
  show (if e.1 = k then (e.1, e.2 ++ [v]) else e).1 = e.1
  split <;> rfl
theorem putN_keys (acc : List (Nat × List Nat)) (k v : Nat) : (putN acc k v).map (·.1) = if k ∈ acc.map (·.1) then acc.map (·.1) else acc.map (·.1) ++ [k] := by
  unfold putN
  by_cases h : acc.any (fun e => decide (e.1 = k)) = true
  · rw [if_pos h, fst_map]
    rw [List.any_eq_true] at h
    obtain ⟨e, he, q⟩ := h
    rw [if_pos]
    exact List.mem_map.mpr ⟨e, he, of_decide_eq_true q⟩
  · rw [if_neg h, List.map_append, if_neg]
    · rfl
    · intro z
      obtain ⟨e, he, q⟩ := List.mem_map.mp z
      exact h (List.any_eq_true.mpr ⟨e, he, decide_eq_true q⟩)
theorem find_fst (f : Nat → Bool) : ∀ (l : List (Nat × List Nat)), (l.find? fun e => f e.1).map (·.1) = (l.map (·.1)).find? f
  | [] => rfl
  | a :: r => by
    rw [List.map_cons, List.find?_cons, List.find?_cons]
    cases h : f a.1
    · exact find_fst f r
    · rfl
theorem find_fstP (f : Nat → Bool) : ∀ (l : Pairs), (l.find? fun e => f e.1).map (·.1) = (l.map (·.1)).find? f
  | [] => rfl
  | a :: r => by
    rw [List.map_cons, List.find?_cons, List.find?_cons]
    cases h : f a.1
    · exact find_fstP f r
    · rfl
theorem find_or (f : Nat → Bool) : ∀ (l m : List Nat), (l ++ m).find? f = (l.find? f).or (m.find? f) := by
  intro l m
  rw [List.find?_append]
theorem find_keep (f : Nat → Bool) {k : Nat} (m : List Nat) : ∀ (l : List Nat), k ∈ l → (l.find? f).or ((k :: m).find? f) = (l.find? f).or (m.find? f) := by
  intro l hk
  cases h : l.find? f with
  | some x => rfl
  | none =>
    have := List.find?_eq_none.mp h k hk
    rw [List.find?_cons]
    cases q : f k
    · rfl
    · rw [q] at this; exact (this rfl).elim
theorem need_find (f : Nat → Bool) : ∀ (l : Pairs) (acc : List (Nat × List Nat)), ((l.foldl (fun acc x => putN acc x.1 x.2) acc).map (·.1)).find? f = ((acc.map (·.1)).find? f).or ((l.map (·.1)).find? f)
  | [], acc => by
    show _ = ((acc.map (·.1)).find? f).or none
    rw [Option.or_none]; rfl
  | x :: r, acc => by
    rw [List.foldl_cons, need_find f r, putN_keys, List.map_cons]
    by_cases h : x.1 ∈ acc.map (·.1)
    · rw [if_pos h, find_keep f _ _ h]
    · rw [if_neg h, find_or, Option.or_assoc]
      congr 1
      rw [← find_or]
      rfl
theorem find_needOf (f : Nat → Bool) (l : Pairs) : ((needOf l).find? fun e => f e.1).map (·.1) = (l.find? fun x => f x.1).map (·.1) := by
  rw [find_fst, find_fstP]
  unfold needOf
  rw [need_find]
  rfl
/-- a need's table says: under a key just the values of that key -/
def Says (acc : List (Nat × List Nat)) (l : Pairs) : Prop := (acc.map (·.1)).Nodup ∧ (∀ e ∈ acc, ∀ v, v ∈ e.2 ↔ (e.1, v) ∈ l) ∧ ∀ x ∈ l, x.1 ∈ acc.map (·.1)
theorem Says.put {acc : List (Nat × List Nat)} {l : Pairs} (h : Says acc l) (k v : Nat) : Says (putN acc k v) (l ++ [(k, v)]) := by
  obtain ⟨h1, h2, h3⟩ := h
  refine ⟨?_, ?_, ?_⟩
  · rw [putN_keys]
    split
    · exact h1
    · rename_i q
      refine List.nodup_append.mpr ⟨h1, by simp, fun a ha b hb => ?_⟩
      rw [List.mem_singleton.mp hb]
      exact fun z => q (z ▸ ha)
  · intro e he u
    unfold putN at he
    split at he
    · obtain ⟨e0, m0, q0⟩ := List.mem_map.mp he
      have := h2 e0 m0
      by_cases hk : e0.1 = k
      · rw [if_pos hk] at q0
        subst q0
        simp only [List.mem_append, List.mem_singleton, Prod.mk.injEq]
        rw [this u]
        simp [hk]
      · rw [if_neg hk] at q0
        subst q0
        rw [this u]
        simp only [List.mem_append, List.mem_singleton, Prod.mk.injEq]
        constructor
        · exact .inl
        · rintro (z | ⟨z, _⟩)
          · exact z
          · exact (hk z).elim
    · rename_i hn
      rcases List.mem_append.mp he with m0 | m0
      · have hk : e.1 ≠ k := fun z => hn (List.any_eq_true.mpr ⟨e, m0, decide_eq_true z⟩)
        rw [h2 e m0 u]
        simp only [List.mem_append, List.mem_singleton, Prod.mk.injEq]
        constructor
        · exact .inl
        · rintro (z | ⟨z, _⟩)
          · exact z
          · exact (hk z).elim
      · rw [List.mem_singleton.mp m0]
        simp only [List.mem_append, List.mem_singleton, Prod.mk.injEq]
        constructor
        · intro z; exact .inr ⟨trivial, z⟩
        · rintro (z | ⟨_, z⟩)
          · exfalso
            obtain ⟨e1, q1, q2⟩ := List.mem_map.mp (h3 _ z)
            exact hn (List.any_eq_true.mpr ⟨e1, q1, decide_eq_true q2⟩)
          · exact z
  · intro x hx
    rw [putN_keys]
    rcases List.mem_append.mp hx with m0 | m0
    · have := h3 x m0
      split
      · exact this
      · exact List.mem_append_left _ this
    · rw [List.mem_singleton.mp m0]
      split
      · assumption
      · exact List.mem_append_right _ (List.mem_singleton.mpr rfl)
theorem says_fold : ∀ (l : Pairs) (acc : List (Nat × List Nat)) (pre : Pairs), Says acc pre → Says (l.foldl (fun acc x => putN acc x.1 x.2) acc) (pre ++ l)
  | [], acc, pre, h => by rw [List.append_nil]; exact h
  | x :: r, acc, pre, h => by
    rw [List.foldl_cons]
    have := says_fold r _ _ (h.put x.1 x.2)
    rw [List.append_assoc] at this
    exact this
theorem says_needOf (l : Pairs) : Says (needOf l) l := by
  have := says_fold l [] [] ⟨by simp, by simp, by simp⟩
  rw [List.nil_append] at this
  exact this
/-- whether an entry of the table is met by a value -/
def entryMet (s : State) (p : Nat) (e : Nat × List Nat) : Bool := match valueOf s p e.1 with
  | some v => e.2.contains v
  | none => false
theorem entryMet_eq (s : State) (need : Pairs) (p : Nat) {e : Nat × List Nat} (he : e ∈ needOf need) : metAt s need p e.1 = entryMet s p e := by
  unfold metAt entryMet
  cases valueOf s p e.1 with
  | none => rfl
  | some v =>
    show (need.any fun x => x.1 == e.1 && x.2 == v) = e.2.contains v
    have h := (says_needOf need).2.1 e he v
    rw [Bool.eq_iff_iff, List.any_eq_true, List.contains_iff_mem, h]
    constructor
    · rintro ⟨x, hx, q⟩
      rw [Bool.and_eq_true, beq_iff_eq, beq_iff_eq] at q
      obtain ⟨a, b⟩ := x
      obtain ⟨q1, q2⟩ := q
      simp only at q1 q2
      rw [← q1, ← q2]; exact hx
    · intro hx
      exact ⟨_, hx, by simp⟩
theorem find_congr' {α : Type} {f g : α → Bool} : ∀ {l : List α}, (∀ x ∈ l, f x = g x) → l.find? f = l.find? g
  | [], _ => rfl
  | a :: r, h => by
    rw [List.find?_cons, List.find?_cons, h a List.mem_cons_self, find_congr' fun x hx => h x (List.mem_cons_of_mem _ hx)]
theorem unmet_eq (s : State) (need : Pairs) (p : Nat) : unmet s need p = ((needOf need).find? fun e => !entryMet s p e).map (·.1) := by
  unfold unmet
  rw [← find_needOf (fun k => !metAt s need p k)]
  congr 1
  exact find_congr' fun e he => by rw [entryMet_eq s need p he]

/-! ### the object -/
def PairsOk (s : State) (l : Pairs) : Prop := ∀ x ∈ l, ∃ st, s.settings[x.1]? = some st ∧ x.2 < st.count
structure WF (s : State) : Prop where
  nset : s.settings.length ≤ 16
  npl : s.platforms.length ≤ 16
  nch : s.chains.length ≤ 32
  par : ∀ (i : Nat) (x : Platform) (q : Nat), s.platforms[i]? = some x → x.parent = some q → q < i
  own : ∀ (i : Nat) (x : Platform), s.platforms[i]? = some x → PairsOk s x.own ∧ x.own.length ≤ 32
  needs : ∀ (i : Nat) (c : Chain), s.chains[i]? = some c → PairsOk s c.first ∧ PairsOk s c.second ∧ c.first.length ≤ 32 ∧ c.second.length ≤ 32 ∧ c.kind < 32
  rank : ∀ t ∈ s.ranking, t < s.chains.length
  rlen : s.ranking.length ≤ 64
  plc : ∀ p ∈ s.places, p < s.platforms.length
  plen : s.places.length ≤ 64
theorem WF.start : WF Vabldf.start := by
  refine ⟨by decide, by decide, by decide, ?_, ?_, ?_, ?_, by decide, ?_, by decide⟩ <;> simp [Vabldf.start]

theorem inherited_fuel {s : State} (par : ∀ (i : Nat) (x : Platform) (q : Nat), s.platforms[i]? = some x → x.parent = some q → q < i) (k : Nat) : ∀ (n m p : Nat), p < n → p < m → inherited s n p k = inherited s m p k
  | 0, _, _, h, _ => absurd h (Nat.not_lt_zero _)
  | _ + 1, 0, _, _, h => absurd h (Nat.not_lt_zero _)
  | n + 1, m + 1, p, h1, h2 => by
    unfold inherited
    cases e : s.platforms[p]? with
    | none => rfl
    | some x =>
      show (match ofPairs x.own k with | some v => some v | none => match x.parent with | some q => inherited s n q k | none => none) = (match ofPairs x.own k with | some v => some v | none => match x.parent with | some q => inherited s m q k | none => none)
      cases ofPairs x.own k with
      | some v => rfl
      | none =>
        cases ep : x.parent with
        | none => rfl
        | some q =>
          have := par p x q e ep
          exact inherited_fuel par k n m q (by omega) (by omega)
/-- the value for a setting that stands in the platform's own table -/
def known (s : State) (p k : Nat) : Option Nat := inherited s (p + 1) p k
theorem known_eq {s : State} (w : WF s) {p : Nat} {x : Platform} (e : s.platforms[p]? = some x) (k : Nat) :
    known s p k = match ofPairs x.own k with | some v => some v | none => match x.parent with | some q => known s q k | none => none := by
  unfold known
  conv => lhs; unfold inherited
  rw [e]
  show (match ofPairs x.own k with | some v => some v | none => match x.parent with | some q => inherited s p q k | none => none) = _
  cases ofPairs x.own k with
  | some v => rfl
  | none =>
    cases ep : x.parent with
    | none => rfl
    | some q =>
      have := w.par p x q e ep
      exact inherited_fuel w.par k p (q + 1) q (by omega) (by omega)
/-- the same platforms ahead of n -/
theorem inherited_more {s s' : State} {n : Nat} (par : ∀ (i : Nat) (x : Platform) (q : Nat), s.platforms[i]? = some x → x.parent = some q → q < i) (h : ∀ i, i < n → s'.platforms[i]? = s.platforms[i]?) (k : Nat) : ∀ (f p : Nat), p < n → inherited s' f p k = inherited s f p k
  | 0, _, _ => rfl
  | f + 1, p, hp => by
    unfold inherited
    rw [h p hp]
    cases e : s.platforms[p]? with
    | none => rfl
    | some x =>
      show (match ofPairs x.own k with | some v => some v | none => match x.parent with | some q => inherited s' f q k | none => none) = (match ofPairs x.own k with | some v => some v | none => match x.parent with | some q => inherited s f q k | none => none)
      cases ofPairs x.own k with
      | some v => rfl
      | none =>
        cases ep : x.parent with
        | none => rfl
        | some q =>
          have := par p x q e ep
          exact inherited_more par h k f q (by omega)
theorem valueOf_known (s : State) (p k : Nat) : valueOf s p k = (known s p k).or (s.settings[k]?.bind (·.default)) := by
  unfold valueOf known
  cases inherited s (p + 1) p k with
  | some v => rfl
  | none =>
    cases s.settings[k]? with
    | none => rfl
    | some x => rfl
end TC
end
section
set_option linter.all false
namespace TC
open Vabldf

/-! ### what is looked at, as the number that is answered -/
def code {α : Type} (e : Except Int α) : Int := match e with
  | .ok _ => 0
  | .error k => k
def inR (c : Nat) (n : Int) : Bool := decide (0 ≤ n ∧ n < (c : Int))
theorem below_eq (k : Int) (c : Nat) (n : Int) : below k c n = if inR c n = true then .ok n.toNat else .error k := by
  unfold below inR
  by_cases h : 0 ≤ n ∧ n < (c : Int)
  · rw [if_pos h, if_pos (decide_eq_true h)]
  · rw [if_neg h, if_neg (by rw [decide_eq_false h]; decide)]
theorem eachOf_below (k : Int) (c : Nat) : ∀ l : List Int, eachOf (below k c) l = if l.all (inR c) = true then .ok (l.map Int.toNat) else .error k
  | [] => rfl
  | n :: r => by
    unfold eachOf
    rw [below_eq, eachOf_below k c r, List.all_cons]
    cases h : inR c n with
    | false => rfl
    | true =>
      cases h2 : r.all (inR c) with
      | false => rfl
      | true => rfl
theorem twice_iff : ∀ l : List Nat, twice l = true ↔ ¬ l.Nodup
  | [] => by simp [twice]
  | a :: r => by
    unfold twice
    rw [Bool.or_eq_true, List.contains_iff_mem, twice_iff r, List.nodup_cons, Decidable.not_and_iff_not_or_not, Decidable.not_not]
theorem nodup_toNat : ∀ l : List Int, (∀ n ∈ l, 0 ≤ n) → ((l.map Int.toNat).Nodup ↔ l.Nodup)
  | [], _ => by simp
  | a :: r, h => by
    rw [List.map_cons, List.nodup_cons, List.nodup_cons, nodup_toNat r fun n hn => h n (List.mem_cons_of_mem _ hn)]
    have e : a.toNat ∈ r.map Int.toNat ↔ a ∈ r := by
      constructor
      · intro z
        obtain ⟨b, hb, q⟩ := List.mem_map.mp z
        have h1 := h a List.mem_cons_self
        have h2 := h b (List.mem_cons_of_mem _ hb)
        have : b = a := by omega
        exact this ▸ hb
      · exact fun z => List.mem_map.mpr ⟨a, z, rfl⟩
    rw [e]
theorem all_inR {c : Nat} {l : List Int} (h : l.all (inR c) = true) : ∀ n ∈ l, 0 ≤ n ∧ n < (c : Int) := fun n hn => of_decide_eq_true (List.all_eq_true.mp h n hn)
/-- a list that is looked at -/
theorem listOf_below (k : Int) (c : Nat) (l : List Int) : listOf (below k c) l =
    if 64 < l.length then .error LIMIT else if l.all (inR c) = true then (if l.Nodup then .ok (l.map Int.toNat) else .error TWICE) else .error k := by
  unfold listOf MOST
  by_cases h : 64 < l.length
  · rw [if_pos h, if_pos h]
  · rw [if_neg h, if_neg h, eachOf_below]
    by_cases a : l.all (inR c) = true
    · rw [if_pos a, if_pos a]
      show (if twice (l.map Int.toNat) = true then Except.error TWICE else Except.ok (l.map Int.toNat)) = _
      have e := nodup_toNat l fun n hn => (all_inR a n hn).1
      by_cases d : l.Nodup
      · rw [if_pos d, if_neg]
        rw [twice_iff, Decidable.not_not]
        exact e.mpr d
      · rw [if_neg d, if_pos]
        rw [twice_iff]
        exact fun z => d (e.mp z)
    · rw [if_neg a, if_neg a]

/-! ### pairs -/
def pairsUp : List Int → List (Int × Int)
  | a :: b :: r => (a, b) :: pairsUp r
  | _ => []
def countAt (s : State) (k : Nat) : Nat := (s.settings[k]?.map fun x => x.count).getD 0
def pairCode (s : State) (x : Int × Int) : Int := if inR s.settings.length x.1 = true then (if inR (countAt s x.1.toNat) x.2 = true then 0 else VALUE) else SETTING
theorem pairCode_nz (s : State) (x : Int × Int) : pairCode s x = 0 ∨ pairCode s x = -2 ∨ pairCode s x = -3 := by
  unfold pairCode
  split
  · split
    · exact .inl rfl
    · exact .inr (.inr rfl)
  · exact .inr (.inl rfl)
/-- the first that is refused -/
def firstBad (s : State) : List (Int × Int) → Int
  | [] => 0
  | x :: r => if pairCode s x = 0 then firstBad s r else pairCode s x
def natPair (x : Int × Int) : Nat × Nat := (x.1.toNat, x.2.toNat)
theorem pairsIn_eq (s : State) : ∀ (l : List Int), l.length % 2 = 0 → pairsIn s l = if firstBad s (pairsUp l) = 0 then .ok ((pairsUp l).map natPair) else .error (firstBad s (pairsUp l))
  | [], _ => rfl
  | [_], h => by simp at h
  | a :: b :: r, h => by
    have h' : r.length % 2 = 0 := by
      rw [List.length_cons, List.length_cons] at h
      omega
    have ih := pairsIn_eq s r h'
    unfold pairsIn settingOf
    rw [below_eq]
    have eP : pairsUp (a :: b :: r) = (a, b) :: pairsUp r := rfl
    have eF : firstBad s ((a, b) :: pairsUp r) = if pairCode s (a, b) = 0 then firstBad s (pairsUp r) else pairCode s (a, b) := rfl
    rw [eP, eF]
    by_cases ha : inR s.settings.length a = true
    · rw [if_pos ha]
      show (match below VALUE (countAt s a.toNat) b with | .error e => Except.error e | .ok v => match pairsIn s r with | .error e => .error e | .ok l => .ok ((a.toNat, v) :: l)) = _
      rw [below_eq]
      by_cases hb : inR (countAt s a.toNat) b = true
      · have e0 : pairCode s (a, b) = 0 := by
          unfold pairCode
          rw [if_pos ha, if_pos hb]
        rw [if_pos hb, if_pos e0]
        show (match pairsIn s r with | .error e => Except.error e | .ok l => .ok ((a.toNat, b.toNat) :: l)) = _
        rw [ih]
        by_cases hf : firstBad s (pairsUp r) = 0
        · rw [if_pos hf, if_pos hf]; rfl
        · rw [if_neg hf, if_neg hf]
      · have e0 : pairCode s (a, b) = VALUE := by
          unfold pairCode
          rw [if_pos ha, if_neg hb]
        rw [if_neg hb, e0, if_neg (show ¬ (VALUE = 0) by decide), if_neg (show ¬ (VALUE = 0) by decide)]
    · have e0 : pairCode s (a, b) = SETTING := by
        unfold pairCode
        rw [if_neg ha]
      rw [if_neg ha, e0, if_neg (show ¬ (SETTING = 0) by decide), if_neg (show ¬ (SETTING = 0) by decide)]
theorem pairsOf_eq (s : State) (l : List Int) : pairsOf s l = if 64 < l.length ∨ l.length % 2 = 1 then .error LIMIT else if firstBad s (pairsUp l) = 0 then .ok ((pairsUp l).map natPair) else .error (firstBad s (pairsUp l)) := by
  unfold pairsOf MOST
  by_cases h : 64 < l.length ∨ l.length % 2 = 1
  · rw [if_pos h, if_pos h]
  · rw [if_neg h, if_neg h, pairsIn_eq s l (by omega)]
theorem firstBad_nz (s : State) : ∀ l, firstBad s l = 0 ∨ firstBad s l = -2 ∨ firstBad s l = -3
  | [] => .inl rfl
  | x :: r => by
    unfold firstBad
    split
    · exact firstBad_nz s r
    · exact pairCode_nz s x
/-- of pairs that are accepted each one is in range -/
theorem firstBad_ok (s : State) : ∀ l, firstBad s l = 0 → ∀ x ∈ l, pairCode s x = 0
  | [], _ => by simp
  | y :: r, h => by
    unfold firstBad at h
    by_cases e : pairCode s y = 0
    · rw [if_pos e] at h
      intro x hx
      rcases List.mem_cons.mp hx with q | q
      · rw [q]; exact e
      · exact firstBad_ok s r h x q
    · rw [if_neg e] at h
      exact (e h).elim
theorem pairCode_ok {s : State} {x : Int × Int} (h : pairCode s x = 0) : ∃ st, s.settings[x.1.toNat]? = some st ∧ 0 ≤ x.1 ∧ x.1 < (s.settings.length : Int) ∧ 0 ≤ x.2 ∧ x.2 < (st.count : Int) := by
  unfold pairCode at h
  by_cases ha : inR s.settings.length x.1 = true
  · rw [if_pos ha] at h
    by_cases hb : inR (countAt s x.1.toNat) x.2 = true
    · obtain ⟨a1, a2⟩ : 0 ≤ x.1 ∧ x.1 < (s.settings.length : Int) := of_decide_eq_true ha
      obtain ⟨b1, b2⟩ : 0 ≤ x.2 ∧ x.2 < ((countAt s x.1.toNat : Nat) : Int) := of_decide_eq_true hb
      have hl : x.1.toNat < s.settings.length := by omega
      refine ⟨s.settings[x.1.toNat], List.getElem?_eq_getElem hl, a1, a2, b1, ?_⟩
      unfold countAt at b2
      rw [List.getElem?_eq_getElem hl] at b2
      exact b2
    · rw [if_neg hb] at h
      exact absurd h (by decide)
  · rw [if_neg ha] at h
    exact absurd h (by decide)
theorem pairsUp_length : ∀ l : List Int, (pairsUp l).length = l.length / 2
  | [] => rfl
  | [_] => by simp [pairsUp]
  | a :: b :: r => by
    show (pairsUp r).length + 1 = _
    rw [pairsUp_length r, List.length_cons, List.length_cons]
    omega
theorem pairsOf_ok {s : State} {l : List Int} {ps : Pairs} (h : pairsOf s l = .ok ps) : ps = (pairsUp l).map natPair ∧ l.length ≤ 64 ∧ l.length % 2 = 0 ∧ (∀ x ∈ pairsUp l, pairCode s x = 0) ∧ PairsOk s ps ∧ ps.length ≤ 32 := by
  rw [pairsOf_eq] at h
  by_cases c : 64 < l.length ∨ l.length % 2 = 1
  · rw [if_pos c] at h; cases h
  · rw [if_neg c] at h
    by_cases d : firstBad s (pairsUp l) = 0
    · rw [if_pos d] at h
      injection h with h
      have hb := firstBad_ok s _ d
      refine ⟨h.symm, by omega, by omega, hb, ?_, ?_⟩
      · intro y hy
        rw [← h] at hy
        obtain ⟨x, hx, q⟩ := List.mem_map.mp hy
        obtain ⟨st, e, h1, h2, h3, h4⟩ := pairCode_ok (hb x hx)
        subst q
        exact ⟨st, e, by show x.2.toNat < st.count; omega⟩
      · rw [← h, List.length_map, pairsUp_length]
        omega
    · rw [if_neg d] at h; cases h

/-! ### the object after each call -/
theorem PairsOk.more {s s' : State} {l : Pairs} (h : PairsOk s l) (e : ∀ (i : Nat) (x : Setting), s.settings[i]? = some x → s'.settings[i]? = some x) : PairsOk s' l := fun x hx => by
  obtain ⟨st, h1, h2⟩ := h x hx
  exact ⟨st, e _ _ h1, h2⟩
theorem get_snoc {α : Type} {l : List α} {a : α} {i : Nat} {x : α} (h : (l ++ [a])[i]? = some x) : l[i]? = some x ∨ (i = l.length ∧ x = a) := by
  rcases Nat.lt_trichotomy i l.length with z | z | z
  · rw [List.getElem?_append_left z] at h
    exact .inl h
  · subst z
    rw [List.getElem?_append_right (Nat.le_refl _), Nat.sub_self] at h
    exact .inr ⟨rfl, (Option.some.inj h).symm⟩
  · rw [List.getElem?_eq_none (by rw [List.length_append, List.length_singleton]; omega)] at h
    cases h
theorem get_old {α : Type} {l : List α} {a : α} {i : Nat} {x : α} (h : l[i]? = some x) : (l ++ [a])[i]? = some x := by
  rw [List.getElem?_append_left (List.getElem?_eq_some_iff.mp h).1]
  exact h
theorem WF.setting {s : State} (w : WF s) (h : s.settings.length < 16) (x : Setting) : WF { s with settings := s.settings ++ [x] } := by
  have e : ∀ (i : Nat) (y : Setting), s.settings[i]? = some y → (s.settings ++ [x])[i]? = some y := fun i y q => get_old q
  refine ⟨by show (s.settings ++ [x]).length ≤ 16; rw [List.length_append, List.length_singleton]; omega, w.npl, w.nch, w.par, fun i y q => ?_, fun i c q => ?_, w.rank, w.rlen, w.plc, w.plen⟩
  · exact ⟨(w.own i y q).1.more e, (w.own i y q).2⟩
  · obtain ⟨h1, h2, h3⟩ := w.needs i c q
    exact ⟨h1.more e, h2.more e, h3⟩
theorem WF.platform {s : State} (w : WF s) (h : s.platforms.length < 16) {x : Platform} (hp : ∀ q, x.parent = some q → q < s.platforms.length) (ho : PairsOk s x.own) (hl : x.own.length ≤ 32) : WF { s with platforms := s.platforms ++ [x] } := by
  refine ⟨w.nset, by show (s.platforms ++ [x]).length ≤ 16; rw [List.length_append, List.length_singleton]; omega, w.nch, fun i y q e ep => ?_, fun i y e => ?_, w.needs, w.rank, w.rlen, fun p hm => ?_, w.plen⟩
  · rcases get_snoc e with z | ⟨z1, z2⟩
    · exact w.par i y q z ep
    · rw [z2] at ep
      rw [z1]
      exact hp q ep
  · rcases get_snoc e with z | ⟨z1, z2⟩
    · exact w.own i y z
    · rw [z2]
      exact ⟨ho, hl⟩
  · show p < (s.platforms ++ [x]).length
    rw [List.length_append]
    have := w.plc p hm
    omega
theorem WF.chain {s : State} (w : WF s) (h : s.chains.length < 32) {c : Chain} (h1 : PairsOk s c.first) (h2 : PairsOk s c.second) (h3 : c.first.length ≤ 32) (h4 : c.second.length ≤ 32) (h5 : c.kind < 32) : WF { s with chains := s.chains ++ [c] } := by
  refine ⟨w.nset, w.npl, by show (s.chains ++ [c]).length ≤ 32; rw [List.length_append, List.length_singleton]; omega, w.par, w.own, fun i y e => ?_, fun t ht => ?_, w.rlen, w.plc, w.plen⟩
  · rcases get_snoc e with z | ⟨z1, z2⟩
    · exact w.needs i y z
    · rw [z2]
      exact ⟨h1, h2, h3, h4, h5⟩
  · show t < (s.chains ++ [c]).length
    rw [List.length_append]
    have := w.rank t ht
    omega
theorem listOf_ok {k : Int} {c : Nat} {l : List Int} {m : List Nat} (h : listOf (below k c) l = .ok m) : m = l.map Int.toNat ∧ l.length ≤ 64 ∧ (∀ n ∈ l, 0 ≤ n ∧ n < (c : Int)) ∧ l.Nodup ∧ m.Nodup ∧ ∀ n ∈ m, n < c := by
  rw [listOf_below] at h
  by_cases h1 : 64 < l.length
  · rw [if_pos h1] at h; cases h
  · rw [if_neg h1] at h
    by_cases h2 : l.all (inR c) = true
    · rw [if_pos h2] at h
      by_cases h3 : l.Nodup
      · rw [if_pos h3] at h
        injection h with h
        have a := all_inR h2
        refine ⟨h.symm, by omega, a, h3, ?_, ?_⟩
        · rw [← h]
          exact (nodup_toNat l fun n hn => (a n hn).1).mpr h3
        · intro n hn
          rw [← h] at hn
          obtain ⟨z, hz, q⟩ := List.mem_map.mp hn
          have := a z hz
          omega
      · rw [if_neg h3] at h; cases h
    · rw [if_neg h2] at h; cases h
theorem WF.ranked {s : State} (w : WF s) {l : List Int} {m : List Nat} (h : listOf (chainOf s) l = .ok m) : WF { s with ranking := m } := by
  obtain ⟨e, h1, _, _, _, h5⟩ := listOf_ok (k := CHAIN) (c := s.chains.length) (l := l) (m := m) h
  exact ⟨w.nset, w.npl, w.nch, w.par, w.own, w.needs, h5, by show m.length ≤ 64; rw [e, List.length_map]; exact h1, w.plc, w.plen⟩
theorem WF.placed {s : State} (w : WF s) {l : List Int} {m : List Nat} (h : listOf (platformOf s) l = .ok m) : WF { s with places := m } := by
  obtain ⟨e, h1, _, _, _, h5⟩ := listOf_ok (k := PLATFORM) (c := s.platforms.length) (l := l) (m := m) h
  exact ⟨w.nset, w.npl, w.nch, w.par, w.own, w.needs, w.rank, w.rlen, h5, by show m.length ≤ 64; rw [e, List.length_map]; exact h1⟩
theorem known_new {s : State} (w : WF s) {x : Platform} (hp : ∀ q, x.parent = some q → q < s.platforms.length) (k : Nat) :
    (∀ p, p < s.platforms.length → known { s with platforms := s.platforms ++ [x] } p k = known s p k) ∧
    known { s with platforms := s.platforms ++ [x] } s.platforms.length k = match ofPairs x.own k with | some v => some v | none => match x.parent with | some q => known s q k | none => none := by
  have e : ∀ i, i < s.platforms.length → (s.platforms ++ [x])[i]? = s.platforms[i]? := fun i hi => List.getElem?_append_left hi
  have old : ∀ f p, p < s.platforms.length → inherited { s with platforms := s.platforms ++ [x] } f p k = inherited s f p k := fun f p hp => inherited_more (s := s) (s' := { s with platforms := s.platforms ++ [x] }) w.par e k f p hp
  refine ⟨fun p hp => old (p + 1) p hp, ?_⟩
  unfold known
  conv => lhs; unfold inherited
  have e2 : ({ s with platforms := s.platforms ++ [x] } : State).platforms[s.platforms.length]? = some x := by
    show (s.platforms ++ [x])[s.platforms.length]? = some x
    rw [List.getElem?_append_right (Nat.le_refl _), Nat.sub_self]
    rfl
  rw [e2]
  dsimp only
  cases ofPairs x.own k with
  | some v => rfl
  | none =>
    cases ep : x.parent with
    | none => rfl
    | some q =>
      have hq := hp q ep
      show inherited { s with platforms := s.platforms ++ [x] } s.platforms.length q k = inherited s (q + 1) q k
      rw [old _ q hq]
      exact inherited_fuel w.par k _ _ q hq (by omega)
theorem known_setting (s : State) (st : List Setting) (p k : Nat) : known { s with settings := st } p k = known s p k := by
  unfold known
  generalize p + 1 = f
  induction f generalizing p with
  | zero => rfl
  | succ f ih =>
    unfold inherited
    cases e : s.platforms[p]? with
    | none => rfl
    | some x =>
      show (match ofPairs x.own k with | some v => some v | none => match x.parent with | some q => inherited { s with settings := st } f q k | none => none) = (match ofPairs x.own k with | some v => some v | none => match x.parent with | some q => inherited s f q k | none => none)
      cases ofPairs x.own k with
      | some v => rfl
      | none =>
        cases x.parent with
        | none => rfl
        | some q => exact ih q
end TC
end
section
set_option linter.all false
namespace TZ
open PySem
/-- every second one, from the first on -/
def ev {α : Type} : List α → List α
  | [] => []
  | [a] => [a]
  | a :: _ :: r => a :: ev r
theorem ev_pick {α : Type} : ∀ (l : List α), (List.range ((l.length + 1) / 2)).filterMap (fun k => l[2 * k]?) = ev l
  | [] => by simp [ev]
  | [a] => by simp [ev, List.range_succ]
  | a :: b :: r => by
    have e : ((a :: b :: r).length + 1) / 2 = (r.length + 1) / 2 + 1 := by
      rw [List.length_cons, List.length_cons]; omega
    rw [e, List.range_succ_eq_map, List.filterMap_cons]
    show a :: ((List.range ((r.length + 1) / 2)).map Nat.succ).filterMap (fun k => (a :: b :: r)[2 * k]?) = a :: ev r
    rw [List.filterMap_map, ← ev_pick r]
    congr 1
theorem ev_length {α : Type} : ∀ (l : List α), (ev l).length = (l.length + 1) / 2
  | [] => by simp [ev]
  | [a] => by simp [ev]
  | a :: b :: r => by
    show (ev r).length + 1 = _
    rw [ev_length r, List.length_cons, List.length_cons]
    omega
theorem range2 (a n : Nat) (h : a ≤ n) : sliceRange (a : Int) (n : Int) 2 = (List.range ((n - a + 1) / 2)).map fun k => a + 2 * k := by
  unfold sliceRange
  have ec : (if (2 : Int) > 0 then (if (a : Int) < (n : Int) then ((n : Int) - (a : Int) + 2 - 1) / 2 else 0) else (if (a : Int) > (n : Int) then ((a : Int) - (n : Int) - 2 - 1) / (-2) else 0)).toNat = (n - a + 1) / 2 := by
    rw [if_pos (by decide)]
    by_cases h2 : (a : Int) < (n : Int)
    · rw [if_pos h2]; omega
    · rw [if_neg h2]
      have : n = a := by omega
      subst this
      simp
  simp only [ec]
  refine List.map_congr_left fun k _ => ?_
  omega
theorem pick2 (its : List Value) (a : Nat) (h : a ≤ its.length) : ((List.range ((its.length - a + 1) / 2)).map fun k => a + 2 * k).filterMap (its.toArray[·]?) = ev (its.drop a) := by
  rw [← ev_pick (its.drop a), List.filterMap_map, List.length_drop]
  congr 1
  funext k
  simp
theorem slice0 (its : List Value) : slicePick its.toArray (some 0) none (some 2) = (ev its).toArray := by
  unfold slicePick
  have e1 : (sliceBounds (some 0) none (some 2) its.toArray.size).1 = ((0 : Nat) : Int) := by
    simp only [sliceBounds]
    simp
    omega
  have e2 : (sliceBounds (some 0) none (some 2) its.toArray.size).2.1 = ((its.length : Nat) : Int) := by
    simp only [sliceBounds]
    simp
  have e3 : (sliceBounds (some 0) none (some 2) its.toArray.size).2.2 = 2 := rfl
  rw [e1, e2, e3, range2 0 its.length (Nat.zero_le _)]
  have := pick2 its 0 (Nat.zero_le _)
  rw [this]
  rfl
theorem slice1 (its : List Value) : slicePick its.toArray (some 1) none (some 2) = (ev (its.drop 1)).toArray := by
  unfold slicePick
  have e1 : (sliceBounds (some 1) none (some 2) its.toArray.size).1 = ((min 1 its.length : Nat) : Int) := by
    simp only [sliceBounds]
    simp
    omega
  have e2 : (sliceBounds (some 1) none (some 2) its.toArray.size).2.1 = ((its.length : Nat) : Int) := by
    simp only [sliceBounds]
    simp
  have e3 : (sliceBounds (some 1) none (some 2) its.toArray.size).2.2 = 2 := rfl
  rw [e1, e2, e3, range2 _ its.length (Nat.min_le_right _ _)]
  have := pick2 its (min 1 its.length) (Nat.min_le_right _ _)
  rw [this]
  cases its with
  | nil => rfl
  | cons a r =>
    have : min 1 (a :: r).length = 1 := by rw [List.length_cons]; omega
    rw [this]
end TZ
end
section
set_option linter.all false
namespace TC
open Vabldf
/-! ### every second item, and pairs -/
theorem ev_zip : ∀ (l : List Int), (TZ.ev l).zip (TZ.ev (l.drop 1)) = pairsUp l
  | [] => by simp [TZ.ev, pairsUp]
  | [a] => by simp [TZ.ev, pairsUp]
  | a :: b :: r => by
    have ih := ev_zip r
    show (a :: TZ.ev r).zip (TZ.ev (b :: r)) = (a, b) :: pairsUp r
    cases r with
    | nil => simp [TZ.ev, pairsUp]
    | cons x r =>
      show (a :: TZ.ev (x :: r)).zip (b :: TZ.ev r) = _
      rw [List.zip_cons_cons]
      exact congrArg _ ih
theorem ev_map {α β : Type} (f : α → β) : ∀ (l : List α), TZ.ev (l.map f) = (TZ.ev l).map f
  | [] => by simp [TZ.ev]
  | [a] => by simp [TZ.ev]
  | a :: b :: r => by
    show f a :: TZ.ev (r.map f) = f a :: (TZ.ev r).map f
    rw [ev_map f r]
/-! ### a list without repeats -/
open PyProof.Rows in
theorem dedup_go : ∀ (l acc : List Int), acc.Nodup → (l.foldl step_dedup acc).length ≤ acc.length + l.length ∧ ((l.foldl step_dedup acc).length = acc.length + l.length ↔ l.Nodup ∧ ∀ x ∈ l, x ∉ acc)
  | [], acc, _ => by simp
  | a :: r, acc, ha => by
    rw [List.foldl_cons, List.length_cons]
    by_cases h : a ∈ acc
    · have e : step_dedup acc a = acc := by
        unfold step_dedup
        rw [if_pos (List.any_eq_true.mpr ⟨a, h, by simp⟩)]
      rw [e]
      have ih := dedup_go r acc ha
      refine ⟨by omega, ?_⟩
      constructor
      · intro z
        have := ih.1
        omega
      · rintro ⟨_, z⟩
        exact absurd h (z a List.mem_cons_self)
    · have e : step_dedup acc a = acc ++ [a] := by
        unfold step_dedup
        rw [if_neg]
        intro z
        obtain ⟨x, hx, q⟩ := List.any_eq_true.mp z
        exact h (by rw [← eq_of_beq q]; exact hx)
      rw [e]
      have ih := dedup_go r (acc ++ [a]) (List.nodup_append.mpr ⟨ha, by simp, fun x hx y hy => by rw [List.mem_singleton.mp hy]; exact fun z => h (z ▸ hx)⟩)
      rw [List.length_append, List.length_singleton] at ih
      refine ⟨by omega, ?_⟩
      have e2 : acc.length + (r.length + 1) = acc.length + 1 + r.length := by omega
      rw [e2, ih.2, List.nodup_cons]
      constructor
      · rintro ⟨z1, z2⟩
        refine ⟨⟨fun q => z2 a q (List.mem_append_right _ (List.mem_singleton.mpr rfl)), z1⟩, fun x hx => ?_⟩
        rcases List.mem_cons.mp hx with q | q
        · rw [q]; exact h
        · exact fun t => z2 x q (List.mem_append_left _ t)
      · rintro ⟨⟨z1, z2⟩, z3⟩
        refine ⟨z2, fun x hx => ?_⟩
        intro t
        rcases List.mem_append.mp t with q | q
        · exact z3 x (List.mem_cons_of_mem _ hx) q
        · rw [List.mem_singleton.mp q] at hx
          exact z1 hx
theorem dedup_len (ns : List Int) : (PyProof.Rows.firstMet (fun i => ns.getD i 0) ns.length).length = ns.length ↔ ns.Nodup := by
  unfold PyProof.Rows.firstMet
  have e : (List.range ns.length).map (fun i => ns.getD i 0) = ns := by
    refine List.ext_getElem (by simp) fun i h1 h2 => ?_
    simp [List.getD, List.getElem?_eq_getElem h2]
  rw [e]
  have := (dedup_go ns [] (by simp)).2
  simpa using this
theorem need_keys_go : ∀ (l : Pairs) (acc : List (Nat × List Nat)) (k : Nat), k ∈ (l.foldl (fun acc x => putN acc x.1 x.2) acc).map (·.1) → k ∈ acc.map (·.1) ∨ ∃ y ∈ l, y.1 = k
  | [], acc, k, h => .inl h
  | x :: r, acc, k, h => by
    rw [List.foldl_cons] at h
    rcases need_keys_go r _ k h with q | ⟨y, hy, q⟩
    · rw [putN_keys] at q
      split at q
      · exact .inl q
      · rcases List.mem_append.mp q with z | z
        · exact .inl z
        · exact .inr ⟨x, List.mem_cons_self, (List.mem_singleton.mp z).symm⟩
    · exact .inr ⟨y, List.mem_cons_of_mem _ hy, q⟩
theorem need_keys (l : Pairs) (k : Nat) (h : k ∈ (needOf l).map (·.1)) : ∃ y ∈ l, y.1 = k := by
  rcases need_keys_go l [] k h with q | q
  · simp at q
  · exact q
theorem needOf_snoc (l : Pairs) (x : Nat × Nat) : needOf (l ++ [x]) = putN (needOf l) x.1 x.2 := by
  unfold needOf
  rw [List.foldl_append]
  rfl
theorem needOf_length (l : Pairs) : (needOf l).length ≤ l.length := by
  have go : ∀ (l : Pairs) (acc : List (Nat × List Nat)), (l.foldl (fun acc x => putN acc x.1 x.2) acc).length ≤ acc.length + l.length := by
    intro l
    induction l with
    | nil => intro acc; exact Nat.le_refl _
    | cons x r ih =>
      intro acc
      rw [List.foldl_cons, List.length_cons]
      have h1 := ih (putN acc x.1 x.2)
      have h2 : (putN acc x.1 x.2).length ≤ acc.length + 1 := by
        unfold putN
        split
        · rw [List.length_map]; omega
        · rw [List.length_append, List.length_singleton]; omega
      omega
  have := go l []
  rw [List.length_nil, Nat.zero_add] at this
  exact this
end TC
end
section
set_option linter.all false
set_option maxRecDepth 100000
set_option Elab.async false
namespace TZ
open PySem PySem.Calls

/-- a zip object whose last pair is still in use -/
abbrev ZOut (h : Heap) (z TI TO a : Addr) (f : Bool) : Prop :=
  h.get? z = some { cls := .type "zip", dict := none, data := .fields #[rawInt a, .bool f, .bool false, .ref TI, .ref TO], slots := #[] }
section
variable {prog : Program} {w : World} {A : Around} {E : Value → Shared → Prop} {s : Shared}
theorem alive {a : Addr} {o : Obj} {Q : Option Obj → Shared → Prop} (ho : s.heap.get? a = some o) (h : Q (some o) s) : wpAny (model prog w) A (loadIfAlive a) Q E s := by
  have h' : Q (s.heap.get? a) s := by rw [ho]; exact h
  exact fun _ _ _ => h'
theorem zip_busy {z TI TO a : Addr} {f : Bool} {oa : Obj} {Q : Bool → Shared → Prop} (hz : ZOut s.heap z TI TO a f) (ha : s.heap.get? a = some oa)
    (hQ : ∀ h', ZOut h' z TI TO a true → Heap.SameBut z s.heap h' → Q false { s with heap := h' }) : wpAny (model prog w) A (Builtin.SmallTypes.ownedTupleIsFree (.ref z)) Q E s := by
  unfold Builtin.SmallTypes.ownedTupleIsFree
  refine wpAny_bind (wpAny_field hz rfl (x := rawInt a) rfl ?_)
  show wpAny _ _ (loadIfAlive ((a : Int).toNat) >>= _) _ _ _
  rw [Int.toNat_natCast]
  refine wpAny_bind (alive ha ?_)
  simp only [Option.isNone_some, Bool.false_eq_true, if_false]
  refine wpAny_bind (wpAny_field hz rfl (x := .bool f) rfl ?_)
  cases f with
  | true =>
    rw [if_neg (show ¬ ((Value.bool true != Value.bool true) = true) from Bool.false_ne_true)]
    exact wpAny_pure (hQ s.heap hz (Heap.SameBut.refl _ _))
  | false =>
    rw [if_pos (show (Value.bool false != Value.bool true) = true from rfl)]
    refine wpAny_bind (wpAny_setField_rec hz (by simp) fun h₃ he₃ hs₃ => ?_)
    replace he₃ : ZOut h₃ z TI TO a true := he₃
    exact wpAny_pure (hQ h₃ he₃ hs₃)
theorem zip_out_item {z TI TO i1 i2 l1 l2 a : Addr} {f : Bool} {oa : Obj} {k1 k2 : Nat} {xs ys : Array Value} {x y : Value} {Q : Value → Shared → Prop} (D : ZipApart z TI TO i1 i2 l1 l2)
    (hz : ZOut s.heap z TI TO a f) (ha : s.heap.get? a = some oa) (hTI : IsPair s.heap TI (.ref i1) (.ref i2))
    (h1 : s.heap.IsListIter i1 l1 k1) (h2 : s.heap.IsListIter i2 l2 k2) (hl1 : s.heap.IsList l1 xs) (hl2 : s.heap.IsList l2 ys) (hx : xs[k1]? = some x) (hy : ys[k2]? = some y)
    (hQ : ∀ h', ZOut h' z TI TO a true → h'.IsListIter i1 l1 (k1 + 1) → h'.IsListIter i2 l2 (k2 + 1) → IsPair h' s.heap.objs.size x y → h'.objs.size = s.heap.objs.size + 1 →
      (∀ c o, c ≠ z → c ≠ i1 → c ≠ i2 → s.heap.get? c = some o → h'.get? c = some o) → Q (.ref s.heap.objs.size) { s with heap := h' }) :
    wpAny (model prog w) A (Builtin.«zip.__next__» ⟨[.ref z], []⟩) (fun fin s' => ∃ v, fin = .done (.ret v) ∧ Q v s') E s := by
  show wpAny _ _ (field (.ref z) 2 >>= _) _ _ _
  refine wpAny_bind (wpAny_field hz rfl (x := .bool false) rfl ?_)
  show wpAny _ _ (field (.ref z) 3 >>= _) _ _ _
  refine wpAny_bind (wpAny_field hz rfl (x := .ref TI) rfl ?_)
  refine wpAny_bind (wpAny_seqItems hTI rfl ?_)
  show wpAny _ _ (Builtin.SmallTypes.ownedTupleIsFree (.ref z) >>= _) _ _ _
  refine wpAny_bind (zip_busy hz ha fun h₁ hz₁ hs₁ => ?_)
  simp only [Bool.false_eq_true, if_false]
  refine wpAny_bind ?_
  rw [List.forIn_toArray]
  simp only [List.forIn_cons, List.forIn_nil]
  refine wpAny_bind (wpAny_bind (wpAny_holding ?_))
  show wpAny _ _ (Builtin.SmallTypes.nextOf (.ref i1) >>= _) _ _ _
  refine wpAny_bind (wpAny_nextOf_list_item (h1.extBut hs₁.extBut D.i1z) (hl1.extBut hs₁.extBut D.l1z) hx fun h₂ h1₂ hs₂ => wpAny_pure (wpAny_pure ?_))
  refine wpAny_bind (wpAny_bind (wpAny_holding ?_))
  show wpAny _ _ (Builtin.SmallTypes.nextOf (.ref i2) >>= _) _ _ _
  refine wpAny_bind (wpAny_nextOf_list_item ((h2.extBut hs₁.extBut D.i2z).extBut hs₂.extBut D.i12.symm)
    ((hl2.extBut hs₁.extBut D.l2z).extBut hs₂.extBut D.l2i1) hy fun h₄ h2₄ hs₄ => wpAny_pure (wpAny_pure (wpAny_pure ?_)))
  show wpAny _ _ (newTuple [x, y] >>= _) _ _ _
  refine wpAny_bind (wpAny_newTuple ?_ (by show 2 ≤ sizeLine; decide))
  have hsz : h₄.objs.size = s.heap.objs.size := by rw [hs₄.1, hs₂.1, hs₁.1]
  have hz₄ : ZOut h₄ z TI TO a true := hs₄.extBut _ _ D.i2z.symm (hs₂.extBut _ _ D.i1z.symm hz₁)
  have up : ∀ c o, h₄.get? c = some o → (h₄.push { cls := .type "tuple", data := .seq #[x, y] }).get? c = some o := fun c o e => Heap.get?_push_of_some _ e
  have hT : IsPair (h₄.push { cls := .type "tuple", data := .seq #[x, y] }) h₄.objs.size x y := Heap.get?_push_size _ rfl
  refine wpAny_pure ⟨_, rfl, ?_⟩
  show Q (.ref h₄.objs.size) _
  rw [hsz] at hT
  rw [hsz]
  refine hQ _ (up _ _ hz₄) (h1₂.at fun o e => up _ o (hs₄.extBut _ _ D.i12 e)) (h2₄.at fun o e => up _ o e) hT (by rw [Heap.size_push, hsz]) fun c o c1 c2 c3 e => up c o (hs₄.extBut _ _ c3 (hs₂.extBut _ _ c2 (hs₁.extBut _ _ c1 e)))
theorem zip_out_end {z TI TO i1 i2 l1 l2 a : Addr} {f : Bool} {oa : Obj} {k1 k2 : Nat} {xs ys : Array Value} {Q : Fin → Shared → Prop} (hh : A.handled = none) (D : ZipApart z TI TO i1 i2 l1 l2)
    (hz : ZOut s.heap z TI TO a f) (ha : s.heap.get? a = some oa) (hTI : IsPair s.heap TI (.ref i1) (.ref i2))
    (h1 : s.heap.IsListIter i1 l1 k1) (h2 : s.heap.IsListIter i2 l2 k2) (hl1 : s.heap.IsList l1 xs) (hl2 : s.heap.IsList l2 ys) (hend : xs[k1]? = none ∨ ys[k2]? = none)
    (hE : ∀ h' e, (∀ c o, c ≠ z → c ≠ i1 → c ≠ i2 → s.heap.get? c = some o → h'.get? c = some o) → (∃ o, h'.get? e = some o ∧ o.cls = .type "StopIteration") → E (.ref e) { s with heap := h' }) :
    wpAny (model prog w) A (Builtin.«zip.__next__» ⟨[.ref z], []⟩) Q E s := by
  show wpAny _ _ (field (.ref z) 2 >>= _) _ _ _
  refine wpAny_bind (wpAny_field hz rfl (x := .bool false) rfl ?_)
  show wpAny _ _ (field (.ref z) 3 >>= _) _ _ _
  refine wpAny_bind (wpAny_field hz rfl (x := .ref TI) rfl ?_)
  refine wpAny_bind (wpAny_seqItems hTI rfl ?_)
  show wpAny _ _ (Builtin.SmallTypes.ownedTupleIsFree (.ref z) >>= _) _ _ _
  refine wpAny_bind (zip_busy hz ha fun h₁ hz₁ hs₁ => ?_)
  simp only [Bool.false_eq_true, if_false]
  refine wpAny_bind ?_
  rw [List.forIn_toArray]
  simp only [List.forIn_cons, List.forIn_nil]
  refine wpAny_bind (wpAny_bind (wpAny_holding ?_))
  show wpAny _ _ (Builtin.SmallTypes.nextOf (.ref i1) >>= _) _ _ _
  cases hx : xs[k1]? with
  | none =>
    refine wpAny_bind (wpAny_nextOf_list_end hh (h1.extBut hs₁.extBut D.i1z) (hl1.extBut hs₁.extBut D.l1z) hx fun h₂ e hs₂ he => ?_)
    exact hE h₂ e (fun c o c1 c2 c3 q => hs₂ _ _ c2 (hs₁.extBut _ _ c1 q)) he
  | some x =>
    have hy : ys[k2]? = none := by
      rcases hend with h | h
      · rw [hx] at h; cases h
      · exact h
    refine wpAny_bind (wpAny_nextOf_list_item (h1.extBut hs₁.extBut D.i1z) (hl1.extBut hs₁.extBut D.l1z) hx fun h₂ h1₂ hs₂ => wpAny_pure (wpAny_pure ?_))
    refine wpAny_bind (wpAny_bind (wpAny_holding ?_))
    show wpAny _ _ (Builtin.SmallTypes.nextOf (.ref i2) >>= _) _ _ _
    refine wpAny_bind (wpAny_nextOf_list_end hh ((h2.extBut hs₁.extBut D.i2z).extBut hs₂.extBut D.i12.symm) ((hl2.extBut hs₁.extBut D.l2z).extBut hs₂.extBut D.l2i1) hy fun h₄ e hs₄ he => ?_)
    exact hE h₄ e (fun c o c1 c2 c3 q => hs₄ _ _ c3 (hs₂.extBut _ _ c2 (hs₁.extBut _ _ c1 q))) he
theorem next_out_item {z TI TO i1 i2 l1 l2 a : Addr} {f : Bool} {oa : Obj} {k1 k2 : Nat} {xs ys : Array Value} {x y : Value} {Q : Option Value → Shared → Prop} (D : ZipApart z TI TO i1 i2 l1 l2)
    (hz : ZOut s.heap z TI TO a f) (ha : s.heap.get? a = some oa) (hTI : IsPair s.heap TI (.ref i1) (.ref i2))
    (h1 : s.heap.IsListIter i1 l1 k1) (h2 : s.heap.IsListIter i2 l2 k2) (hl1 : s.heap.IsList l1 xs) (hl2 : s.heap.IsList l2 ys) (hx : xs[k1]? = some x) (hy : ys[k2]? = some y)
    (hQ : ∀ h', ZOut h' z TI TO a true → h'.IsListIter i1 l1 (k1 + 1) → h'.IsListIter i2 l2 (k2 + 1) → IsPair h' s.heap.objs.size x y → h'.objs.size = s.heap.objs.size + 1 →
      (∀ c o, c ≠ z → c ≠ i1 → c ≠ i2 → s.heap.get? c = some o → h'.get? c = some o) → Q (some (.ref s.heap.objs.size)) { s with heap := h' }) :
    wpAny (model prog w) A (pyNext (.ref z)) Q E s := by
  have hT : s.TypeIs (.ref z) "zip" := ⟨_, hz, rfl⟩
  unfold pyNext
  exact wpAny_bind (wpAny_attempt (wpAny_callSpecial?_slot (name := Str.ofString "__next__") hT F.slot_zip_next
    (wpAny_call_entry F.slot_zip_next hT F.entry_zip_next
      (zip_out_item D hz ha hTI h1 h2 hl1 hl2 hx hy fun h' a1 a2 a3 a4 a5 a6 => wpAny_pure (hQ h' a1 a2 a3 a4 a5 a6)) (F.args_zip_next_1 _))))
theorem next_out_end {z TI TO i1 i2 l1 l2 a : Addr} {f : Bool} {oa : Obj} {k1 k2 : Nat} {xs ys : Array Value} {Q : Option Value → Shared → Prop} (hh : A.handled = none) (D : ZipApart z TI TO i1 i2 l1 l2)
    (hz : ZOut s.heap z TI TO a f) (ha : s.heap.get? a = some oa) (hTI : IsPair s.heap TI (.ref i1) (.ref i2))
    (h1 : s.heap.IsListIter i1 l1 k1) (h2 : s.heap.IsListIter i2 l2 k2) (hl1 : s.heap.IsList l1 xs) (hl2 : s.heap.IsList l2 ys) (hend : xs[k1]? = none ∨ ys[k2]? = none)
    (hQ : ∀ h', (∀ c o, c ≠ z → c ≠ i1 → c ≠ i2 → s.heap.get? c = some o → h'.get? c = some o) → Q none { s with heap := h' }) : wpAny (model prog w) A (pyNext (.ref z)) Q E s := by
  have hT : s.TypeIs (.ref z) "zip" := ⟨_, hz, rfl⟩
  unfold pyNext
  refine wpAny_bind (wpAny_attempt (wpAny_callSpecial?_slot (name := Str.ofString "__next__") hT F.slot_zip_next
    (wpAny_call_entry F.slot_zip_next hT F.entry_zip_next (zip_out_end hh D hz ha hTI h1 h2 hl1 hl2 hend fun h' e hk he => ?_) (F.args_zip_next_1 _))))
  obtain ⟨o, ho, hc⟩ := he
  refine wpAny_bind (wpAny_isInstance (T := "StopIteration") (b := true) ⟨o, ho, hc⟩ isSubtype_stop ?_)
  exact wpAny_pure (hQ _ hk)
end

/-- between two turns of a walk that keeps the pairs -/
structure ZSt (h : Heap) (z TI TO i1 i2 l1 l2 S : Addr) (i : Nat) (xs ys : Array Value) : Prop where
  ti : IsPair h TI (.ref i1) (.ref i2)
  it1 : h.IsListIter i1 l1 i
  it2 : h.IsListIter i2 l2 i
  ls1 : h.IsList l1 xs
  ls2 : h.IsList l2 ys
  zz : (IsZip h z TI TO .none ∧ ∃ a b, IsPair h TO a b) ∨ ∃ a f oa, ZOut h z TI TO a f ∧ h.get? a = some oa ∧ a ≠ S ∧ a ≠ z ∧ a ≠ i1 ∧ a ≠ i2
structure ZApart (z TI TO i1 i2 l1 l2 S : Addr) : Prop where
  D : ZipApart z TI TO i1 i2 l1 l2
  sz : S ≠ z
  sTI : S ≠ TI
  sTO : S ≠ TO
  s1 : S ≠ i1
  s2 : S ≠ i2
  sl1 : S ≠ l1
  sl2 : S ≠ l2
theorem ZSt.keep {h h' : Heap} {z TI TO i1 i2 l1 l2 S : Addr} {i : Nat} {xs ys : Array Value} (x : ZSt h z TI TO i1 i2 l1 l2 S i xs ys) (P : ZApart z TI TO i1 i2 l1 l2 S) (hk : ∀ b o, b ≠ S → h.get? b = some o → h'.get? b = some o) : ZSt h' z TI TO i1 i2 l1 l2 S i xs ys := by
  refine ⟨hk _ _ P.sTI.symm x.ti, x.it1.at fun o e => hk _ o P.s1.symm e, x.it2.at fun o e => hk _ o P.s2.symm e, x.ls1.at fun o e => hk _ o P.sl1.symm e, x.ls2.at fun o e => hk _ o P.sl2.symm e, ?_⟩
  rcases x.zz with ⟨e1, a, b, e2⟩ | ⟨a, f, oa, e1, e2, e3, e4⟩
  · exact .inl ⟨hk _ _ P.sz.symm e1, a, b, hk _ _ P.sTO.symm e2⟩
  · exact .inr ⟨a, f, oa, hk _ _ P.sz.symm e1, hk _ _ e3 e2, e3, e4⟩
section
variable {prog : Program} {w : World} {A : Around} {E : Value → Shared → Prop} {s : Shared}
theorem zst_item {z TI TO i1 i2 l1 l2 S : Addr} {i : Nat} {xs ys : Array Value} {x y : Value} {Q : Option Value → Shared → Prop} (P : ZApart z TI TO i1 i2 l1 l2 S) (hS : S < s.heap.objs.size) (st : ZSt s.heap z TI TO i1 i2 l1 l2 S i xs ys) (hx : xs[i]? = some x) (hy : ys[i]? = some y)
    (hQ : ∀ h', ZSt h' z TI TO i1 i2 l1 l2 S (i + 1) xs ys → IsPair h' s.heap.objs.size x y → h'.objs.size = s.heap.objs.size + 1 →
      (∀ c o, c ≠ z → c ≠ TO → c ≠ i1 → c ≠ i2 → s.heap.get? c = some o → h'.get? c = some o) → Q (some (.ref s.heap.objs.size)) { s with heap := h' }) : wpAny (model prog w) A (pyNext (.ref z)) Q E s := by
  have D := P.D
  have zlt : z < s.heap.objs.size := by
    rcases st.zz with ⟨e1, _⟩ | ⟨a, f, oa, e1, _⟩ <;> exact Heap.lt_size e1
  have l1t : i1 < s.heap.objs.size := by obtain ⟨_, e, _⟩ := st.it1; exact Heap.lt_size e
  have l2t : i2 < s.heap.objs.size := by obtain ⟨_, e, _⟩ := st.it2; exact Heap.lt_size e
  rcases st.zz with ⟨e1, a, b, e2⟩ | ⟨a, f, oa, e1, e2, e3, e4, e5, e6⟩
  · refine wpAny_pyNext_zip_item D e1 st.ti e2 st.it1 st.it2 st.ls1 st.ls2 hx hy fun h' z1 z2 z3 z4 z5 z6 z7 => hQ h' ⟨?_, z3, z4, ?_, ?_, .inr ⟨s.heap.objs.size, false, _, z1, z5, Nat.ne_of_gt hS, Nat.ne_of_gt zlt, Nat.ne_of_gt l1t, Nat.ne_of_gt l2t⟩⟩ z5 z6 z7
    · exact z7 _ _ D.TIz D.TITO D.TIi1 D.TIi2 st.ti
    · exact st.ls1.at fun o e => z7 _ o D.l1z D.l1TO D.l1i1 D.l1i2 e
    · exact st.ls2.at fun o e => z7 _ o D.l2z D.l2TO D.l2i1 D.l2i2 e
  · refine next_out_item D e1 e2 st.ti st.it1 st.it2 st.ls1 st.ls2 hx hy fun h' z1 z3 z4 z5 z6 z7 => hQ h' ⟨?_, z3, z4, ?_, ?_, .inr ⟨a, true, oa, z1, z7 a oa e4 e5 e6 e2, e3, e4, e5, e6⟩⟩ z5 z6 fun c o c1 c2 c3 c4 e => z7 c o c1 c3 c4 e
    · exact z7 _ _ D.TIz D.TIi1 D.TIi2 st.ti
    · exact st.ls1.at fun o e => z7 _ o D.l1z D.l1i1 D.l1i2 e
    · exact st.ls2.at fun o e => z7 _ o D.l2z D.l2i1 D.l2i2 e
theorem zst_end {z TI TO i1 i2 l1 l2 S : Addr} {i : Nat} {xs ys : Array Value} {Q : Option Value → Shared → Prop} (hh : A.handled = none) (P : ZApart z TI TO i1 i2 l1 l2 S) (st : ZSt s.heap z TI TO i1 i2 l1 l2 S i xs ys) (hend : xs[i]? = none ∨ ys[i]? = none)
    (hQ : ∀ h', (∀ c o, c ≠ z → c ≠ TO → c ≠ i1 → c ≠ i2 → s.heap.get? c = some o → h'.get? c = some o) → Q none { s with heap := h' }) : wpAny (model prog w) A (pyNext (.ref z)) Q E s := by
  rcases st.zz with ⟨e1, a, b, e2⟩ | ⟨a, f, oa, e1, e2, e3, e4, e5, e6⟩
  · exact wpAny_pyNext_zip_end hh P.D e1 st.ti e2 st.it1 st.it2 st.ls1 st.ls2 hend hQ
  · exact next_out_end hh P.D e1 e2 st.ti st.it1 st.it2 st.ls1 st.ls2 hend fun h' k => hQ h' fun c o c1 _ c3 c4 e => k c o c1 c3 c4 e
end
/-- the pairs that were made -/
structure ZG (xs ys : Array Value) (lo : Addr) (h : Heap) (as : List Addr) : Prop where
  rise : as.Pairwise (· < ·)
  above : ∀ a ∈ as, lo ≤ a
  pairs : ∀ (j : Nat) (a : Addr), as[j]? = some a → ∃ x y, xs[j]? = some x ∧ ys[j]? = some y ∧ IsPair h a x y
theorem ZG.there {xs ys : Array Value} {lo : Addr} {h : Heap} {as : List Addr} (g : ZG xs ys lo h as) {a : Addr} (ha : a ∈ as) : a < h.objs.size := by
  obtain ⟨j, hj⟩ := List.mem_iff_getElem?.mp ha
  obtain ⟨_, _, _, _, e⟩ := g.pairs j a hj
  exact Heap.lt_size e
end TZ
end
section
set_option linter.all false
set_option maxRecDepth 100000
set_option Elab.async false
namespace TZ
open PySem PySem.Calls
theorem zip_no_len : typeLookup (.type "zip") "__len__" = pure none := by rw [typeLookup_type, builtinLookup_eq_fast]; kernel_rfl
theorem zip_no_hint : typeLookup (.type "zip") "__length_hint__" = pure none := by rw [typeLookup_type, builtinLookup_eq_fast]; kernel_rfl
section
variable {prog : Program} {w : World} {A : Around} {s : Shared} {R : Result → Shared → Prop}
theorem zip_loop {z TI TO i1 i2 l1 l2 S : Addr} {xs ys : Array Value} {lo : Addr} (hh : A.handled = none) (P : ZApart z TI TO i1 i2 l1 l2 S) (hn : min xs.size ys.size ≤ sizeLine) (res : Value) {h₁ : Heap}
    (loz : z < lo) (loTO : TO < lo) (lo1 : i1 < lo) (lo2 : i2 < lo) (loS : S < lo)
    (hR : ∀ h' tk acc c as, (∀ b o, b ≠ S → b ≠ z → b ≠ TO → b ≠ i1 → b ≠ i2 → h₁.get? b = some o → h'.get? b = some o) → h'.get? S = some { cls := .type "list", dict := none, data := .seq acc c, slots := #[] } → as.length = min xs.size ys.size →
      ZG xs ys lo h' as → acc.toList = as.map Value.ref → R (.ok (.ret res)) { s with heap := h', toks := tk }) :
    ∀ (k i : Nat) (h : Heap) (tk c : Nat) (acc : Array Value) (as : List Addr), min xs.size ys.size - i = k → i ≤ min xs.size ys.size → ZSt h z TI TO i1 i2 l1 l2 S i xs ys → (∀ b o, b ≠ S → b ≠ z → b ≠ TO → b ≠ i1 → b ≠ i2 → h₁.get? b = some o → h.get? b = some o) →
      h.get? S = some { cls := .type "list", dict := none, data := .seq acc c, slots := #[] } → acc.toList = as.map Value.ref → as.length = i → ZG xs ys lo h as → lo ≤ h.objs.size →
      codeAny (model prog w) A (.builtin "list.extend.loop" ⟨[.ref S, .ref z, res], []⟩) R { s with heap := h, toks := tk } := by
  intro k
  induction k with
  | zero =>
    intro i h tk c acc as hk hi hst hkeep hS hacc hal hG hlo
    have hend : xs[i]? = none ∨ ys[i]? = none := by
      rcases Nat.lt_or_ge xs.size ys.size with q | q
      · exact .inl (Array.getElem?_eq_none (by omega))
      · exact .inr (Array.getElem?_eq_none (by omega))
    refine codeAny_builtin F.entry_extend_loop ?_
    rw [Around.under_plainId F.plain_extend_loop _]
    show wpAny _ A.in1 (pyNext (.ref z) >>= _) _ _ _
    refine wpAny_bind (zst_end (s := { s with heap := h, toks := tk }) (A := A.in1) hh P hst hend fun h' he => ?_)
    have low : ∀ a ∈ as, a ≠ z ∧ a ≠ TO ∧ a ≠ i1 ∧ a ≠ i2 := fun a ha => by
      have q := hG.above a ha
      exact ⟨fun e => by rw [e] at q; exact absurd (Nat.lt_of_lt_of_le loz q) (Nat.lt_irrefl _), fun e => by rw [e] at q; exact absurd (Nat.lt_of_lt_of_le loTO q) (Nat.lt_irrefl _), fun e => by rw [e] at q; exact absurd (Nat.lt_of_lt_of_le lo1 q) (Nat.lt_irrefl _), fun e => by rw [e] at q; exact absurd (Nat.lt_of_lt_of_le lo2 q) (Nat.lt_irrefl _)⟩
    refine wpAny_pure (hR h' tk acc c as (fun b o h1 h2 h3 h4 h5 e => he b o h2 h3 h4 h5 (hkeep b o h1 h2 h3 h4 h5 e)) (he S _ P.sz P.sTO P.s1 P.s2 hS) (by omega) ⟨hG.rise, hG.above, fun j a hj => ?_⟩ hacc)
    obtain ⟨x, y, e1, e2, e3⟩ := hG.pairs j a hj
    obtain ⟨q1, q2, q3, q4⟩ := low a (List.mem_of_getElem? hj)
    exact ⟨x, y, e1, e2, he a _ q1 q2 q3 q4 e3⟩
  | succ k ih =>
    intro i h tk c acc as hk hi hst hkeep hS hacc hal hG hlo
    have hlt : i < min xs.size ys.size := by omega
    have hx : xs[i]? = some xs[i] := Array.getElem?_eq_getElem (by omega)
    have hy : ys[i]? = some ys[i] := Array.getElem?_eq_getElem (by omega)
    have hsz : acc.size = i := by rw [← Array.length_toList, hacc, List.length_map, hal]
    have hSl : S < h.objs.size := Heap.lt_size hS
    refine codeAny_builtin F.entry_extend_loop ?_
    rw [Around.under_plainId F.plain_extend_loop _]
    show wpAny _ A.in1 (pyNext (.ref z) >>= _) _ _ _
    refine wpAny_bind (zst_item (s := { s with heap := h, toks := tk }) (S := S) P hSl hst hx hy fun h' hst' ht hz hkp => ?_)
    dsimp only at ht hz hkp ⊢
    have hS' := hkp S _ P.sz P.sTO P.s1 P.s2 hS
    have up : ∀ b o, b ≠ S → h'.get? b = some o → (h'.update S (Obj.mapSeq (·.push (Value.ref h.objs.size)))).get? b = some o := fun b o hb e => (Heap.get?_update_other _ _ (Ne.symm hb)).trans e
    have low : ∀ a, lo ≤ a → a ≠ z ∧ a ≠ TO ∧ a ≠ i1 ∧ a ≠ i2 ∧ a ≠ S := fun a q => by
      exact ⟨fun e => by rw [e] at q; exact absurd (Nat.lt_of_lt_of_le loz q) (Nat.lt_irrefl _), fun e => by rw [e] at q; exact absurd (Nat.lt_of_lt_of_le loTO q) (Nat.lt_irrefl _), fun e => by rw [e] at q; exact absurd (Nat.lt_of_lt_of_le lo1 q) (Nat.lt_irrefl _), fun e => by rw [e] at q; exact absurd (Nat.lt_of_lt_of_le lo2 q) (Nat.lt_irrefl _), fun e => by rw [e] at q; exact absurd (Nat.lt_of_lt_of_le loS q) (Nat.lt_irrefl _)⟩
    show wpAny _ A.in1 (updateSeq S (·.push (Value.ref h.objs.size)) >>= _) _ _ _
    refine wpAny_bind ?_
    refine wpAny_updateSeq hS' rfl (wpAny_pure ⟨plainId_quiet F.plain_extend_loop _, ih (i + 1) _ tk _ (acc.push (Value.ref h.objs.size)) (as ++ [h.objs.size]) (by omega) hlt (hst'.keep P up)
      (fun b o h1 h2 h3 h4 h5 e => up b o h1 (hkp b o h2 h3 h4 h5 (hkeep b o h1 h2 h3 h4 h5 e))) (Heap.get?_update_self _ hS' rfl) (by rw [Array.toList_push, hacc, List.map_append]; rfl) (by rw [List.length_append, hal]; rfl) ⟨?_, ?_, ?_⟩ ?_⟩) (by rw [hsz]; omega) (by show (acc.push (Value.ref h.objs.size)).size ≤ sizeLine + 1; rw [Array.size_push, hsz]; omega)
    · refine List.pairwise_append.mpr ⟨hG.rise, List.pairwise_singleton _ _, fun a ha b hb => ?_⟩
      rw [List.mem_singleton.mp hb]
      exact hG.there ha
    · intro a ha
      rcases List.mem_append.mp ha with ha | ha
      · exact hG.above a ha
      · rw [List.mem_singleton.mp ha]; exact hlo
    · intro j b hj
      rcases Nat.lt_trichotomy j as.length with h1 | h1 | h1
      · rw [List.getElem?_append_left h1] at hj
        obtain ⟨x, y, e1, e2, e3⟩ := hG.pairs j b hj
        obtain ⟨q1, q2, q3, q4, q5⟩ := low b (hG.above b (List.mem_of_getElem? hj))
        exact ⟨x, y, e1, e2, up b _ q5 (hkp b _ q1 q2 q3 q4 e3)⟩
      · subst h1
        have hb : h.objs.size = b := by simpa using hj
        subst hb
        exact ⟨_, _, by rw [hal]; exact hx, by rw [hal]; exact hy, up _ _ (Nat.ne_of_gt hSl) ht⟩
      · have hnone : (as ++ [h.objs.size])[j]? = none := List.getElem?_eq_none (by rw [List.length_append, List.length_singleton]; omega)
        rw [hnone] at hj; cases hj
    · have e : (h'.update S (Obj.mapSeq (·.push (Value.ref h.objs.size)))).get? h.objs.size = _ := up _ _ (Nat.ne_of_gt hSl) ht
      exact Nat.le_trans hlo (Nat.le_of_lt (Heap.lt_size e))
theorem zip_extend {z TI TO i1 i2 l1 l2 S : Addr} {xs ys : Array Value} (hh : A.handled = none) (P : ZApart z TI TO i1 i2 l1 l2 S) (hn : min xs.size ys.size ≤ sizeLine) (res : Value) (c₀ : Nat)
    (hTO : TO < s.heap.objs.size)
    (hst : ZSt s.heap z TI TO i1 i2 l1 l2 S 0 xs ys) (hS : s.heap.get? S = some { cls := .type "list", data := .seq #[] c₀ })
    (hR : ∀ h' tk acc c as, (∀ b o, b ≠ S → b ≠ z → b ≠ TO → b ≠ i1 → b ≠ i2 → s.heap.get? b = some o → h'.get? b = some o) → h'.get? S = some { cls := .type "list", dict := none, data := .seq acc c, slots := #[] } → as.length = min xs.size ys.size →
      ZG xs ys s.heap.objs.size h' as → acc.toList = as.map Value.ref → R (.ok (.ret res)) { s with heap := h', toks := tk }) :
    wpAny (model prog w) A.in1 (Builtin.List.listExtendWith (.ref S) (.ref z) res)
      (fun fin s' => match fin with | .done f => R (.ok f) s' | .again c' => c'.quiet = true ∧ codeAny (model prog w) A c' R s') (fun e s' => R (.error e) s') s := by
  have hSl : S < s.heap.objs.size := Heap.lt_size hS
  have zT : s.TypeIs (.ref z) "zip" := by
    rcases hst.zz with ⟨e1, _⟩ | ⟨a, f, oa, e1, _⟩ <;> exact ⟨_, e1, rfl⟩
  have zlt : z < s.heap.objs.size := by
    rcases hst.zz with ⟨e1, _⟩ | ⟨a, f, oa, e1, _⟩ <;> exact Heap.lt_size e1
  have l1t : i1 < s.heap.objs.size := by obtain ⟨_, e, _⟩ := hst.it1; exact Heap.lt_size e
  have l2t : i2 < s.heap.objs.size := by obtain ⟨_, e, _⟩ := hst.it2; exact Heap.lt_size e
  unfold Builtin.List.listExtendWith
  refine wpAny_bind (wpAny_typeOf zT ?_)
  have h1 : Builtin.List.listSameRef (.ref S) (.ref z) = false := by simp [Builtin.List.listSameRef, P.sz]
  have h2 : (Value.type "zip" == Value.type "list") = false := by decide
  have h3 : (Value.type "zip" == Value.type "tuple") = false := by decide
  simp only [h1, h2, h3, Bool.or_false, Bool.false_eq_true, if_false]
  have self : ∀ {Q : Value → Shared → Prop} {E : Value → Shared → Prop}, Q (.ref z) s → wpAny (model prog w) A.in1 (pyIter (.ref z)) Q E s := fun {Q E} q => by
    rcases hst.zz with ⟨e1, _⟩ | ⟨a, f, oa, e1, _⟩
    · exact wpAny_pyIter_zip e1 q
    · refine wpAny_pyIter_slot zT F.slot_zip_iter (wpAny_call_entry F.slot_zip_iter zT F.entry_zip_iter ?_ (F.args_zip_iter_1 _))
      show wpAny _ _ (ret (.ref z)) _ _ s
      exact wpAny_pure ⟨_, rfl, "zip", _, zT, F.slot_zip_next.lookup, q⟩
  refine wpAny_bind (self ?_)
  refine wpAny_bind (wpAny_holding ?_)
  unfold Builtin.List.listLengthHint
  refine wpAny_bind (wpAny_specialOf zT zip_no_len ?_)
  show wpAny _ A.in1 (specialOf (Value.ref z) (Str.ofString "__length_hint__") >>= _) _ _ _
  refine wpAny_bind (wpAny_specialOf zT zip_no_hint ?_)
  refine wpAny_pure ?_
  show wpAny _ A.in1 (rule "list.extend.makes-room" >>= fun _ => Builtin.List.listTouch (.ref S) >>= fun _ =>
    again (.builtin "list.extend.loop" ⟨[.ref S, .ref z, res], []⟩)) _ _ _
  refine wpAny_bind (wpAny_rule ?_)
  refine wpAny_bind ?_
  show wpAny _ A.in1 (updateSeq S (·.push .none) >>= fun _ => updateSeq S (·.pop)) _ _ _
  refine wpAny_bind (wpAny_updateSeq hS rfl ?_)
  have hS₂ := Heap.get?_update_self (Obj.mapSeq (·.push Value.none)) hS rfl
  refine wpAny_updateSeq (hz := by seq_fits) hS₂ rfl ?_
  have hS₃ := Heap.get?_update_self (Obj.mapSeq (·.pop)) hS₂ rfl
  have oth : ∀ b o, b ≠ S → s.heap.get? b = some o → ((s.heap.update S (Obj.mapSeq (·.push Value.none))).update S (Obj.mapSeq (·.pop))).get? b = some o :=
    fun b o hb e => (Heap.get?_update_other _ _ (Ne.symm hb)).trans ((Heap.get?_update_other _ _ (Ne.symm hb)).trans e)
  refine wpAny_pure ⟨plainId_quiet F.plain_extend_loop _, ?_⟩
  refine zip_loop (s := s) (h₁ := s.heap) (lo := s.heap.objs.size) hh P hn res zlt hTO l1t l2t hSl (fun h' tk acc c as k1 k2 k3 k4 k5 => hR h' tk acc c as k1 k2 k3 k4 k5) (min xs.size ys.size) 0 _ s.toks _ #[] [] (Nat.sub_zero _) (Nat.zero_le _)
    (hst.keep P oth) (fun b o hb _ _ _ _ e => oth b o hb e) hS₃ rfl rfl ⟨List.Pairwise.nil, (fun _ ha => nomatch ha), (fun j a hj => by simp at hj)⟩ ?_
  simp
theorem zip_init {z TI TO i1 i2 l1 l2 S : Addr} {xs ys : Array Value} (hh : A.handled = none) (P : ZApart z TI TO i1 i2 l1 l2 S) (hn : min xs.size ys.size ≤ sizeLine)
    (hTO : TO < s.heap.objs.size)
    (hst : ZSt s.heap z TI TO i1 i2 l1 l2 S 0 xs ys) (hS : s.heap.get? S = some { cls := .type "list", data := .seq #[] })
    (hR : ∀ h' tk acc c as, (∀ b o, b ≠ S → b ≠ z → b ≠ TO → b ≠ i1 → b ≠ i2 → s.heap.get? b = some o → h'.get? b = some o) → h'.get? S = some { cls := .type "list", dict := none, data := .seq acc c, slots := #[] } → as.length = min xs.size ys.size →
      ZG xs ys s.heap.objs.size h' as → acc.toList = as.map Value.ref → R (.ok (.ret .none)) { s with heap := h', toks := tk }) :
    wpAny (model prog w) A.in1 (Builtin.«list.__init__» ⟨[.ref S, .ref z], []⟩)
      (fun fin s' => match fin with | .done f => R (.ok f) s' | .again c' => c'.quiet = true ∧ codeAny (model prog w) A c' R s') (fun e s' => R (.error e) s') s := by
  show wpAny _ _ (do let old ← Builtin.List.listItems (.ref S); Builtin.List.listUpdate (.ref S) (fun _ => #[]); letGo old.toList.reverse; Builtin.List.listExtendWith (.ref S) (.ref z) .none) _ _ s
  refine wpAny_bind ?_
  unfold Builtin.List.listItems
  refine wpAny_bind (wpAny_seqItems hS rfl (wpAny_pure ?_))
  show wpAny _ _ (updateSeq S (fun _ => #[]) >>= fun _ => letGo (#[] : Array Value).toList.reverse >>= fun _ => Builtin.List.listExtendWith (.ref S) (.ref z) .none) _ _ s
  refine wpAny_bind (wpAny_updateSeq hS rfl ?_)
  have hS₂ := Heap.get?_update_self (Obj.mapSeq (fun _ => (#[] : Array Value))) hS rfl
  have oth : ∀ b o, b ≠ S → s.heap.get? b = some o → (s.heap.update S (Obj.mapSeq (fun _ => (#[] : Array Value)))).get? b = some o :=
    fun b o hb e => (Heap.get?_update_other _ _ (Ne.symm hb)).trans e
  refine wpAny_bind (wpAny_letGo ?_)
  refine zip_extend (s := { s with heap := s.heap.update S (Obj.mapSeq (fun _ => (#[] : Array Value))) }) hh P hn .none _ (by simpa using hTO) (hst.keep P oth) hS₂ fun h' tk acc c as k1 k2 k3 k4 k5 => ?_
  refine hR h' tk acc c as (fun b o h1 h2 h3 h4 h5 e => k1 b o h1 h2 h3 h4 h5 (oth b o h1 e)) k2 k3 ?_ k5
  simpa using k4
end
theorem apart_nat (n l1 l2 S : Nat) (h1 : l1 < n) (h2 : l2 < n) (h3 : S = n + 5) : (n + 2 ≠ n + 4 ∧ n + 3 ≠ n + 4 ∧ n ≠ n + 4 ∧ n + 1 ≠ n + 4 ∧ n + 2 ≠ n + 3 ∧ n + 2 ≠ n ∧ n + 2 ≠ n + 1 ∧ n + 3 ≠ n ∧ n + 3 ≠ n + 1 ∧ n ≠ n + 1) ∧
    (l1 ≠ n + 4 ∧ l1 ≠ n + 3 ∧ l1 ≠ n ∧ l1 ≠ n + 1) ∧ (l2 ≠ n + 4 ∧ l2 ≠ n + 3 ∧ l2 ≠ n ∧ l2 ≠ n + 1) ∧ (S ≠ n + 4 ∧ S ≠ n + 2 ∧ S ≠ n + 3 ∧ S ≠ n ∧ S ≠ n + 1 ∧ S ≠ l1 ∧ S ≠ l2) := by
  refine ⟨⟨?_, ?_, ?_, ?_, ?_, ?_, ?_, ?_, ?_, ?_⟩, ⟨?_, ?_, ?_, ?_⟩, ⟨?_, ?_, ?_, ?_⟩, ⟨?_, ?_, ?_, ?_, ?_, ?_, ?_⟩⟩ <;> omega
theorem apart_new {n l1 l2 S : Addr} (h1 : l1 < n) (h2 : l2 < n) (h3 : S = n + 5) : ZApart (n + 4) (n + 2) (n + 3) n (n + 1) l1 l2 S := by
  obtain ⟨⟨a1, a2, a3, a4, a5, a6, a7, a8, a9, a10⟩, ⟨b1, b2, b3, b4⟩, ⟨c1, c2, c3, c4⟩, ⟨d1, d2, d3, d4, d5, d6, d7⟩⟩ := apart_nat n l1 l2 S h1 h2 h3
  exact ⟨⟨a1, a2, a3, a4, a5, a6, a7, a8, a9, a10, b1, b2, b3, b4, c1, c2, c3, c4⟩, d1, d2, d3, d4, d5, d6, d7⟩
section
variable {prog : Program} {w : World} {A : Around} {E : Value → Shared → Prop} {s : Shared}
/-- list(zip(a, b)) of two lists: all that stood before is kept, the pairs are new -/
theorem call_list_zip {l1 l2 : Addr} {xs ys : Array Value} {Q : Value → Shared → Prop} (hh : A.handled = none) (hl1 : s.heap.IsList l1 xs) (hl2 : s.heap.IsList l2 ys) (hn : min xs.size ys.size ≤ sizeLine)
    (hQ : ∀ h' tk acc c as S, s.heap.objs.size ≤ S → (∀ b o, s.heap.get? b = some o → h'.get? b = some o) → h'.get? S = some { cls := .type "list", dict := none, data := .seq acc c, slots := #[] } → as.length = min xs.size ys.size →
      ZG xs ys (S + 1) h' as → acc.toList = as.map Value.ref → Q (.ref S) { s with heap := h', toks := tk }) :
    wpAny (model prog w) A (call (.type "zip") [.ref l1, .ref l2]) (fun v s' => wpAny (model prog w) A (call (.type "list") [v]) Q E s') E s := by
  have a1 : l1 < s.heap.objs.size := by obtain ⟨_, e, _⟩ := hl1; exact Heap.lt_size e
  have a2 : l2 < s.heap.objs.size := by obtain ⟨_, e, _⟩ := hl2; exact Heap.lt_size e
  refine call_zip_2 hl1 hl2 fun h1 hz hTI hTO hi1 hi2 hsz hk => ?_
  refine callType_codes (Q₁ := fun obj s₁ => obj = .ref h1.objs.size ∧ s₁ = { s with heap := h1.push { cls := .type "list", data := .seq #[] } }) F.called_list (F.typeCall_list_1 _) F.entry_list_init
    (code_list_new _ ⟨rfl, rfl⟩) fun obj s₁ h₁ => ?_
  obtain ⟨rfl, rfl⟩ := h₁
  have hS : (h1.push { cls := .type "list", data := .seq #[] }).get? h1.objs.size = some { cls := .type "list", data := .seq #[] } := Heap.get?_push_size _ rfl
  have kp : ∀ b o, h1.get? b = some o → (h1.push { cls := .type "list", data := .seq #[] }).get? b = some o := fun b o e => Heap.get?_push_of_some _ e
  have P : ZApart (s.heap.objs.size + 4) (s.heap.objs.size + 2) (s.heap.objs.size + 3) s.heap.objs.size (s.heap.objs.size + 1) l1 l2 h1.objs.size := apart_new a1 a2 hsz
  refine ⟨⟨_, hS, rfl⟩, F.args_list_init_2 _ _, zip_init (A := A.in1) (xs := xs) (ys := ys) hh P hn ?_ ?_ hS fun h' tk acc c as k1 k2 k3 k4 k5 => ?_⟩
  · rw [Heap.size_push, hsz]; exact Nat.add_lt_add_left (show 3 < 5 + 1 by decide) s.heap.objs.size
  · exact ⟨kp _ _ hTI, hi1.at fun o e => kp _ o e, hi2.at fun o e => kp _ o e, hl1.at fun o e => kp _ o (hk _ o e), hl2.at fun o e => kp _ o (hk _ o e), .inl ⟨kp _ _ hz, _, _, kp _ _ hTO⟩⟩
  · refine ⟨rfl, hQ h' tk acc c as h1.objs.size (by rw [hsz]; exact Nat.le_add_right _ _) (fun b o e => ?_) k2 k3 ?_ k5⟩
    · have hb : b < s.heap.objs.size := Heap.lt_size e
      have up : ∀ k, b ≠ s.heap.objs.size + k := fun k => Nat.ne_of_lt (Nat.lt_of_lt_of_le hb (Nat.le_add_right _ _))
      exact k1 b o (by rw [hsz]; exact up 5) (up 4) (up 3) (up 0) (up 1) (kp _ _ (hk _ _ e))
    · rw [Heap.size_push] at k4
      exact k4
end
end TZ
end
section
set_option Elab.async false
set_option linter.all false
set_option maxRecDepth 100000
namespace L2
open PySem PySem.Spec PyProof.Rows
abbrev Key := Sum Int Str
def keyIs : Key → Value → Bool
  | .inl k, v => Value.isInt k v
  | .inr x, v => Value.isStrOf x v
def keyH (w : World) : Key → Int
  | .inl k => hashInt k
  | .inr x => hashStr w x
theorem keyIs_shape : ∀ {k : Key} {v : Value}, keyIs k v = true → (∃ i t, k = Sum.inl i ∧ v = Value.int i t) ∨ (∃ x t, k = Sum.inr x ∧ v = Value.str x t)
  | .inl i, v, h => by
    obtain ⟨t, e⟩ := Value.isInt_shape (k := i) (v := v) h
    exact .inl ⟨i, t, rfl, e⟩
  | .inr x, v, h => by
    obtain ⟨t, e⟩ := Value.isStrOf_shape (x := x) (v := v) h
    exact .inr ⟨x, t, rfl, e⟩
theorem keyIs_int (i : Int) (t : Tok) : keyIs (.inl i) (.int i t) = true := by simp [keyIs, Value.isInt]
theorem keyIs_str (x : Str) (t : Tok) : keyIs (.inr x) (.str x t) = true := by simp [keyIs, Value.isStrOf]
theorem key_ll (a b : Int) : decide ((Sum.inl a : Key) = Sum.inl b) = (a == b) := by
  by_cases e : a = b
  · subst e; simp
  · have h : ¬ (Sum.inl a : Key) = Sum.inl b := fun q => e (Sum.inl.inj q)
    rw [decide_eq_false h]
    exact (beq_eq_false_iff_ne.mpr e).symm
theorem key_rr (a b : Str) : decide ((Sum.inr a : Key) = Sum.inr b) = decide (a = b) := by
  by_cases e : a = b
  · subst e; simp
  · have h : ¬ (Sum.inr a : Key) = Sum.inr b := fun q => e (Sum.inr.inj q)
    rw [decide_eq_false h, decide_eq_false e]
theorem key_lr (a : Int) (b : Str) : decide ((Sum.inl a : Key) = Sum.inr b) = false := decide_eq_false (fun q => nomatch q)
theorem key_rl (a : Str) (b : Int) : decide ((Sum.inr a : Key) = Sum.inl b) = false := decide_eq_false (fun q => nomatch q)
def mixKind (prog : Program) (w : World) : PySem.KeyKind prog w Key where
  is := keyIs
  hash := keyH w
  inj := fun v a b ha hb => by
    rcases keyIs_shape ha with ⟨i, t, rfl, rfl⟩ | ⟨x, t, rfl, rfl⟩
    · rcases keyIs_shape hb with ⟨j, u, rfl, e⟩ | ⟨y, u, rfl, e⟩
      · injection e with e1 _; rw [e1]
      · exact nomatch e
    · rcases keyIs_shape hb with ⟨j, u, rfl, e⟩ | ⟨y, u, rfl, e⟩
      · exact nomatch e
      · injection e with e1 _; rw [e1]
  byValue := fun k v h => by
    rcases keyIs_shape h with ⟨i, t, rfl, rfl⟩ | ⟨x, t, rfl, rfl⟩ <;> rfl
  pyHash := fun hv h => by
    rcases keyIs_shape hv with ⟨i, t, rfl, rfl⟩ | ⟨x, t, rfl, rfl⟩
    · exact wpAny_pyHash_int h
    · exact wpAny_pyHash_str h
  eqBool := fun hu hv h => by
    rcases keyIs_shape hu with ⟨i, t, rfl, rfl⟩ | ⟨x, t, rfl, rfl⟩
    · rcases keyIs_shape hv with ⟨j, u, rfl, rfl⟩ | ⟨y, u, rfl, rfl⟩
      · rw [key_ll] at h; exact wpAny_eqBool_int h
      · rw [key_lr] at h; exact SeqAt.EqAt.int_str i t y u _ _ _ _ h
    · rcases keyIs_shape hv with ⟨j, u, rfl, rfl⟩ | ⟨y, u, rfl, rfl⟩
      · rw [key_rl] at h; exact SeqAt.EqAt.str_int x t j u _ _ _ _ h
      · rw [key_rr] at h; exact wpAny_eqBool_str h
  «strs» := fun k x t v h => by
    rcases keyIs_shape h with ⟨i, u, rfl, e⟩ | ⟨y, u, rfl, e⟩
    · exact nomatch e
    · injection e with e1 _
      subst e1
      cases v <;> rfl
theorem mixKind_int (prog : Program) (w : World) (i : Int) (t : Tok) : (mixKind prog w).is (.inl i) (.int i t) = true := keyIs_int i t
theorem mixKind_str (prog : Program) (w : World) (x : Str) (t : Tok) : (mixKind prog w).is (.inr x) (.str x t) = true := keyIs_str x t
end L2
namespace L2
open PySem PySem.Spec PyProof.Rows
inductive V where
  | non | bl (b : Bool) | int (i : Int) | str (x : Str) | byt (b : Array UInt8) | flt (b : UInt64) | ref (a : Addr) | ty (n : String)
  deriving DecidableEq
def RelV : V → Value → Prop
  | .non, u => u = Value.none
  | .bl b, u => u = Value.bool b
  | .int i, u => ∃ t, u = Value.int i t
  | .str x, u => ∃ t, u = Value.str x t
  | .byt b, u => ∃ t, u = Value.bytes b t
  | .flt b, u => ∃ t, u = Value.float b t
  | .ref a, u => u = Value.ref a
  | .ty n, u => u = Value.type n
abbrev Vals : List V → List Value → Prop := Paired RelV
theorem Vals.length {xs : List V} {us : List Value} (r : Vals xs us) : xs.length = us.length := Paired.length r
theorem Vals.get : ∀ {xs : List V} {us : List Value} {i : Nat} {x : V}, Vals xs us → xs[i]? = some x → ∃ u, us[i]? = some u ∧ RelV x u
  | _, _, _, _, .nil, e => by simp at e
  | _, _, 0, _, .cons r _, e => by simp at e; subst e; exact ⟨_, rfl, r⟩
  | _, _, i + 1, x, .cons _ t, e => by
    obtain ⟨u, h1, h2⟩ := Vals.get (i := i) (x := x) t (by simpa using e)
    exact ⟨u, by simpa using h1, h2⟩
theorem Vals.append : ∀ {xs ys : List V} {us ws : List Value}, Vals xs us → Vals ys ws → Vals (xs ++ ys) (us ++ ws)
  | _, _, _, _, .nil, s => s
  | _, _, _, _, .cons r t, s => .cons r (Vals.append t s)
theorem Vals.take : ∀ {xs : List V} {us : List Value} (n : Nat), Vals xs us → Vals (xs.take n) (us.take n)
  | _, _, 0, _ => .nil
  | _, _, _ + 1, .nil => .nil
  | _, _, n + 1, .cons r t => .cons r (Vals.take n t)
theorem Vals.drop : ∀ {xs : List V} {us : List Value} (n : Nat), Vals xs us → Vals (xs.drop n) (us.drop n)
  | _, _, 0, r => r
  | _, _, _ + 1, .nil => .nil
  | _, _, n + 1, .cons _ t => Vals.drop n t
def RelO : Option V → Option Value → Prop
  | some v, some u => RelV v u
  | none, none => True
  | _, _ => False
def KV {κ : Type} : List (κ × V) → List (κ × Value) → Prop := Paired fun (p : κ × V) (q : κ × Value) => p.1 = q.1 ∧ RelV p.2 q.2
def kV : Key → V
  | .inl i => .int i
  | .inr x => .str x
inductive HO where
  /-- a list -/
  | lst (xs : List V)
  /-- a tuple (never changes) -/
  | tup (xs : List V)
  /-- a dict whose keys are ints and texts; one whose keys are tuples of ints and texts (the empty one is both) -/
  | dK (kvs : List (Key × V)) | dT (kvs : List (List Key × V))
  /-- a set of ints: its members, its size -/
  | set (S : Int → Bool) (n : Nat)
  /-- an instance of the class at C, its dict at dx, its attributes -/
  | ins (C dx : Addr) (fs : List (Str × V))
  /-- the dict of the instance at x -/
  | own (x : Addr)
  /-- the dict of an exception -/
  | xd (fs : List (Str × V))
  /-- a bound method, f of x -/
  | met (f x : Addr)
  /-- a range object lo, lo + 1, .. below hi -/
  | rng (lo hi : Int)
  /-- a thing that is known to the object (the script; a dict while a loop walks it): read, never written while it is so -/
  | frz (o : Obj) (u : HO)
  /-- a code object's table -/
  | tbl (ps : Array Value)
  /-- any other thing, by what is true of its one object (a def of one's own: SetO a S n := HO.ext fun h => ..) -/
  | ext (φ : Heap → Prop)
abbrev Hp := Addr → Option HO
def upd (H : Hp) (a : Addr) (o : HO) : Hp := fun b => if b = a then some o else H b
theorem upd_same {H : Hp} {a : Addr} {o : HO} : upd H a o a = some o := by unfold upd; rw [if_pos rfl]
theorem upd_ne {H : Hp} {a b : Addr} {o : HO} (h : b ≠ a) : upd H a o b = H b := by unfold upd; rw [if_neg h]
theorem ne_of {H : Hp} {a b : Addr} {o u : HO} (h : H a = some o) (h' : H b = some u) (d : o ≠ u) : a ≠ b := by
  intro e; subst e; rw [h] at h'; exact d (Option.some.inj h')
theorem ne_of_none {H : Hp} {a b : Addr} {o : HO} (h : H a = some o) (h' : H b = none) : a ≠ b := by
  intro e; subst e; rw [h] at h'; cases h'
section
variable (P : Program) (w : World)
def ObjOk (H : Hp) (h : Heap) (a : Addr) : HO → Prop
  | .lst xs => xs.length ≤ sizeLine ∧ ∃ (its : List Value) (n : Nat), Vals xs its ∧ h.get? a = some { cls := .type "list", data := .seq its.toArray n }
  | .tup xs => xs.length ≤ sizeLine ∧ ∃ its : List Value, Vals xs its ∧ IsTup h a its.toArray
  | .dK kvs => kvs.length ≤ sizeLine ∧ (a == sysModules) = false ∧ ∃ vs, KV kvs vs ∧ h.DictOf (mixKind P w) a vs
  | .dT kvs => kvs.length ≤ sizeLine ∧ (a == sysModules) = false ∧ ∃ xs : List (List Key × Addr × Value),
      Paired (fun (p : List Key × V) (q : List Key × Addr × Value) => p.1 = q.1 ∧ H q.2.1 = some (.tup (p.1.map kV)) ∧ RelV p.2 q.2.2) kvs xs ∧
      ∃ o es ep, h.get? a = some o ∧ o.ExactDict ∧ o.data = .dict es ep ∧ es.toList = xs.map (entryOfKey (tupleKind (mixKind P w))) ∧ (xs.map (·.1)).Nodup
  | .set S n => h.SetOf (intKind P w) a S n
  | .ins C dx fs => H dx = some (.own a) ∧ fs.length ≤ 1000 ∧ dx ≠ a ∧ h.get? a = some (PySem.W.instObj C dx) ∧
      ∃ mA, h.Ns1 dx mA ∧ (∀ f, RelO (fs.lookup f) (mA f)) ∧ PySem.Within mA (fs.map (·.1))
  | .own _ => ∃ o, h.get? a = some o
  | .xd fs => ∃ mA, h.Ns1 a mA ∧ ∀ f, RelO (fs.lookup f) (mA f)
  | .rng lo hi => ∃ t u v, h.get? a = some { cls := .type "range", data := .fields #[.int lo t, .int hi u, .int 1 v] }
  | .frz o u => h.get? a = some o ∧ ObjOk H h a u
  | .tbl ps => h.get? a = some { cls := .none, data := .fields ps }
  | .met f x => h.get? a = some (PySem.W.methodObj (.ref f) (.ref x))
  | .ext φ => φ h ∧ (∃ o, h.get? a = some o) ∧ ∀ h1 h2 : Heap, φ h1 → (∀ o, h1.get? a = some o → h2.get? a = some o) → φ h2
def HOk (H : Hp) (h : Heap) : Prop := ∀ a o, H a = some o → ObjOk P w H h a o
end
section
variable {P : Program} {w : World} {H H' : Hp} {h h' : Heap} {a : Addr} {o : HO}
theorem ObjOk.lt (x : ObjOk P w H h a o) : a < h.objs.size := by
  cases o with
  | lst xs => obtain ⟨_, _, _, _, e⟩ := x; exact Heap.lt_size e
  | tup xs => obtain ⟨_, _, _, p⟩ := x; exact p.lt
  | dK kvs => obtain ⟨_, _, _, _, o, _, _, e, _⟩ := x; exact Heap.lt_size e
  | dT kvs => obtain ⟨_, _, _, _, o, _, _, e, _⟩ := x; exact Heap.lt_size e
  | set S n => obtain ⟨o, _, _, _, e, _⟩ := x; exact Heap.lt_size e
  | ins C dx fs => obtain ⟨_, _, _, e, _⟩ := x; exact Heap.lt_size e
  | own y => obtain ⟨_, e⟩ := x; exact Heap.lt_size e
  | xd fs => obtain ⟨_, ⟨_, _, _, e, _⟩, _⟩ := x; exact Heap.lt_size e
  | rng lo hi => obtain ⟨_, _, _, e⟩ := x; exact Heap.lt_size e
  | frz ob u => obtain ⟨e, _⟩ := x; exact Heap.lt_size e
  | tbl ps => exact Heap.lt_size (show h.get? a = some _ from x)
  | met f y => exact Heap.lt_size (show h.get? a = some _ from x)
  | ext φ => obtain ⟨_, ⟨_, e⟩, _⟩ := x; exact Heap.lt_size e
theorem Paired.mapP {α β : Type} {F G : α → β → Prop} : ∀ {l₁ : List α} {l₂ : List β}, Paired F l₁ l₂ → (∀ a b, F a b → G a b) → Paired G l₁ l₂
  | _, _, .nil, _ => .nil
  | _, _, .cons r t, f => .cons (f _ _ r) (Paired.mapP t f)
theorem ObjOk.stay (x : ObjOk P w H h a o) (k : ∀ b u, (b = a ∨ H b = some (.own a)) → h.get? b = some u → h'.get? b = some u)
    (ho : ∀ b, H b = some (.own a) → H' b = some (.own a)) (ht : ∀ b xs, H b = some (.tup xs) → H' b = some (.tup xs)) : ObjOk P w H' h' a o := by
  induction o with
  | lst xs => obtain ⟨z, its, n, r, e⟩ := x; exact ⟨z, its, n, r, k _ _ (.inl rfl) e⟩
  | tup xs => obtain ⟨z, its, r, ob, e, c⟩ := x; exact ⟨z, its, r, ob, k _ _ (.inl rfl) e, c⟩
  | dK kvs => obtain ⟨z, y, vs, r, ob, es, ep, e, c⟩ := x; exact ⟨z, y, vs, r, ob, es, ep, k _ _ (.inl rfl) e, c⟩
  | dT kvs =>
    obtain ⟨z, y, xs, r, ob, es, ep, e, c⟩ := x
    exact ⟨z, y, xs, Paired.mapP r fun p q z => ⟨z.1, ht _ _ z.2.1, z.2.2⟩, ob, es, ep, k _ _ (.inl rfl) e, c⟩
  | set S n => obtain ⟨ob, es, ep, t, e, c⟩ := x; exact ⟨ob, es, ep, t, k _ _ (.inl rfl) e, c⟩
  | ins C dx fs =>
    obtain ⟨d, z, ne, e, mA, ⟨od, es, ep, e2, c⟩, r⟩ := x
    exact ⟨ho _ d, z, ne, k _ _ (.inl rfl) e, mA, ⟨od, es, ep, k _ _ (.inr d) e2, c⟩, r⟩
  | own y => obtain ⟨ob, e⟩ := x; exact ⟨ob, k _ _ (.inl rfl) e⟩
  | xd fs => obtain ⟨mA, ⟨od, es, ep, e, c⟩, r⟩ := x; exact ⟨mA, ⟨od, es, ep, k _ _ (.inl rfl) e, c⟩, r⟩
  | rng lo hi => obtain ⟨t, u, v, e⟩ := x; exact ⟨t, u, v, k _ _ (.inl rfl) e⟩
  | frz ob u ih => obtain ⟨e, q⟩ := x; exact ⟨k _ _ (.inl rfl) e, ih q⟩
  | tbl ps =>
    have e : h.get? a = some { cls := .none, data := .fields ps } := x
    show h'.get? a = some { cls := .none, data := .fields ps }
    exact k a _ (.inl rfl) e
  | met f y =>
    have e : h.get? a = some (PySem.W.methodObj (.ref f) (.ref y)) := x
    show h'.get? a = some (PySem.W.methodObj (.ref f) (.ref y))
    exact k a _ (.inl rfl) e
  | ext φ => obtain ⟨p, ⟨o, e⟩, st⟩ := x; exact ⟨st _ _ p fun o q => k _ _ (.inl rfl) q, ⟨o, k _ _ (.inl rfl) e⟩, st⟩
theorem HOk.lt (x : HOk P w H h) (e : H a = some o) : a < h.objs.size := (x a o e).lt
theorem HOk.fresh (x : HOk P w H h) (e : h.objs.size ≤ a) : H a = none := by
  cases q : H a with
  | none => rfl
  | some u => exact absurd (Nat.lt_of_lt_of_le (x.lt q) e) (Nat.lt_irrefl _)
theorem HOk.kept (x : HOk P w H h) (k : ∀ b u, h.get? b = some u → h'.get? b = some u) : HOk P w H h' := fun a o e =>
  (x a o e).stay (fun b u _ q => k b u q) (fun _ q => q) fun _ _ q => q
theorem HOk.laid (x : HOk P w H h) (k : ∀ b u, h.get? b = some u → h'.get? b = some u) (hp : h.objs.size ≤ a) (new : ObjOk P w (upd H a o) h' a o) : HOk P w (upd H a o) h' := fun b u e => by
  have hn := x.fresh hp
  by_cases hb : b = a
  · subst hb; rw [upd_same] at e; cases e; exact new
  · rw [upd_ne hb] at e
    exact (x b u e).stay (fun c v _ q => k c v q) (fun c q => by rw [upd_ne (ne_of_none q hn)]; exact q) fun c xs q => by rw [upd_ne (ne_of_none q hn)]; exact q
end
def Rd (H : Hp) (a : Addr) (u : HO) : Prop := H a = some u ∨ ∃ o, H a = some (.frz o u)
theorem Rd.ok {P : Program} {w : World} {H : Hp} {h : Heap} {a : Addr} {u : HO} (r : Rd H a u) (x : HOk P w H h) : ObjOk P w H h a u := by
  rcases r with r | ⟨o, r⟩
  · exact x a u r
  · obtain ⟨_, q⟩ := x a _ r
    exact q
def Mut : Option HO → Prop
  | some (.lst _) => True
  | some (.dK _) => True
  | some (.dT _) => True
  | some (.set _ _) => True
  | some (.ins _ _ _) => True
  | some (.ext _) => True
  | _ => False
section
variable {P : Program} {w : World} {H : Hp} {h h' : Heap} {x e : Addr} {o' : HO}
theorem HOk.write (ok : HOk P w H h) (mu : Mut (H x)) (he : e = x ∨ H e = some (.own x)) (k : ∀ b u, b ≠ e → h.get? b = some u → h'.get? b = some u) (heo : ∃ u, h'.get? e = some u)
    (new : ObjOk P w (upd H x o') h' x o') : HOk P w (upd H x o') h' := fun b u q => by
  have nown : ∀ c y, H c = some (.own y) → c ≠ x := fun c y r z => by subst z; rw [r] at mu; exact mu
  have ntup : ∀ c xs, H c = some (.tup xs) → c ≠ x := fun c xs r z => by subst z; rw [r] at mu; exact mu
  by_cases hb : b = x
  · subst hb; rw [upd_same] at q; cases q; exact new
  · rw [upd_ne hb] at q
    by_cases hbe : b = e
    · have q' : H b = some (.own x) := by
        rcases he with z | z
        · exact absurd (hbe.trans z) hb
        · rw [hbe]; exact z
      rw [q] at q'; cases q'
      obtain ⟨v, hv⟩ := heo
      exact ⟨v, by rw [hbe]; exact hv⟩
    · refine (ok b u q).stay (fun c v hc r => k c v ?_ r) (fun c r => by rw [upd_ne (nown c b r)]; exact r) fun c xs r => by rw [upd_ne (ntup c xs r)]; exact r
      rcases hc with rfl | hc
      · exact hbe
      · rintro rfl
        rcases he with z | z
        · exact nown c b hc z
        · rw [hc] at z; cases z; exact hb rfl
end
structure Un (fs ex : List Addr) (H H' : Hp) (h h' : Heap) : Prop where
  keep : ∀ b o, h.get? b = some o → H b = none → b ∉ fs → b ∉ ex → h'.get? b = some o
  slot : ∀ b o, h.get? b = some o → H b = none → b ∈ fs → b ∉ ex → ∃ sl, h'.get? b = some { o with slots := sl }
  free : ∀ b o, h.get? b = some o → H b = none → b ∉ ex → H' b = none
  there : ∀ b o, h.get? b = some o → b ∉ ex → ∃ o', h'.get? b = some o'
  tups : ∀ b xs, H b = some (.tup xs) → H' b = some (.tup xs)
  frzs : ∀ b o u, H b = some (.frz o u) → H' b = some (.frz o u)
  tbls : ∀ b ps, H b = some (.tbl ps) → ∃ more, H' b = some (.tbl (ps ++ more))
section
variable {fs fs' ex ex' : List Addr} {H H1 H2 : Hp} {h h1 h2 h' : Heap} {a x e : Addr} {o : HO}
theorem Un.any (u : Un fs ex H H1 h h1) {b : Addr} {ob : Obj} (q : h.get? b = some ob) (n : H b = none) (hx : b ∉ ex) : ∃ sl, h1.get? b = some { ob with slots := sl } := by
  by_cases hb : b ∈ fs
  · exact u.slot b ob q n hb hx
  · exact ⟨ob.slots, u.keep b ob q n hb hx⟩
theorem Un.kept (k : ∀ b u, h.get? b = some u → h'.get? b = some u) : Un fs ex H H h h' :=
  ⟨fun b ob q _ _ _ => k b ob q, fun b ob q _ _ _ => ⟨ob.slots, k b ob q⟩, fun _ _ _ n _ => n, fun b ob q _ => ⟨ob, k b ob q⟩, fun _ _ q => q, fun _ _ _ q => q, fun _ ps q => ⟨#[], by rw [q]; simp⟩⟩
theorem Un.refl : Un fs ex H H h h := Un.kept fun _ _ q => q
theorem Un.laid (k : ∀ b u, h.get? b = some u → h'.get? b = some u) (hp : h.objs.size ≤ a) (hn : H a = none) : Un fs ex H (upd H a o) h h' where
  keep := fun b u q _ _ _ => k b u q
  slot := fun b u q _ _ _ => ⟨u.slots, k b u q⟩
  free := fun b u q n _ => by rw [upd_ne (Nat.ne_of_lt (Nat.lt_of_lt_of_le (Heap.lt_size q) hp))]; exact n
  there := fun b u q _ => ⟨u, k b u q⟩
  tups := fun b xs q => by rw [upd_ne (ne_of_none q hn)]; exact q
  frzs := fun b u xs q => by rw [upd_ne (ne_of_none q hn)]; exact q
  tbls := fun b ps q => ⟨#[], by rw [upd_ne (ne_of_none q hn), q]; simp⟩
theorem Un.write (mu : Mut (H x)) (he : e = x ∨ H e = some (.own x)) (k : ∀ b u, b ≠ e → h.get? b = some u → h'.get? b = some u) (heo : ∃ u, h'.get? e = some u) : Un fs ex H (upd H x o) h h' := by
  have hx : ∀ b, H b = none → b ≠ x := fun b n z => by subst z; rw [n] at mu; exact mu
  have hb : ∀ b, H b = none → b ≠ e := fun b n z => by
    subst z
    rcases he with r | r
    · exact hx b n r
    · rw [n] at r; cases r
  have hm : ∀ b u, H b = some u → ¬ Mut (some u) → b ≠ x := fun b u q nm z => by subst z; rw [q] at mu; exact nm mu
  refine ⟨fun b u q n _ _ => k b u (hb b n) q, fun b u q n _ _ => ⟨u.slots, k b u (hb b n) q⟩, fun b u q n _ => by rw [upd_ne (hx b n)]; exact n, fun b u q _ => ?_,
    fun b xs q => by rw [upd_ne (hm b _ q fun z => z)]; exact q, fun b u xs q => by rw [upd_ne (hm b _ q fun z => z)]; exact q, fun b ps q => ⟨#[], by rw [upd_ne (hm b _ q fun z => z), q]; simp⟩⟩
  by_cases hbe : b = e
  · subst hbe; exact heo
  · exact ⟨u, k b u hbe q⟩
end
def trk (h : Heap) (H : Hp) : List Addr := (List.range h.objs.size).filter fun a => (H a).isSome
def hidT (h : Heap) (H : Hp) : Heap := PySem.W.hideAll h (trk h H)
theorem hidT_size (h : Heap) (H : Hp) : (hidT h H).objs.size = h.objs.size := PySem.W.hideAll_size _ _
theorem hidT_get {h : Heap} {H : Hp} {b : Addr} {o : Obj} (e : h.get? b = some o) (n : H b = none) : (hidT h H).get? b = some o :=
  PySem.W.hideAll_get _ e fun hm => by
    have q : (H b).isSome = true := (List.mem_filter.mp hm).2
    rw [n] at q; simp at q
theorem of_hidT {h : Heap} {H : Hp} {b : Addr} {o : Obj} (e : (hidT h H).get? b = some o) : h.get? b = some o ∧ H b = none := by
  have e' : h.get? b = some o := PySem.W.of_hideAll (trk h H) e
  refine ⟨e', ?_⟩
  cases q : H b with
  | none => rfl
  | some x =>
    have hm : b ∈ trk h H := List.mem_filter.mpr ⟨List.mem_range.mpr (Heap.lt_size e'), by simp [q]⟩
    have z : (hidT h H).get? b = none := PySem.W.hideAll_none (trk h H) hm
    rw [z] at e; cases e
end L2
namespace L2
open PySem PySem.Spec PyProof.Rows
structure Mod (K : PySem.W.Frag) (mg : Str → Option Value) (base : Heap) : Prop where
  kin : K.In base
  glob : base.Ns mainGlobals mg
  blt : ∃ mb, base.Ns builtinsNs mb ∧ ∀ x : Str, x ≠ "__name__" → mb x = bootBuiltins x
  nolimit : base.NoLimit
structure Cx where
  prog : Program
  w : World
  K : PySem.W.Frag
  mg : Str → Option Value
  base : Heap
  A : Around
  N : List Str
  s_0 : Shared
  H_0 : Hp
  env : Env
  outer : List Env
  stack : List Env
  ex : List Addr
  fn : Str → Bool
  calm : Bool
  pn : List (Addr × Obj)
  xe : Value → Shared → Prop
def frs (l : List Env) : List Addr := l.filterMap (·.frame)
abbrev Cx.fs (X : Cx) : List Addr := frs X.outer
def Vis (sc : Scope) (x : Str) : Prop := sc.names.lookup x = some .local ∨ sc.names.lookup x = some .cell ∨ sc.names.lookup x = some .free
def Loc (sc : Scope) (x : Str) : Prop := sc.names.lookup x = some .local ∨ sc.names.lookup x = some .cell
def Look (env : Env) (h : Heap) (m : Str → Option Value) (x : Str) (u : Value) : Prop :=
  (env.kindOf x = some .local ∧ m x = some u) ∨ ((env.kindOf x = some .cell ∨ env.kindOf x = some .free) ∧ ∃ c, env.cells.lookup x = some c ∧ h.IsCell c (some u))
structure Cx.Ok (X : Cx) : Prop where
  mod : Mod X.K X.mg X.base
  kind : X.env.scope.kind = .function
  glob : X.env.globals = mainGlobals
  blt : X.env.builtins = builtinsNs
  above : X.s_0.heap.objs.size ≤ X.env.locals
  inj : ∀ x y c, X.env.cells.lookup x = some c → X.env.cells.lookup y = some c → x = y
  has : ∀ x, (X.env.kindOf x = some .cell ∨ X.env.kindOf x = some .free) → ∃ c, X.env.cells.lookup x = some c
  cab : ∀ x c, X.fn x = true → X.env.cells.lookup x = some c → X.s_0.heap.objs.size ≤ c
  hd : X.calm = true → X.A.handled = none
  frames : X.A.frames = some X.stack
  stk : X.stack = X.outer ∨ (X.stack = X.env :: X.outer ∧ X.env.frame = some X.env.locals)
  exf : ∀ b ∈ X.ex, b ≠ X.env.locals ∧ ∀ x c, X.env.cells.lookup x = some c → c ≠ b
  bs : ∀ b o, X.base.get? b = some o → X.s_0.heap.get? b = some o ∧ X.H_0 b = none
  bsz : X.base.objs.size ≤ X.s_0.heap.objs.size
  noex : ∀ b o, X.base.get? b = some o → b ∉ X.ex
  exfs : ∀ b ∈ X.ex, b ∉ X.fs
  funs : X.s_0.heap.FunFrames X.base X.outer
  frf : ∀ b ∈ X.fs, X.H_0 b = none
structure Inv (X : Cx) (pins : List (Addr × Obj)) (σ : List (Option V)) (H : Hp) (s : Shared) : Prop where
  ok : X.Ok
  os : s.os = X.s_0.os
  bare : AllBare s.gens
  base : Un X.fs X.ex X.H_0 H X.s_0.heap s.heap
  loc : ∃ m, s.heap.Ns X.env.locals m ∧ ∀ (i : Nat) (x : Str) (v : V), X.N[i]? = some x → σ[i]? = some (some v) → Vis X.env.scope x → ∃ u, RelV v u ∧ Look X.env s.heap m x u
  cell : ∀ x c, X.env.cells.lookup x = some c → ∃ v, s.heap.IsCell c v
  free : H X.env.locals = none
  freeC : ∀ x c, X.env.cells.lookup x = some c → H c = none
  pin : ∀ p ∈ X.pn ++ pins, s.heap.get? p.1 = some p.2 ∧ H p.1 = none ∧ p.1 ≠ X.env.locals ∧ p.1 ∉ X.fs ∧ ∀ v, p.2.data ≠ .cell v
  hok : HOk X.prog X.w H s.heap
  len : σ.length = X.N.length
section
variable {X : Cx} {pins : List (Addr × Obj)} {σ : List (Option V)} {H H' : Hp} {s : Shared} {h' : Heap}
theorem Cx.Ok.nofr (ok : X.Ok) {b : Addr} {o : Obj} (e : X.base.get? b = some o) : b ∉ X.fs := fun hb => by
  have := (ok.funs.mem hb).1
  rw [e] at this; cases this
theorem Inv.bs (I : Inv X pins σ H s) : ∀ b o, X.base.get? b = some o → s.heap.get? b = some o ∧ H b = none := fun b o e =>
  ⟨I.base.keep b o (I.ok.bs b o e).1 (I.ok.bs b o e).2 (I.ok.nofr e) (I.ok.noex b o e), I.base.free b o (I.ok.bs b o e).1 (I.ok.bs b o e).2 (I.ok.noex b o e)⟩
theorem Inv.bk (I : Inv X pins σ H s) : ∀ b o, X.base.get? b = some o → s.heap.get? b = some o := fun b o e => (I.bs b o e).1
theorem Inv.mod (I : Inv X pins σ H s) : Mod X.K X.mg X.base := I.ok.mod
theorem Inv.kIn (I : Inv X pins σ H s) : X.K.In s.heap := I.ok.mod.kin.keeps I.bk
theorem Inv.lt (I : Inv X pins σ H s) : X.env.locals < s.heap.objs.size := let ⟨_, hn, _⟩ := I.loc; hn.lt
theorem Inv.sz (I : Inv X pins σ H s) : X.s_0.heap.objs.size ≤ s.heap.objs.size := Nat.le_trans I.ok.above (Nat.le_of_lt I.lt)
theorem Inv.nofs (I : Inv X pins σ H s) {a : Addr} (h : s.heap.objs.size ≤ a) : a ∉ X.fs := fun hb => by
  obtain ⟨_, o, ho, _⟩ := I.ok.funs.mem hb
  exact absurd (Nat.lt_of_lt_of_le (Heap.lt_size ho) (Nat.le_trans I.sz h)) (Nat.lt_irrefl _)
theorem Inv.cne (I : Inv X pins σ H s) : ∀ x c, X.env.cells.lookup x = some c → c ≠ X.env.locals := fun x c e z => by
  obtain ⟨v, o, ho, hd⟩ := I.cell x c e
  obtain ⟨m, ⟨o', es, ep, ho', hd', _⟩, _⟩ := I.loc
  rw [z, ho'] at ho; cases ho; rw [hd'] at hd; cases hd
theorem Inv.funs (I : Inv X pins σ H s) : s.heap.FunFrames X.base X.outer := by
  have all : ∀ (l : List Env), (∀ b ∈ frs l, b ∈ X.fs) → X.s_0.heap.FunFrames X.base l → s.heap.FunFrames X.base l := by
    intro l
    induction l with
    | nil => intro _ _; trivial
    | cons env r ih =>
      intro hs hl
      obtain ⟨hk, ⟨L, o, hf, hn, ho, hd⟩, hr⟩ := hl
      have hL : L ∈ X.fs := hs L (by unfold frs; rw [List.filterMap_cons, hf]; exact List.mem_cons_self)
      obtain ⟨sl, e⟩ := I.base.slot L o ho (I.ok.frf L hL) hL fun z => I.ok.exfs L z hL
      exact ⟨hk, ⟨L, _, hf, hn, e, hd⟩, ih (fun b hb => hs b (by unfold frs; rw [List.filterMap_cons, hf]; exact List.mem_cons_of_mem _ hb)) hr⟩
  exact all X.outer (fun _ hb => hb) I.ok.funs
theorem Inv.stack (I : Inv X pins σ H s) : s.heap.FunFrames X.base X.stack := by
  rcases I.ok.stk with e | ⟨e, hf⟩
  · rw [e]; exact I.funs
  · rw [e]
    obtain ⟨m, hn, _⟩ := I.loc
    refine .cons (by rw [I.ok.kind]; decide) hf hn ?_ I.funs
    exact Heap.get?_none_of_le (Nat.le_trans I.ok.bsz I.ok.above)
theorem Inv.stkSub (I : Inv X pins σ H s) : ∀ b ∈ frs X.stack, b ∈ X.env.locals :: X.fs := fun b hb => by
  rcases I.ok.stk with e | ⟨e, hf⟩
  · rw [e] at hb; exact List.mem_cons_of_mem _ hb
  · rw [e] at hb
    unfold frs at hb
    rw [List.filterMap_cons, hf] at hb
    exact hb
theorem Inv.stkFree (I : Inv X pins σ H s) : ∀ b ∈ frs X.stack, H b = none := fun b hb => by
  rcases List.mem_cons.mp (I.stkSub b hb) with e | hb
  · rw [e]; exact I.free
  · obtain ⟨_, o, ho, _⟩ := I.ok.funs.mem hb
    exact I.base.free b o ho (I.ok.frf b hb) fun z => I.ok.exfs b z hb
theorem Inv.step {g' : Array GenState} {t' : Nat} {d' : Drawn} {ch : List Addr} (I : Inv X pins σ H s)
    (hch : ∀ b ∈ ch, (b ∈ X.ex ∨ X.s_0.heap.objs.size ≤ b) ∧ b ≠ X.env.locals ∧ (∀ x c, X.env.cells.lookup x = some c → c ≠ b) ∧ ∀ p ∈ X.pn ++ pins, p.1 ≠ b)
    (keep : ∀ b o, b ≠ X.env.locals → b ∉ X.fs → b ∉ ch → s.heap.get? b = some o → H b = none → h'.get? b = some o)
    (slot : ∀ b o, b ≠ X.env.locals → b ∈ X.fs → b ∉ ch → s.heap.get? b = some o → H b = none → ∃ sl, h'.get? b = some { o with slots := sl }) (free : ∀ b o, b ∉ ch → s.heap.get? b = some o → H b = none → H' b = none)
    (there : ∀ b o, b ∉ ch → s.heap.get? b = some o → ∃ o', h'.get? b = some o')
    (tups : ∀ b xs, H b = some (.tup xs) → H' b = some (.tup xs)) (frzs : ∀ b o u, H b = some (.frz o u) → H' b = some (.frz o u)) (tbls : ∀ b ps, H b = some (.tbl ps) → ∃ more, H' b = some (.tbl (ps ++ more)))
    (ns : ∀ m, s.heap.Ns X.env.locals m → h'.Ns X.env.locals m) (hok : HOk X.prog X.w H' h') (hg : AllBare g') :
    Inv X pins σ H' { s with heap := h', gens := g', drawn := d', toks := t' } := by
  have neL : ∀ b o, X.s_0.heap.get? b = some o → b ≠ X.env.locals := fun b o e => Nat.ne_of_lt (Nat.lt_of_lt_of_le (Heap.lt_size e) I.ok.above)
  have neC : ∀ b o, X.s_0.heap.get? b = some o → b ∉ X.ex → b ∉ ch := fun b o e hx hb => by
    rcases (hch b hb).1 with z | z
    · exact hx z
    · exact absurd (Nat.lt_of_lt_of_le (Heap.lt_size e) z) (Nat.lt_irrefl _)
  have cellK : ∀ x c, X.env.cells.lookup x = some c → ∀ v, s.heap.IsCell c v → h'.IsCell c v := fun x c e v ⟨o, ho, hd⟩ => by
    have nch : c ∉ ch := fun z => (hch c z).2.2.1 x c e rfl
    by_cases hc : c ∈ X.fs
    · obtain ⟨sl, q⟩ := slot c o (I.cne x c e) hc nch ho (I.freeC x c e)
      exact ⟨_, q, hd⟩
    · exact ⟨o, keep c o (I.cne x c e) hc nch ho (I.freeC x c e), hd⟩
  refine ⟨I.ok, I.os, hg, ⟨fun b o e n hb hx => ?_, fun b o e n hb hx => ?_, fun b o e n hx => ?_, fun b o e hx => ?_, fun b xs e => tups b xs (I.base.tups b xs e), fun b o xs e => frzs b o xs (I.base.frzs b o xs e), fun b ps e => ?_⟩, ?_, fun x c e => ?_, ?_, fun x c e => ?_, fun p hp => ?_, hok, I.len⟩
  · exact keep b o (neL b o e) hb (neC b o e hx) (I.base.keep b o e n hb hx) (I.base.free b o e n hx)
  · obtain ⟨sl, e1⟩ := I.base.slot b o e n hb hx
    obtain ⟨sl', e2⟩ := slot b _ (neL b o e) hb (neC b o e hx) e1 (I.base.free b o e n hx)
    exact ⟨sl', e2⟩
  · obtain ⟨o', e1⟩ := I.base.there b o e hx
    exact free b o' (neC b o e hx) e1 (I.base.free b o e n hx)
  · obtain ⟨o', e1⟩ := I.base.there b o e hx
    exact there b o' (neC b o e hx) e1
  · obtain ⟨m1, e1⟩ := I.base.tbls b ps e
    obtain ⟨m2, e2⟩ := tbls b _ e1
    exact ⟨m1 ++ m2, by rw [e2, Array.append_assoc]⟩
  · obtain ⟨m, hn, hl⟩ := I.loc
    refine ⟨m, ns m hn, fun i x v e1 e2 e3 => ?_⟩
    obtain ⟨u, r, l⟩ := hl i x v e1 e2 e3
    refine ⟨u, r, ?_⟩
    rcases l with l | ⟨k, c, e, z⟩
    · exact .inl l
    · exact .inr ⟨k, c, e, cellK x c e _ z⟩
  · obtain ⟨v, z⟩ := I.cell x c e
    exact ⟨v, cellK x c e v z⟩
  · obtain ⟨m, ⟨o, _, _, ho, _⟩, _⟩ := I.loc
    exact free _ o (fun z => (hch _ z).2.1 rfl) ho I.free
  · obtain ⟨v, o, ho, hd⟩ := I.cell x c e
    exact free c o (fun z => (hch c z).2.2.1 x c e rfl) ho (I.freeC x c e)
  · obtain ⟨e, n, ne, nf, d⟩ := I.pin p hp
    have nch : p.1 ∉ ch := fun z => (hch p.1 z).2.2.2 p hp rfl
    exact ⟨keep p.1 p.2 ne nf nch e n, free p.1 p.2 nch e n, ne, nf, d⟩
theorem Inv.un {t' : Nat} (I : Inv X pins σ H s) (u : Un X.fs [] H H' s.heap h') (hok : HOk X.prog X.w H' h') : Inv X pins σ H' { s with heap := h', toks := t' } := by
  obtain ⟨m, ⟨o, es, ep, ho, r⟩, _⟩ := id I.loc
  obtain ⟨sl, hL⟩ := u.any ho I.free (by simp)
  exact I.step (g' := s.gens) (d' := s.drawn) (ch := []) (fun _ z => nomatch z) (fun b o _ hb _ e n => u.keep b o e n hb (by simp)) (fun b o _ hb _ e n => u.slot b o e n hb (by simp)) (fun b o _ e n => u.free b o e n (by simp)) (fun b o _ e => u.there b o e (by simp)) u.tups u.frzs u.tbls (fun m' hm => by
    obtain ⟨o', es', ep', ho', r'⟩ := hm
    rw [ho] at ho'; cases ho'
    exact ⟨_, es', ep', hL, r'⟩) hok I.bare
theorem Inv.call {g' : Array GenState} {t' : Nat} {d' : Drawn} {ch : List Addr} (I : Inv X pins σ H s) (u : Un (frs X.stack) ch H H' s.heap h') (hok : HOk X.prog X.w H' h') (hg : AllBare g')
    (hch : ∀ b ∈ ch, (b ∈ X.ex ∨ X.s_0.heap.objs.size ≤ b) ∧ b ≠ X.env.locals ∧ (∀ x c, X.env.cells.lookup x = some c → c ≠ b) ∧ ∀ p ∈ X.pn ++ pins, p.1 ≠ b) :
    Inv X pins σ H' { s with heap := h', gens := g', drawn := d', toks := t' } := by
  obtain ⟨m, ⟨o, es, ep, ho, r⟩, _⟩ := id I.loc
  obtain ⟨sl, hL⟩ := u.any ho I.free fun z => (hch _ z).2.1 rfl
  exact I.step (ch := ch) hch (fun b o hL hb hc e n => u.keep b o e n (fun z => (List.mem_cons.mp (I.stkSub b z)).elim hL hb) hc) (fun b o _ _ hc e n => u.any e n hc) (fun b o hc e n => u.free b o e n hc) (fun b o hc e => u.there b o e hc) u.tups u.frzs u.tbls (fun m' hm => by
    obtain ⟨o', es', ep', ho', r'⟩ := hm
    rw [ho] at ho'; cases ho'
    exact ⟨_, es', ep', hL, r'⟩) hok hg
theorem Inv.turned {t' : Nat} {it : Addr} (I : Inv X pins σ H s) (k : ∀ b o, b ≠ it → s.heap.get? b = some o → h'.get? b = some o) (hn : H it = none) (hL : it ≠ X.env.locals)
    (h1 : it ∈ X.ex ∨ X.s_0.heap.objs.size ≤ it) (h2 : ∀ x c, X.env.cells.lookup x = some c → c ≠ it) (h3 : ∀ p ∈ X.pn ++ pins, p.1 ≠ it) : Inv X pins σ H { s with heap := h', toks := t' } := by
  have nit : ∀ b u, H b = some u → b ≠ it := fun b u e z => by rw [z, hn] at e; cases e
  refine I.step (g' := s.gens) (d' := s.drawn) (ch := [it]) (fun b hb => ?_) (fun b o _ _ hc e _ => k b o (fun z => hc (by simp [z])) e) (fun b o _ _ hc e _ => ⟨o.slots, k b o (fun z => hc (by simp [z])) e⟩) (fun _ _ _ _ n => n)
    (fun b o hc e => ⟨o, k b o (fun z => hc (by simp [z])) e⟩) (fun _ _ e => e) (fun _ _ _ e => e) (fun b ps e => ⟨#[], by rw [e]; simp⟩) (fun m hm => ?_) (fun b u e => ?_) I.bare
  · have e : b = it := by simpa using hb
    subst e
    exact ⟨h1, hL, h2, h3⟩
  · obtain ⟨o, es, ep, ho, r⟩ := hm
    exact ⟨o, es, ep, k _ o (Ne.symm hL) ho, r⟩
  · refine (I.hok b u e).stay (fun c v hc q => k c v ?_ q) (fun _ q => q) fun _ _ q => q
    rcases hc with z | z
    · rw [z]; exact nit b u e
    · exact nit c _ z
theorem Inv.tok (I : Inv X pins σ H s) (t : Nat) : Inv X pins σ H { s with toks := t } := I.un (h' := s.heap) (t' := t) Un.refl I.hok
theorem Inv.kept {t' : Nat} (I : Inv X pins σ H s) (k : ∀ b u, s.heap.get? b = some u → h'.get? b = some u) : Inv X pins σ H { s with heap := h', toks := t' } := I.un (Un.kept k) (I.hok.kept k)
theorem Inv.laid {a : Addr} {o : HO} {t' : Nat} (I : Inv X pins σ H s) (k : ∀ b u, s.heap.get? b = some u → h'.get? b = some u) (hp : s.heap.objs.size ≤ a) (new : ObjOk X.prog X.w (upd H a o) h' a o) :
    Inv X pins σ (upd H a o) { s with heap := h', toks := t' } := I.un (Un.laid k hp (I.hok.fresh hp)) (I.hok.laid k hp new)
theorem Inv.write {x e : Addr} {o : HO} {t' : Nat} (I : Inv X pins σ H s) (mu : Mut (H x)) (he : e = x ∨ H e = some (.own x)) (k : ∀ b u, b ≠ e → s.heap.get? b = some u → h'.get? b = some u) (heo : ∃ u, h'.get? e = some u)
    (new : ObjOk X.prog X.w (upd H x o) h' x o) : Inv X pins σ (upd H x o) { s with heap := h', toks := t' } := I.un (Un.write mu he k heo) (I.hok.write mu he k heo new)
theorem Inv.weak {σ' : List (Option V)} (I : Inv X pins σ H s) (hl : σ'.length = σ.length) (w : ∀ (i : Nat) v, σ'[i]? = some (some v) → σ[i]? = some (some v)) : Inv X pins σ' H s :=
  ⟨I.ok, I.os, I.bare, I.base, let ⟨m, hn, hl'⟩ := I.loc; ⟨m, hn, fun i x v e1 e2 e3 => hl' i x v e1 (w i v e2) e3⟩, I.cell, I.free, I.freeC, I.pin, I.hok, hl.trans I.len⟩
theorem Inv.pins_of {pins' : List (Addr × Obj)} (I : Inv X pins σ H s) (h : ∀ p ∈ pins', s.heap.get? p.1 = some p.2 ∧ H p.1 = none ∧ p.1 ≠ X.env.locals ∧ p.1 ∉ X.fs ∧ ∀ v, p.2.data ≠ .cell v) : Inv X pins' σ H s :=
  ⟨I.ok, I.os, I.bare, I.base, I.loc, I.cell, I.free, I.freeC, fun p hp => (List.mem_append.mp hp).elim (fun z => I.pin p (List.mem_append_left _ z)) (h p), I.hok, I.len⟩
theorem nodup_ix {N : List Str} (hN : N.Nodup) {i j : Nat} {x : Str} (a : N[i]? = some x) (b : N[j]? = some x) : i = j := by
  obtain ⟨h1, e1⟩ := List.getElem?_eq_some_iff.mp a
  obtain ⟨h2, e2⟩ := List.getElem?_eq_some_iff.mp b
  exact (List.getElem_inj hN).mp (e1.trans e2.symm)
theorem store_ok2 {M : Model} {A : Around} {E : Value → Shared → Prop} {i : Nat} {x : Str} {v : V} {u : Value} {Q : Unit → Shared → Prop} (I : Inv X pins σ H s) (hN : X.N.Nodup) (hi : X.N[i]? = some x) (hx : Loc X.env.scope x) (r : RelV v u)
    (h : ∀ s', Inv X pins (σ.set i (some v)) H s' → (∃ a, Heap.SameBut a s.heap s'.heap ∧ (a = X.env.locals ∨ X.env.cells.lookup x = some a)) → Q () s') (hf : X.fn x = true ∨ X.env.scope.names.lookup x = some .local := by first | exact .inl rfl | exact .inr rfl | assumption) : wpAny M A (storeName X.env x u) Q E s := by
  obtain ⟨m, hn, hl⟩ := id I.loc
  have hcls : (X.env.scope.kind == .class || (X.env.scope.kind == .module && X.env.locals != X.env.globals)) = false := by rw [I.ok.kind]; rfl
  have hiσ : i < σ.length := by rw [I.len]; exact (List.getElem?_eq_some_iff.mp hi).1
  have cne := I.cne
  have tracked : ∀ {a : Addr} {h' : Heap}, (∃ o, s.heap.get? a = some o ∧ H a = none) → Heap.SameBut a s.heap h' → HOk X.prog X.w H h' := fun {a h'} ha hs b ob e => by
    obtain ⟨_, _, hfree⟩ := ha
    refine (I.hok b ob e).stay (fun c w' hc q => (hs.2 c ?_).trans q) (fun _ q => q) fun _ _ q => q
    rintro rfl
    rcases hc with rfl | hc
    · rw [hfree] at e; cases e
    · rw [hfree] at hc; cases hc
  rcases hx with hk | hk
  · refine wpAny_storeName_local hk hn (fun h' hn' hs => ?_) hcls
    obtain ⟨oL, _, _, hoL, _⟩ := id hn
    refine h _ ⟨I.ok, I.os, I.bare, ⟨fun b o e n hb hx => ?_, fun b o e n hb hx => ?_, I.base.free, fun b o e hx => ?_, I.base.tups, I.base.frzs, I.base.tbls⟩, ⟨_, hn', fun j y v' e1 e2 e3 => ?_⟩, fun y c e => ?_, I.free, I.freeC, fun p hp => ?_, tracked ⟨oL, hoL, I.free⟩ hs, by simpa using I.len⟩ ⟨_, hs, .inl rfl⟩
    · exact (hs.2 b (Nat.ne_of_lt (Nat.lt_of_lt_of_le (Heap.lt_size e) I.ok.above))).trans (I.base.keep b o e n hb hx)
    · obtain ⟨sl, e1⟩ := I.base.slot b o e n hb hx
      exact ⟨sl, (hs.2 b (Nat.ne_of_lt (Nat.lt_of_lt_of_le (Heap.lt_size e) I.ok.above))).trans e1⟩
    · obtain ⟨o', e1⟩ := I.base.there b o e hx
      exact ⟨o', (hs.2 b (Nat.ne_of_lt (Nat.lt_of_lt_of_le (Heap.lt_size e) I.ok.above))).trans e1⟩
    · by_cases hj : j = i
      · subst hj
        rw [hi] at e1; cases e1
        rw [List.getElem?_set_self hiσ] at e2
        cases e2
        exact ⟨u, r, .inl ⟨hk, by simp⟩⟩
      · rw [List.getElem?_set_ne (Ne.symm hj)] at e2
        obtain ⟨u', r', q⟩ := hl j y v' e1 e2 e3
        refine ⟨u', r', ?_⟩
        rcases q with ⟨k, e⟩ | ⟨k, c, e, z⟩
        · refine .inl ⟨k, ?_⟩
          have : y ≠ x := fun e => hj (nodup_ix hN e1 (e ▸ hi))
          simp [this, e]
        · exact .inr ⟨k, c, e, z.sameBut hs (cne y c e)⟩
    · obtain ⟨w', z⟩ := I.cell y c e
      exact ⟨w', z.sameBut hs (cne y c e)⟩
    · obtain ⟨e, n, ne, nf, d⟩ := I.pin p hp
      exact ⟨(hs.2 p.1 ne).trans e, n, ne, nf, d⟩
  · have hfn : X.fn x = true := by
      rcases hf with z | z
      · exact z
      · rw [z] at hk; cases hk
    obtain ⟨c, hc⟩ := I.ok.has x (.inl hk)
    obtain ⟨w', z⟩ := I.cell x c hc
    refine wpAny_storeName_cell I.ok.kind hk hc z (fun h' hc' hs => ?_)
    obtain ⟨oc, hoc, hocd⟩ := id z
    refine h { s with heap := h' } ⟨I.ok, I.os, I.bare, ⟨fun b o e n hb hx => ?_, fun b o e n hb hx => ?_, I.base.free, fun b o e hx => ?_, I.base.tups, I.base.frzs, I.base.tbls⟩, ⟨m, hn.sameBut hs (Ne.symm (cne x c hc)), fun j y v' e1 e2 e3 => ?_⟩, fun y c' e => ?_, I.free, I.freeC, fun p hp => ?_, tracked ⟨oc, hoc, I.freeC x c hc⟩ hs, by simpa using I.len⟩ ⟨c, hs, .inr hc⟩
    · exact (hs.2 b (Nat.ne_of_lt (Nat.lt_of_lt_of_le (Heap.lt_size e) (I.ok.cab x c hfn hc)))).trans (I.base.keep b o e n hb hx)
    · obtain ⟨sl, e1⟩ := I.base.slot b o e n hb hx
      exact ⟨sl, (hs.2 b (Nat.ne_of_lt (Nat.lt_of_lt_of_le (Heap.lt_size e) (I.ok.cab x c hfn hc)))).trans e1⟩
    · obtain ⟨o', e1⟩ := I.base.there b o e hx
      exact ⟨o', (hs.2 b (Nat.ne_of_lt (Nat.lt_of_lt_of_le (Heap.lt_size e) (I.ok.cab x c hfn hc)))).trans e1⟩
    · by_cases hj : j = i
      · subst hj
        rw [hi] at e1; cases e1
        rw [List.getElem?_set_self hiσ] at e2
        cases e2
        exact ⟨u, r, .inr ⟨.inl hk, c, hc, hc'⟩⟩
      · rw [List.getElem?_set_ne (Ne.symm hj)] at e2
        obtain ⟨u', r', q⟩ := hl j y v' e1 e2 e3
        refine ⟨u', r', ?_⟩
        rcases q with q | ⟨k, c', e, z'⟩
        · exact .inl q
        · refine .inr ⟨k, c', e, z'.sameBut hs ?_⟩
          rintro rfl
          exact hj (nodup_ix hN e1 (I.ok.inj _ _ _ e hc ▸ hi))
    · by_cases hcc : c' = c
      · subst hcc; exact ⟨_, hc'⟩
      · obtain ⟨w2, z2⟩ := I.cell y c' e
        exact ⟨w2, z2.sameBut hs hcc⟩
    · obtain ⟨e, n, ne, nf, d⟩ := I.pin p hp
      refine ⟨(hs.2 p.1 ?_).trans e, n, ne, nf, d⟩
      intro q
      rw [q, hoc] at e
      have q' : oc = p.2 := Option.some.inj e
      exact d w' (by rw [← q']; exact hocd)
theorem store_ok {M : Model} {A : Around} {E : Value → Shared → Prop} {i : Nat} {x : Str} {v : V} {u : Value} {Q : Unit → Shared → Prop} (I : Inv X pins σ H s) (hN : X.N.Nodup) (hi : X.N[i]? = some x) (hx : Loc X.env.scope x) (r : RelV v u)
    (h : ∀ s', Inv X pins (σ.set i (some v)) H s' → Q () s') (hf : X.fn x = true ∨ X.env.scope.names.lookup x = some .local := by first | exact .inl rfl | exact .inr rfl | assumption) : wpAny M A (storeName X.env x u) Q E s :=
  store_ok2 I hN hi hx r (fun s' I' _ => h s' I') hf
theorem Inv.call' {s' : Shared} {ch : List Addr} (I : Inv X pins σ H s) (ho : s'.os = s.os) (u : Un (frs X.stack) ch H H' s.heap s'.heap) (hok : HOk X.prog X.w H' s'.heap) (hg : AllBare s'.gens)
    (hch : ∀ b ∈ ch, (b ∈ X.ex ∨ X.s_0.heap.objs.size ≤ b) ∧ b ≠ X.env.locals ∧ (∀ x c, X.env.cells.lookup x = some c → c ≠ b) ∧ ∀ p ∈ X.pn ++ pins, p.1 ≠ b) : Inv X pins σ H' s' := by
  obtain ⟨h', g', d', t', o'⟩ := s'
  have e : o' = s.os := ho
  subst e
  exact I.call (g' := g') (t' := t') (d' := d') u hok hg hch
end
abbrev XK := Value → Option Addr → Hp → Prop
abbrev St := List (Option V)
abbrev VK := V → Hp → Prop
abbrev TE := St → Hp → VK → Prop
abbrev TT := St → Hp → (Bool → Hp → Prop) → Prop
abbrev TA := St → Hp → (List V → Hp → Prop) → Prop
structure Ends where
  nx : St → Hp → Prop
  rt : VK
  bk : St → Hp → Prop := fun _ _ => False
  ct : St → Hp → Prop := fun _ _ => False
abbrev TS := Ends → St → Hp → Prop
def EP (X : Cx) (pins : List (Addr × Obj)) (σ : St) (Q : VK) (u : Value) (s' : Shared) : Prop := ∃ v H', Inv X pins σ H' s' ∧ RelV v u ∧ Q v H'
def TP (X : Cx) (pins : List (Addr × Obj)) (σ : St) (Q : Bool → Hp → Prop) (b : Bool) (s' : Shared) : Prop := ∃ H', Inv X pins σ H' s' ∧ Q b H'
def AP (X : Cx) (pins : List (Addr × Obj)) (σ : St) (Q : List V → Hp → Prop) (us : List Value) (s' : Shared) : Prop := ∃ vs H', Inv X pins σ H' s' ∧ Vals vs us ∧ Q vs H'
def SP (X : Cx) (pins : List (Addr × Obj)) (D : Ends) (f : Flow) (s' : Shared) : Prop :=
  match f with
  | .next => ∃ σ' H', Inv X pins σ' H' s' ∧ D.nx σ' H'
  | .brk => ∃ σ' H', Inv X pins σ' H' s' ∧ D.bk σ' H'
  | .cont => ∃ σ' H', Inv X pins σ' H' s' ∧ D.ct σ' H'
  | .ret u => ∃ v σ' H', Inv X pins σ' H' s' ∧ RelV v u ∧ D.rt v H'
def PE (X : Cx) (e : Expr) (t : TE) : Prop :=
  ∀ (pins : List (Addr × Obj)) (s : Shared) (σ : St) (H : Hp) (Q : VK), Inv X pins σ H s → t σ H Q → wpAny (model X.prog X.w) X.A (eval e X.env) (EP X pins σ Q) X.xe s
def PT (X : Cx) (e : Expr) (t : TT) : Prop :=
  ∀ (pins : List (Addr × Obj)) (s : Shared) (σ : St) (H : Hp) (Q : Bool → Hp → Prop), Inv X pins σ H s → t σ H Q → wpAny (model X.prog X.w) X.A (isTrue e X.env (eval e X.env)) (TP X pins σ Q) X.xe s
def PW (X : Cx) (e : Expr) (t : TT) : Prop :=
  ∀ (whole : Sem Value) (pins : List (Addr × Obj)) (s : Shared) (σ : St) (H : Hp) (Q : Bool → Hp → Prop), Inv X pins σ H s → t σ H Q → wpAny (model X.prog X.w) X.A (isTrue e X.env whole) (TP X pins σ Q) X.xe s
theorem PW.pt {X : Cx} {e : Expr} {t : TT} (h : PW X e t) : PT X e t := h _
def PA (X : Cx) (es : List Expr) (t : TA) : Prop :=
  ∀ (pos : Pos) (pins : List (Addr × Obj)) (s : Shared) (σ : St) (H : Hp) (Q : List V → Hp → Prop), Inv X pins σ H s → t σ H Q → wpAny (model X.prog X.w) X.A (spliced (backTo pos (starEach es X.env))) (AP X pins σ Q) X.xe s
def PS (X : Cx) (st : Stmt) (t : TS) : Prop :=
  ∀ (pins : List (Addr × Obj)) (s : Shared) (σ : St) (H : Hp) (D : Ends), Inv X pins σ H s → t D σ H → wpAny (model X.prog X.w) X.A (exec st X.env) (SP X pins D) X.xe s
def PSs (X : Cx) (st : List Stmt) (t : TS) : Prop :=
  ∀ (pins : List (Addr × Obj)) (s : Shared) (σ : St) (H : Hp) (D : Ends), Inv X pins σ H s → t D σ H → wpAny (model X.prog X.w) X.A (execs st X.env) (SP X pins D) X.xe s
theorem thn {α : Type} {t : Sem α} {Q Q' : α → Shared → Prop} {M : Model} {A : Around} {E : Value → Shared → Prop} {s : Shared} (h : wpAny M A t Q E s) (hQ : ∀ a s, Q a s → Q' a s) : wpAny M A t Q' E s := wpAny_mono h hQ fun _ _ x => x
end L2
namespace L2
open PySem PySem.Spec PyProof.Rows
section
variable {X : Cx}
def tVar (i : Nat) : TE := fun σ H Q => ∃ v, σ[i]? = some (some v) ∧ Q v H
def tC (v : V) : TE := fun _ H Q => Q v H
theorem pe_var {i : Nat} {x : Str} {pos : Pos} (hN : X.N[i]? = some x) (hv : Vis X.env.scope x) (hd : (x == ("__debug__" : Str)) = false := by decide) (hcd : (x == ("__classdict__" : Str)) = false := by decide) : PE X (.Name x pos) (tVar i) := by
  intro pins s σ H Q I h
  obtain ⟨v, e, h⟩ := h
  obtain ⟨m, hn, hl⟩ := I.loc
  obtain ⟨u, r, l⟩ := hl i x v hN e hv
  have fin : EP X pins σ Q u s := ⟨v, H, I, r, h⟩
  rcases l with ⟨hk, hm⟩ | ⟨hk, c, hc, hcell⟩
  · exact wpAny_Name (wpAny_loadName_local I.ok.kind hk hn hm fin) hd
  · rcases hk with hk | hk
    · exact wpAny_Name (wpAny_loadName_cell I.ok.kind hk hc hcell fin) hd
    · exact wpAny_Name (wpAny_loadName_free I.ok.kind hk hc hcell fin hcd) hd
theorem pe_int {i j pos} : PE X (.Constant (.int i) j pos) (tC (.int i)) := fun _ _ _ H _ I h => wpAny_Constant_int ⟨.int i, H, I.tok _, ⟨_, rfl⟩, h⟩
theorem pe_bl {b j pos} : PE X (.Constant (.bool b) j pos) (tC (.bl b)) := fun _ _ _ H _ I h => Constant_bool ⟨.bl b, H, I, rfl, h⟩
theorem pe_non {j pos} : PE X (.Constant .none j pos) (tC .non) := fun _ _ _ H _ I h => Constant_none ⟨.non, H, I, rfl, h⟩
def Gl (X : Cx) (x : Str) : Prop := X.env.kindOf x = some .globalImplicit
theorem ld_glob {E : Value → Shared → Prop} {pins : List (Addr × Obj)} {s : Shared} {σ : St} {H : Hp} {x : Str} {u : Value} {pos : Pos} {Q : Value → Shared → Prop} (I : Inv X pins σ H s) (hg : Gl X x) (hm : X.mg x = some u) (h : Q u s)
    (hd : (x == ("__debug__" : Str)) = false := by decide) : wpAny (model X.prog X.w) X.A (eval (.Name x pos) X.env) Q E s :=
  Calls.Name_function_global I.ok.kind hg (Calls.loadGlobal_global (by rw [I.ok.glob]; exact I.mod.glob.keeps I.bk) hm h) hd
theorem ld_blt {E : Value → Shared → Prop} {pins : List (Addr × Obj)} {s : Shared} {σ : St} {H : Hp} {x : Str} {u : Value} {pos : Pos} {Q : Value → Shared → Prop} (I : Inv X pins σ H s) (hg : Gl X x) (hm : X.mg x = none) (hv : bootBuiltins x = some u) (h : Q u s)
    (hn : x ≠ "__name__" := by decide) (hd : (x == ("__debug__" : Str)) = false := by decide) : wpAny (model X.prog X.w) X.A (eval (.Name x pos) X.env) Q E s := by
  obtain ⟨mb, h1, h2⟩ := I.mod.blt
  exact Calls.Name_function_global I.ok.kind hg (Calls.loadGlobal_builtin (by rw [I.ok.glob]; exact I.mod.glob.keeps I.bk) hm (by rw [I.ok.blt]; exact h1.keeps I.bk) ((h2 x hn).trans hv) h) hd
theorem pe_glob {x : Str} {v : V} {u : Value} {pos : Pos} (hg : Gl X x) (hm : X.mg x = some u) (r : RelV v u) (hd : (x == ("__debug__" : Str)) = false := by decide) : PE X (.Name x pos) (tC v) :=
  fun _ _ _ H _ I h => ld_glob I hg hm ⟨v, H, I, r, h⟩ hd
variable {a b : Expr} {ta tb : TE} {pos : Pos}
def PC (X : Cx) (op : CmpOp) (a b : Expr) (t : TE) : Prop :=
  ∀ (pins : List (Addr × Obj)) (s : Shared) (σ : St) (H : Hp) (Q : VK), Inv X pins σ H s → t σ H Q →
    wpAny (model X.prog X.w) X.A (eval a X.env) (fun v s₁ => wpAny (model X.prog X.w) X.A (eval b X.env) (fun u s₂ => wpAny (model X.prog X.w) X.A (compareOp op v u) (EP X pins σ Q) X.xe s₂) X.xe s₁) X.xe s
def tB (t : TE) : TT := fun σ H Q => t σ H fun x H1 => ∃ c, x = .bl c ∧ Q c H1
theorem pt_cmp {op : CmpOp} {t : TE} (h : PC X op a b t) (h1 : behindInMarks op b = false := by first | exact nobehind _ (by decide) (by decide) | rfl) : PT X (.Compare a [op] [b] pos) (tB t) := by
  intro pins s σ H Q I hw
  refine wpAny_isTrue_Compare1 (thn (h pins s σ H _ I hw) fun v s1 h1 => thn h1 fun u s2 h2 => thn h2 fun c s3 ⟨x, H1, I1, r1, q1⟩ => ?_) h1
  obtain ⟨d, rfl, q⟩ := q1
  cases r1
  exact wpAny_truthy_bool ⟨H1, I1, q⟩
variable {tA tB' : TT} {rest : List Expr}
def tAnd (t u : TT) : TT := fun σ H Q => t σ H fun c H1 => if c = true then u σ H1 Q else Q false H1
def tOr (t u : TT) : TT := fun σ H Q => t σ H fun c H1 => if c = true then Q true H1 else u σ H1 Q
theorem pw_and1 (ha : PT X a tA) : PW X (.BoolOp .And [a] pos) tA := by
  intro wh pins s σ H Q I h
  refine isTrue_and (thn (ha pins s σ H Q I h) fun c s1 e => ?_)
  cases c with
  | true => exact isTrue_and_nil e
  | false => exact e
theorem pw_or1 (ha : PT X a tA) : PW X (.BoolOp .Or [a] pos) tA := by
  intro wh pins s σ H Q I h
  refine isTrue_or (thn (ha pins s σ H Q I h) fun c s1 e => ?_)
  cases c with
  | false => exact isTrue_or_nil e
  | true => exact e
theorem pw_and (ha : PT X a tA) (hb : PW X (.BoolOp .And (b :: rest) pos) tB') : PW X (.BoolOp .And (a :: b :: rest) pos) (tAnd tA tB') := by
  intro wh pins s σ H Q I h
  refine isTrue_and (thn (ha pins s σ H _ I h) fun c s1 ⟨H1, I1, q1⟩ => ?_)
  cases c with
  | true => exact hb wh pins s1 σ H1 Q I1 q1
  | false => exact ⟨H1, I1, q1⟩
theorem pw_or (ha : PT X a tA) (hb : PW X (.BoolOp .Or (b :: rest) pos) tB') : PW X (.BoolOp .Or (a :: b :: rest) pos) (tOr tA tB') := by
  intro wh pins s σ H Q I h
  refine isTrue_or (thn (ha pins s σ H _ I h) fun c s1 ⟨H1, I1, q1⟩ => ?_)
  cases c with
  | true => exact ⟨H1, I1, q1⟩
  | false => exact hb wh pins s1 σ H1 Q I1 q1
theorem pe_one {op} {t : TE} (h : PE X a t) : PE X (.BoolOp op [a] pos) t := fun pins s σ H Q I hw => BoolOp_one (h pins s σ H Q I hw)
def tIf (t : TT) (ta tb : TE) : TE := fun σ H Q => t σ H fun c H1 => if c = true then ta σ H1 Q else tb σ H1 Q
theorem pe_ifExp {c : Expr} (hc : PT X c tA) (ha : PE X a ta) (hb : PE X b tb) : PE X (.IfExp c a b pos) (tIf tA ta tb) := by
  intro pins s σ H Q I h
  refine wpAny_IfExp (thn (hc pins s σ H _ I h) fun d s1 ⟨H1, I1, q1⟩ => ?_)
  cases d with
  | true => exact ha pins s1 σ H1 Q I1 q1
  | false => exact hb pins s1 σ H1 Q I1 q1
end
end L2
namespace L2
open PySem PySem.Spec PyProof.Rows
def SqL (K : PySem.W.Frag) (H : Hp) (a : Addr) (xs : List V) : Prop :=
  Rd H a (.lst xs) ∨
    ∃ (o : Obj) (its : Array Value) (n : Nat), K.lookup a = some o ∧ o.cls = .type "list" ∧ o.dict = none ∧ o.data = .seq its n ∧ its.size ≤ sizeLine ∧ Vals xs its.toList
def SqT (K : PySem.W.Frag) (H : Hp) (a : Addr) (xs : List V) : Prop :=
  Rd H a (.tup xs) ∨
    ∃ (o : Obj) (its : Array Value) (n : Nat), K.lookup a = some o ∧ o.cls = .type "tuple" ∧ o.data = .seq its n ∧ its.size ≤ sizeLine ∧ Vals xs its.toList
def absV : Value → Option V
  | .none => some .non
  | .bool b => some (.bl b)
  | .int i _ => some (.int i)
  | .str x _ => some (.str x)
  | .bytes b _ => some (.byt b)
  | .float b _ => some (.flt b)
  | .ref a => some (.ref a)
  | .type n => some (.ty n)
  | _ => none
theorem RelV.abs {x : V} {u : Value} (r : RelV x u) : absV u = some x := by
  cases x with
  | non => cases r; rfl
  | bl _ => cases r; rfl
  | int _ => obtain ⟨t, rfl⟩ := r; rfl
  | str _ => obtain ⟨t, rfl⟩ := r; rfl
  | byt _ => obtain ⟨t, rfl⟩ := r; rfl
  | flt _ => obtain ⟨t, rfl⟩ := r; rfl
  | ref _ => cases r; rfl
  | ty _ => cases r; rfl
theorem RelV.inj {x y : V} {u : Value} (r : RelV x u) (q : RelV y u) : x = y := Option.some.inj (r.abs.symm.trans q.abs)
theorem Vals.inj : ∀ {xs ys : List V} {us : List Value}, Vals xs us → Vals ys us → xs = ys
  | _, _, _, .nil, .nil => rfl
  | _, _, _, .cons r t, .cons r' t' => by rw [r.inj r', Vals.inj t t']
section
variable {X : Cx} {pins : List (Addr × Obj)} {σ : St} {H : Hp} {s : Shared} {a : Addr} {xs ys : List V}
theorem SqL.of {K : PySem.W.Frag} (h : H a = some (.lst xs)) : SqL K H a xs := .inl (.inl h)
theorem SqT.of {K : PySem.W.Frag} (h : H a = some (.tup xs)) : SqT K H a xs := .inl (.inl h)
theorem Inv.list (I : Inv X pins σ H s) (h : SqL X.K H a xs) : ∃ its : List Value, Vals xs its ∧ PlainL s.heap a its.toArray ∧ xs.length ≤ sizeLine := by
  rcases h with h | ⟨o, its, n, hk, hc, hd, hs, hz, r⟩
  · obtain ⟨z, its, n, r, e⟩ := h.ok I.hok
    exact ⟨its, r, ⟨_, n, e, rfl, rfl, rfl⟩, z⟩
  · refine ⟨its.toList, r, ⟨o, n, I.kIn a o hk, hc, hd, by simpa using hs⟩, ?_⟩
    have e := r.length
    simp only [Array.length_toList] at e
    omega
theorem Inv.tuple (I : Inv X pins σ H s) (h : SqT X.K H a xs) : ∃ its : List Value, Vals xs its ∧ IsTup s.heap a its.toArray ∧ xs.length ≤ sizeLine := by
  rcases h with h | ⟨o, its, n, hk, hc, hs, hz, r⟩
  · obtain ⟨z, its, r, p⟩ := h.ok I.hok
    exact ⟨its, r, p, z⟩
  · refine ⟨its.toList, r, ⟨o, I.kIn a o hk, hc, n, by simpa using hs⟩, ?_⟩
    have e := r.length
    simp only [Array.length_toList] at e
    omega
theorem Inv.list_inj (I : Inv X pins σ H s) (h : SqL X.K H a xs) (h' : SqL X.K H a ys) : xs = ys := by
  obtain ⟨its, r, ⟨o, n, e, _, _, d⟩, _⟩ := I.list h
  obtain ⟨its', r', ⟨o', n', e', _, _, d'⟩, _⟩ := I.list h'
  rw [e] at e'; cases e'
  rw [d] at d'
  injection d' with d1 _
  have : its = its' := by simpa using congrArg Array.toList d1
  subst this
  exact r.inj r'
end
abbrev Cx.wish (X : Cx) (E : Value → Shared → Prop) : Cx := { X with xe := E }
abbrev Cx.nox (X : Cx) : Cx := X.wish fun _ _ => False
theorem Cx.Ok.wish {X : Cx} (ok : X.Ok) (E : Value → Shared → Prop) : (X.wish E).Ok :=
  ⟨ok.mod, ok.kind, ok.glob, ok.blt, ok.above, ok.inj, ok.has, ok.cab, ok.hd, ok.frames, ok.stk, ok.exf, ok.bs, ok.bsz, ok.noex, ok.exfs, ok.funs, ok.frf⟩
theorem Cx.Ok.unwish {X : Cx} {E : Value → Shared → Prop} (ok : (X.wish E).Ok) : X.Ok :=
  ⟨ok.mod, ok.kind, ok.glob, ok.blt, ok.above, ok.inj, ok.has, ok.cab, ok.hd, ok.frames, ok.stk, ok.exf, ok.bs, ok.bsz, ok.noex, ok.exfs, ok.funs, ok.frf⟩
section
variable {X : Cx} {pins : List (Addr × Obj)} {σ : St} {H : Hp} {s : Shared} {E : Value → Shared → Prop}
theorem Inv.wish (I : Inv X pins σ H s) (E : Value → Shared → Prop) : Inv (X.wish E) pins σ H s := ⟨I.ok.wish E, I.os, I.bare, I.base, I.loc, I.cell, I.free, I.freeC, I.pin, I.hok, I.len⟩
theorem Inv.unwish (I : Inv (X.wish E) pins σ H s) : Inv X pins σ H s := ⟨I.ok.unwish, I.os, I.bare, I.base, I.loc, I.cell, I.free, I.freeC, I.pin, I.hok, I.len⟩
theorem SP.unwish {D : Ends} {f : Flow} {s' : Shared} (h : SP (X.wish E) pins D f s') : SP X pins D f s' := by
  cases f with
  | next => obtain ⟨σ', H', I, q⟩ := h; exact ⟨σ', H', I.unwish, q⟩
  | brk => obtain ⟨σ', H', I, q⟩ := h; exact ⟨σ', H', I.unwish, q⟩
  | cont => obtain ⟨σ', H', I, q⟩ := h; exact ⟨σ', H', I.unwish, q⟩
  | ret u => obtain ⟨v, σ', H', I, r, q⟩ := h; exact ⟨v, σ', H', I.unwish, r, q⟩
theorem PSs.nox {st : List Stmt} {t : TS} (h : PSs X.nox st t) : PSs X st t := fun pins s σ H D I hw =>
  wpAny_mono (h pins s σ H D (I.wish _) hw) (fun _ _ q => q.unwish) fun _ _ z => False.elim z
end
section
variable {X : Cx} {st : Stmt} {rest : List Stmt} {t u : TS} {e : Expr} {te : TE} {pos : Pos}
def tNext : TS := fun D σ H => D.nx σ H
def tSeq (t u : TS) : TS := fun D σ H => t { D with nx := u D } σ H
theorem pss_nil : PSs X [] tNext := fun _ _ σ H _ I h => wpAny_execs_nil ⟨σ, H, I, h⟩
theorem pss_cons (h1 : PS X st t) (h2 : PSs X rest u) : PSs X (st :: rest) (tSeq t u) := by
  intro pins s σ H D I h
  refine wpAny_execs_cons (thn (h1 pins s σ H { D with nx := u D } I h) fun f s1 q => ?_)
  cases f with
  | next =>
    obtain ⟨σ', H', I', q⟩ := q
    exact h2 pins s1 σ' H' D I' q
  | ret v => exact q
  | brk => exact q
  | cont => exact q
theorem pss_one (h1 : PS X st t) : PSs X [st] t := by
  intro pins s σ H D I h
  refine wpAny_execs_cons (thn (h1 pins s σ H D I h) fun f s1 q => ?_)
  cases f with
  | next => exact wpAny_execs_nil q
  | ret v => exact q
  | brk => exact q
  | cont => exact q
theorem Inv.quiet {pins : List (Addr × Obj)} {σ : St} {H : Hp} {s : Shared} (I : Inv X pins σ H s) : interactive X.env = false := by simp [interactive, I.ok.kind]
def tDrop (te : TE) : TS := fun D σ H => te σ H fun _ H1 => D.nx σ H1
theorem ps_expr (he : PE X e te) (hs : swapsWith e none pos.line X.env = pure false := by rfl) : PS X (.Expr e pos) (tDrop te) := by
  intro pins s σ H D I h
  exact wpAny_Expr_any (thn (he pins s σ H _ I h) fun v s1 ⟨x, H1, I1, r1, q1⟩ => ⟨σ, H1, I1, q1⟩) I.quiet hs
def tRet (te : TE) : TS := fun D σ H => te σ H D.rt
theorem ps_ret (he : PE X e te) : PS X (.Return (some e) pos) (tRet te) := by
  intro pins s σ H D I h
  exact wpAny_Return_some (thn (he pins s σ H _ I h) fun v s1 ⟨x, H1, I1, r1, q1⟩ => ⟨x, σ, H1, I1, r1, q1⟩)
def tIfS (c : TT) (t u : TS) : TS := fun D σ H => c σ H fun b H1 => if b = true then t D σ H1 else u D σ H1
theorem ps_if {c : Expr} {a b : List Stmt} {tc : TT} (hc : PT X c tc) (ha : PSs X a t) (hb : PSs X b u) : PS X (.If c a b pos) (tIfS tc t u) := by
  intro pins s σ H D I h
  refine wpAny_If (thn (hc pins s σ H _ I h) fun d s1 ⟨H1, I1, q1⟩ => ?_)
  cases d with
  | true => exact ha pins s1 σ H1 D I1 q1
  | false => exact hb pins s1 σ H1 D I1 q1
end
abbrev TG := V → St → Hp → (St → Hp → Prop) → Prop
abbrev TGs := List V → St → Hp → (St → Hp → Prop) → Prop
def PG (X : Cx) (target : Expr) (t : TG) : Prop :=
  ∀ (pins : List (Addr × Obj)) (s : Shared) (σ : St) (H : Hp) (v : V) (u : Value) (Q : St → Hp → Prop), Inv X pins σ H s → RelV v u → t v σ H Q →
    wpAny (model X.prog X.w) X.A (assign target X.env u) (fun _ s' => ∃ σ' H', Inv X pins σ' H' s' ∧ Q σ' H') X.xe s
def PGs (X : Cx) (ts : List Expr) (t : TGs) : Prop :=
  ∀ (pins : List (Addr × Obj)) (s : Shared) (σ : St) (H : Hp) (vs : List V) (us : List Value) (Q : St → Hp → Prop), Inv X pins σ H s → Vals vs us → t vs σ H Q →
    wpAny (model X.prog X.w) X.A (assignInOrder ((assignEach ts X.env).map (·.2)) us) (fun _ s' => ∃ σ' H', Inv X pins σ' H' s' ∧ Q σ' H') X.xe s
section
variable {X : Cx} {pos : Pos}
def gName (i : Nat) : TG := fun v σ H Q => Q (σ.set i (some v)) H
theorem pg_name {i : Nat} {x : Str} (hN : X.N.Nodup) (hi : X.N[i]? = some x) (hx : Loc X.env.scope x) (hf : X.fn x = true ∨ X.env.scope.names.lookup x = some .local := by first | exact .inl rfl | exact .inr rfl | assumption) : PG X (.Name x pos) (gName i) := by
  intro pins s σ H v u Q I r h
  exact wpAny_assign_Name (store_ok I hN hi hx r (fun s' I' => ⟨_, H, I', h⟩) hf)
def gNil : TGs := fun vs σ H Q => vs = [] ∧ Q σ H
def gCons (t : TG) (u : TGs) : TGs := fun vs σ H Q => ∃ v r, vs = v :: r ∧ t v σ H fun σ' H' => u r σ' H' Q
theorem pgs_nil : PGs X [] gNil := by
  intro pins s σ H vs us Q I r h
  obtain ⟨e, h⟩ := h
  subst e
  cases r
  exact assignInOrder_nil ⟨σ, H, I, h⟩
theorem pgs_cons {e : Expr} {es : List Expr} {t : TG} {u : TGs} (h1 : PG X e t) (h2 : PGs X es u)
    (hs : (assignEach (e :: es) X.env).map (·.2) = assign e X.env :: (assignEach es X.env).map (·.2) := by rfl) : PGs X (e :: es) (gCons t u) := by
  intro pins s σ H vs us Q I r h
  obtain ⟨v, vr, e1, h⟩ := h
  subst e1
  cases r with
  | cons r rr =>
    rw [hs]
    refine assignInOrder_cons (thn (h1 pins s σ H _ _ _ I r h) fun _ s1 ⟨σ1, H1, I1, q1⟩ => ?_)
    exact h2 pins s1 σ1 H1 _ _ Q I1 rr q1
def gTup (K : PySem.W.Frag) (n : Nat) (t : TGs) : TG := fun v σ H Q => ∃ a xs, v = .ref a ∧ SqT K H a xs ∧ xs.length = n ∧ t xs σ H Q
theorem pg_tup {es : List Expr} {k : Nat} {t : TGs} {n : Nat} (hc : X.calm = true) (h : PGs X es t)
    (hn : (assignEach es X.env).length = n := by rfl) (hst : (assignEach es X.env).findIdx? (·.1) = none := by rfl) : PG X (.Tuple es k pos) (gTup X.K n t) := by
  intro pins s σ H v u Q I r hw
  obtain ⟨a, xs, e1, hq, hl, hw⟩ := hw
  subst e1
  cases r
  obtain ⟨its, rv, ht, hz⟩ := I.tuple hq
  refine assign_Tuple_tuple (I.ok.hd hc) ht (by simp [hn, ← hl, rv.length]) hst fun h' hx => ?_
  have I1 : Inv X pins σ H { s with heap := h' } := I.kept (t' := s.toks) fun b o e => hx b o (Nat.ne_of_lt (Heap.lt_size e)) e
  exact h pins _ σ H xs _ Q I1 (by simpa using rv) hw
def tAsg (te : TE) (g : TG) : TS := fun D σ H => te σ H fun x H1 => g x σ H1 D.nx
theorem ps_set {i : Nat} {x : Str} {e : Expr} {te : TE} {pos' : Pos} (hN : X.N.Nodup) (hi : X.N[i]? = some x) (hx : Loc X.env.scope x) (he : PE X e te) (hs : swapsWith e (some (.Name x pos')) pos.line X.env = pure false := by rfl) (hf : X.fn x = true ∨ X.env.scope.names.lookup x = some .local := by first | exact .inl rfl | exact .inr rfl | assumption) :
    PS X (.Assign [.Name x pos'] e pos) (tAsg te (gName i)) := by
  intro pins s σ H D I h
  refine wpAny_Assign_Name (thn (he pins s σ H _ I h) fun v s1 ⟨y, H1, I1, r1, q1⟩ => ?_) hs
  exact store_ok I1 hN hi hx r1 (fun s2 I2 => ⟨_, H1, I2, q1⟩) hf
end
section
variable {X : Cx} {pos : Pos}
def tWhile (c : TT) (tb : TS) : TS := fun D σ H => ∃ W : Nat → St → Hp → Prop, (∃ m, W m σ H) ∧ ∀ m σ H, W m σ H →
  c σ H fun b H1 => if b = true then ∃ N : St → Hp → Prop, (∀ σ' H', N σ' H' → ∃ m', m' < m ∧ W m' σ' H') ∧ tb { D with nx := N, ct := N, bk := D.nx } σ H1 else D.nx σ H1
theorem ps_while {c : Expr} {body : List Stmt} {tc : TT} {tb : TS} (hp : PassesOwn (model X.prog X.w) X.A X.env X.xe) (hc : PT X c tc) (hb : PSs X body tb) : PS X (.While c body [] pos) (tWhile tc tb) := by
  intro pins s σ H D I h
  obtain ⟨W, ⟨m0, w0⟩, turn⟩ := h
  refine wpAny_While (codeAny_whileLoop (fun n s' => ∃ σ' H', Inv X pins σ' H' s' ∧ W n σ' H') ?_ m0 ⟨σ, H, I, w0⟩)
  rintro n s1 ⟨σ1, H1, I1, w1⟩
  refine wpAny_passesOwn hp (thn (hc pins s1 σ1 H1 _ I1 (turn n σ1 H1 w1)) fun b s2 ⟨H2, I2, q2⟩ => ?_)
  cases b with
  | true =>
    obtain ⟨N, hN, q2⟩ := q2
    rw [if_pos rfl]
    refine wpAny_passesOwn hp (thn (hb pins s2 σ1 H2 _ I2 q2) fun f s3 q3 => ?_)
    cases f with
    | next =>
      obtain ⟨σ3, H3, I3, n3⟩ := q3
      obtain ⟨m', hm, w3⟩ := hN σ3 H3 n3
      exact ⟨m', hm, σ3, H3, I3, w3⟩
    | cont =>
      obtain ⟨σ3, H3, I3, n3⟩ := q3
      obtain ⟨m', hm, w3⟩ := hN σ3 H3 n3
      exact ⟨m', hm, σ3, H3, I3, w3⟩
    | brk => exact q3
    | ret v => exact q3
  | false =>
    rw [if_neg Bool.false_ne_true]
    exact wpAny_execs_nil ⟨σ1, H2, I2, q2⟩
end
structure It where
  go : Nat → Hp → Prop
  yld : Nat → Hp → V → Hp → Prop
  stop : Nat → Hp → Prop
def FpOk (X : Cx) (pins : List (Addr × Obj)) (H : Hp) (b : Addr) : Prop :=
  H b = none ∧ b ≠ X.env.locals ∧ b ∉ X.fs ∧ (b ∈ X.ex ∨ X.s_0.heap.objs.size ≤ b) ∧ (∀ x c, X.env.cells.lookup x = some c → c ≠ b) ∧ ∀ p ∈ X.pn ++ pins, p.1 ≠ b
theorem Inv.fpOk {X : Cx} {pins : List (Addr × Obj)} {σ : St} {H H' : Hp} {s : Shared} {b : Addr} (I : Inv X pins σ H s) (hb : s.heap.objs.size ≤ b) (hn : H' b = none) : FpOk X pins H' b := by
  refine ⟨hn, Nat.ne_of_gt (Nat.lt_of_lt_of_le I.lt hb), I.nofs hb, .inr (Nat.le_trans I.sz hb), fun x c e z => ?_, fun p hp z => ?_⟩
  · obtain ⟨v, q⟩ := I.cell x c e
    exact absurd (Nat.lt_of_lt_of_le q.lt (by rw [z]; exact hb)) (Nat.lt_irrefl _)
  · exact absurd (Nat.lt_of_lt_of_le (Heap.lt_size (I.pin p hp).1) (by rw [z]; exact hb)) (Nat.lt_irrefl _)
structure Turn (P : Program) (w : World) (K : PySem.W.Frag) (tg : Expr) (J : It) (fp : List Addr) (it : Addr) (tn : Nat → Heap → Prop) : Prop where
  mem : it ∈ fp
  obj : ∀ i h, tn i h → ∀ b ∈ fp, ∃ o, h.get? b = some o ∧ ∀ v, o.data ≠ .cell v
  keep : ∀ i h h', tn i h → (∀ b ∈ fp, ∀ o, h.get? b = some o → h'.get? b = some o) → tn i h'
  item : ∀ (X : Cx), X.prog = P → X.w = w → X.K = K → X.calm = true → ∀ (i : Nat) (pins : List (Addr × Obj)) (s : Shared) (σ : St) (H : Hp) (E : Value → Shared → Prop), Inv X pins σ H s → (∀ b ∈ fp, FpOk X pins H b) → tn i s.heap → J.go i H →
    wpAny (model P w) X.A (pyNext (.ref it)) (fun r s1 => ∃ u, r = some u ∧
      wpAny (model P w) X.A (letOwnedTupleGo tg (.ref it) u) (fun _ s2 => ∃ x H', Inv X pins σ H' s2 ∧ RelV x u ∧ J.yld i H x H' ∧ tn (i + 1) s2.heap ∧ ∀ b ∈ fp, H' b = none) E s1) E s
  done : ∀ (X : Cx), X.prog = P → X.w = w → X.K = K → X.calm = true → ∀ (i : Nat) (pins : List (Addr × Obj)) (s : Shared) (σ : St) (H : Hp) (E : Value → Shared → Prop), Inv X pins σ H s → (∀ b ∈ fp, FpOk X pins H b) → tn i s.heap → J.stop i H →
    wpAny (model P w) X.A (pyNext (.ref it)) (fun r s1 => r = none ∧ Inv X pins σ H s1) E s
  self : ∀ (A : Around) (i : Nat) (s : Shared) (Q : Value → Shared → Prop) (E : Value → Shared → Prop), tn i s.heap → Q (.ref it) s → wpAny (model P w) A (pyIter (.ref it)) Q E s
abbrev TI := St → Hp → (It → Hp → Prop) → Prop
def PIE (X : Cx) (pins : List (Addr × Obj)) (σ : St) (tg : Expr) (R : It → Hp → Prop) (itv : Value) (s2 : Shared) : Prop :=
  ∃ (it : Addr) (fp : List Addr) (tn : Nat → Heap → Prop) (J : It) (H' : Hp), itv = .ref it ∧ Inv X pins σ H' s2 ∧ Turn X.prog X.w X.K tg J fp it tn ∧ tn 0 s2.heap ∧ (∀ b ∈ fp, FpOk X pins H' b) ∧ R J H'
def PI (X : Cx) (tg iter : Expr) (wi : TI) : Prop :=
  ∀ (pins : List (Addr × Obj)) (s : Shared) (σ : St) (H : Hp) (R : It → Hp → Prop), Inv X pins σ H s → wi σ H R →
    wpAny (model X.prog X.w) X.A (eval iter X.env) (fun v s1 => wpAny (model X.prog X.w) X.A (pyIter v) (PIE X pins σ tg R) X.xe s1) X.xe s
theorem go_of {M : Model} {A : Around} {E : Value → Shared → Prop} {s : Shared} {tg : Expr} {it : Addr} {u : Value} {o : Obj} {n : String} {vs : Array Value} {Q : Unit → Shared → Prop} (ho : s.heap.get? it = some o) (hc : o.cls = .type n) (hd : o.data = .fields vs)
    (hn : ["enumerate", "zip", "dict_itemiterator", "dict_reverseitemiterator", "odict_iterator", "itertools.zip_longest", "itertools.pairwise"].contains n = false) (hQ : Q () s) : wpAny M A (letOwnedTupleGo tg (.ref it) u) Q E s := by
  unfold letOwnedTupleGo
  cases tg <;> first
    | exact wpAny_pure hQ
    | (cases u <;> first
        | exact wpAny_pure hQ
        | (refine wpAny_bind (wpAny_load ho ?_)
           rw [hc, hd]
           show wpAny M A (if (["enumerate", "zip", "dict_itemiterator", "dict_reverseitemiterator", "odict_iterator", "itertools.zip_longest", "itertools.pairwise"].contains n && vs[0]? == some (rawInt _)) = true then _ else _) Q E s
           rw [if_neg (by intro h; rw [hn, Bool.false_and] at h; cases h)]
           exact wpAny_pure hQ))
def Itl (K : PySem.W.Frag) (a : Addr) : It :=
  ⟨fun i H => ∃ xs x, SqL K H a xs ∧ xs[i]? = some x, fun i H x H' => H' = H ∧ ∀ xs, SqL K H a xs → xs[i]? = some x, fun i H => ∃ xs, SqL K H a xs ∧ xs.length ≤ i⟩
def Itr (lo : Int) (n : Nat) : It := ⟨fun i _ => i < n, fun i H x H' => H' = H ∧ x = .int (lo + i), fun i _ => n ≤ i⟩
theorem turn_list {P : Program} {w : World} {K : PySem.W.Frag} {tg : Expr} (a it : Addr) : Turn P w K tg (Itl K a) [it] it (fun i h => h.IsListIter it a i) where
  mem := by simp
  obj := fun i h st b hb => by
    have e : b = it := by simpa using hb
    subst e
    obtain ⟨o, e, c, d⟩ := st
    exact ⟨o, e, fun v z => by rw [d] at z; cases z⟩
  keep := fun i h h' st k => st.at fun o e => k it (by simp) o e
  item := by
    intro X hP hw hK hc i pins s σ H E I hf st hg
    subst hP hw hK
    obtain ⟨xs, x, hq, hx⟩ := hg
    obtain ⟨its, rv, p, hz⟩ := I.list hq
    obtain ⟨u, hu, ru⟩ := rv.get hx
    obtain ⟨f0, f1, f2, f3, f4, f5⟩ := hf it (by simp)
    refine wpAny_pyNext_list_item st p.isList (x := u) (by simpa using hu) fun h' st' sb => ?_
    have I1 : Inv X pins σ H { s with heap := h' } := I.turned (t' := s.toks) (fun b o hb e => (sb.2 b hb).trans e) f0 f1 f3 f4 f5
    obtain ⟨o, e, c, d⟩ := id st'
    exact ⟨u, rfl, go_of (s := { s with heap := h' }) e c d (by decide) ⟨x, H, I1, ru, ⟨rfl, fun ys hy => by rw [I.list_inj hy hq]; exact hx⟩, st', fun b hb => (hf b hb).1⟩⟩
  done := by
    intro X hP hw hK hc i pins s σ H E I hf st hg
    subst hP hw hK
    obtain ⟨xs, hq, hx⟩ := hg
    obtain ⟨its, rv, p, hz⟩ := I.list hq
    obtain ⟨f0, f1, f2, f3, f4, f5⟩ := hf it (by simp)
    have hl := rv.length
    exact wpAny_pyNext_list_end (I.ok.hd hc) st p.isList (by simp; omega) fun h' eb => ⟨rfl, I.turned (t' := s.toks) (fun b o hb e => eb b o hb e) f0 f1 f3 f4 f5⟩
  self := fun _ _ _ _ _ st h => wpAny_pyIter_listiter st h
theorem turn_range {P : Program} {w : World} {K : PySem.W.Frag} {tg : Expr} (it : Addr) (lo : Int) (n : Nat) : Turn P w K tg (Itr lo n) [it] it (fun i h => IsRangeIter h it (lo + (i : Nat) * 1) ((n : Int) - (i : Nat)) 1) where
  mem := by simp
  obj := fun i h st b hb => by
    have e : b = it := by simpa using hb
    subst e
    exact ⟨_, st, fun v z => by
      have z' : Data.fields _ = Data.cell v := z
      cases z'⟩
  keep := fun i h h' st k => k it (by simp) _ st
  item := by
    intro X hP hw hK hc i pins s σ H E I hf st hg
    subst hP hw hK
    obtain ⟨f0, f1, f2, f3, f4, f5⟩ := hf it (by simp)
    have W := Walks.range (prog := X.prog) (w := X.w) (I.ok.hd hc) it lo 1 n
    refine W.item i s _ _ hg st fun v h' tk hv st' kk => ?_
    obtain ⟨t, rfl⟩ := hv
    have I1 : Inv X pins σ H { s with heap := h', toks := tk } := I.turned (fun b o hb e => kk b o (by simpa using hb) e) f0 f1 f3 f4 f5
    refine ⟨_, rfl, go_of (s := { s with heap := h', toks := tk }) (n := "range_iterator") st' rfl rfl (by decide) ⟨.int (lo + i), H, I1, ⟨t, ?_⟩, ⟨rfl, rfl⟩, st', fun b hb => (hf b hb).1⟩⟩
    rw [Int.mul_one]
  done := by
    intro X hP hw hK hc i pins s σ H E I hf st hg
    subst hP hw hK
    obtain ⟨f0, f1, f2, f3, f4, f5⟩ := hf it (by simp)
    exact wpAny_pyNext_range_end (I.ok.hd hc) st (by have : n ≤ i := hg; omega) fun h' eb => ⟨rfl, I.turned (t' := s.toks) (fun b o hb e => eb b o hb e) f0 f1 f3 f4 f5⟩
  self := fun _ _ _ _ _ st h => wpAny_pyIter_rangeiter st h
end L2
namespace L2
open PySem PySem.Spec PyProof.Rows
section
variable {X : Cx} {tg : Expr}
def iList (K : PySem.W.Frag) (tl : TE) : TI := fun σ H R => tl σ H fun x H1 => ∃ a, x = .ref a ∧ (∃ xs, SqL K H1 a xs) ∧ R (Itl K a) H1
theorem pi_list {l : Expr} {tl : TE} (hl : PE X l tl) : PI X tg l (iList X.K tl) := by
  intro pins s σ H R I h
  refine thn (hl pins s σ H _ I h) fun v s1 ⟨x, H1, I1, r1, q1⟩ => ?_
  obtain ⟨a, e, ⟨xs, hq⟩, q⟩ := q1
  subst e
  cases r1
  obtain ⟨its, rv, p, hz⟩ := I1.list hq
  refine wpAny_pyIter_list p.isList ?_
  refine ⟨s1.heap.objs.size, [s1.heap.objs.size], _, _, H1, rfl, I1.kept (t' := s1.toks) fun b o e => Heap.get?_push_of_some _ e, turn_list a _, ⟨_, Heap.get?_push_size _ rfl, rfl, rfl⟩, fun b hb => ?_, q⟩
  have e : b = s1.heap.objs.size := by simpa using hb
  subst e
  exact I1.fpOk (Nat.le_refl _) (I1.hok.fresh (Nat.le_refl _))
theorem range_it {pins : List (Addr × Obj)} {σ : St} {H : Hp} {s : Shared} {R : It → Hp → Prop} {E : Value → Shared → Prop} {lo hi : Int} {t u v : Tok} {tk : Nat} (I : Inv X pins σ H s) (h1 : -(2 ^ 62) ≤ lo) (h2 : lo < 2 ^ 62) (h3 : -(2 ^ 62) ≤ hi) (h4 : hi < 2 ^ 62)
    (q : R (Itr lo (hi - lo).toNat) H) : wpAny (model X.prog X.w) X.A (pyIter (.ref s.heap.objs.size)) (PIE X pins σ tg R) E { s with heap := s.heap.push { cls := .type "range", data := .fields #[.int lo t, .int hi u, .int 1 v] }, toks := tk } := by
  refine wpAny_pyIter_range (IsRange.new ..) (small_one h1 h2 h3 h4) ?_
  have I1 : Inv X pins σ H { s with heap := s.heap.push { cls := .type "range", data := .fields #[.int lo t, .int hi u, .int 1 v] }, toks := tk } := I.kept fun b o e => Heap.get?_push_of_some _ e
  refine ⟨(s.heap.push { cls := .type "range", data := .fields #[.int lo t, .int hi u, .int 1 v] }).objs.size, [(s.heap.push { cls := .type "range", data := .fields #[.int lo t, .int hi u, .int 1 v] }).objs.size], _, _, H, rfl,
    I1.kept (t' := tk) fun b o e => Heap.get?_push_of_some _ e, turn_range _ lo (hi - lo).toNat, ?_, fun b hb => ?_, q⟩
  · have e1 : lo + ((0 : Nat) : Int) * 1 = lo := by simp
    have e2 : (((hi - lo).toNat : Nat) : Int) - ((0 : Nat) : Int) = Builtin.Range.rangeSize lo hi 1 := by rw [rangeSize_one]; split <;> omega
    show IsRangeIter _ _ (lo + ((0 : Nat) : Int) * 1) ((((hi - lo).toNat : Nat) : Int) - ((0 : Nat) : Int)) 1
    rw [e1, e2]
    exact Heap.get?_push_size _ rfl
  · have e : b = (s.heap.push { cls := .type "range", data := .fields #[.int lo t, .int hi u, .int 1 v] }).objs.size := by simpa using hb
    subst e
    exact I1.fpOk (Nat.le_refl _) (I1.hok.fresh (Nat.le_refl _))
def iRng1 (ta : TA) : TI := fun σ H R => ta σ H fun vs H1 => ∃ j : Int, vs = [.int j] ∧ -(2 ^ 62) ≤ j ∧ j < 2 ^ 62 ∧ R (Itr 0 j.toNat) H1
theorem pi_range1 {a : Expr} {ta : TA} {p pos : Pos} (hg : Gl X "range") (hm : X.mg "range" = none) (ha : PA X [a] ta) (hs : starEach [a] X.env = [(false, eval a X.env)] := by rfl) : PI X tg (.Call (.Name "range" p) [a] [] pos) (iRng1 ta) := by
  intro pins s σ H R I h
  refine Call_ (ld_blt I hg hm boot_range (PyProof.Rows.callWith_type1 (thn (ha pos pins s σ H _ I h) fun us s1 ⟨vs, H1, I1, r1, q1⟩ => ?_) hs rfl))
  obtain ⟨j, e, q1, q2, q⟩ := q1
  subst e
  cases r1 with
  | cons r rr =>
    cases rr
    obtain ⟨t, rfl⟩ := r
    exact call_range_1 (range_it I1 (by omega) (by omega) q1 q2 (by simpa using q))
def tFor (wi : TI) (g : TG) (tb : TS) : TS := fun D σ H => wi σ H fun J H1 => ∃ W : Nat → Nat → St → Hp → Prop, (∃ m, W 0 m σ H1) ∧ ∀ i m σ H, W i m σ H →
  (J.stop i H ∧ D.nx σ H) ∨ (J.go i H ∧ ∃ N : St → Hp → Prop, (∀ σ' H', N σ' H' → ∃ m', m' < m ∧ W (i + 1) m' σ' H') ∧ ∀ x H', J.yld i H x H' → g x σ H' fun σ2 H2 => tb { D with nx := N, ct := N, bk := D.nx } σ2 H2)
def pinsAt (fp : List Addr) (h : Heap) : List (Addr × Obj) := fp.filterMap fun b => (h.get? b).map fun o => (b, o)
theorem mem_pinsAt {fp : List Addr} {h : Heap} {b : Addr} {o : Obj} (hb : b ∈ fp) (e : h.get? b = some o) : (b, o) ∈ pinsAt fp h := List.mem_filterMap.mpr ⟨b, hb, by rw [e]; rfl⟩
theorem of_pinsAt {fp : List Addr} {h : Heap} {p : Addr × Obj} (hp : p ∈ pinsAt fp h) : p.1 ∈ fp ∧ h.get? p.1 = some p.2 := by
  obtain ⟨b, hb, e⟩ := List.mem_filterMap.mp hp
  cases q : h.get? b with
  | none => rw [q] at e; cases e
  | some o =>
    rw [q] at e
    have e' : (b, o) = p := Option.some.inj e
    subst e'
    exact ⟨hb, q⟩
theorem Inv.pinned {pins : List (Addr × Obj)} {σ : St} {H : Hp} {s : Shared} {fp : List Addr} (I : Inv X pins σ H s) (hf : ∀ b ∈ fp, FpOk X pins H b) (ho : ∀ b ∈ fp, ∃ o, s.heap.get? b = some o ∧ ∀ v, o.data ≠ .cell v) : Inv X (pins ++ pinsAt fp s.heap) σ H s :=
  I.pins_of fun p hp => (List.mem_append.mp hp).elim (fun z => I.pin p (List.mem_append_right _ z)) fun z => by
    obtain ⟨hb, e⟩ := of_pinsAt z
    obtain ⟨f0, f1, f2, _⟩ := hf p.1 hb
    obtain ⟨o, e', d⟩ := ho p.1 hb
    rw [e] at e'; cases e'
    exact ⟨e, f0, f1, f2, d⟩
theorem Inv.unpinned {pins pl : List (Addr × Obj)} {σ : St} {H : Hp} {s : Shared} (I : Inv X (pins ++ pl) σ H s) : Inv X pins σ H s := I.pins_of fun p hp => I.pin p (List.mem_append_right _ (List.mem_append_left _ hp))
theorem ps_for {iter : Expr} {body : List Stmt} {wi : TI} {g : TG} {tb : TS} {pos : Pos} (hp : PassesOwn (model X.prog X.w) X.A X.env X.xe) (hc : X.calm = true) (hi : PI X tg iter wi) (hg : PG X tg g) (hb : PSs X body tb)
    (hs : ∀ x, foldedSetIterable iter X.env x = pure x := by intro _; rfl) : PS X (.For tg iter body [] pos) (tFor wi g tb) := by
  intro pins s σ H D I h
  refine wpAny_For (thn (hi pins s σ H _ I h) fun v s1 h1 => thn h1 fun itv s2 h2 => ?_) hs
  obtain ⟨it, fp, tn, J, H2, e, I2, T, st2, f2, W, ⟨m0, w0⟩, turn⟩ := h2
  subst e
  -- what stays true of the iterator's objects through the loop
  have stat : ∀ {H' : Hp}, (∀ b ∈ fp, H' b = none) → ∀ b ∈ fp, FpOk X pins H' b := fun hn b hb => ⟨hn b hb, (f2 b hb).2⟩
  refine codeAny_forLoop_any (fun n s' => ∃ i σ' H', Inv X pins σ' H' s' ∧ tn i s'.heap ∧ (∀ b ∈ fp, H' b = none) ∧ W i n σ' H') ?_ m0 ⟨0, σ, H2, I2, st2, fun b hb => (f2 b hb).1, w0⟩
  rintro n s3 ⟨i, σ3, H3, I3, st3, fr3, w3⟩
  rcases turn i n σ3 H3 w3 with ⟨stop, qn⟩ | ⟨go, N, hN, step⟩
  · refine wpAny_passesOwn hp (thn (T.done X rfl rfl rfl hc i pins s3 σ3 H3 X.xe I3 (stat fr3) st3 stop) fun r s4 ⟨hr, I4⟩ => ?_)
    subst hr
    exact wpAny_execs_nil ⟨σ3, H3, I4, qn⟩
  · refine wpAny_passesOwn hp (thn (T.item X rfl rfl rfl hc i pins s3 σ3 H3 X.xe I3 (stat fr3) st3 go) fun r s4 ⟨u, hr, h4⟩ => ?_)
    subst hr
    refine wpAny_passesOwn hp (thn h4 fun _ s5 ⟨x, H5, I5, r5, y5, st5, fr5⟩ => ?_)
    have I5' := I5.pinned (stat fr5) (T.obj _ _ st5)
    refine wpAny_passesOwn hp (thn (hg _ s5 σ3 H5 x u _ I5' r5 (step x H5 y5)) fun _ s6 ⟨σ6, H6, I6, q6⟩ => ?_)
    refine wpAny_passesOwn hp (thn (hb _ s6 σ6 H6 _ I6 q6) fun f s7 q7 => ?_)
    have again : ∀ {σ7 : St} {H7 : Hp}, Inv X (pins ++ pinsAt fp s5.heap) σ7 H7 s7 → N σ7 H7 → ∃ m, m < n ∧ ∃ i σ' H', Inv X pins σ' H' s7 ∧ tn i s7.heap ∧ (∀ b ∈ fp, H' b = none) ∧ W i m σ' H' := fun {σ7 H7} I7 n7 => by
      obtain ⟨m', hm, w7⟩ := hN σ7 H7 n7
      refine ⟨m', hm, i + 1, σ7, H7, I7.unpinned, T.keep _ _ _ st5 fun b hb o e => (I7.pin (b, o) (List.mem_append_right _ (List.mem_append_right _ (mem_pinsAt hb e)))).1, fun b hb => ?_, w7⟩
      obtain ⟨o, e, d⟩ := T.obj _ _ st5 b hb
      exact (I7.pin (b, o) (List.mem_append_right _ (List.mem_append_right _ (mem_pinsAt hb e)))).2.1
    cases f with
    | next => obtain ⟨σ7, H7, I7, n7⟩ := q7; exact again I7 n7
    | cont => obtain ⟨σ7, H7, I7, n7⟩ := q7; exact again I7 n7
    | brk => obtain ⟨σ7, H7, I7, q7⟩ := q7; exact ⟨σ7, H7, I7.unpinned, q7⟩
    | ret v => obtain ⟨x7, σ7, H7, I7, r7, q7⟩ := q7; exact ⟨x7, σ7, H7, I7.unpinned, r7, q7⟩
end
theorem for_list {K : PySem.W.Frag} {a : Addr} {xs : List V} {g : TG} {tb : TS} {D : Ends} {σ : St} {H : Hp} (Pv : Nat → St → Hp → Prop) (h0 : Pv 0 σ H) (hl : ∀ i σ H, i ≤ xs.length → Pv i σ H → SqL K H a xs)
    (hs : ∀ i x σ H, xs[i]? = some x → Pv i σ H → g x σ H fun σ2 H2 => tb { D with nx := Pv (i + 1), ct := Pv (i + 1), bk := D.nx } σ2 H2) (hd : ∀ σ H, Pv xs.length σ H → D.nx σ H) :
    ∃ W : Nat → Nat → St → Hp → Prop, (∃ m, W 0 m σ H) ∧ ∀ i m σ H, W i m σ H →
      ((Itl K a).stop i H ∧ D.nx σ H) ∨ ((Itl K a).go i H ∧ ∃ N : St → Hp → Prop, (∀ σ' H', N σ' H' → ∃ m', m' < m ∧ W (i + 1) m' σ' H') ∧ ∀ x H', (Itl K a).yld i H x H' → g x σ H' fun σ2 H2 => tb { D with nx := N, ct := N, bk := D.nx } σ2 H2) := by
  refine ⟨fun i m σ H => m = xs.length - i ∧ i ≤ xs.length ∧ Pv i σ H, ⟨xs.length, by simp, Nat.zero_le _, h0⟩, ?_⟩
  rintro i m σ H ⟨rfl, hi, p⟩
  have q := hl i σ H hi p
  by_cases hlt : i < xs.length
  · refine .inr ⟨⟨xs, xs[i], q, by simp [hlt]⟩, Pv (i + 1), fun σ' H' p' => ⟨xs.length - (i + 1), by omega, rfl, hlt, p'⟩, fun x H' y => ?_⟩
    obtain ⟨e, y⟩ := y
    subst e
    exact hs i x σ _ (y xs q) p
  · have e : i = xs.length := by omega
    subst e
    exact .inl ⟨⟨xs, q, Nat.le_refl _⟩, hd σ H p⟩
theorem for_range {lo : Int} {n : Nat} {g : TG} {tb : TS} {D : Ends} {σ : St} {H : Hp} (Pv : Nat → St → Hp → Prop) (h0 : Pv 0 σ H)
    (hs : ∀ i σ H, i < n → Pv i σ H → g (.int (lo + i)) σ H fun σ2 H2 => tb { D with nx := Pv (i + 1), ct := Pv (i + 1), bk := D.nx } σ2 H2) (hd : ∀ σ H, Pv n σ H → D.nx σ H) :
    ∃ W : Nat → Nat → St → Hp → Prop, (∃ m, W 0 m σ H) ∧ ∀ i m σ H, W i m σ H →
      ((Itr lo n).stop i H ∧ D.nx σ H) ∨ ((Itr lo n).go i H ∧ ∃ N : St → Hp → Prop, (∀ σ' H', N σ' H' → ∃ m', m' < m ∧ W (i + 1) m' σ' H') ∧ ∀ x H', (Itr lo n).yld i H x H' → g x σ H' fun σ2 H2 => tb { D with nx := N, ct := N, bk := D.nx } σ2 H2) := by
  refine ⟨fun i m σ H => m = n - i ∧ i ≤ n ∧ Pv i σ H, ⟨n, by simp, Nat.zero_le _, h0⟩, ?_⟩
  rintro i m σ H ⟨rfl, hi, p⟩
  by_cases hlt : i < n
  · refine .inr ⟨hlt, Pv (i + 1), fun σ' H' p' => ⟨n - (i + 1), by omega, rfl, hlt, p'⟩, fun x H' y => ?_⟩
    obtain ⟨e, y⟩ := y
    subst e y
    exact hs i σ _ hlt p
  · have e : i = n := by omega
    subst e
    exact .inl ⟨Nat.le_refl _, hd σ H p⟩
theorem while_by {c : TT} {tb : TS} {D : Ends} {σ : St} {H : Hp} (Pv : St → Hp → Prop) (μ : St → Hp → Nat) (h0 : Pv σ H)
    (hs : ∀ σ H, Pv σ H → c σ H fun b H1 => if b = true then tb { D with nx := fun σ' H' => Pv σ' H' ∧ μ σ' H' < μ σ H, ct := fun σ' H' => Pv σ' H' ∧ μ σ' H' < μ σ H, bk := D.nx } σ H1 else D.nx σ H1)
    (mono : ∀ σ H Q Q', (∀ b H1, Q b H1 → Q' b H1) → c σ H Q → c σ H Q') : tWhile c tb D σ H := by
  refine ⟨fun m σ H => m = μ σ H ∧ Pv σ H, ⟨_, rfl, h0⟩, ?_⟩
  rintro m σ H ⟨rfl, p⟩
  refine mono σ H _ _ (fun b H1 q => ?_) (hs σ H p)
  cases b with
  | true => exact ⟨_, fun σ' H' ⟨p', l⟩ => ⟨_, l, rfl, p'⟩, q⟩
  | false => exact q
end L2
namespace L2
open PySem PySem.Spec PyProof.Rows
abbrev R2 := V → V → Hp → VK → Prop
def OpR (X : Cx) (f : Value → Value → Sem Value) (r : R2) : Prop :=
  ∀ (pins : List (Addr × Obj)) (s : Shared) (σ : St) (H : Hp) (x y : V) (v u : Value) (Q : VK), Inv X pins σ H s → RelV x v → RelV y u → r x y H Q →
    wpAny (model X.prog X.w) X.A (f v u) (EP X pins σ Q) X.xe s
def UnR (X : Cx) (f : Value → Sem Value) (r : V → Hp → VK → Prop) : Prop :=
  ∀ (pins : List (Addr × Obj)) (s : Shared) (σ : St) (H : Hp) (x : V) (v : Value) (Q : VK), Inv X pins σ H s → RelV x v → r x H Q →
    wpAny (model X.prog X.w) X.A (f v) (EP X pins σ Q) X.xe s
def CallR (X : Cx) (f : Value) (r : List V → Hp → VK → Prop) : Prop :=
  ∀ (pins : List (Addr × Obj)) (s : Shared) (σ : St) (H : Hp) (xs : List V) (us : List Value) (Q : VK), Inv X pins σ H s → Vals xs us → r xs H Q →
    wpAny (model X.prog X.w) X.A (call f us) (EP X pins σ Q) X.xe s
def TruR (X : Cx) (r : V → Hp → (Bool → Hp → Prop) → Prop) : Prop :=
  ∀ (pins : List (Addr × Obj)) (s : Shared) (σ : St) (H : Hp) (x : V) (v : Value) (Q : Bool → Hp → Prop), Inv X pins σ H s → RelV x v → r x H Q →
    wpAny (model X.prog X.w) X.A (truthy v) (TP X pins σ Q) X.xe s
def tOp (r : R2) (ta tb : TE) : TE := fun σ H Q => ta σ H fun x H1 => tb σ H1 fun y H2 => r x y H2 Q
def tUn (r : V → Hp → VK → Prop) (ta : TE) : TE := fun σ H Q => ta σ H fun x H1 => r x H1 Q
def rI (C : Int → Int → Prop) (g : Int → Int → V) : R2 := fun x y H Q => ∃ i j, x = .int i ∧ y = .int j ∧ C i j ∧ Q (g i j) H
def rI0 (g : Int → Int → V) : R2 := fun x y H Q => ∃ i j, x = .int i ∧ y = .int j ∧ Q (g i j) H
def rU (g : Int → V) : V → Hp → VK → Prop := fun x H Q => ∃ i, x = .int i ∧ Q (g i) H
section
variable {X : Cx} {a b c : Expr} {ta tb tc : TE} {pos : Pos}
theorem binT (ha : PE X a ta) (hb : PE X b tb) {pins : List (Addr × Obj)} {s : Shared} {σ : St} {H : Hp} {R : V → V → Hp → Prop} (I : Inv X pins σ H s)
    (h : ta σ H fun x H1 => tb σ H1 fun y H2 => R x y H2) {Q : Value → Shared → Prop} {f : Value → Value → Sem Value}
    (hf : ∀ v u s2 x y H2, Inv X pins σ H2 s2 → RelV x v → RelV y u → R x y H2 → wpAny (model X.prog X.w) X.A (f v u) Q X.xe s2) :
    wpAny (model X.prog X.w) X.A (eval a X.env) (fun v s₁ => wpAny (model X.prog X.w) X.A (eval b X.env) (fun u s₂ => wpAny (model X.prog X.w) X.A (f v u) Q X.xe s₂) X.xe s₁) X.xe s := by
  refine thn (ha pins s σ H _ I h) fun v s1 ⟨x, H1, I1, r1, q1⟩ => ?_
  refine thn (hb pins s1 σ H1 _ I1 q1) fun u s2 ⟨y, H2, I2, r2, q2⟩ => ?_
  exact hf v u s2 x y H2 I2 r1 r2 q2
theorem pe_op {op : Operator} {r : R2} (ho : OpR X (binaryOp op) r) (ha : PE X a ta) (hb : PE X b tb) : PE X (.BinOp a op b pos) (tOp r ta tb) := by
  intro pins s σ H Q I h
  exact wpAny_BinOp (binT ha hb I h fun v u s2 x y H2 I2 rx ry q => ho pins s2 σ H2 x y v u Q I2 rx ry q)
theorem pe_un {op : UnaryOp} {r : V → Hp → VK → Prop} (ho : UnR X (unaryOp op) r) (ha : PE X a ta) : PE X (.UnaryOp op a pos) (tUn r ta) := by
  intro pins s σ H Q I h
  exact UnaryOp_ (thn (ha pins s σ H _ I h) fun v s1 ⟨x, H1, I1, r1, q1⟩ => ho pins s1 σ H1 x v Q I1 r1 q1)
theorem opI {f : Value → Value → Sem Value} {C : Int → Int → Prop} {g : Int → Int → Int}
    (rule : ∀ (i j : Int) (t u : Tok) (s : Shared) (Q : Value → Shared → Prop) (E : Value → Shared → Prop), C i j → Q (.int (g i j) s.toks) { s with toks := s.toks + 1 } → wpAny (model X.prog X.w) X.A (f (.int i t) (.int j u)) Q E s) :
    OpR X f (rI C fun i j => .int (g i j)) := by
  intro pins s σ H x y v u Q I rx ry h
  obtain ⟨i, j, rfl, rfl, hc, q⟩ := h
  obtain ⟨t, rfl⟩ := rx
  obtain ⟨t', rfl⟩ := ry
  exact rule i j t t' s _ _ hc ⟨.int (g i j), H, I.tok _, ⟨_, rfl⟩, q⟩
theorem opI0 {f : Value → Value → Sem Value} {g : Int → Int → Int}
    (rule : ∀ (i j : Int) (t u : Tok) (s : Shared) (Q : Value → Shared → Prop) (E : Value → Shared → Prop), Q (.int (g i j) s.toks) { s with toks := s.toks + 1 } → wpAny (model X.prog X.w) X.A (f (.int i t) (.int j u)) Q E s) :
    OpR X f (rI0 fun i j => .int (g i j)) := by
  intro pins s σ H x y v u Q I rx ry h
  obtain ⟨i, j, rfl, rfl, q⟩ := h
  obtain ⟨t, rfl⟩ := rx
  obtain ⟨t', rfl⟩ := ry
  exact rule i j t t' s _ _ ⟨.int (g i j), H, I.tok _, ⟨_, rfl⟩, q⟩
theorem opB0 {f : Value → Value → Sem Value} {g : Int → Int → Bool}
    (rule : ∀ (i j : Int) (t u : Tok) (s : Shared) (Q : Value → Shared → Prop) (E : Value → Shared → Prop), Q (.bool (g i j)) s → wpAny (model X.prog X.w) X.A (f (.int i t) (.int j u)) Q E s) :
    OpR X f (rI0 fun i j => .bl (g i j)) := by
  intro pins s σ H x y v u Q I rx ry h
  obtain ⟨i, j, rfl, rfl, q⟩ := h
  obtain ⟨t, rfl⟩ := rx
  obtain ⟨t', rfl⟩ := ry
  exact rule i j t t' s _ _ ⟨.bl (g i j), H, I, rfl, q⟩
theorem op_add : OpR X (binaryOp .Add) (rI0 fun i j => .int (i + j)) := opI0 fun _ _ _ _ _ _ _ q => add_int q
theorem op_sub : OpR X (binaryOp .Sub) (rI0 fun i j => .int (i - j)) := opI0 fun _ _ _ _ _ _ _ q => sub_int q
theorem op_mod : OpR X (binaryOp .Mod) (rI (fun _ j => 0 < j) fun i j => .int (i % j)) := opI fun i j _ _ _ _ _ hc q => by
  have h1 : (0 : Int) < j := hc
  exact mod_int' (by omega) (by rw [Int.fmod_eq_emod_of_nonneg i (by omega)]; exact q)
theorem unI {f : Value → Sem Value} {g : Int → Int}
    (rule : ∀ (i : Int) (t : Tok) (s : Shared) (Q : Value → Shared → Prop) (E : Value → Shared → Prop), Q (.int (g i) s.toks) { s with toks := s.toks + 1 } → wpAny (model X.prog X.w) X.A (f (.int i t)) Q E s) :
    UnR X f (rU fun i => .int (g i)) := by
  intro pins s σ H x v Q I rx h
  obtain ⟨i, rfl, q⟩ := h
  obtain ⟨t, rfl⟩ := rx
  exact rule i t s _ _ ⟨.int (g i), H, I.tok _, ⟨_, rfl⟩, q⟩
theorem un_neg : UnR X (unaryOp .USub) (rU fun i => .int (-i)) := unI fun _ _ _ _ _ q => neg_int q
end
def scal : V → V → Bool
  | .non, .non => true | .non, .int _ => true | .int _, .non => true | .non, .bl _ => true | .bl _, .non => true | .non, .str _ => true | .str _, .non => true
  | .int _, .int _ => true | .bl _, .bl _ => true | .str _, .str _ => true | .byt _, .byt _ => true
  | .int _, .str _ => true | .str _, .int _ => true | .bl _, .str _ => true | .str _, .bl _ => true
  | _, _ => false
def rEq : R2 := fun x y H Q => scal x y = true ∧ Q (.bl (decide (x = y))) H
def rNe : R2 := fun x y H Q => scal x y = true ∧ Q (.bl (!decide (x = y))) H
theorem dec_int {i j : Int} : decide (V.int i = V.int j) = (i == j) := by
  rw [Bool.eq_iff_iff]
  simp
theorem dec_bl {i j : Bool} : decide (V.bl i = V.bl j) = (i == j) := by
  rw [Bool.eq_iff_iff]
  simp
theorem dec_str {i j : Str} : decide (V.str i = V.str j) = (i == j) := by
  rw [Bool.eq_iff_iff]
  simp
theorem dec_byt {i j : Array UInt8} : decide (V.byt i = V.byt j) = (i.toList == j.toList) := by
  rw [Bool.eq_iff_iff]
  cases i
  cases j
  simp
section
variable {X : Cx} {a b c : Expr} {ta tb tc : TE} {pos : Pos}
theorem fin_bl {pins : List (Addr × Obj)} {σ : St} {H : Hp} {s : Shared} {Q : VK} {k k' : Bool} (I : Inv X pins σ H s) (q : Q (.bl k) H) (e : k = k') : EP X pins σ Q (.bool k') s := by
  subst e
  exact ⟨.bl k, H, I, rfl, q⟩
theorem op_eq : OpR X (compareOp .Eq) rEq := by
  intro pins s σ H x y v u Q I rx ry h
  obtain ⟨hs, q⟩ := h
  cases x with
  | non =>
    cases rx
    cases y with
    | non => cases ry; exact PySem.EqNone.eq_none_none (fin_bl I q (by simp))
    | bl j => cases ry; exact PySem.EqNone.eq_none_bool (fin_bl I q (by simp))
    | int j => obtain ⟨t', rfl⟩ := ry; exact PySem.EqNone.eq_none_int (fin_bl I q (by simp))
    | str j => obtain ⟨t', rfl⟩ := ry; exact PySem.EqNone.eq_none_str (fin_bl I q (by simp))
    | _ => exact absurd (show false = true from hs) Bool.false_ne_true
  | bl i =>
    cases rx
    cases y with
    | non => cases ry; exact PySem.EqNone.eq_bool_none (fin_bl I q (by simp))
    | bl j => cases ry; exact eq_bool (fin_bl I q dec_bl)
    | str j => obtain ⟨t', rfl⟩ := ry; exact PySem.EqMixed.eq_bool_str (fin_bl I q (by simp))
    | _ => exact absurd (show false = true from hs) Bool.false_ne_true
  | int i =>
    obtain ⟨t, rfl⟩ := rx
    cases y with
    | non => cases ry; exact PySem.EqNone.eq_int_none (fin_bl I q (by simp))
    | int j => obtain ⟨t', rfl⟩ := ry; exact eq_int (fin_bl I q dec_int)
    | str j => obtain ⟨t', rfl⟩ := ry; exact PySem.EqMixed.eq_int_str (fin_bl I q (by simp))
    | _ => exact absurd (show false = true from hs) Bool.false_ne_true
  | str i =>
    obtain ⟨t, rfl⟩ := rx
    cases y with
    | non => cases ry; exact PySem.EqNone.eq_str_none (fin_bl I q (by simp))
    | bl j => cases ry; exact PySem.EqMixed.eq_str_bool (fin_bl I q (by simp))
    | int j => obtain ⟨t', rfl⟩ := ry; exact PySem.EqMixed.eq_str_int (fin_bl I q (by simp))
    | str j => obtain ⟨t', rfl⟩ := ry; exact eq_str (fin_bl I q dec_str)
    | _ => exact absurd (show false = true from hs) Bool.false_ne_true
  | byt i =>
    obtain ⟨t, rfl⟩ := rx
    cases y with
    | byt j => obtain ⟨t', rfl⟩ := ry; exact PySem.W.eq_bytes (fin_bl I q dec_byt)
    | _ => exact absurd (show false = true from hs) Bool.false_ne_true
  | _ => cases y <;> exact absurd (show false = true from hs) Bool.false_ne_true
theorem op_ne : OpR X (compareOp .NotEq) rNe := by
  intro pins s σ H x y v u Q I rx ry h
  obtain ⟨hs, q⟩ := h
  cases x with
  | non =>
    cases rx
    cases y with
    | non => cases ry; exact PySem.EqNone.ne_none_none (fin_bl I q (by simp))
    | bl j => cases ry; exact PySem.EqNone.ne_none_bool (fin_bl I q (by simp))
    | int j => obtain ⟨t', rfl⟩ := ry; exact PySem.EqNone.ne_none_int (fin_bl I q (by simp))
    | str j => obtain ⟨t', rfl⟩ := ry; exact PySem.EqNone.ne_none_str (fin_bl I q (by simp))
    | _ => exact absurd (show false = true from hs) Bool.false_ne_true
  | bl i =>
    cases rx
    cases y with
    | non => cases ry; exact PySem.EqNone.ne_bool_none (fin_bl I q (by simp))
    | bl j => cases ry; exact ne_bool (fin_bl I q (congrArg not dec_bl))
    | str j => obtain ⟨t', rfl⟩ := ry; exact PySem.EqMixed.ne_bool_str (fin_bl I q (by simp))
    | _ => exact absurd (show false = true from hs) Bool.false_ne_true
  | int i =>
    obtain ⟨t, rfl⟩ := rx
    cases y with
    | non => cases ry; exact PySem.EqNone.ne_int_none (fin_bl I q (by simp))
    | int j => obtain ⟨t', rfl⟩ := ry; exact ne_int (fin_bl I q (congrArg not dec_int))
    | str j => obtain ⟨t', rfl⟩ := ry; exact PySem.EqMixed.ne_int_str (fin_bl I q (by simp))
    | _ => exact absurd (show false = true from hs) Bool.false_ne_true
  | str i =>
    obtain ⟨t, rfl⟩ := rx
    cases y with
    | non => cases ry; exact PySem.EqNone.ne_str_none (fin_bl I q (by simp))
    | bl j => cases ry; exact PySem.EqMixed.ne_str_bool (fin_bl I q (by simp))
    | int j => obtain ⟨t', rfl⟩ := ry; exact PySem.EqMixed.ne_str_int (fin_bl I q (by simp))
    | str j => obtain ⟨t', rfl⟩ := ry; exact ne_str (fin_bl I q (congrArg not dec_str))
    | _ => exact absurd (show false = true from hs) Bool.false_ne_true
  | byt i =>
    obtain ⟨t, rfl⟩ := rx
    cases y with
    | byt j => obtain ⟨t', rfl⟩ := ry; exact PySem.W.ne_bytes (fin_bl I q (congrArg not dec_byt))
    | _ => exact absurd (show false = true from hs) Bool.false_ne_true
  | _ => cases y <;> exact absurd (show false = true from hs) Bool.false_ne_true
theorem op_lt : OpR X (compareOp .Lt) (rI0 fun i j => .bl (decide (i < j))) := opB0 fun _ _ _ _ _ _ _ q => lt_int q
theorem op_le : OpR X (compareOp .LtE) (rI0 fun i j => .bl (decide (i ≤ j))) := opB0 fun _ _ _ _ _ _ _ q => le_int q
theorem op_gt : OpR X (compareOp .Gt) (rI0 fun i j => .bl (decide (j < i))) := opB0 fun _ _ _ _ _ _ _ q => gt_int q
theorem op_isN : OpR X (compareOp .Is) (fun x y H Q => y = .non ∧ Q (.bl (decide (x = .non))) H) := by
  intro pins s σ H x y v u Q I rx ry h
  obtain ⟨rfl, q⟩ := h
  cases ry
  refine is_none_gen (fin_bl I q ?_)
  cases x <;> first
    | (cases rx; rfl)
    | (obtain ⟨t, rfl⟩ := rx; rfl)
theorem op_notN : OpR X (compareOp .IsNot) (fun x y H Q => y = .non ∧ Q (.bl (!decide (x = .non))) H) := by
  intro pins s σ H x y v u Q I rx ry h
  obtain ⟨rfl, q⟩ := h
  cases ry
  refine isnot_none_gen (fin_bl I q ?_)
  cases x <;> first
    | (cases rx; rfl)
    | (obtain ⟨t, rfl⟩ := rx; rfl)
theorem nomark (b : Expr) {op : CmpOp} (h : op ≠ .In := by decide) (h2 : op ≠ .NotIn := by decide) : behindInMarks op b = false := by
  have e1 : (op == CmpOp.In) = false := by cases op <;> first | rfl | exact absurd rfl h
  have e2 : (op == CmpOp.NotIn) = false := by cases op <;> first | rfl | exact absurd rfl h2
  cases b <;> simp [behindInMarks, e1, e2]
theorem pe_cmpR {op : CmpOp} {r : R2} (ho : OpR X (compareOp op) r) (ha : PE X a ta) (hb : PE X b tb) (hm : behindInMarks op b = false) : PE X (.Compare a [op] [b] pos) (tOp r ta tb) := by
  intro pins s σ H Q I h
  exact wpAny_Compare1 (binT ha hb I h fun v u s2 x y H2 I2 rx ry q => ho pins s2 σ H2 x y v u Q I2 rx ry q) hm
def tTest (t : TE) : TT := fun σ H Q => t σ H fun x H' => ∃ k, x = .bl k ∧ Q k H'
theorem pt_cmpR {op : CmpOp} {r : R2} (ho : OpR X (compareOp op) r) (ha : PE X a ta) (hb : PE X b tb) (hm : behindInMarks op b = false) : PT X (.Compare a [op] [b] pos) (tTest (tOp r ta tb)) := by
  intro pins s σ H Q I h
  refine wpAny_isTrue_Compare1 (thn (ha pins s σ H _ I h) fun v s1 ⟨x, H1, I1, r1, q1⟩ => thn (hb pins s1 σ H1 _ I1 q1) fun u s2 ⟨y, H2, I2, r2, q2⟩ =>
    thn (ho pins s2 σ H2 x y v u _ I2 r1 r2 q2) fun c s3 ⟨z, H3, I3, r3, k, e, q3⟩ => ?_) hm
  subst e
  cases r3
  exact wpAny_truthy_bool ⟨H3, I3, q3⟩
def tChain (r r' : R2) (ta tb tc : TE) : TE := fun σ H Q => ta σ H fun x H1 => tb σ H1 fun y H2 => r x y H2 fun z H3 => ∃ k, z = .bl k ∧
  (if k = true then tc σ H3 fun w' H4 => r' y w' H4 Q else Q (.bl false) H3)
theorem pt_chain {op op' : CmpOp} {r r' : R2} (ho : OpR X (compareOp op) r) (ho' : OpR X (compareOp op') r') (ha : PE X a ta) (hb : PE X b tb) (hc : PE X c tc)
    (hm : lastMarks [op, op'] [b, c] = false := by with_unfolding_all rfl) : PT X (.Compare a [op, op'] [b, c] pos) (tTest (tChain r r' ta tb tc)) := by
  intro pins s σ H Q I h
  refine isTrue_chain (thn (ha pins s σ H _ I h) fun v s1 ⟨x, H1, I1, r1, q1⟩ => test_link (thn (hb pins s1 σ H1 _ I1 q1) fun u s2 ⟨y, H2, I2, r2, q2⟩ =>
    thn (ho pins s2 σ H2 x y v u _ I2 r1 r2 q2) fun d s3 ⟨z, H3, I3, r3, k, e, q3⟩ => ?_)) hm
  subst e
  cases r3
  refine wpAny_truthy_bool ?_
  cases k with
  | false =>
    obtain ⟨k', e', q'⟩ := q3
    cases e'
    exact ite_ff ⟨H3, I3, q'⟩
  | true =>
    refine ite_tt (test_last (thn (hc pins s3 σ H3 _ I3 q3) fun w' s4 ⟨z', H4, I4, r4, q4⟩ => thn (ho' pins s4 σ H4 y z' u w' _ I4 r2 r4 q4) fun d' s5 ⟨z2, H5, I5, r5, k2, e2, q5⟩ => ?_))
    subst e2
    cases r5
    exact wpAny_truthy_bool ⟨H5, I5, q5⟩
def TruV (K : PySem.W.Frag) (x : V) (H : Hp) (k : Bool) : Prop :=
  match x with
  | .non => k = false
  | .bl b => k = b
  | .int i => k = (i != 0)
  | .str y => y.length ≤ sizeLine ∧ k = ((y.length : Int) != 0)
  | .byt y => y.size ≤ sizeLine ∧ k = ((y.size : Int) != 0)
  | .ref p => (∃ xs, SqL K H p xs ∧ k = !xs.isEmpty) ∨ (∃ xs, SqT K H p xs ∧ k = !xs.isEmpty) ∨ ∃ kvs, H p = some (.dK kvs) ∧ k = !kvs.isEmpty
  | _ => False
theorem isEmpty_kv {κ : Type} {kvs : List (κ × V)} {vs : List (κ × Value)} (r : KV kvs vs) : (!vs.isEmpty) = !kvs.isEmpty := by
  cases r <;> rfl
theorem isEmpty_of {xs : List V} {its : List Value} (r : Vals xs its) : (!its.toArray.isEmpty) = !xs.isEmpty := by
  cases r <;> simp
theorem line63 : (sizeLine : Nat) < 2 ^ 63 := by rw [sizeLine_eq]; decide
theorem tru_ok : TruR X (fun x H Q => ∃ k, TruV X.K x H k ∧ Q k H) := by
  intro pins s σ H x v Q I rx h
  obtain ⟨k, e, q⟩ := h
  have hl := line63
  have hs : sizeLine = 16777216 := sizeLine_eq
  cases x with
  | non =>
    cases rx
    have e' : k = false := e
    subst e'
    exact truthy_none ⟨H, I, q⟩
  | bl b =>
    cases rx
    have e' : k = b := e
    subst e'
    exact wpAny_truthy_bool ⟨H, I, q⟩
  | int i =>
    obtain ⟨t, rfl⟩ := rx
    have e' : k = (i != 0) := e
    subst e'
    exact PySem.P.truthy_int ⟨H, I, q⟩
  | str y =>
    obtain ⟨t, rfl⟩ := rx
    obtain ⟨hy, e'⟩ : y.length ≤ sizeLine ∧ k = ((y.length : Int) != 0) := e
    subst e'
    exact PySem.P.truthy_str (by omega) ⟨H, I.tok _, q⟩
  | byt y =>
    obtain ⟨t, rfl⟩ := rx
    obtain ⟨hy, e'⟩ : y.size ≤ sizeLine ∧ k = ((y.size : Int) != 0) := e
    subst e'
    exact PySem.W.truthy_bytes (by omega) ⟨H, I.tok _, q⟩
  | ref p =>
    cases rx
    have e' : (∃ xs, SqL X.K H p xs ∧ k = !xs.isEmpty) ∨ (∃ xs, SqT X.K H p xs ∧ k = !xs.isEmpty) ∨ ∃ kvs, H p = some (.dK kvs) ∧ k = !kvs.isEmpty := e
    rcases e' with ⟨xs, hx, e'⟩ | ⟨xs, hx, e'⟩ | ⟨kvs, hx, e'⟩
    · subst e'
      obtain ⟨its, r, pl, hz⟩ := I.list hx
      have hlen := r.length
      exact wpAny_truthy_list pl.isList (by simp only [List.size_toArray]; omega) ⟨H, I.tok _, by rw [isEmpty_of r]; exact q⟩
    · subst e'
      obtain ⟨its, r, pl, hz⟩ := I.tuple hx
      have hlen := r.length
      exact truthy_tuple pl (by simp only [List.size_toArray]; omega) ⟨H, I.tok _, by rw [isEmpty_of r]; exact q⟩
    · subst e'
      obtain ⟨hz, hS, vs, r, m⟩ : kvs.length ≤ sizeLine ∧ (p == sysModules) = false ∧ ∃ vs, KV kvs vs ∧ s.heap.DictOf (mixKind X.prog X.w) p vs := I.hok p _ hx
      have hlen : kvs.length = vs.length := Paired.length r
      exact wpAny_truthy_dict hS m (by omega) ⟨H, I.tok _, by rw [isEmpty_kv r]; exact q⟩
  | _ => exact (show False from e).elim
theorem pt_truth (ha : PE X a ta) (he : ∀ whole, isTrue a X.env whole = (do let v ← whole; standAt a.pos; holding [v] (truthy v))) :
    PT X a (fun σ H Q => ta σ H fun x H' => ∃ k, TruV X.K x H' k ∧ Q k H') := by
  intro pins s σ H Q I h
  exact isTrue_plain (thn (ha pins s σ H _ I h) fun v s1 ⟨x, H1, I1, r1, q1⟩ => tru_ok pins s1 σ H1 x v Q I1 r1 q1) (he _)
theorem vals1 {x : V} {us : List Value} (r : Vals [x] us) : ∃ u, us = [u] ∧ RelV x u := by
  cases r with
  | cons r1 r2 => cases r2; exact ⟨_, rfl, r1⟩
theorem vals2 {x y : V} {us : List Value} (r : Vals [x, y] us) : ∃ u w', us = [u, w'] ∧ RelV x u ∧ RelV y w' := by
  cases r with
  | cons r1 r2 =>
    cases r2 with
    | cons r3 r4 => cases r4; exact ⟨_, _, rfl, r1, r3⟩
end
end L2
namespace L2
open PySem PySem.Spec PyProof.Rows
structure ObjM (h : Heap) (x dx C : Addr) (mA : Str → Option Value) : Prop where
  obj : h.get? x = some (PySem.W.instObj C dx)
  ns : h.Ns1 dx mA
  ne : dx ≠ x
theorem lookIn_ns {h : Heap} {dx : Addr} {mA : Str → Option Value} (n : h.Ns1 dx mA) : ∃ od, h.get? dx = some od ∧ ∀ name, PySem.W.lookIn name od = some (mA name) := by
  obtain ⟨o, es, ep, ho, hd, hk, _, hm⟩ := n
  refine ⟨o, ho, fun name => ?_⟩
  have e := hm name
  unfold nsFind findBy at e
  rw [← Array.find?_toList] at e
  unfold PySem.W.lookIn
  rw [hd]
  dsimp only
  split
  · rename_i y q
    rw [q] at e
    exact congrArg some e
  · rename_i q
    rw [q] at e
    have a : es.toList.any (·.refKey) = false := by
      rw [List.any_eq_false]
      intro y hy
      obtain ⟨z, t, hkey⟩ := hk y (Array.mem_toList_iff.mp hy)
      simp [DictEntry.refKey, hkey]
    have a' : ¬ es.toList.any (·.refKey) = true := by rw [a]; exact Bool.false_ne_true
    rw [if_neg a']
    exact congrArg some e
theorem ObjM.look {h : Heap} {x dx C : Addr} {mA : Str → Option Value} (I : ObjM h x dx C mA) : ∃ od, PySem.W.InstAt h x (PySem.W.instObj C dx) C (some od) ∧ ∀ name, PySem.W.lookIn name od = some (mA name) :=
  let ⟨od, ho, hl⟩ := lookIn_ns I.ns
  ⟨od, ⟨I.obj, rfl, rfl, ho⟩, hl⟩
section
variable {prog : Program} {w : World} {A : Around} {E : Value → Shared → Prop} {s : Shared} {K : PySem.W.Frag} {x dx C f : Addr} {mA : Str → Option Value} {name : Str} {v : Value}
theorem get_map {expr : Bool} {Q : Value → Shared → Prop} (X : K.In s.heap) (I : ObjM s.heap x dx C mA) (hg : PySem.W.plainGet K C name = true) (hh : PySem.W.hasDictIn K C = true)
    (ha : PySem.W.findIn K (.ref C) name = some none) (hv : mA name = some v) (hv' : PySem.W.handedIn v = true) (h : Q v { s with toks := s.toks + 1 }) :
    wpAny (model prog w) A (getAttr (.ref x) name expr) Q E s := by
  obtain ⟨od, J, hl⟩ := I.look
  exact PySem.W.get_value X J (PySem.W.plainGet_of hg).1 (PySem.W.findObj_own hh ha rfl (by rw [hl, hv])) hv' h
theorem set_map {ns : List Str} {Q : Unit → Shared → Prop} (X : K.In s.heap) (I : ObjM s.heap x dx C mA)
    (hs : PySem.W.findIn K (.ref C) "__setattr__" = some (some (.builtin "object.__setattr__"))) (hp : PySem.W.plainOver K C = true) (ht : PySem.W.takerIn K C name = some none) (hh : PySem.W.hasDictIn K C = true)
    (hw : PySem.Within mA ns) (hsz : ns.length ≤ sizeLine)
    (h : ∀ h', ObjM h' x dx C (fun y => if y = name then some v else mA y) → Heap.SameBut dx s.heap h' → Q () { s with heap := h', toks := s.toks + 2 }) :
    wpAny (model prog w) A (setAttr (.ref x) name v) Q E s := by
  obtain ⟨od, J, hl⟩ := I.look
  refine PySem.W.set_plain X J hs (PySem.W.osa_open (s := { s with toks := s.toks + 1 }) (r := none) X J hp ht fun b => ?_)
  obtain ⟨cd, hc, hd'⟩ := PySem.W.any_some hh
  have hx : s.heap.get? x = some ⟨.ref C, some dx, .plain, #[]⟩ := I.obj
  refine wpAny_bind (wpAny_pure (wpAny_bind (wpAny_bind (wpAny_loadPart hx (wpAny_bind (PySem.W.Looks.here (s := { s with toks := s.toks + 1 }) (PySem.W.looks_clsIn X hc) ?_))))))
  rw [hd']
  refine wpAny_pure (a := some dx) (wpAny_bind (wpAny_pure (wpAny_bind ?_)))
  refine wpAny_nsSet1 (s := { s with toks := s.toks + 1 }) I.ns fun h' hn2 hs2 => ?_
  obtain ⟨oD, esD, epD, hoD, hdD, hcD⟩ := hn2.count (PySem.Within.cons name v hw)
  refine wpAny_bind (wpAny_lookBehind hoD (by rw [hdD]; exact pastItsLine_dict (Nat.le_trans hcD (by rw [List.length_cons]; omega))) ?_)
  exact wpAny_pure (h _ ⟨(hs2.2 _ (Ne.symm I.ne)).trans I.obj, hn2, I.ne⟩ hs2)
theorem make_map {R : Result → Shared → Prop} {vs : List Value} {kw : List (Str × Value)} (X : K.In s.heap) (hm : PySem.W.makesIn K C = true)
    (hi : PySem.W.findIn K (.ref C) "__init__" = some (some (.ref f))) (hf : PySem.W.typeIn K (.ref f) = some (.type "function"))
    (h : codeAny (model prog w) (A.under (.builtin "type.__call__" ⟨.ref C :: vs, kw⟩)) (.call (.ref f) ⟨.ref (s.heap.objs.size + 1) :: vs, kw⟩) (PySem.W.InitBack (s.heap.objs.size + 1) R)
      { s with heap := (s.heap.push PySem.W.emptyDict).push (PySem.W.instObj C s.heap.objs.size) }) :
    codeAny (model prog w) A (.call (.ref C) ⟨vs, kw⟩) R s := by
  obtain ⟨hh, g, d, t, os⟩ := s
  exact PySem.W.make_core (PySem.W.makes_of X hm) (PySem.W.looks_findIn X hi) (fun self => PySem.W.bind_fn X self hf) (.inl rfl) h
end
def putF (f : Str) (v : V) : List (Str × V) → List (Str × V)
  | [] => [(f, v)]
  | (g, x) :: r => if g = f then (g, v) :: r else (g, x) :: putF f v r
theorem lookup_putF (f g : Str) (v : V) : ∀ fs : List (Str × V), (putF f v fs).lookup g = if g = f then some v else fs.lookup g
  | [] => by
    show List.lookup g [(f, v)] = _
    by_cases h : g = f
    · have hb : (g == f) = true := beq_iff_eq.mpr h
      simp only [List.lookup, hb, if_pos h]
    · have hb : (g == f) = false := beq_eq_false_iff_ne.mpr h
      simp only [List.lookup, hb, if_neg h]
  | (k, x) :: r => by
    have ih := lookup_putF f g v r
    rw [show putF f v ((k, x) :: r) = (if k = f then (k, v) :: r else (k, x) :: putF f v r) from rfl]
    by_cases hk : k = f
    · rw [if_pos hk]
      by_cases h : g = k
      · have hb : (g == k) = true := beq_iff_eq.mpr h
        simp only [List.lookup, hb, if_pos (h.trans hk)]
      · have hb : (g == k) = false := beq_eq_false_iff_ne.mpr h
        simp only [List.lookup, hb, if_neg (fun e : g = f => h (e.trans hk.symm))]
    · rw [if_neg hk]
      by_cases h : g = k
      · have hb : (g == k) = true := beq_iff_eq.mpr h
        simp only [List.lookup, hb, if_neg (fun e : g = f => hk (h.symm.trans e))]
      · have hb : (g == k) = false := beq_eq_false_iff_ne.mpr h
        simp only [List.lookup, hb]
        exact ih
theorem keys_putF (f : Str) (v : V) : ∀ fs : List (Str × V), f ∈ (putF f v fs).map (·.1) ∧ ∀ g, g ∈ fs.map (·.1) → g ∈ (putF f v fs).map (·.1)
  | [] => ⟨by simp [putF], fun g h => by simp at h⟩
  | (k, x) :: r => by
    obtain ⟨i1, i2⟩ := keys_putF f v r
    rw [show putF f v ((k, x) :: r) = (if k = f then (k, v) :: r else (k, x) :: putF f v r) from rfl]
    by_cases hk : k = f
    · rw [if_pos hk]
      subst hk
      exact ⟨by simp, fun g h => by simpa using h⟩
    · rw [if_neg hk]
      refine ⟨?_, fun g h => ?_⟩
      · rw [List.map_cons]
        exact List.mem_cons_of_mem _ i1
      · rw [List.map_cons] at h ⊢
        rcases List.mem_cons.mp h with e | e
        · exact List.mem_cons.mpr (.inl e)
        · exact List.mem_cons_of_mem _ (i2 g e)
theorem length_putF (f : Str) (v : V) : ∀ fs : List (Str × V), (putF f v fs).length ≤ fs.length + 1
  | [] => by simp [putF]
  | (k, x) :: r => by
    have ih := length_putF f v r
    rw [show putF f v ((k, x) :: r) = (if k = f then (k, v) :: r else (k, x) :: putF f v r) from rfl]
    by_cases hk : k = f
    · rw [if_pos hk, List.length_cons, List.length_cons]; omega
    · rw [if_neg hk, List.length_cons, List.length_cons]; omega
theorem RelO.some_of {v : V} {o : Option Value} (r : RelO (some v) o) : ∃ u, o = some u ∧ RelV v u := by
  cases o with
  | none => exact (show False from r).elim
  | some u => exact ⟨u, rfl, r⟩
theorem handed_of {v : V} {u : Value} (r : RelV v u) : PySem.W.handedIn u = true := by
  cases v with
  | non => cases (show u = Value.none from r); rfl
  | bl b => cases (show u = Value.bool b from r); rfl
  | int i => obtain ⟨t, e⟩ := (show ∃ t, u = Value.int i t from r); cases e; rfl
  | str x => obtain ⟨t, e⟩ := (show ∃ t, u = Value.str x t from r); cases e; rfl
  | byt b => obtain ⟨t, e⟩ := (show ∃ t, u = Value.bytes b t from r); cases e; rfl
  | flt b => obtain ⟨t, e⟩ := (show ∃ t, u = Value.float b t from r); cases e; rfl
  | ref a => cases (show u = Value.ref a from r); rfl
  | ty n => cases (show u = Value.type n from r); rfl
section
variable {P : Program} {w : World} {H H' : Hp} {h h' : Heap} {a C dx : Addr} {fs fs' : List (Str × V)}
theorem ins_get (hok : HOk P w H h) (e : H a = some (.ins C dx fs)) : ∃ mA, ObjM h a dx C mA ∧ (∀ f, RelO (fs.lookup f) (mA f)) ∧ PySem.Within mA (fs.map (·.1)) ∧ fs.length ≤ 1000 ∧ H dx = some (.own a) := by
  obtain ⟨d, z, ne, ob, mA, n, r, q⟩ := (show ObjOk P w H h a (.ins C dx fs) from hok a _ e)
  exact ⟨mA, ⟨ob, n, ne⟩, r, q, z, d⟩
end
structure Cls (K : PySem.W.Frag) (C : Addr) : Prop where
  pg : PySem.W.plainGet K C Str.empty = true
  hd : PySem.W.hasDictIn K C = true
  po : PySem.W.plainOver K C = true
  sa : PySem.W.findIn K (.ref C) "__setattr__" = some (some (.builtin "object.__setattr__"))
theorem Cls.get {K : PySem.W.Frag} {C : Addr} (c : Cls K C) (f : Str) : PySem.W.plainGet K C f = true := c.pg
def NoAttr (K : PySem.W.Frag) (C : Addr) (f : Str) : Prop := PySem.W.findIn K (.ref C) f = some none
theorem NoAttr.taker {K : PySem.W.Frag} {C : Addr} {f : Str} (n : NoAttr K C f) : PySem.W.takerIn K C f = some none := by
  unfold PySem.W.takerIn
  rw [show PySem.W.findIn K (.ref C) f = some none from n]
  rfl
section
variable {X : Cx} {pins : List (Addr × Obj)} {σ : St} {H : Hp} {s : Shared} {a C dx : Addr} {fs : List (Str × V)} {f : Str} {v : V} {A : Around} {E : Value → Shared → Prop}
theorem getattr_ok {b : Bool} {Q : Value → Shared → Prop} (I : Inv X pins σ H s) (e : H a = some (.ins C dx fs)) (c : Cls X.K C) (n : NoAttr X.K C f) (l : fs.lookup f = some v)
    (h : ∀ u s', Inv X pins σ H s' → RelV v u → Q u s') : wpAny (model X.prog X.w) A (getAttr (.ref a) f b) Q E s := by
  obtain ⟨mA, O, r, _, _, _⟩ := ins_get I.hok e
  obtain ⟨u, hu, ru⟩ := RelO.some_of (v := v) (o := mA f) (by rw [← l]; exact r f)
  exact get_map I.kIn O (c.get f) c.hd n hu (handed_of ru) (h u _ (I.tok _) ru)
theorem setattr_ok {y : V} {u : Value} {Q : Unit → Shared → Prop} (I : Inv X pins σ H s) (e : H a = some (.ins C dx fs)) (c : Cls X.K C) (n : NoAttr X.K C f) (hl : fs.length < 1000) (ry : RelV y u)
    (h : ∀ s', Inv X pins σ (upd H a (.ins C dx (putF f y fs))) s' → Q () s') : wpAny (model X.prog X.w) A (setAttr (.ref a) f u) Q E s := by
  obtain ⟨mA, O, r, wi, _, ho⟩ := ins_get I.hok e
  have hz : (fs.map (·.1)).length ≤ sizeLine := by rw [List.length_map, sizeLine_eq]; omega
  refine set_map I.kIn O c.sa c.po n.taker c.hd wi hz fun h' O' sb => h _ ?_
  have hd : ∃ o, h'.get? dx = some o := let ⟨o, _, _, e', _⟩ := O'.ns; ⟨o, e'⟩
  refine I.write (x := a) (e := dx) (by rw [e]; exact True.intro) (.inr ho) (fun b q hb z => (sb.2 b hb).trans z) hd ?_
  refine ⟨by rw [upd_ne O.ne]; exact ho, ?_, O.ne, O'.obj, _, O'.ns, fun g => ?_, fun g hg => ?_⟩
  · have := length_putF f y fs; omega
  · show RelO ((putF f y fs).lookup g) (if g = f then some u else mA g)
    rw [lookup_putF]
    by_cases q : g = f
    · rw [if_pos q, if_pos q]; exact ry
    · rw [if_neg q, if_neg q]; exact r g
  · by_cases q : g = f
    · rw [q]; exact (keys_putF f y fs).1
    · refine (keys_putF f y fs).2 g (wi g fun z => hg ?_)
      show (if g = f then some u else mA g) = none
      rw [if_neg q]; exact z
theorem Inv.made (I : Inv X pins σ H s) : Inv X pins σ (upd (upd H s.heap.objs.size (.own (s.heap.objs.size + 1))) (s.heap.objs.size + 1) (.ins C s.heap.objs.size []))
    { s with heap := (s.heap.push PySem.W.emptyDict).push (PySem.W.instObj C s.heap.objs.size) } := by
  have e1 : (s.heap.push PySem.W.emptyDict).get? s.heap.objs.size = some PySem.W.emptyDict := Heap.get?_push_size s.heap rfl
  have e2 : ((s.heap.push PySem.W.emptyDict).push (PySem.W.instObj C s.heap.objs.size)).get? (s.heap.objs.size + 1) = some (PySem.W.instObj C s.heap.objs.size) := by
    have := Heap.get?_push_size (s.heap.push PySem.W.emptyDict) (o := PySem.W.instObj C s.heap.objs.size) rfl
    rwa [Heap.size_push] at this
  have e3 : (s.heap.push PySem.W.emptyDict).Ns s.heap.objs.size (fun _ => none) := ⟨PySem.W.emptyDict, #[], _, e1, rfl, (fun e he => absurd he (by simp)), fun _ => rfl⟩
  have I1 := I.laid (a := s.heap.objs.size) (o := .own (s.heap.objs.size + 1)) (h' := s.heap.push PySem.W.emptyDict) (t' := s.toks) (fun b u q => Heap.get?_push_of_some _ q) (Nat.le_refl _) ⟨_, e1⟩
  refine I1.laid (a := s.heap.objs.size + 1) (o := .ins C s.heap.objs.size []) (t' := s.toks) (fun b u q => Heap.get?_push_of_some _ q) (Nat.le_of_eq (Heap.size_push _ _)) ?_
  have ne : s.heap.objs.size ≠ s.heap.objs.size + 1 := Nat.ne_of_lt (Nat.lt_succ_self _)
  refine ⟨by rw [upd_ne ne, upd_same], Nat.zero_le _, ne, e2, fun _ => none, (Heap.Ns1.of_empty e3).at fun o q => Heap.get?_push_of_some _ q, fun _ => True.intro, fun y hy => absurd rfl hy⟩
theorem attr_of {prog : Program} {w : World} {env : Env} {e : Expr} {f : Str} {pos : Pos} {s : Shared} {Q : Value → Shared → Prop} (hb : attributeBase e f env (eval e env) = eval e env)
    (h : wpAny (model prog w) A (eval e env) (fun o s₁ => wpAny (model prog w) A (getAttr o f true) Q E s₁) E s) : wpAny (model prog w) A (eval (.Attribute e f pos) env) Q E s :=
  Attribute_any_ h (by rw [arm_eval_Attribute, hb])
end
def tFld (K : PySem.W.Frag) (ta : TE) (f : Str) : TE := fun σ H Q => ta σ H fun x H1 => ∃ a C dx fs v, x = .ref a ∧ H1 a = some (.ins C dx fs) ∧ Cls K C ∧ NoAttr K C f ∧ fs.lookup f = some v ∧ Q v H1
def sFld (K : PySem.W.Frag) (ta tv : TE) (f : Str) : TS := fun D σ H => tv σ H fun y H1 => ta σ H1 fun x H2 => ∃ a C dx fs, x = .ref a ∧ H2 a = some (.ins C dx fs) ∧ Cls K C ∧ NoAttr K C f ∧ fs.length < 1000 ∧
  D.nx σ (upd H2 a (.ins C dx (putF f y fs)))
section
variable {X : Cx} {o e value : Expr} {f : Str} {pos pos' tpos : Pos} {ta tv : TE}
theorem pe_fld (he : PE X e ta) (hb : attributeBase e f X.env (eval e X.env) = eval e X.env) : PE X (.Attribute e f pos) (tFld X.K ta f) := by
  intro pins s σ H Q I h
  refine attr_of hb (thn (he pins s σ H _ I h) fun u s1 ⟨x, H1, I1, rx, a, C, dx, fs, v, ex, ea, c, n, l, q⟩ => ?_)
  subst ex
  obtain rfl : u = Value.ref a := rx
  exact getattr_ok I1 ea c n l fun u' s2 I2 ru => ⟨v, H1, I2, ru, q⟩
theorem ps_fld (ha : PE X o ta) (hv : PE X value tv) (hs : swapsWith value (some (.Attribute o f pos')) pos.line X.env = pure false) : PS X (.Assign [.Attribute o f pos'] value pos) (sFld X.K ta tv f) := by
  intro pins s σ H D I h
  refine plainObj_wpAny_Assign_Attribute (thn (hv pins s σ H _ I h) fun u s1 ⟨y, H1, I1, ry, q⟩ => thn (ha pins s1 σ H1 _ I1 q) fun ov s2 ⟨x, H2, I2, rx, a, C, dx, fs, ex, ea, c, n, l, q2⟩ => ?_) hs
  subst ex
  obtain rfl : ov = Value.ref a := rx
  exact setattr_ok I2 ea c n l ry fun s3 I3 => ⟨σ, _, I3, q2⟩
end
end L2
namespace L2
open PySem PySem.Spec PyProof.Rows
structure Room (k : Nat) (A : Around) : Prop where
  hd : A.handled = none
  dp : A.depth + 3 * k + 5 < recursionLimit
  un : A.units + 16 * k + 200 < cLine
theorem Room.mono {j k : Nat} {A : Around} (r : Room k A) (h : j ≤ k) : Room j A := ⟨r.hd, by have := r.dp; omega, by have := r.un; omega⟩
theorem Room.deeper {k : Nat} {A : Around} (r : Room (k + 1) A) (env : Env) : Room k (A.deeper env) :=
  ⟨r.hd, by have := r.dp; show A.depth + 1 + 3 * k + 5 < _; omega, by have := r.un; show A.units + 3 + 16 * k + 200 < _; omega⟩
theorem make_depth {A : Around} {C : Addr} {us : List Value} {kw : List (Str × Value)} : (A.under (.builtin "type.__call__" ⟨.ref C :: us, kw⟩)).depth = A.depth + 1 := by
  first | rfl | simp [Around.under, Code.weight, Code.isCreation, Code.isGuard, Code.isCaller, Code.frames, Code.isFrame, guardIds]
theorem make_units {A : Around} {C : Addr} {us : List Value} {kw : List (Str × Value)} : (A.under (.builtin "type.__call__" ⟨.ref C :: us, kw⟩)).units = A.units + 1 := by
  first | rfl | simp [Around.under, Code.cUnits, Code.frames, Code.isFrame]
theorem Room.make {k : Nat} {A : Around} (r : Room (k + 1) A) (C : Addr) (us : List Value) (kw : List (Str × Value)) : Room k (A.under (.builtin "type.__call__" ⟨.ref C :: us, kw⟩)) :=
  ⟨r.hd, by have := r.dp; rw [make_depth]; omega, by have := r.un; rw [make_units]; omega⟩
theorem Room.depth {k : Nat} {A : Around} (r : Room k A) : A.depth < recursionLimit := by have := r.dp; omega
theorem Room.units {k : Nat} {A : Around} (r : Room k A) : A.units + 64 < cLine := by have := r.un; omega
def tNil : TA := fun _ H Q => Q [] H
def tCons (ta : TE) (tr : TA) : TA := fun σ H Q => ta σ H fun x H1 => tr σ H1 fun xs H2 => Q (x :: xs) H2
section
variable {X : Cx} {e : Expr} {es : List Expr} {te : TE} {t : TA} {pos : Pos}
theorem pa_nil : PA X [] tNil := fun _ _ _ _ H Q I h => Calls.spliced_nil ⟨[], H, I, .nil, h⟩
theorem pa_cons (ha : PE X e te) (hr : PA X es t) (hs : starEach (e :: es) X.env = (false, eval e X.env) :: starEach es X.env := by rfl) : PA X (e :: es) (tCons te t) := by
  intro pos pins s σ H Q I h
  rw [hs]
  show wpAny _ _ (spliced ((false, eval e X.env) :: backTo pos (starEach es X.env))) _ _ s
  refine Calls.spliced_cons (thn (ha pins s σ H _ I h) fun u s1 ⟨x, H1, I1, r1, q1⟩ => ?_)
  exact thn (hr pos pins s1 σ H1 _ I1 q1) fun us s2 ⟨xs, H2, I2, r2, q2⟩ => ⟨x :: xs, H2, I2, .cons r1 r2, q2⟩
def tTup (t : TA) : TE := fun σ H Q => t σ H fun xs H1 => xs.length ≤ sizeLine ∧ ∀ p, H1 p = none → Q (.ref p) (upd H1 p (.tup xs))
def tLst (t : TA) : TE := fun σ H Q => t σ H fun xs H1 => xs.length ≤ sizeLine ∧ ∀ p, H1 p = none → Q (.ref p) (upd H1 p (.lst xs))
theorem pe_tup {x1} (h : PA X es t) : PE X (.Tuple es x1 pos) (tTup t) := by
  intro pins s σ H Q I hq
  refine wpAny_Tuple_spliced (thn (h pos pins s σ H _ I hq) fun us s1 ⟨xs, H1, I1, r, z, q⟩ => ⟨by rw [← r.length]; exact z, ?_⟩)
  have hf : H1 s1.heap.objs.size = none := I1.hok.fresh (Nat.le_refl _)
  refine ⟨.ref s1.heap.objs.size, upd H1 s1.heap.objs.size (.tup xs), I1.laid (t' := s1.toks) (fun b u e => Heap.get?_push_of_some _ e) (Nat.le_refl _) ?_, rfl, q _ hf⟩
  exact ⟨z, us, r, ⟨_, Heap.get?_push_size _ rfl, rfl, _, rfl⟩⟩
theorem pe_lst (h : PA X es t) : PE X (.List es pos) (tLst t) := by
  intro pins s σ H Q I hq
  refine wpAny_List_spliced (thn (h pos pins s σ H _ I hq) fun us s1 ⟨xs, H1, I1, r, z, q⟩ => ⟨by rw [← r.length]; exact z, ?_⟩)
  have hf : H1 s1.heap.objs.size = none := I1.hok.fresh (Nat.le_refl _)
  refine ⟨.ref s1.heap.objs.size, upd H1 s1.heap.objs.size (.lst xs), I1.laid (t' := s1.toks) (fun b u e => Heap.get?_push_of_some _ e) (Nat.le_refl _) ?_, rfl, q _ hf⟩
  exact ⟨z, us, 0, r, Heap.get?_push_size _ rfl⟩
end
abbrev Sp := List V → Hp → VK → XK → Prop
abbrev CXT := List Env → Hp → Shared → XK → Value → Shared → Prop
structure Env0 (P : Program) (w : World) (K : PySem.W.Frag) (mg : Str → Option Value) (base : Heap) (A : Around) (outer : List Env) (s : Shared) (H : Hp) : Prop where
  frames : A.frames = some outer
  mod : Mod K mg base
  bs : ∀ b o, base.get? b = some o → s.heap.get? b = some o ∧ H b = none
  bsz : base.objs.size ≤ s.heap.objs.size
  funs : s.heap.FunFrames base outer
  frf : ∀ b ∈ frs outer, H b = none
  hok : HOk P w H s.heap
  bare : AllBare s.gens
def CE (outer : List Env) (P : Program) (w : World) (H : Hp) (s : Shared) (Q : VK) (u : Value) (s' : Shared) : Prop :=
  ∃ v H', s'.os = s.os ∧ AllBare s'.gens ∧ Un (frs outer) [] H H' s.heap s'.heap ∧ HOk P w H' s'.heap ∧ RelV v u ∧ Q v H'
def CR (CX : CXT) (outer : List Env) (P : Program) (w : World) (H : Hp) (s : Shared) (Q : VK) (E : XK) (r : Result) (s' : Shared) : Prop :=
  match r with
  | .ok (.ret u) => CE outer P w H s Q u s'
  | .ok _ => False
  | .error e => CX outer H s E e s'
structure FnOk (P : Program) (w : World) (K : PySem.W.Frag) (mg : Str → Option Value) (base : Heap) (CX : CXT) (k : Nat) (f : Addr) (fd : FuncData) (ps : List Str) (sp : Sp) : Prop where
  len : ∀ vs H Q E, sp vs H Q E → vs.length = ps.length
  run : ∀ (A : Around) (outer : List Env) (s : Shared) (H : Hp) (args : Args) (us : List Value) (vs : List V) (Q : VK) (E : XK), Room k A → Env0 P w K mg base A outer s H → BindsTo s fd args (ps.zip us) → Vals vs us → sp vs H Q E →
    codeAny (model P w) A (.call (.ref f) args) (CR CX outer P w H s Q E) s
theorem FnOk.mono {P : Program} {w : World} {K : PySem.W.Frag} {mg : Str → Option Value} {base : Heap} {CX : CXT} {j k : Nat} {f : Addr} {fd : FuncData} {ps : List Str} {sp : Sp} (F : FnOk P w K mg base CX j f fd ps sp) (h : j ≤ k) :
    FnOk P w K mg base CX k f fd ps sp := ⟨F.len, fun A outer s H args us vs Q E hr => F.run A outer s H args us vs Q E (hr.mono h)⟩
theorem Env0.make {P : Program} {w : World} {K : PySem.W.Frag} {mg : Str → Option Value} {base : Heap} {A : Around} {outer : List Env} {s : Shared} {H : Hp} (e : Env0 P w K mg base A outer s H) (C : Addr) (us : List Value) (kw : List (Str × Value)) :
    Env0 P w K mg base (A.under (.builtin "type.__call__" ⟨.ref C :: us, kw⟩)) outer s H := ⟨by first | exact e.frames | (simpa [Around.under, Code.envs, Code.isFrame, pushEnvs] using e.frames), e.mod, e.bs, e.bsz, e.funs, e.frf, e.hok, e.bare⟩
section
variable {X : Cx} {pins : List (Addr × Obj)} {σ : St} {H : Hp} {s s' : Shared}
theorem Inv.env0 (I : Inv X pins σ H s) : Env0 X.prog X.w X.K X.mg X.base X.A X.stack s H :=
  ⟨I.ok.frames, I.ok.mod, I.bs, Nat.le_trans I.ok.bsz I.sz, I.stack, I.stkFree, I.hok, I.bare⟩
theorem Inv.after {Q : VK} {u : Value} (I : Inv X pins σ H s) (h : CE X.stack X.prog X.w H s Q u s') : EP X pins σ Q u s' := by
  obtain ⟨v, H', os, bare, un, hok, r, q⟩ := h
  obtain ⟨hh, g, d, t, os'⟩ := s'
  obtain rfl : os' = s.os := os
  exact ⟨v, H', I.call (h' := hh) (g' := g) (d' := d) (t' := t) (ch := []) un hok bare (fun b z => absurd z (by simp)), r, q⟩
end
def tCall (sp : Sp) (dvs : List V) (E : XK) (t : TA) : TE := fun σ H Q => t σ H fun vs H1 => sp (vs ++ dvs) H1 Q E
def tMake (C : Addr) (sp : Sp) (dvs : List V) (E : XK) (t : TA) : TE := fun σ H Q => t σ H fun vs H1 => ∀ x dx, H1 x = none → H1 dx = none → dx ≠ x →
  sp (.ref x :: (vs ++ dvs)) (upd (upd H1 dx (.own x)) x (.ins C dx [])) (fun v H2 => v = .non ∧ Q (.ref x) H2) E
def Binds (K : PySem.W.Frag) (fd : FuncData) (ps : List Str) (ds : List Value) : Prop :=
  ∀ (s : Shared) (us : List Value), K.In s.heap → (us ++ ds).length = ps.length → BindsTo s fd ⟨us, []⟩ (ps.zip (us ++ ds))
theorem Binds.all {K : PySem.W.Frag} {fd : FuncData} {ps : List Str} (h : ∀ us : List Value, us.length = ps.length → bindArgs fd ⟨us, []⟩ = pure (ps.zip us)) : Binds K fd ps [] := fun s us _ hl => by
  rw [List.append_nil] at hl ⊢
  exact .of_eq (h us hl)
def Passes (CX : CXT) (X : Cx) (E : XK) : Prop := ∀ (pins : List (Addr × Obj)) (σ : St) (H : Hp) (s : Shared) (e : Value) (s' : Shared), Inv X pins σ H s → CX X.stack H s E e s' → X.xe e s'
section
variable {X : Cx} {CX : CXT} {k : Nat} {f C : Addr} {fd : FuncData} {ps : List Str} {sp : Sp} {dvs : List V} {ds : List Value} {E : XK} {x m : Str} {p pos apos : Pos} {e o : Expr} {es : List Expr} {ta : TE} {t : TA}
theorem run_fn {pins : List (Addr × Obj)} {σ : St} {H : Hp} {s : Shared} {Q : VK} {us : List Value} {vs : List V} (F : FnOk X.prog X.w X.K X.mg X.base CX k f fd ps sp) (hr : Room k X.A) (hb : Binds X.K fd ps ds) (hd : Vals dvs ds) (hx : Passes CX X E)
    (I : Inv X pins σ H s) (r : Vals vs us) (h : sp (vs ++ dvs) H Q E) : wpAny (model X.prog X.w) X.A (call (.ref f) us) (EP X pins σ Q) X.xe s := by
  have r2 : Vals (vs ++ dvs) (us ++ ds) := r.append hd
  have hl : (us ++ ds).length = ps.length := by rw [← r2.length]; exact F.len _ _ _ _ h
  refine wpAny_call (codeAny_mono (F.run X.A X.stack s H ⟨us, []⟩ (us ++ ds) (vs ++ dvs) Q E hr I.env0 (hb s us I.kIn hl) r2 h) fun r s' hq => ?_)
  cases r with
  | error e => exact hx pins σ H s e s' I hq
  | ok fl =>
    cases fl with
    | ret u => exact I.after hq
    | next => exact False.elim hq
    | brk => exact False.elim hq
    | cont => exact False.elim hq
theorem pe_call (F : FnOk X.prog X.w X.K X.mg X.base CX k f fd ps sp) (hr : Room k X.A) (hg : Gl X x) (hm : X.mg x = some (.ref f)) (hk : PySem.W.keepIn X.K (.ref f) = true) (hb : Binds X.K fd ps ds) (hd : Vals dvs ds) (hx : Passes CX X E)
    (ha : PA X (e :: es) t) (hdb : (x == ("__debug__" : Str)) = false := by decide) (he : starEach (e :: es) X.env = (false, eval e X.env) :: starEach es X.env := by rfl) (hpl : (backTo pos (starEach es X.env)).any (·.1) = false := by rfl) :
    PE X (.Call (.Name x p) (e :: es) [] pos) (tCall sp dvs E t) := by
  intro pins s σ H Q I h
  refine wpAny_Call_Name_kw (ld_glob I hg hm ?_ hdb)
  refine PySem.W.callWith_K (h₀ := X.base) I.ok.mod.kin hk (thn (ha pos pins s σ H _ I h) fun us s1 ⟨vs, H1, I1, r, q⟩ => ⟨I1.kIn, ?_⟩) he hpl
  exact run_fn F hr hb hd hx I1 r q
structure Mk (K : PySem.W.Frag) (C f : Addr) : Prop where
  makes : PySem.W.makesIn K C = true
  init : PySem.W.findIn K (.ref C) "__init__" = some (some (.ref f))
  fn : PySem.W.isFn K (.ref f) = true
  kp : PySem.W.keepIn K (.ref C) = true
theorem run_make {pins : List (Addr × Obj)} {σ : St} {H : Hp} {s : Shared} {Q : VK} {us : List Value} {vs : List V} (M : Mk X.K C f) (F : FnOk X.prog X.w X.K X.mg X.base CX k f fd ps sp) (hr : Room (k + 1) X.A) (hb : Binds X.K fd ps ds) (hd : Vals dvs ds)
    (hx : Passes CX X E) (I : Inv X pins σ H s) (r : Vals vs us)
    (h : ∀ x dx, H x = none → H dx = none → dx ≠ x → sp (.ref x :: (vs ++ dvs)) (upd (upd H dx (.own x)) x (.ins C dx [])) (fun v H2 => v = .non ∧ Q (.ref x) H2) E) :
    wpAny (model X.prog X.w) X.A (call (.ref C) us) (EP X pins σ Q) X.xe s := by
  have hq := h (s.heap.objs.size + 1) s.heap.objs.size (I.hok.fresh (Nat.le_succ _)) (I.hok.fresh (Nat.le_refl _)) (Nat.ne_of_lt (Nat.lt_succ_self _))
  have I2 := Inv.made (C := C) I
  have r2 : Vals (V.ref (s.heap.objs.size + 1) :: (vs ++ dvs)) (Value.ref (s.heap.objs.size + 1) :: (us ++ ds)) := .cons rfl (r.append hd)
  have hl : (Value.ref (s.heap.objs.size + 1) :: us ++ ds).length = ps.length := by
    have e := r2.length
    rw [F.len _ _ _ _ hq] at e
    exact e.symm
  refine wpAny_call (make_map (f := f) I.kIn M.makes M.init (beq_iff_eq.mp M.fn) (codeAny_mono (F.run _ X.stack _ _ ⟨Value.ref (s.heap.objs.size + 1) :: us, []⟩ (Value.ref (s.heap.objs.size + 1) :: (us ++ ds)) _ _ E (hr.make C us [])
    (I2.env0.make C us []) (hb _ (Value.ref (s.heap.objs.size + 1) :: us) I2.kIn hl) r2 hq) fun r s' hq' => ?_))
  cases r with
  | error e => exact hx pins σ _ _ e s' I2 hq'
  | ok fl =>
    cases fl with
    | ret u =>
      obtain ⟨v, H', I3, rv, ev, q3⟩ := I2.after hq'
      subst ev
      exact ⟨rv, ⟨V.ref (s.heap.objs.size + 1), H', I3, rfl, q3⟩⟩
    | next => exact False.elim hq'
    | brk => exact False.elim hq'
    | cont => exact False.elim hq'
theorem pe_make (M : Mk X.K C f) (F : FnOk X.prog X.w X.K X.mg X.base CX k f fd ps sp) (hr : Room (k + 1) X.A) (hg : Gl X x) (hm : X.mg x = some (.ref C)) (hb : Binds X.K fd ps ds) (hd : Vals dvs ds) (hx : Passes CX X E)
    (ha : PA X (e :: es) t) (hdb : (x == ("__debug__" : Str)) = false := by decide) (he : starEach (e :: es) X.env = (false, eval e X.env) :: starEach es X.env := by rfl) (hpl : (backTo pos (starEach es X.env)).any (·.1) = false := by rfl) :
    PE X (.Call (.Name x p) (e :: es) [] pos) (tMake C sp dvs E t) := by
  intro pins s σ H Q I h
  refine wpAny_Call_Name_kw (ld_glob I hg hm ?_ hdb)
  refine PySem.W.callWith_K (h₀ := X.base) I.ok.mod.kin M.kp (thn (ha pos pins s σ H _ I h) fun us s1 ⟨vs, H1, I1, r, q⟩ => ⟨I1.kIn, ?_⟩) he hpl
  exact run_make M F hr hb hd hx I1 r q
theorem pe_make0 (M : Mk X.K C f) (F : FnOk X.prog X.w X.K X.mg X.base CX k f fd ps sp) (hr : Room (k + 1) X.A) (hg : Gl X x) (hm : X.mg x = some (.ref C)) (hb : Binds X.K fd ps ds) (hd : Vals dvs ds) (hx : Passes CX X E)
    (hdb : (x == ("__debug__" : Str)) = false := by decide) : PE X (.Call (.Name x p) [] [] pos) (tMake C sp dvs E tNil) := by
  intro pins s σ H Q I h
  refine wpAny_Call_Name_kw (ld_glob I hg hm ?_ hdb)
  exact PySem.W.callWith_K0 I.kIn M.kp (run_make (us := []) M F hr hb hd hx I .nil h)
end
structure FnScope (N P : List Str) (sc : Scope) : Prop where
  kind : sc.kind = .function
  co : sc.isCoroutine = false
  gen : sc.isGenerator = false
  nd : N.Nodup
  pre : N.take P.length = P
  par : ∀ x ∈ P, sc.names.lookup x = some .local ∨ sc.names.lookup x = some .cell
  nofree : ∀ y ∈ sc.names, y.2 ≠ .free
theorem bindL_out {kindOf : Str → Option NameKind} {x : Str} : ∀ {binds : List (Str × Value)} {m : Str → Option Value}, (∀ v, (x, v) ∉ binds) → bindL kindOf binds m x = m x
  | [], _, _ => rfl
  | (n, v) :: r, m, h => by
    unfold bindL
    rw [bindL_out fun w hw => h w (List.mem_cons_of_mem _ hw)]
    split
    · have : x ≠ n := by rintro rfl; exact h v List.mem_cons_self
      simp [this]
    · rfl
theorem bindC_out {kindOf : Str → Option NameKind} {x : Str} : ∀ {binds : List (Str × Value)} {m : Str → Option Value}, (∀ v, (x, v) ∉ binds) → bindC kindOf binds m x = m x
  | [], _, _ => rfl
  | (n, v) :: r, m, h => by
    unfold bindC
    rw [bindC_out fun w hw => h w (List.mem_cons_of_mem _ hw)]
    split
    · rfl
    · have : x ≠ n := by rintro rfl; exact h v List.mem_cons_self
      simp [this]
theorem bindL_get {kindOf : Str → Option NameKind} {x : Str} {v : Value} : ∀ {P : List Str} {vs : List Value} {i : Nat} {m : Str → Option Value}, P.Nodup → P[i]? = some x → vs[i]? = some v → kindOf x = some .local →
    bindL kindOf (P.zip vs) m x = some v
  | [], _, _, _, _, h, _, _ => by simp at h
  | _ :: _, [], _, _, _, _, h, _ => by simp at h
  | p :: P, w :: vs, 0, m, nd, h1, h2, hk => by
    simp at h1 h2; subst h1; subst h2
    show bindL kindOf ((p, w) :: P.zip vs) m p = _
    unfold bindL
    rw [bindL_out fun v hv => (List.nodup_cons.mp nd).1 (List.of_mem_zip hv).1, if_pos hk]
    simp
  | p :: P, w :: vs, i + 1, m, nd, h1, h2, hk => by
    show bindL kindOf ((p, w) :: P.zip vs) m x = _
    unfold bindL
    exact bindL_get (i := i) (List.nodup_cons.mp nd).2 (by simpa using h1) (by simpa using h2) hk
theorem bindC_get {kindOf : Str → Option NameKind} {x : Str} {v : Value} : ∀ {P : List Str} {vs : List Value} {i : Nat} {m : Str → Option Value}, P.Nodup → P[i]? = some x → vs[i]? = some v → kindOf x ≠ some .local →
    bindC kindOf (P.zip vs) m x = some v
  | [], _, _, _, _, h, _, _ => by simp at h
  | _ :: _, [], _, _, _, _, h, _ => by simp at h
  | p :: P, w :: vs, 0, m, nd, h1, h2, hk => by
    simp at h1 h2; subst h1; subst h2
    show bindC kindOf ((p, w) :: P.zip vs) m p = _
    unfold bindC
    rw [bindC_out fun v hv => (List.nodup_cons.mp nd).1 (List.of_mem_zip hv).1, if_neg hk]
    simp
  | p :: P, w :: vs, i + 1, m, nd, h1, h2, hk => by
    show bindC kindOf ((p, w) :: P.zip vs) m x = _
    unfold bindC
    exact bindC_get (i := i) (List.nodup_cons.mp nd).2 (by simpa using h1) (by simpa using h2) hk
def start (N : List Str) (vs : List V) : St := vs.map some ++ List.replicate (N.length - vs.length) none
def cxOf (CX : CXT) (P : Program) (w : World) (K : PySem.W.Frag) (mg : Str → Option Value) (base : Heap) (N : List Str) (qual : Str) (scope : Scope) (f : Addr) (cd : Value) (A : Around) (outer : List Env) (s : Shared) (H : Hp) (E : XK) : Cx where
  prog := P
  w := w
  K := K
  mg := mg
  base := base
  A := A.deeper (envOfC qual scope s.heap.objs.size f cd)
  N := N
  s_0 := s
  H_0 := H
  env := envOfC qual scope s.heap.objs.size f cd
  outer := outer
  stack := envOfC qual scope s.heap.objs.size f cd :: outer
  ex := []
  calm := true
  fn := fun _ => true
  pn := []
  xe := fun e s' => wpAny (model P w) (A.deeper (envOfC qual scope s.heap.objs.size f cd)) (leaving (envOfC qual scope s.heap.objs.size f cd) e) (fun _ s'' => CX outer H s E e s'') (fun e' s'' => CX outer H s E e' s'') s'
theorem cell_has {sc : Scope} {n : Nat} {x : Str} (h : sc.names.lookup x = some .cell) : ∃ c, (cellsFrom n sc.names []).lookup x = some c := by
  have q := PySem.W.cellsFrom_some sc.names n [] (.inl h)
  exact Option.isSome_iff_exists.mp q
theorem inv_start {CX : CXT} {P : Program} {w : World} {K : PySem.W.Frag} {mg : Str → Option Value} {base : Heap} {N ps : List Str} {qual : Str} {scope : Scope} {f : Addr} {cd : Value} {A : Around} {outer : List Env} {s s1 : Shared} {H : Hp} {E : XK} {us : List Value} {vs : List V}
    (S : FnScope N ps scope) (hd : A.handled = none) (e0 : Env0 P w K mg base A outer s H) (hl : vs.length = ps.length) (r : Vals vs us)
    (x : InCallC s s.heap.objs.size (bindL (envOfC qual scope s.heap.objs.size f cd).kindOf (ps.zip us) fun _ => none) (cellsFrom (s.heap.objs.size + 1) scope.names []) (bindC (envOfC qual scope s.heap.objs.size f cd).kindOf (ps.zip us) fun _ => none) s1) :
    Inv (cxOf CX P w K mg base N qual scope f cd A outer s H E) [] (start N vs) H s1 := by
  have hpl : ps.length ≤ N.length := by have := congrArg List.length S.pre; rw [List.length_take] at this; omega
  obtain ⟨h1, tk, rfl, hk⟩ := x.done
  have noA : ∀ b : Addr, b ∉ (cxOf CX P w K mg base N qual scope f cd A outer s H E).ex := fun b z => absurd (show b ∈ ([] : List Addr) from z) (by simp)
  refine ⟨⟨e0.mod, S.kind, rfl, rfl, Nat.le_refl _, fun y z c h1 h2 => ?_, fun y hy => ?_, fun y c _ h => ?_, fun _ => hd, Around.frames_deeper e0.frames, .inr ⟨rfl, rfl⟩, fun b z => absurd z (noA b), e0.bs, e0.bsz, fun b _ _ => noA b, fun b z => absurd z (noA b), e0.funs, e0.frf⟩,
    rfl, e0.bare, Un.kept hk, ⟨_, x.toInCall.ns, fun i y v h1 h2 h3 => ?_⟩, fun y c h => ⟨_, x.cell y c h⟩, e0.hok.fresh (Nat.le_refl _), fun y c h => ?_, fun p hp => absurd (show p ∈ ([] : List (Addr × Obj)) from hp) (by simp), e0.hok.kept hk, ?_⟩
  · exact name_of_addr x.apart (PySem.mem_of_lookup h1) (PySem.mem_of_lookup h2)
  · have hy : scope.names.lookup y = some .cell ∨ scope.names.lookup y = some .free := hy
    rcases hy with hy | hy
    · exact cell_has hy
    · exact absurd rfl (S.nofree _ (PySem.mem_of_lookup hy))
  · exact Nat.le_of_lt (x.above y c (PySem.mem_of_lookup h))
  · have hi : i < vs.length := by
      unfold start at h2
      by_cases hi : i < vs.length
      · exact hi
      · rw [List.getElem?_append_right (by simpa using hi)] at h2
        rw [List.getElem?_replicate] at h2
        split at h2 <;> cases h2
    have ha : vs[i]? = some v := by
      unfold start at h2
      rw [List.getElem?_append_left (by simpa using hi), List.getElem?_map] at h2
      cases e : vs[i]? with
      | none => rw [e] at h2; cases h2
      | some a => rw [e] at h2; cases h2; rfl
    obtain ⟨u, hu, rv⟩ := r.get ha
    have hp : ps[i]? = some y := by
      rw [← S.pre, List.getElem?_take_of_lt (by omega)]; exact h1
    have ndP : ps.Nodup := by rw [← S.pre]; exact S.nd.sublist (List.take_sublist _ _)
    refine ⟨u, rv, ?_⟩
    rcases S.par y (List.mem_of_getElem? hp) with k | k
    · exact .inl ⟨k, bindL_get ndP hp hu k⟩
    · obtain ⟨c, e⟩ := cell_has (n := s.heap.objs.size + 1) k
      refine .inr ⟨.inl k, c, e, ?_⟩
      have q := x.cell y c e
      rw [bindC_get ndP hp hu (by show scope.names.lookup y ≠ _; rw [k]; decide)] at q
      exact q
  · exact e0.hok.fresh (Nat.le_of_lt (x.above y c (PySem.mem_of_lookup h)))
  · unfold start
    show _ = N.length
    rw [List.length_append, List.length_map, List.length_replicate]
    omega
theorem fn_of {CX : CXT} {P : Program} {w : World} {K : PySem.W.Frag} {mg : Str → Option Value} {base : Heap} {k : Nat} {f : Addr} {name qual : Str} {params : Arguments} {body : List Stmt} {scope : Scope} {dV kV doc pm cdv ct oc : Value} {an od : Option Addr}
    {osl : Array (Option Value)} {N ps : List Str} {sp : Sp} (lk : K.lookup f = some ⟨oc, od, .func (PySem.W.fnOf name qual params body scope dV kV doc pm an cdv ct), osl⟩) (hcd : PySem.W.codeIn K cdv qual = true) (S : FnScope N ps scope)
    (len : ∀ vs H Q E, sp vs H Q E → vs.length = ps.length)
    (hbody : ∀ (A : Around) (outer : List Env) (s : Shared) (H : Hp) (vs : List V) (Q : VK) (E : XK), Room k (A.deeper (envOfC qual scope s.heap.objs.size f cdv)) → sp vs H Q E →
      ∃ t, PSs (cxOf CX P w K mg base N qual scope f cdv A outer s H E) body t ∧ t { nx := fun _ H' => Q .non H', rt := Q } (start N vs) H) :
    FnOk P w K mg base CX (k + 1) f (PySem.W.fnOf name qual params body scope dV kV doc pm an cdv ct) ps sp := by
  refine ⟨len, fun A outer s H args us vs Q E hr e0 hb r hsp => ?_⟩
  have hl := len _ _ _ _ hsp
  have KX : K.In s.heap := e0.mod.kin.keeps fun b o e => (e0.bs b o e).1
  have lim : s.heap.NoLimit := e0.mod.nolimit.keeps fun b o e => (e0.bs b o e).1
  have hkind : ∀ y ∈ ps.zip us, scope.names.lookup y.1 = some .local ∨ (scope.names.lookup y.1 = some .cell ∧ ((cellsFrom (s.heap.objs.size + 1) scope.names []).lookup y.1).isSome = true) := fun ⟨n, v⟩ hy => by
    rcases S.par n (List.of_mem_zip hy).1 with q | q
    · exact .inl q
    · exact .inr ⟨q, PySem.W.cellsFrom_some _ _ _ (.inl q)⟩
  refine codeAny_call_function hr.depth (KX _ _ lk) rfl S.co S.gen rfl (PySem.W.codeRec_of KX hcd) (hb _ _ _ _ ?_)
  refine wpAny_newFunctionEnv_cells S.kind hkind fun env he s1 x => ?_
  subst he
  refine ⟨lim.keeps x.toInCall.keep, codeAny_func ?_⟩
  obtain ⟨t, ht, hq⟩ := hbody A outer s H vs Q E (hr.deeper _) hsp
  have I : Inv (cxOf CX P w K mg base N qual scope f cdv A outer s H E) [] (start N vs) H s1 := inv_start S hr.hd e0 hl r x
  refine wpAny_mono (ht [] s1 (start N vs) H _ I hq) (fun fl s' hs => ?_) fun e s' hs => hs
  have fin : ∀ {σ' : St} {H' : Hp} {v : V} {u : Value}, Inv (cxOf CX P w K mg base N qual scope f cdv A outer s H E) [] σ' H' s' → RelV v u → Q v H' → CE outer P w H s Q u s' :=
    fun {σ' H' v u} J rv q => ⟨v, H', J.os, J.bare, J.base, J.hok, rv, q⟩
  cases fl with
  | ret u =>
    obtain ⟨v, σ', H', J, rv, q⟩ := hs
    exact fin J rv q
  | next =>
    obtain ⟨σ', H', J, q⟩ := hs
    exact fin (v := V.non) (u := Value.none) J rfl q
  | brk =>
    obtain ⟨_, _, _, q⟩ := hs
    exact False.elim q
  | cont =>
    obtain ⟨_, _, _, q⟩ := hs
    exact False.elim q
end L2
namespace L2
open PySem PySem.Spec PyProof.Rows
section
variable {X : Cx} {x : Str} {p pos : Pos} {e : Expr} {es : List Expr} {t : TA} {id T : String} {r : List V → Hp → VK → Prop}
def tCB (r : List V → Hp → VK → Prop) (t : TA) : TE := fun σ H Q => t σ H fun vs H1 => r vs H1 Q
theorem pe_callB (hc : CallR X (.builtin id) r) (hg : Gl X x) (hm : X.mg x = none) (hv : bootBuiltins x = some (.builtin id)) (ha : PA X (e :: es) t) (hn : x ≠ "__name__" := by decide) (hdb : (x == ("__debug__" : Str)) = false := by decide)
    (he : starEach (e :: es) X.env = (false, eval e X.env) :: starEach es X.env := by rfl) (hpl : (backTo pos (starEach es X.env)).any (·.1) = false := by rfl) : PE X (.Call (.Name x p) (e :: es) [] pos) (tCB r t) := by
  intro pins s σ H Q I h
  refine wpAny_Call_Name_kw (ld_blt I hg hm hv ?_ hn hdb)
  exact PyProof.Rows.callWith_builtin1 (thn (ha pos pins s σ H _ I h) fun us s1 ⟨vs, H1, I1, r1, q1⟩ => hc pins s1 σ H1 vs us Q I1 r1 q1) he hpl
theorem pe_callTy (hc : CallR X (.type T) r) (hg : Gl X x) (hm : X.mg x = none) (hv : bootBuiltins x = some (.type T)) (ha : PA X (e :: es) t) (hn : x ≠ "__name__" := by decide) (hdb : (x == ("__debug__" : Str)) = false := by decide)
    (he : starEach (e :: es) X.env = (false, eval e X.env) :: starEach es X.env := by rfl) (hpl : (backTo pos (starEach es X.env)).any (·.1) = false := by rfl) : PE X (.Call (.Name x p) (e :: es) [] pos) (tCB r t) := by
  intro pins s σ H Q I h
  refine wpAny_Call_Name_kw (ld_blt I hg hm hv ?_ hn hdb)
  exact PyProof.Rows.callWith_type1 (thn (ha pos pins s σ H _ I h) fun us s1 ⟨vs, H1, I1, r1, q1⟩ => hc pins s1 σ H1 vs us Q I1 r1 q1) he hpl
end
end L2
namespace HT
open PySem PyProof.Rows
section
open PySem.SeqAt
open PySem.AutoSeq1 (wpAny_loadPart')
open PySem.MeetsSeq PySem.MeetsSeq2 PySem.MeetsSeq3
end
section
variable {prog : Program} {w : World} {A : Around} {E : Value → Shared → Prop} {s : Shared}
def sIx (n d : Nat) : Option Int → Nat
  | none => d
  | some v => if v < 0 then (v + (n : Int)).toNat else min v.toNat n
theorem sIx_nat (n d k : Nat) : sIx n d (some (k : Int)) = min k n := by
  show (if (k : Int) < 0 then ((k : Int) + (n : Int)).toNat else min (k : Int).toNat n) = min k n
  rw [if_neg (by omega), Int.toNat_natCast]
end
end HT
namespace L2
open PySem PySem.Spec PyProof.Rows
abbrev TO := St → Hp → (Option Int → Hp → Prop) → Prop
def PO (X : Cx) (e : Option Expr) (t : TO) : Prop :=
  ∀ (pins : List (Addr × Obj)) (s : Shared) (σ : St) (H : Hp) (Q : Option Int → Hp → Prop), Inv X pins σ H s → t σ H Q →
    wpAny (model X.prog X.w) X.A (evalPart e X.env) (fun u s' => ∃ o H', Inv X pins σ H' s' ∧ IsPart u o ∧ Q o H') X.xe s
def tPart (t : TE) : TO := fun σ H Q => t σ H fun x H1 => ∃ i, x = .int i ∧ Q (some i) H1
theorem intsAre_of {ns : List Int} : ∀ {us : List Value}, Vals (ns.map V.int) us → IntsAre us ns := by
  induction ns with
  | nil => intro us r; rw [List.map_nil] at r; cases r; exact .nil
  | cons n ns ih =>
    intro us r
    rw [List.map_cons] at r
    cases r with
    | cons r1 r2 =>
      obtain ⟨t, e⟩ := r1
      subst e
      exact .cons n t (ih r2)
section
variable {X : Cx} {e : Expr} {te : TE} {lo hi : Option Expr} {tl th : TO} {pos p2 : Pos}
theorem po_some (h : PE X e te) : PO X (some e) (tPart te) := by
  intro pins s σ H Q I hw
  rw [evalPart_some]
  refine thn (h pins s σ H _ I hw) fun u s1 ⟨x, H1, I1, r1, q1⟩ => ?_
  obtain ⟨i, rfl, q⟩ := q1
  obtain ⟨t, rfl⟩ := r1
  exact ⟨some i, H1, I1, .int i t, q⟩
def SlR (X : Cx) (r : V → Option Int → Option Int → Hp → VK → Prop) : Prop :=
  ∀ (pins : List (Addr × Obj)) (s : Shared) (σ : St) (H : Hp) (x : V) (v vl vu : Value) (lo hi : Option Int) (sl : Addr) (Q : VK), Inv X pins σ H s → RelV x v → s.heap.IsSliceOf sl vl vu .none → IsPart vl lo → IsPart vu hi → r x lo hi H Q →
    ∃ T id, typeLookup (.type T) "__getitem__" = pure (some (.builtin id)) ∧ s.TypeIs v T ∧ wpAny (model X.prog X.w) X.A (getItem v (.ref sl)) (EP X pins σ Q) X.xe s
def tSl (r : V → Option Int → Option Int → Hp → VK → Prop) (te : TE) (tl th : TO) : TE := fun σ H Q => te σ H fun x H1 => tl σ H1 fun l H2 => th σ H2 fun u H3 => r x l u H3 Q
theorem pe_slice {r : V → Option Int → Option Int → Hp → VK → Prop} (hr : SlR X r) (he : PE X e te) (hl : PO X lo tl) (hu : PO X hi th) : PE X (.Subscript e (.Slice lo hi none p2) pos) (tSl r te tl th) := by
  intro pins s σ H Q I h
  refine Subscript_ (thn (he pins s σ H _ I h) fun v s1 ⟨x, H1, I1, r1, q1⟩ => ?_)
  refine wpAny_Slice (thn (hl pins s1 σ H1 _ I1 q1) fun vl s2 ⟨l, H2, I2, pl, q2⟩ => thn (hu pins s2 σ H2 _ I2 q2) fun vu s3 ⟨u, H3, I3, pu, q3⟩ => ?_)
  rw [evalPart_none]
  refine wpAny_pure ?_
  have I4 : Inv X pins σ H3 { s3 with heap := s3.heap.push { cls := .type "slice", data := .fields #[vl, vu, .none] } } := I3.kept (t' := s3.toks) fun b ob q => Heap.get?_push_of_some _ q
  obtain ⟨T, id, hT, ht, hg⟩ := hr pins { s3 with heap := s3.heap.push { cls := .type "slice", data := .fields #[vl, vu, .none] } } σ H3 x v vl vu l u s3.heap.objs.size Q I4 r1 (Heap.IsSliceOf.new ..) pl pu q3
  show wpAny (model X.prog X.w) X.A (subscriptTail e (.Slice lo hi none p2) v (.ref s3.heap.objs.size)) (EP X pins σ Q) X.xe { s3 with heap := s3.heap.push { cls := .type "slice", data := .fields #[vl, vu, .none] } }
  exact tail_any (ops := [.ref s3.heap.objs.size, v]) ht hT hg (by with_unfolding_all rfl)
def cutV (xs : List V) (lo hi : Option Int) : List V := (xs.drop (HT.sIx xs.length 0 lo)).take (HT.sIx xs.length xs.length hi - HT.sIx xs.length 0 lo)
theorem cutV_length (xs : List V) (lo hi : Option Int) : (cutV xs lo hi).length ≤ xs.length := by
  unfold cutV
  rw [List.length_take, List.length_drop]
  omega
end
end L2
namespace L2
open PySem PySem.Spec PyProof.Rows
def ixN (n : Nat) (i : Int) : Option Nat := if 0 ≤ i then (if i < n then some i.toNat else none) else if -(n : Int) ≤ i then some (i + n).toNat else none
def atI {α : Type} (xs : List α) (i : Int) : Option α := (ixN xs.length i).bind fun j => xs[j]?
theorem ixN_seq {n : Nat} {i : Int} {j : Nat} (h : ixN n i = some j) : seqIndex? i n = some j ∧ j < n ∧ -(n : Int) ≤ i ∧ i < n := by
  unfold ixN at h
  by_cases h0 : 0 ≤ i
  · rw [if_pos h0] at h
    by_cases h1 : i < n
    · rw [if_pos h1] at h
      have e : i.toNat = j := Option.some.inj h
      exact ⟨by rw [seqIndex_of h0 h1, e], by omega, by omega, h1⟩
    · rw [if_neg h1] at h; cases h
  · rw [if_neg h0] at h
    by_cases h1 : -(n : Int) ≤ i
    · rw [if_pos h1] at h
      have e : (i + n).toNat = j := Option.some.inj h
      exact ⟨by rw [seqIndex_neg (by omega) h1, e], by omega, h1, by omega⟩
    · rw [if_neg h1] at h; cases h
theorem atI_get {α : Type} {xs : List α} {i : Int} {v : α} (h : atI xs i = some v) : ∃ j, seqIndex? i xs.length = some j ∧ xs[j]? = some v ∧ j < xs.length ∧ -(xs.length : Int) ≤ i ∧ i < xs.length := by
  unfold atI at h
  cases e : ixN xs.length i with
  | none => rw [e] at h; cases h
  | some j =>
    rw [e] at h
    obtain ⟨h1, h2, h3, h4⟩ := ixN_seq e
    exact ⟨j, h1, h, h2, h3, h4⟩
theorem atI_nat {α : Type} {xs : List α} {j : Nat} {v : α} (h : xs[j]? = some v) : atI xs (j : Int) = some v := by
  have hj : j < xs.length := (List.getElem?_eq_some_iff.mp h).1
  have e : ixN xs.length (j : Int) = some j := by
    unfold ixN
    rw [if_pos (by omega), if_pos (by omega)]; simp
  unfold atI; rw [e]; exact h
def PlainIx (b : Expr) : Prop := ∀ o i, subscripted b false o i = operate [o, i] (getItem o i)
def IxR (X : Cx) (r : R2) : Prop :=
  ∀ (value slice : Expr) (pins : List (Addr × Obj)) (s : Shared) (σ : St) (H : Hp) (x y : V) (v u : Value) (Q : VK), Inv X pins σ H s → RelV x v → RelV y u → r x y H Q →
    subscripted slice false v u = operate [v, u] (getItem v u) → wpAny (model X.prog X.w) X.A (subscriptTail value slice v u) (EP X pins σ Q) X.xe s
def MtR (X : Cx) (id : String) (r : V → List V → Hp → VK → Prop) : Prop :=
  ∀ (pins : List (Addr × Obj)) (s : Shared) (σ : St) (H : Hp) (x : V) (xs : List V) (v : Value) (us : List Value) (Q : VK), Inv X pins σ H s → RelV x v → Vals xs us → r x xs H Q →
    wpAny (model X.prog X.w) X.A (call (.builtin id) (v :: us)) (EP X pins σ Q) X.xe s
section
variable {X : Cx} {a b : Expr} {ta tb : TE} {pos : Pos}
theorem pe_ix {r : R2} (hr : IxR X r) (ha : PE X a ta) (hb : PE X b tb) (hs : PlainIx b) : PE X (.Subscript a b pos) (tOp r ta tb) := by
  intro pins s σ H Q I h
  exact Subscript_ (binT ha hb I h fun v u s2 x y H2 I2 rx ry q => hr a b pins s2 σ H2 x y v u Q I2 rx ry q (hs _ _))
def rIxL (K : PySem.W.Frag) : R2 := fun x y H Q => ∃ p xs i v, x = .ref p ∧ y = .int i ∧ SqL K H p xs ∧ atI xs i = some v ∧ Q v H
def rIxT (K : PySem.W.Frag) : R2 := fun x y H Q => ∃ p xs i v, x = .ref p ∧ y = .int i ∧ SqT K H p xs ∧ atI xs i = some v ∧ Q v H
theorem ix_list : IxR X (rIxL X.K) := by
  intro value slice pins s σ H x y v u Q I rx ry h hs
  obtain ⟨p, xs, i, z, rfl, rfl, hq, he, q⟩ := h
  cases rx
  obtain ⟨t, rfl⟩ := ry
  obtain ⟨its, r, pl, hz⟩ := I.list hq
  obtain ⟨j, h1, h2, h3, h4, h5⟩ := atI_get he
  obtain ⟨w, ew, rw'⟩ := r.get h2
  have hl := r.length
  have hn := line63
  have fin : EP X pins σ Q w s := ⟨z, H, I, rw', q⟩
  by_cases h0 : 0 ≤ i
  · have hj : i.toNat = j := by
      rw [seqIndex_of h0 h5] at h1
      exact Option.some.inj h1
    exact item_listR pl.isList h0 (by omega) (by rw [hj]; simpa using ew) fin hs
  · have hj : (i + (its.toArray.size : Int)).toNat = j := by
      rw [seqIndex_neg (by omega) h4] at h1
      rw [List.size_toArray, ← hl]
      exact Option.some.inj h1
    exact subscriptTail_builtinR (x := w) pl.isList.typeIs slot_list_getitem.lookup
      (wpAny_getItem_list_neg (Q := fun r s' => r = w ∧ EP X pins σ Q r s') pl.isList (by omega) (by rw [List.size_toArray] <;> omega) (by omega) (by rw [hj]; simpa using ew) ⟨rfl, fin⟩) hs
theorem ix_tup : IxR X (rIxT X.K) := by
  intro value slice pins s σ H x y v u Q I rx ry h hs
  obtain ⟨p, xs, i, z, rfl, rfl, hq, he, q⟩ := h
  cases rx
  obtain ⟨t, rfl⟩ := ry
  obtain ⟨its, r, pl, hz⟩ := I.tuple hq
  obtain ⟨j, h1, h2, h3, h4, h5⟩ := atI_get he
  obtain ⟨w, ew, rw'⟩ := r.get h2
  have hl := r.length
  have hn := line63
  have fin : EP X pins σ Q w s := ⟨z, H, I, rw', q⟩
  exact subscriptTail_builtinR (x := w) pl.typeIs slot_tuple_getitem.lookup
    (getItem_tuple (j := j) (Q := fun r s' => r = w ∧ EP X pins σ Q r s') pl (by omega) (by omega) (by rw [List.size_toArray, ← hl]; exact h1) (by simpa using ew) ⟨rfl, fin⟩) hs
theorem slice_bounds (lo hi : Option Int) (n : Nat) : (sliceBounds lo hi none n).1 = ((HT.sIx n 0 lo : Nat) : Int) ∧ (sliceBounds lo hi none n).2.1 = ((HT.sIx n n hi : Nat) : Int) ∧ (sliceBounds lo hi none n).2.2 = 1 := by
  refine ⟨?_, ?_, rfl⟩
  · cases lo with
    | none => simp [sliceBounds, HT.sIx]
    | some i =>
      simp only [sliceBounds, HT.sIx, Option.getD_none, show (1 : Int) > 0 by decide, if_true]
      by_cases h : i < 0
      · simp only [h, if_true] <;> omega
      · simp only [h, if_false] <;> omega
  · cases hi with
    | none => simp [sliceBounds, HT.sIx]
    | some i =>
      simp only [sliceBounds, HT.sIx, Option.getD_none, show (1 : Int) > 0 by decide, if_true]
      by_cases h : i < 0
      · simp only [h, if_true] <;> omega
      · simp only [h, if_false] <;> omega
theorem slicePick_cut (its : List Value) (lo hi : Option Int) : slicePick its.toArray lo hi none = ((its.drop (HT.sIx its.length 0 lo)).take (HT.sIx its.length its.length hi - HT.sIx its.length 0 lo)).toArray := by
  obtain ⟨h1, h2, h3⟩ := slice_bounds lo hi its.toArray.size
  unfold slicePick
  rw [h1, h2, h3]
  simp only [sliceRange_one, pick_run, List.size_toArray] <;> rfl
def rSlL (K : PySem.W.Frag) : V → Option Int → Option Int → Hp → VK → Prop := fun x lo hi H Q => ∃ a xs, x = .ref a ∧ SqL K H a xs ∧ ∀ p, H p = none → Q (.ref p) (upd H p (.lst (cutV xs lo hi)))
theorem sl_list : SlR X (rSlL X.K) := by
  intro pins s σ H x v vl vu lo hi sl Q I rx hs pl pu h
  obtain ⟨a, xs, rfl, hx, q⟩ := h
  cases rx
  obtain ⟨its, r, ht, hz⟩ := I.list hx
  have hlen := r.length
  refine ⟨"list", _, slot_list_getitem.lookup, ht.isList.typeIs, ?_⟩
  refine wpAny_getItem_list_slice ht.isList hs pl pu .none (by simp) ?_ (by rw [List.size_toArray] <;> omega)
  rw [slicePick_cut, ← hlen]
  refine ⟨.ref s.heap.objs.size, _, I.laid (t' := s.toks) (o := .lst (cutV xs lo hi)) (fun b ob q => Heap.get?_push_of_some _ q) (Nat.le_refl _) ?_, rfl, q _ (I.hok.fresh (Nat.le_refl _))⟩
  exact ⟨Nat.le_trans (cutV_length xs lo hi) hz, _, 0, (r.drop (HT.sIx xs.length 0 lo)).take (HT.sIx xs.length xs.length hi - HT.sIx xs.length 0 lo), Heap.get?_push_size _ rfl⟩
def flatV : V → Bool
  | .non => true
  | .bl _ => true
  | .int _ => true
  | .str _ => true
  | _ => false
def eqV : V → V → Bool
  | .non, .non => true
  | .bl a, .bl b => a == b
  | .bl a, .int b => (if a then 1 else 0) == b
  | .int a, .bl b => a == (if b then 1 else 0)
  | .int a, .int b => a == b
  | .str a, .str b => a == b
  | _, _ => false
theorem eqAt_V {A : Around} {s : Shared} {y x : V} {u v : Value} (ry : RelV y u) (rx : RelV x v) (fy : flatV y = true) (fx : flatV x = true) : SeqAt.EqAt A s u v (eqV y x) := by
  cases y with
  | non =>
    cases ry
    cases x with
    | non => cases rx; exact SeqAt.EqAt.same _
    | bl b => cases rx; exact SeqAt.EqAt.none_bool b
    | int b => obtain ⟨t, rfl⟩ := rx; exact SeqAt.EqAt.none_int b t
    | str b => obtain ⟨t, rfl⟩ := rx; exact SeqAt.EqAt.none_str b t
    | _ => exact absurd (show false = true from fx) Bool.false_ne_true
  | bl a =>
    cases ry
    cases x with
    | non => cases rx; exact SeqAt.EqAt.bool_none a
    | bl b => cases rx; exact SeqAt.EqAt.bool_bool a b
    | int b => obtain ⟨t, rfl⟩ := rx; exact SeqAt.EqAt.bool_int a b t
    | str b => obtain ⟨t, rfl⟩ := rx; exact SeqAt.EqAt.bool_str a b t
    | _ => exact absurd (show false = true from fx) Bool.false_ne_true
  | int a =>
    obtain ⟨t', rfl⟩ := ry
    cases x with
    | non => cases rx; exact SeqAt.EqAt.int_none a t'
    | bl b => cases rx; exact SeqAt.EqAt.int_bool a t' b
    | int b => obtain ⟨t, rfl⟩ := rx; exact SeqAt.EqAt.int_int a t' b t
    | str b => obtain ⟨t, rfl⟩ := rx; exact SeqAt.EqAt.int_str a t' b t
    | _ => exact absurd (show false = true from fx) Bool.false_ne_true
  | str a =>
    obtain ⟨t', rfl⟩ := ry
    cases x with
    | non => cases rx; exact SeqAt.EqAt.str_none a t'
    | bl b => cases rx; exact SeqAt.EqAt.str_bool a t' b
    | int b => obtain ⟨t, rfl⟩ := rx; exact SeqAt.EqAt.str_int a t' b t
    | str b => obtain ⟨t, rfl⟩ := rx; exact SeqAt.EqAt.str_str a t' b t
    | _ => exact absurd (show false = true from fx) Bool.false_ne_true
  | _ => exact absurd (show false = true from fy) Bool.false_ne_true
def eqU (x : V) (u : Value) : Bool := match u with
  | .none => eqV .non x
  | .bool b => eqV (.bl b) x
  | .int i _ => eqV (.int i) x
  | .str z _ => eqV (.str z) x
  | _ => false
theorem eqU_of {x y : V} {u : Value} (r : RelV y u) (f : flatV y = true) : eqU x u = eqV y x := by
  cases y with
  | non => cases r; rfl
  | bl b => cases r; rfl
  | int i => obtain ⟨t, rfl⟩ := r; rfl
  | str z => obtain ⟨t, rfl⟩ := r; rfl
  | _ => exact absurd (show false = true from f) Bool.false_ne_true
theorem any_eqU {x : V} : ∀ {xs : List V} {us : List Value}, Vals xs us → xs.all flatV = true → us.any (eqU x) = xs.any fun y => eqV y x
  | _, _, .nil, _ => rfl
  | y :: xs, u :: us, .cons r t, f => by
    rw [List.all_cons, Bool.and_eq_true] at f
    rw [List.any_cons, List.any_cons, eqU_of r f.1, any_eqU t f.2]
theorem mem_eqAt {A : Around} {s : Shared} {x : V} {v : Value} (rx : RelV x v) (fx : flatV x = true) : ∀ {xs : List V} {us : List Value}, Vals xs us → xs.all flatV = true → ∀ u ∈ us, SeqAt.EqAt A s u v (eqU x u)
  | _, _, .nil, _ => fun u hu => by cases hu
  | y :: xs, u :: us, .cons r t, f => fun u' hu => by
    rw [List.all_cons, Bool.and_eq_true] at f
    rcases List.mem_cons.mp hu with rfl | hu
    · rw [eqU_of r f.1]; exact eqAt_V r rx f.1 fx
    · exact mem_eqAt rx fx t f.2 u' hu
def inV (x : V) (xs : List V) : Bool := xs.any fun y => eqV y x
def rIn (K : PySem.W.Frag) (neg : Bool) : R2 := fun x y H Q => ∃ p xs, y = .ref p ∧ (SqL K H p xs ∨ SqT K H p xs) ∧ flatV x = true ∧ xs.all flatV = true ∧ Q (.bl (if neg then !inV x xs else inV x xs)) H
theorem op_in_seq : OpR X (compareOp .In) (rIn X.K false) := by
  intro pins s σ H x y v u Q I rx ry h
  obtain ⟨p, xs, rfl, hq, fx, fs, q⟩ := h
  cases ry
  rcases hq with hq | hq
  · obtain ⟨its, r, pl, hz⟩ := I.list hq
    refine SeqAt.in_listAt (eqU x) pl.isList (fun w hw => mem_eqAt rx fx r fs w (by simpa using hw)) ⟨.bl _, H, I, rfl, ?_⟩
    rw [show its.toArray.any (eqU x) = its.any (eqU x) by simp, any_eqU r fs]
    exact q
  · obtain ⟨its, r, pl, hz⟩ := I.tuple hq
    refine SeqAt.in_tupleAt (eqU x) pl (fun w hw => mem_eqAt rx fx r fs w (by simpa using hw)) ⟨.bl _, H, I, rfl, ?_⟩
    rw [show its.toArray.any (eqU x) = its.any (eqU x) by simp, any_eqU r fs]
    exact q
theorem op_notIn_seq : OpR X (compareOp .NotIn) (rIn X.K true) := by
  intro pins s σ H x y v u Q I rx ry h
  obtain ⟨p, xs, rfl, hq, fx, fs, q⟩ := h
  cases ry
  rcases hq with hq | hq
  · obtain ⟨its, r, pl, hz⟩ := I.list hq
    refine SeqAt.notIn_listAt (eqU x) pl.isList (fun w hw => mem_eqAt rx fx r fs w (by simpa using hw)) ⟨.bl _, H, I, rfl, ?_⟩
    rw [show its.toArray.any (eqU x) = its.any (eqU x) by simp, any_eqU r fs]
    exact q
  · obtain ⟨its, r, pl, hz⟩ := I.tuple hq
    refine SeqAt.notIn_tupleAt (eqU x) pl (fun w hw => mem_eqAt rx fx r fs w (by simpa using hw)) ⟨.bl _, H, I, rfl, ?_⟩
    rw [show its.toArray.any (eqU x) = its.any (eqU x) by simp, any_eqU r fs]
    exact q
theorem call_len_seq : CallR X (.builtin "len") (fun xs H Q => ∃ p ys, xs = [.ref p] ∧ (SqL X.K H p ys ∨ SqT X.K H p ys) ∧ Q (.int ys.length) H) := by
  intro pins s σ H xs us Q I r h
  obtain ⟨p, ys, rfl, hq, q⟩ := h
  obtain ⟨u, rfl, rx⟩ := vals1 r
  cases rx
  have hn := line63
  rcases hq with hq | hq
  · obtain ⟨its, r', pl, hz⟩ := I.list hq
    have hlen := r'.length
    exact Calls.call_len_list pl.isList (by simp only [List.size_toArray] <;> omega) ⟨.int ys.length, H, I.tok _, ⟨s.toks + 1, by rw [List.size_toArray, hlen]⟩, q⟩
  · obtain ⟨its, r', pl, hz⟩ := I.tuple hq
    have hlen := r'.length
    exact len_tuple pl (by simp only [List.size_toArray] <;> omega) ⟨.int ys.length, H, I.tok _, ⟨s.toks + 1, by rw [List.size_toArray, hlen]⟩, q⟩
def tyV (K : PySem.W.Frag) (T : String) (x : V) (H : Hp) : Prop := match x with
  | .str _ => T = "str"
  | .int _ => T = "int"
  | .ref p => (T = "list" ∧ ∃ xs, SqL K H p xs) ∨ (T = "tuple" ∧ ∃ o, K.lookup p = some o ∧ o.cls = .type "tuple" ∧ o.dict = none) ∨
      (T = "dict" ∧ ((∃ kvs, H p = some (.dK kvs)) ∨ ∃ kvs, H p = some (.dT kvs))) ∨ (T = "set" ∧ ∃ S n, H p = some (.set S n))
  | _ => False
theorem tyV_is {pins : List (Addr × Obj)} {σ : St} {H : Hp} {s : Shared} {T : String} {x : V} {v : Value} (I : Inv X pins σ H s) (r : RelV x v) (ty : tyV X.K T x H) :
    s.TypeIs v T ∧ ∀ a, v = .ref a → ∃ ob, s.heap.get? a = some ob ∧ ob.dict = none := by
  cases x with
  | str z =>
    obtain ⟨t, rfl⟩ := r
    cases (show T = "str" from ty)
    exact ⟨typeIs_str s z t, fun _ e => nomatch e⟩
  | int i =>
    obtain ⟨t, rfl⟩ := r
    cases (show T = "int" from ty)
    exact ⟨typeIs_int s i t, fun _ e => nomatch e⟩
  | ref p =>
    cases r
    rcases ty with ⟨rfl, xs, hq⟩ | ⟨rfl, o, hk, hc, hd⟩ | ⟨rfl, hk⟩ | ⟨rfl, S, n, hk⟩
    · obtain ⟨its, _, pl, _⟩ := I.list hq
      refine ⟨pl.isList.typeIs, fun a e => ?_⟩
      cases e
      obtain ⟨o, n, e, c, hd, _⟩ := pl
      exact ⟨o, e, hd⟩
    · refine ⟨⟨o, I.kIn p o hk, hc⟩, fun a e => ?_⟩
      cases e
      exact ⟨o, I.kIn _ o hk, hd⟩
    · have z : ∃ o, s.heap.get? p = some o ∧ o.ExactDict := by
        rcases hk with ⟨kvs, hk⟩ | ⟨kvs, hk⟩
        · obtain ⟨_, _, _, _, o, _, _, e, ex, _⟩ := I.hok p _ hk
          exact ⟨o, e, ex⟩
        · obtain ⟨_, _, _, _, o, _, _, e, ex, _⟩ := I.hok p _ hk
          exact ⟨o, e, ex⟩
      obtain ⟨o, e, ex⟩ := z
      refine ⟨⟨o, e, ex.1⟩, fun a e2 => ?_⟩
      cases e2
      exact ⟨o, e, ex.2.1⟩
    · obtain ⟨o, _, _, _, e, ex, _⟩ := I.hok p _ hk
      refine ⟨⟨o, e, ex.1⟩, fun a e2 => ?_⟩
      cases e2
      exact ⟨o, e, ex.2.1⟩
  | _ => exact False.elim ty
def tBM (K : PySem.W.Frag) (T : String) (r : V → List V → Hp → VK → Prop) (to : TE) (t : TA) : TE := fun σ H Q => to σ H fun x H1 => tyV K T x H1 ∧ t σ H1 fun xs H2 => r x xs H2 Q
variable {o e : Expr} {es : List Expr} {to : TE} {t : TA} {name : Str} {apos cpos : Pos} {T id : String} {r : V → List V → Hp → VK → Prop}
theorem pe_bm (pa : PlainAttrs T) (slot : Slot T name id) (hty : typeOf (.builtin id) = pure (.type "method_descriptor")) (hm : MtR X id r) (ho : PE X o to) (ha : PA X (e :: es) t)
    (hbase : attributeBase o name X.env (eval o X.env) = eval o X.env := by rfl)
    (hfew : ((backTo cpos (starEach (e :: es) X.env)).all (fun x => !x.1) && (backToKw cpos (keywordEach [] X.env)).all (fun x => x.1.isSome)
      && decide ((e :: es).length + ([] : List Keyword).length + (if ([] : List Keyword).isEmpty then 0 else 1) < 30)) = true := by rfl)
    (hline : (apos.endLine == cpos.line) = true := by rfl) (hs : starEach (e :: es) X.env = (false, eval e X.env) :: starEach es X.env := by rfl) (hplain : (backTo cpos (starEach es X.env)).any (·.1) = false := by rfl) :
    PE X (.Call (.Attribute o name apos) (e :: es) [] cpos) (tBM X.K T r to t) := by
  intro pins s σ H Q I h
  refine wpAny_Call_method_late hbase hfew hline rfl (thn (ho pins s σ H _ I h) fun v s1 ⟨x, H1, I1, r1, ty, q1⟩ => ?_)
  obtain ⟨h1, h2⟩ := tyV_is I1 r1 ty
  refine ⟨T, id, pa, slot, hty, h1, h2, ?_⟩
  have hA := ha cpos pins s1 σ H1 _ I1 q1
  rw [hs] at hA ⊢
  refine Calls.callWith_builtin (by show (false || (backTo cpos (starEach es X.env)).any (·.1)) = false; rw [hplain] <;> rfl) (Calls.evalArgs_plain ?_)
  exact thn hA fun us s2 ⟨vs, H2, I2, r2, q2⟩ => hm pins s2 σ H2 x vs v us Q I2 r1 r2 q2
end
end L2
namespace L2
open PySem PySem.Spec PyProof.Rows
def MtM (X : Cx) (id : String) (r : V → List V → Hp → VK → Prop) : Prop :=
  ∀ (pins : List (Addr × Obj)) (s : Shared) (σ : St) (H : Hp) (x : V) (xs : List V) (v : Value) (us : List Value) (Q : VK), Inv X pins σ H s → RelV x v → Vals xs us → r x xs H Q →
    wpAny (model X.prog X.w) X.A (call (.builtin id) (v :: us)) (EP X pins σ Q) X.xe s
theorem Vals.one : ∀ {x : V} {us : List Value}, Vals [x] us → ∃ u, us = [u] ∧ RelV x u
  | _, _, .cons r .nil => ⟨_, rfl, r⟩
section
variable {X : Cx} {pins : List (Addr × Obj)} {σ : St} {H : Hp} {s : Shared} {l b : Addr} {xs ys zs : List V}
theorem Inv.lset {its its' : List Value} {n : Nat} {f : Array Value → Array Value} {t' : Nat} (I : Inv X pins σ H s) (hH : H l = some (.lst xs))
    (e : s.heap.get? l = some { cls := .type "list", data := .seq its.toArray n }) (hf : f its.toArray = its'.toArray) (hv : Vals ys its') (hz : ys.length ≤ sizeLine) :
    Inv X pins σ (upd H l (.lst ys)) { s with heap := s.heap.update l (Obj.mapSeq f), toks := t' } := by
  have q := PySem.IsL.update e f
  rw [hf] at q
  refine I.write (x := l) (e := l) (by rw [hH]; exact trivial) (.inl rfl) (fun b' u hb hu => (Heap.get?_update_other s.heap (Obj.mapSeq f) (Ne.symm hb)).trans hu) ⟨_, q⟩ ?_
  exact ⟨hz, its', _, hv, q⟩
theorem Inv.lnew {its : List Value} {t' : Nat} (I : Inv X pins σ H s) (hv : Vals ys its) (hz : ys.length ≤ sizeLine) :
    Inv X pins σ (upd H s.heap.objs.size (.lst ys)) { s with heap := s.heap.push { cls := .type "list", data := .seq its.toArray }, toks := t' } :=
  I.laid (fun _ _ q => Heap.get?_push_of_some _ q) (Nat.le_refl _) ⟨hz, its, 0, hv, Heap.get?_push_size _ rfl⟩
theorem Inv.fresh (I : Inv X pins σ H s) : H s.heap.objs.size = none := I.hok.fresh (Nat.le_refl _)
theorem Inv.lstM (I : Inv X pins σ H s) (hH : H l = some (.lst xs)) : xs.length ≤ sizeLine ∧ ∃ (its : List Value) (n : Nat), Vals xs its ∧ xs.length = its.length ∧ s.heap.get? l = some { cls := .type "list", data := .seq its.toArray n } := by
  obtain ⟨z, its, n, r, e⟩ := I.hok l _ hH
  exact ⟨z, its, n, r, r.length, e⟩
theorem notLongL {n : Nat} (h : n ≤ sizeLine) : Builtin.List.listTooLong n = false := by
  unfold Builtin.List.listTooLong
  exact decide_eq_false (by omega)
end
section
variable {X : Cx}
def rAppend : V → List V → Hp → VK → Prop := fun x vs H Q => ∃ l xs y, x = .ref l ∧ vs = [y] ∧ H l = some (.lst xs) ∧ xs.length < sizeLine ∧ Q .non (upd H l (.lst (xs ++ [y])))
theorem mt_append : MtM X "list.append" rAppend := by
  intro pins s σ H x vs v us Q I rx rv h
  obtain ⟨l, xs, y, rfl, rfl, hH, hz, q⟩ := h
  cases rx
  obtain ⟨u, rfl, ru⟩ := rv.one
  obtain ⟨z, its, n, r, hl, e⟩ := I.lstM hH
  refine call_meets F.slot_list_append ⟨_, e, rfl⟩ F.entry_list_append (F.args_list_append_2 _ _) (PySem.list_append l its.toArray n u (by rw [List.size_toArray]; omega)) ⟨e, ?_⟩
  refine ⟨.non, _, I.lset (its' := its ++ [u]) hH e (by simp) (r.append (.cons ru .nil)) ?_, rfl, q⟩
  rw [List.length_append, List.length_singleton]
  omega
def rExtend : V → List V → Hp → VK → Prop := fun x vs H Q => ∃ l b xs zs, x = .ref l ∧ vs = [.ref b] ∧ H l = some (.lst xs) ∧ H b = some (.lst zs) ∧ xs.length + zs.length ≤ sizeLine ∧ Q .non (upd H l (.lst (xs ++ zs)))
theorem mt_extend : MtM X "list.extend" rExtend := by
  intro pins s σ H x vs v us Q I rx rv h
  obtain ⟨l, b, xs, zs, rfl, rfl, hH, hB, hz, q⟩ := h
  cases rx
  obtain ⟨u, rfl, ru⟩ := rv.one
  cases ru
  obtain ⟨z, its, n, r, hl, e⟩ := I.lstM hH
  obtain ⟨z2, its2, n2, r2, hl2, e2⟩ := I.lstM hB
  have hsz : its.toArray.size + its2.toArray.size ≤ sizeLine := by rw [List.size_toArray, List.size_toArray]; omega
  have hlong : ¬ (!its.toArray.isEmpty && Builtin.List.listTooLong (its.toArray.size + its2.toArray.size)) = true := by
    rw [notLongL hsz, Bool.and_false]
    exact Bool.false_ne_true
  refine call_meets F.slot_list_extend ⟨_, e, rfl⟩ F.entry_list_extend (F.args_list_extend_2 _ _)
    (AutoSeq1.list_extend_list_list_0 l its.toArray n b its2.toArray n2 hlong (by rw [List.size_toArray]; omega) (by omega)) ⟨e, e2, ?_⟩
  refine ⟨.non, _, I.lset (its' := its ++ its2) hH e (by simp) (r.append r2) ?_, rfl, q⟩
  rw [List.length_append]
  omega
def rCat : R2 := fun x y H Q => ∃ l b xs zs, x = .ref l ∧ y = .ref b ∧ H l = some (.lst xs) ∧ H b = some (.lst zs) ∧ xs.length + zs.length ≤ sizeLine ∧ ∀ p, H p = none → Q (.ref p) (upd H p (.lst (xs ++ zs)))
theorem op_cat : OpR X (binaryOp .Add) rCat := by
  intro pins s σ H x y v u Q I rx ry h
  obtain ⟨l, b, xs, zs, rfl, rfl, hH, hB, hz, q⟩ := h
  cases rx
  cases ry
  obtain ⟨z, its, n, r, hl, e⟩ := I.lstM hH
  obtain ⟨z2, its2, n2, r2, hl2, e2⟩ := I.lstM hB
  refine PySem.P.add_list e e2 ?_ (by rw [List.size_toArray, List.size_toArray]; omega)
  have ea : its.toArray ++ its2.toArray = (its ++ its2).toArray := by simp
  rw [ea]
  exact ⟨.ref _, _, I.lnew (t' := s.toks) (r.append r2) (by rw [List.length_append]; omega), rfl, q _ I.fresh⟩
end
section
variable {prog : Program} {w : World} {A : Around} {E : Value → Shared → Prop} {s : Shared}
set_option maxRecDepth 100000 in
end
end L2
namespace L2
open PySem PySem.Spec PyProof.Rows
theorem Vals.ints : ∀ {ns : List Int} {us : List Value}, Vals (ns.map V.int) us → IntsAre us ns
  | [], us, h => by
    rw [List.map_nil] at h
    cases h
    exact IntsAre.nil
  | n :: ns, us, h => by
    rw [List.map_cons] at h
    cases h with
    | cons r t =>
      obtain ⟨k, rfl⟩ := r
      exact IntsAre.cons n k (Vals.ints t)
theorem Vals.ref1 {a : Addr} {us : List Value} (r : Vals [V.ref a] us) : us = [Value.ref a] := by
  cases r with
  | cons r t =>
    cases t
    cases r
    rfl
section
variable {prog : Program} {w : World} {A : Around} {E : Value → Shared → Prop} {s : Shared} {l : Addr} {its : List Value} {ns : List Int} {Q : Value → Shared → Prop}
theorem sum_raw (hh : A.handled = none) (hl : s.heap.IsList l its.toArray) (hi : IntsAre its ns)
    (h : ∀ h' tk t', (∀ b o, s.heap.get? b = some o → h'.get? b = some o) → Q (.int ns.sum t') { s with heap := h', toks := tk }) : wpAny (model prog w) A (call (.builtin "sum") [.ref l]) Q E s := by
  obtain ⟨xs, e⟩ := hi.allInts.items
  have hn : numsOf (intItems xs).toList = ns := by rw [← e]; exact hi.numsOf
  rw [nums_intItems] at hn
  rw [e] at hl
  refine PySem.sum_intListG hh hl fun h' tk t' hk => ?_
  have := h h' tk t' hk
  rw [preSum_eq, List.take_of_length_le (by simp), hn]; exact this
end
section
variable {X : Cx}
def rSum (K : PySem.W.Frag) : List V → Hp → VK → Prop := fun vs H Q => ∃ (a : Addr) (ns : List Int), vs = [V.ref a] ∧ SqL K H a (ns.map V.int) ∧ Q (.int ns.sum) H
theorem cr_sum (hc : X.calm = true) : CallR X (.builtin "sum") (rSum X.K) := by
  intro pins s σ H vs us Q I r h
  obtain ⟨a, ns, rfl, hs, q⟩ := h
  obtain ⟨its, rv, hl, _⟩ := I.list hs
  rw [Vals.ref1 r]
  exact sum_raw (I.ok.hd hc) hl.isList rv.ints fun h' tk t' hk => ⟨.int _, H, I.kept hk, ⟨_, rfl⟩, q⟩
end
end L2
namespace L2
open PySem PySem.Spec PyProof.Rows
abbrev CellAt (h : Heap) (c : Addr) (v : Option Value) : Prop := h.IsCell c v
def relS (scope sc : Scope) : Scope :=
  { scope with names := scope.names.map fun (n, k) => if (k == .free && sc.kind == .function && sc.names.lookup n == some .cell) then (n, .cell) else (n, k) }
def cloFrom (cells : List (Str × Addr)) : List (Str × NameKind) → List (Str × Addr) → List (Str × Addr)
  | [], acc => acc
  | (n, k) :: r, acc => if k == .free then cloFrom cells r ((n, (cells.lookup n).getD 0) :: acc) else cloFrom cells r acc
theorem closure_loop (env : Env) (f : Str × NameKind → List (Str × Addr) → Sem (ForInStep (List (Str × Addr))))
    (hf : ∀ n k c, f (n, k) c = if k == .free then (do let a ← cellOf env n; pure (.yield ((n, a) :: c))) else pure (.yield c)) :
    ∀ (names : List (Str × NameKind)) (acc : List (Str × Addr)), (∀ y ∈ names, y.2 = .free → ∃ c, env.cells.lookup y.1 = some c) → forIn names acc f = pure (cloFrom env.cells names acc)
  | [], acc, _ => by rw [List.forIn_nil]; rfl
  | (n, k) :: r, acc, h => by
    rw [List.forIn_cons, hf]
    have ih := fun acc => closure_loop env f hf r acc fun y hy => h y (List.mem_cons_of_mem _ hy)
    unfold cloFrom
    by_cases hk : (k == NameKind.free) = true
    · rw [if_pos hk, if_pos hk]
      obtain ⟨c, hc⟩ := h (n, k) List.mem_cons_self (by simpa using hk)
      have e : cellOf env n = pure c := by unfold cellOf; rw [hc]
      rw [e]
      have e2 : (env.cells.lookup n).getD 0 = c := by rw [hc]; rfl
      rw [e2]
      exact ih _
    · rw [if_neg hk, if_neg hk]
      exact ih _
theorem closure_ok {scope : Scope} {env : Env} (h : ∀ y ∈ scope.names, y.2 = .free → ∃ c, env.cells.lookup y.1 = some c) : closureFor scope env = pure (cloFrom env.cells scope.names []) := by
  simp only [closureFor]
  rw [closure_loop env _ (fun n k c => rfl) scope.names [] h]
  rfl
theorem mem_lookup {α : Type} : ∀ {l : List (Str × α)} {n : Str} {c : α}, (n, c) ∈ l → ∃ c', l.lookup n = some c'
  | (k, v) :: r, n, c, h => by
    rw [List.lookup_cons]
    cases hb : n == k with
    | true => exact ⟨_, rfl⟩
    | false =>
      rcases List.mem_cons.mp h with e | h
      · cases e; simp at hb
      · exact mem_lookup h
theorem cloFrom_mem {cells : List (Str × Addr)} : ∀ {names : List (Str × NameKind)} {acc : List (Str × Addr)} {n : Str} {c : Addr}, (n, c) ∈ cloFrom cells names acc → (n, c) ∈ acc ∨ ((n, .free) ∈ names ∧ c = (cells.lookup n).getD 0)
  | [], _, _, _, h => .inl h
  | (m, k) :: r, acc, n, c, h => by
    unfold cloFrom at h
    split at h
    · rename_i hk
      have hk : k = .free := by simpa using hk
      rcases cloFrom_mem h with h | ⟨h1, h2⟩
      · rcases List.mem_cons.mp h with e | h
        · cases e; exact .inr ⟨hk ▸ List.mem_cons_self, rfl⟩
        · exact .inl h
      · exact .inr ⟨List.mem_cons_of_mem _ h1, h2⟩
    · rcases cloFrom_mem h with h | ⟨h1, h2⟩
      · exact .inl h
      · exact .inr ⟨List.mem_cons_of_mem _ h1, h2⟩
theorem cloFrom_acc {cells : List (Str × Addr)} : ∀ {names : List (Str × NameKind)} {acc : List (Str × Addr)} {p : Str × Addr}, p ∈ acc → p ∈ cloFrom cells names acc
  | [], _, _, h => h
  | (m, k) :: r, acc, p, h => by
    unfold cloFrom
    split
    · exact cloFrom_acc (List.mem_cons_of_mem _ h)
    · exact cloFrom_acc h
theorem cloFrom_has {cells : List (Str × Addr)} : ∀ {names : List (Str × NameKind)} {acc : List (Str × Addr)} {n : Str}, (n, .free) ∈ names → (n, (cells.lookup n).getD 0) ∈ cloFrom cells names acc
  | (m, k) :: r, acc, n, h => by
    unfold cloFrom
    rcases List.mem_cons.mp h with e | h
    · cases e
      exact cloFrom_acc List.mem_cons_self
    · split
      · exact cloFrom_has h
      · exact cloFrom_has h
theorem cells_mem : ∀ {names : List (Str × NameKind)} {h : Heap} {acc : List (Str × Addr)} {x : Str} {c : Addr}, (x, c) ∈ cellsFrom h.objs.size names acc →
    (x, c) ∈ acc ∨ ((x, .cell) ∈ names ∧ h.objs.size ≤ c ∧ CellAt (pushCells h names) c none)
  | [], _, _, _, _, h => .inl h
  | (n, k) :: r, h, acc, x, c, hm => by
    unfold cellsFrom at hm
    unfold pushCells
    split at hm
    · rename_i hk
      rw [if_pos hk]
      have hk : k = .cell := by simpa using hk
      rw [← Heap.size_push h { cls := .type "cell", data := .cell none }] at hm
      rcases cells_mem hm with hm | ⟨h1, h2, h3⟩
      · rcases List.mem_cons.mp hm with e | hm
        · cases e
          exact .inr ⟨hk ▸ List.mem_cons_self, Nat.le_refl _, _, pushCells_keeps r _ _ _ (Heap.get?_push_size _ rfl), rfl⟩
        · exact .inl hm
      · rw [Heap.size_push] at h2
        exact .inr ⟨List.mem_cons_of_mem _ h1, Nat.le_of_succ_le h2, h3⟩
    · rename_i hk
      rw [if_neg hk]
      rcases cells_mem hm with hm | ⟨h1, h2, h3⟩
      · exact .inl hm
      · exact .inr ⟨List.mem_cons_of_mem _ h1, h2, h3⟩
theorem cells_acc : ∀ {names : List (Str × NameKind)} {n : Nat} {acc : List (Str × Addr)} {p : Str × Addr}, p ∈ acc → p ∈ cellsFrom n names acc
  | [], _, _, _, h => h
  | (m, k) :: r, n, acc, p, h => by
    unfold cellsFrom
    split
    · exact cells_acc (List.mem_cons_of_mem _ h)
    · exact cells_acc h
theorem cells_has : ∀ {names : List (Str × NameKind)} {n : Nat} {acc : List (Str × Addr)} {x : Str}, (x, .cell) ∈ names → ∃ c, (x, c) ∈ cellsFrom n names acc
  | (m, k) :: r, n, acc, x, h => by
    unfold cellsFrom
    rcases List.mem_cons.mp h with e | h
    · cases e
      exact ⟨n, cells_acc List.mem_cons_self⟩
    · split
      · exact cells_has h
      · exact cells_has h
theorem cells_inj : ∀ {names : List (Str × NameKind)} {h : Heap} {acc : List (Str × Addr)} {x y : Str} {c : Addr}, (∀ p ∈ acc, p.2 < h.objs.size) → (∀ x y c, (x, c) ∈ acc → (y, c) ∈ acc → x = y) →
    (x, c) ∈ cellsFrom h.objs.size names acc → (y, c) ∈ cellsFrom h.objs.size names acc → x = y
  | [], _, _, _, _, _, _, hi, h1, h2 => hi _ _ _ h1 h2
  | (n, k) :: r, h, acc, x, y, c, hl, hi, h1, h2 => by
    unfold cellsFrom at h1 h2
    split at h1
    · rename_i hk
      rw [if_pos hk] at h2
      rw [← Heap.size_push h { cls := .type "cell", data := .cell none }] at h1 h2
      refine cells_inj (h := h.push _) (fun p hp => ?_) (fun x y c a b => ?_) h1 h2
      · rw [Heap.size_push]
        rcases List.mem_cons.mp hp with rfl | hp
        · exact Nat.lt_succ_self _
        · exact Nat.lt_succ_of_lt (hl p hp)
      · rcases List.mem_cons.mp a with e | a <;> rcases List.mem_cons.mp b with e' | b
        · cases e; cases e'; rfl
        · cases e; exact absurd (hl _ b) (Nat.lt_irrefl _)
        · cases e'; exact absurd (hl _ a) (Nat.lt_irrefl _)
        · exact hi _ _ _ a b
    · rename_i hk
      rw [if_neg hk] at h2
      exact cells_inj hl hi h1 h2
theorem newEnv_comp {M : Model} {A : Around} {E : Value → Shared → Prop} {s : Shared} {scope : Scope} {globals : Addr} {closure : List (Str × Addr)} {qual : Str} {func : Option Addr} {code : Value} {around : Env} {builtins : Addr} {Q : Env → Shared → Prop}
    (h : Q (newEnv scope s.heap.objs.size globals (cellsFrom (s.heap.objs.size + 1) scope.names closure) qual func code (some around) builtins)
      { s with heap := pushCells (s.heap.push { cls := .type "dict", data := .dict #[] }) scope.names }) :
    wpAny M A (newFunctionEnv scope globals closure [] qual func code (some around) builtins) Q E s := by
  simp only [newFunctionEnv, Option.isSome_some, if_true]
  refine wpAny_bind (wpAny_alloc ?_)
  refine wpAny_bind (wpAny_layCells _ (fun n k c => rfl) scope.names closure _ _ ?_)
  rw [show ({ s with heap := s.heap.push { cls := .type "dict", data := .dict #[] } } : Shared).heap.objs.size = s.heap.objs.size + 1 from Heap.size_push ..]
  rw [List.forIn_nil]
  exact wpAny_bind (wpAny_pure (wpAny_pure h))
theorem lookup_relS {sc : Scope} : ∀ {names : List (Str × NameKind)} {x : Str} {k : NameKind},
    (names.map fun (n, k) => if (k == NameKind.free && sc.kind == .function && sc.names.lookup n == some .cell) then (n, NameKind.cell) else (n, k)).lookup x = some k →
    ∃ k', names.lookup x = some k' ∧ (k = k' ∨ (k' = .free ∧ k = .cell))
  | [], _, _, h => by simp at h
  | (n, k₀) :: r, x, k, h => by
    have ih := @lookup_relS sc r x k
    have h' : List.lookup x ((if (k₀ == NameKind.free && sc.kind == .function && sc.names.lookup n == some .cell) = true then (n, NameKind.cell) else (n, k₀)) :: (r.map _)) = some k := h
    cases hx : x == n with
    | true =>
      simp only [List.lookup_cons, hx]
      by_cases hc : (k₀ == NameKind.free && sc.kind == .function && sc.names.lookup n == some .cell) = true
      · rw [if_pos hc] at h'
        simp only [List.lookup_cons, hx] at h'
        cases h'
        simp only [Bool.and_eq_true, beq_iff_eq] at hc
        exact ⟨k₀, rfl, .inr ⟨hc.1.1, rfl⟩⟩
      · rw [if_neg hc] at h'
        simp only [List.lookup_cons, hx] at h'
        cases h'
        exact ⟨_, rfl, .inl rfl⟩
    | false =>
      simp only [List.lookup_cons, hx]
      by_cases hc : (k₀ == NameKind.free && sc.kind == .function && sc.names.lookup n == some .cell) = true
      · rw [if_pos hc] at h'
        simp only [List.lookup_cons, hx] at h'
        exact ih h'
      · rw [if_neg hc] at h'
        simp only [List.lookup_cons, hx] at h'
        exact ih h'
structure BlkOk (N : List Str) (sc scope : Scope) (own : List (Str × Nat)) : Prop where
  kind : scope.kind = .function
  uniq : ∀ y ∈ scope.names, scope.names.lookup y.1 = some y.2
  ix : ∀ p ∈ own, N[p.2]? = some p.1
  free : ∀ y ∈ scope.names, y.2 = .free → sc.names.lookup y.1 = some .cell ∨ sc.names.lookup y.1 = some .free
  own : ∀ y ∈ scope.names, y.2 = .local ∨ y.2 = .cell → y.1 ∈ own.map (·.1) ∨ y.1 ∉ N
def wipe (σ : St) : List Nat → St
  | [] => σ
  | v :: vs => (wipe σ vs).set v none
theorem wipe_length (σ : St) : ∀ vs : List Nat, (wipe σ vs).length = σ.length
  | [] => rfl
  | v :: vs => by unfold wipe; rw [List.length_set, wipe_length σ vs]
theorem wipe_some {σ : St} {i : Nat} {x : V} : ∀ {vs : List Nat}, (wipe σ vs)[i]? = some (some x) → σ[i]? = some (some x) ∧ i ∉ vs
  | [], h => ⟨h, by simp⟩
  | v :: vs, h => by
    unfold wipe at h
    by_cases hi : v = i
    · subst hi
      by_cases hv : v < (wipe σ vs).length
      · rw [List.getElem?_set_self hv] at h; cases h
      · rw [List.getElem?_eq_none (by simpa using hv)] at h; cases h
    · rw [List.getElem?_set_ne hi] at h
      obtain ⟨h1, h2⟩ := wipe_some h
      exact ⟨h1, by simp only [List.mem_cons, not_or]; exact ⟨fun e => hi e.symm, h2⟩⟩
abbrev Cx.blk (X : Cx) (s : Shared) (H : Hp) (scope : Scope) (cenv : Env) (fp : List Addr) : Cx := { X with s_0 := s, H_0 := H, env := cenv, outer := X.stack, ex := fp, fn := fun x => scope.names.lookup x == some .cell, pn := [], xe := fun _ _ => False }
section
variable {X : Cx} {pins : List (Addr × Obj)} {σ : St} {H : Hp} {s : Shared}
theorem block_start {scope : Scope} {own : List (Str × Nat)} {fp : List Addr} (I : Inv X pins σ H s) (ok : BlkOk X.N X.env.scope scope own) (hN : X.N.Nodup) (hfp : ∀ b ∈ fp, FpOk X pins H b ∧ b < s.heap.objs.size) :
    Inv (X.blk s H scope (compEnvC scope (cellsFrom (s.heap.objs.size + 1) scope.names (cloFrom X.env.cells scope.names [])) s.heap.objs.size X.env) fp) [] (wipe σ (own.map (·.2))) H { s with heap := pushCells (s.heap.push { cls := .type "dict", data := .dict #[] }) scope.names } := by
  have hfree : ∀ y ∈ scope.names, y.2 = .free → ∃ c, X.env.cells.lookup y.1 = some c := fun y hy e => by
    rcases ok.free y hy e with k | k
    · exact I.ok.has _ (.inl k)
    · exact I.ok.has _ (.inr k)
  generalize hcenv : compEnvC scope (cellsFrom (s.heap.objs.size + 1) scope.names (cloFrom X.env.cells scope.names [])) s.heap.objs.size X.env = cenv
  have kp : ∀ b o, s.heap.get? b = some o → (pushCells (s.heap.push { cls := .type "dict", data := .dict #[] }) scope.names).get? b = some o := fun b o e => pushCells_keeps _ _ _ _ (Heap.get?_push_of_some _ e)
  have hL : cenv.locals = s.heap.objs.size := by rw [← hcenv]; rfl
  have hcl : cenv.cells = cellsFrom (s.heap.objs.size + 1) scope.names (cloFrom X.env.cells scope.names []) := by rw [← hcenv]; rfl
  have hsc : cenv.scope = relS scope X.env.scope := by rw [← hcenv]; rfl
  rw [← Heap.size_push s.heap { cls := .type "dict", data := .dict #[] }] at hcl
  have cm : ∀ {y c}, (y, c) ∈ cloFrom X.env.cells scope.names [] → X.env.cells.lookup y = some c ∧ c < s.heap.objs.size := fun {y c} hm => by
    rcases cloFrom_mem hm with hm | ⟨h1, rfl⟩
    · cases hm
    · obtain ⟨c, hc⟩ := hfree _ h1 rfl
      rw [hc]
      obtain ⟨w, z⟩ := I.cell _ _ hc
      exact ⟨rfl, z.lt⟩
  have mem : ∀ {y c}, cenv.cells.lookup y = some c → (X.env.cells.lookup y = some c ∧ c < s.heap.objs.size) ∨ (s.heap.objs.size + 1 ≤ c ∧ CellAt (pushCells (s.heap.push { cls := .type "dict", data := .dict #[] }) scope.names) c none) := fun {y c} e => by
    rw [hcl] at e
    rcases cells_mem (PySem.mem_of_lookup e) with hm | ⟨_, h2, h3⟩
    · exact .inl (cm hm)
    · rw [Heap.size_push] at h2; exact .inr ⟨h2, h3⟩
  have look : ∀ {y}, scope.names.lookup y = some .free → ∃ c, cenv.cells.lookup y = some c ∧ X.env.cells.lookup y = some c := fun {y} hl => by
    have hy : (y, NameKind.free) ∈ scope.names := PySem.mem_of_lookup hl
    obtain ⟨c', e'⟩ := mem_lookup (cells_acc (names := scope.names) (n := (s.heap.push { cls := .type "dict", data := .dict #[] }).objs.size) (cloFrom_has (cells := X.env.cells) (acc := []) hy))
    rw [← hcl] at e'
    refine ⟨c', e', ?_⟩
    rw [hcl] at e'
    rcases cells_mem (PySem.mem_of_lookup e') with hm | ⟨h1, _, _⟩
    · exact (cm hm).1
    · have := ok.uniq _ h1
      rw [hl] at this; cases this
  have okB : (X.blk s H scope cenv fp).Ok := by
    refine ⟨I.ok.mod, by show cenv.scope.kind = _; rw [hsc]; exact ok.kind, by show cenv.globals = _; rw [← hcenv]; exact I.ok.glob, by show cenv.builtins = _; rw [← hcenv]; exact I.ok.blt, by show s.heap.objs.size ≤ cenv.locals; rw [hL]; exact Nat.le_refl _,
      fun y z c e1 e2 => ?_, fun y hy => ?_, fun y c z e => ?_, I.ok.hd, I.ok.frames, .inl rfl, fun b hb => ⟨?_, fun y c e z => ?_⟩, I.bs, Nat.le_trans I.ok.bsz I.sz, fun b o e hb => ?_, fun b hb z => ?_, I.stack, I.stkFree⟩
    · have e1 : cenv.cells.lookup y = some c := e1
      have e2 : cenv.cells.lookup z = some c := e2
      rw [hcl] at e1 e2
      refine cells_inj (fun p hp => ?_) (fun y z c a b => I.ok.inj y z c (cm a).1 (cm b).1) (PySem.mem_of_lookup e1) (PySem.mem_of_lookup e2)
      rw [Heap.size_push]
      exact Nat.lt_succ_of_lt (cm (y := p.1) (c := p.2) hp).2
    · show ∃ c, cenv.cells.lookup y = some c
      have key : ∀ k, cenv.kindOf y = some k → (k = .cell ∨ k = .free) → ∃ c, cenv.cells.lookup y = some c := fun k hk hk' => by
        unfold Env.kindOf at hk
        rw [hsc] at hk
        obtain ⟨k', e, r⟩ := lookup_relS hk
        have : k' = .cell ∨ k' = .free := by
          rcases r with rfl | ⟨rfl, _⟩
          · exact hk'
          · exact .inr rfl
        rcases this with rfl | rfl
        · obtain ⟨c, hm⟩ := cells_has (n := (s.heap.push { cls := .type "dict", data := .dict #[] }).objs.size) (acc := cloFrom X.env.cells scope.names []) (PySem.mem_of_lookup e)
          obtain ⟨c', e'⟩ := mem_lookup hm
          exact ⟨c', by rw [hcl]; exact e'⟩
        · obtain ⟨c, h1, _⟩ := look e
          exact ⟨c, h1⟩
      rcases hy with hy | hy
      · exact key _ hy (.inl rfl)
      · exact key _ hy (.inr rfl)
    · have z : (scope.names.lookup y == some NameKind.cell) = true := z
      have z : scope.names.lookup y = some .cell := by simpa using z
      have e : cenv.cells.lookup y = some c := e
      rw [hcl] at e
      rcases cells_mem (PySem.mem_of_lookup e) with hm | ⟨_, h2, _⟩
      · rcases cloFrom_mem hm with hm | ⟨h1, _⟩
        · cases hm
        · have q := ok.uniq _ h1
          rw [z] at q; cases q
      · rw [Heap.size_push] at h2
        exact Nat.le_of_succ_le h2
    · show b ≠ cenv.locals
      rw [hL]; exact Nat.ne_of_lt (hfp b hb).2
    · have e : cenv.cells.lookup y = some c := e
      rcases mem e with ⟨h1, _⟩ | ⟨h1, _⟩
      · exact (hfp b hb).1.2.2.2.2.1 y c h1 z
      · have h2 : s.heap.objs.size + 1 ≤ b := by rw [← z]; exact h1
        exact absurd (Nat.lt_of_lt_of_le (hfp b hb).2 (Nat.le_of_succ_le h2)) (Nat.lt_irrefl _)
    · rcases (hfp b hb).1.2.2.2.1 with z | z
      · exact I.ok.noex b o e z
      · exact absurd (Nat.lt_of_lt_of_le (Heap.lt_size e) (Nat.le_trans I.ok.bsz z)) (Nat.lt_irrefl _)
    · rcases List.mem_cons.mp (I.stkSub b z) with z | z
      · exact (hfp b hb).1.2.1 z
      · exact (hfp b hb).1.2.2.1 z
  refine ⟨okB, rfl, I.bare, Un.kept kp, ⟨fun _ => none, ?_, fun i y av e1 e2 e3 => ?_⟩, fun y c e => ?_, ?_, fun y c e => ?_, fun p hp => ?_, I.hok.kept kp, by rw [wipe_length]; exact I.len⟩
  · show Heap.Ns _ cenv.locals _
    rw [hL]
    exact Heap.Ns.keeps (Heap.Ns.new ..) fun b o e => pushCells_keeps _ _ _ _ e
  · obtain ⟨e2, hne⟩ := wipe_some e2
    have hfr : scope.names.lookup y = some .free ∧ (cenv.kindOf y = some .cell ∨ cenv.kindOf y = some .free) := by
      have key : ∀ k, cenv.scope.names.lookup y = some k → k = .local ∨ k = .cell ∨ k = .free → scope.names.lookup y = some .free ∧ (cenv.kindOf y = some .cell ∨ cenv.kindOf y = some .free) := fun k hk hk' => by
        have hk0 := hk
        rw [hsc] at hk
        obtain ⟨k', e, r⟩ := lookup_relS hk
        have no : ¬ (k' = .local ∨ k' = .cell) := fun hh => by
          rcases ok.own _ (PySem.mem_of_lookup e) hh with e' | e'
          · obtain ⟨p, hp, hpy⟩ := List.mem_map.mp e'
            have e3 := ok.ix p hp
            have : p.1 = y := hpy
            rw [this] at e3
            exact hne (List.mem_map.mpr ⟨p, hp, nodup_ix hN e3 e1⟩)
          · exact e' (List.mem_of_getElem? e1)
        rcases r with rfl | ⟨rfl, rfl⟩
        · rcases hk' with rfl | rfl | rfl
          · exact absurd (.inl rfl) no
          · exact absurd (.inr rfl) no
          · exact ⟨e, .inr hk0⟩
        · exact ⟨e, .inl hk0⟩
      have e3 : Vis cenv.scope y := e3
      rcases e3 with e3 | e3 | e3
      · exact key _ e3 (.inl rfl)
      · exact key _ e3 (.inr (.inl rfl))
      · exact key _ e3 (.inr (.inr rfl))
    obtain ⟨m, hn, hl⟩ := I.loc
    have hvis : Vis X.env.scope y := (ok.free _ (PySem.mem_of_lookup hfr.1) rfl).elim (fun k => .inr (.inl k)) (fun k => .inr (.inr k))
    obtain ⟨w, r, q⟩ := hl i y av e1 e2 hvis
    refine ⟨w, r, .inr ⟨hfr.2, ?_⟩⟩
    obtain ⟨c, h1, h2⟩ := look hfr.1
    rcases q with ⟨k, _⟩ | ⟨_, c', e', z⟩
    · have k : X.env.scope.names.lookup y = some .local := k
      rcases ok.free _ (PySem.mem_of_lookup hfr.1) rfl with k' | k' <;> rw [show X.env.scope.names.lookup y = _ from k'] at k <;> cases k
    · rw [h2] at e'; cases e'
      exact ⟨c, h1, z.keeps kp⟩
  · have e : cenv.cells.lookup y = some c := e
    rcases mem e with ⟨h1, _⟩ | ⟨_, z⟩
    · obtain ⟨w, z⟩ := I.cell y c h1
      exact ⟨w, z.keeps kp⟩
    · exact ⟨_, z⟩
  · show H cenv.locals = none
    rw [hL]; exact I.hok.fresh (Nat.le_refl _)
  · have e : cenv.cells.lookup y = some c := e
    rcases mem e with ⟨h1, _⟩ | ⟨h1, _⟩
    · exact I.freeC y c h1
    · exact I.hok.fresh (Nat.le_of_succ_le h1)
  · exact absurd (show p ∈ ([] : List (Addr × Obj)) ++ [] from hp) (by simp)
theorem app_ok {E : Value → Shared → Prop} {D : Addr} {xs : List V} {y : V} {v : Value} {Q : Value → Shared → Prop} (I : Inv X pins σ H s) (hD : H D = some (.lst xs)) (hz : xs.length < sizeLine) (r : RelV y v)
    (h : ∀ s', Inv X pins σ (upd H D (.lst (xs ++ [y]))) s' → Q .none s') : wpAny (model X.prog X.w) X.A (call (.builtin "list.append") [.ref D, v]) Q E s := by
  obtain ⟨hz', its, n, ri, e⟩ := I.hok D _ hD
  have hl := ri.length
  refine append_at (hsz := by rw [List.size_toArray]; omega) e fun h' sb ho' => ?_
  refine h { s with heap := h' } (I.write (t' := s.toks) (by rw [hD]; trivial) (.inl rfl) (fun b u hb q => (sb.2 b hb).trans q) ⟨_, ho'⟩ ⟨by rw [List.length_append]; exact hz, its ++ [v], n + 1, ri.append (.cons r .nil), ?_⟩)
  rw [ho']
  simp
def PTs (X : Cx) (ifs : List Expr) (t : TT) : Prop :=
  ∀ (pins : List (Addr × Obj)) (s : Shared) (σ : St) (H : Hp) (Q : Bool → Hp → Prop), Inv X pins σ H s → t σ H Q →
    wpAny (model X.prog X.w) X.A (forIn ifs true fun c r => if r = true then do let ok ← isTrue c X.env (eval c X.env); pure (ForInStep.yield ok) else pure (ForInStep.yield r)) (TP X pins σ Q) X.xe s
def tYes : TT := fun _ H Q => Q true H
theorem pts_nil : PTs X [] tYes := fun _ _ _ H _ I h => wpAny_tests_nil ⟨H, I, h⟩
theorem pts_one {c : Expr} {t : TT} (h : PT X c t) : PTs X [c] t := fun pins s σ H Q I hw => wpAny_tests_one (h pins s σ H Q I hw)
end
theorem thnF {α : Type} {t : Sem α} {Q Q' : α → Shared → Prop} {M : Model} {A : Around} {E : Value → Shared → Prop} {s : Shared} (h : wpAny M A t Q (fun _ _ => False) s) (hQ : ∀ a s, Q a s → Q' a s) : wpAny M A t Q' E s := wpAny_mono h hQ fun _ _ z => False.elim z
theorem compLoop_any {prog : Program} {w : World} {A : Around} {R : Result → Shared → Prop} {s : Shared} {elt target iter : Expr} {ifs : List Expr} {scope : Scope} {pos : Pos} {it acc : Value} {env : Env} (I : Nat → Shared → Prop)
    (turn : ∀ n s, I n s → wpAny (model prog w) A (pyNext it) (fun r s₁ => match r with
      | none => R (.ok .next) s₁
      | some v => wpAny (model prog w) A (letOwnedTupleGo target it v) (fun _ s₁' => wpAny (model prog w) A (assign target env v) (fun _ s₂ =>
          wpAny (model prog w) A (forIn ifs true fun c r => if r = true then do let ok ← isTrue c env (eval c env); pure (ForInStep.yield ok) else pure (ForInStep.yield r)) (fun ok s₃ =>
            if ok = true then wpAny (model prog w) A (eval elt env) (fun x s₄ =>
              wpAny (model prog w) A (call (.builtin "list.append") [acc, x]) (fun _ s₅ => ∃ m, m < n ∧ I m s₅) (notedBy (model prog w) A env fun e s' => R (.error e) s') s₄) (notedBy (model prog w) A env fun e s' => R (.error e) s') s₃
            else ∃ m, m < n ∧ I m s₃) (notedBy (model prog w) A env fun e s' => R (.error e) s') s₂) (notedBy (model prog w) A env fun e s' => R (.error e) s') s₁') (notedBy (model prog w) A env fun e s' => R (.error e) s') s₁) (notedBy (model prog w) A env fun e s' => R (.error e) s') s)
    (n : Nat) (h : I n s) :
    codeAny (model prog w) A (.compLoop (.ListComp elt [⟨target, iter, ifs, 0⟩] scope pos) 0 it acc env) R s := by
  refine codeAny_loop rfl I (fun n s hI => ?_) n h
  show wpAny _ A ((compTurn (.ListComp elt [⟨target, iter, ifs, 0⟩] scope pos) 0 it acc env).onRaise (fun x => do noteFrame x env; theTreesLotGoes x)) _ _ s
  refine wpAny_noted ?_
  rw [compTurn_list]
  refine wpAny_bind (wpAny_standAt (wpAny_bind (wpAny_mono (turn n s hI) (fun r s₁ h₁ => ?_) fun _ _ h' => h')))
  cases r with
  | none => exact wpAny_pure h₁
  | some v =>
    refine wpAny_bind (wpAny_mono h₁ (fun _ s₁' h₁' => ?_) fun _ _ h' => h')
    refine wpAny_bind (wpAny_mono h₁' (fun _ s₂ h₂ => wpAny_bind (wpAny_mono h₂ (fun ok s₃ h₃ => ?_) fun _ _ h' => h')) fun _ _ h' => h')
    cases ok with
    | false => exact wpAny_pure ⟨rfl, h₃⟩
    | true =>
      exact wpAny_bind (wpAny_bind (wpAny_mono h₃ (fun x s₄ h₄ => wpAny_bind (wpAny_mono h₄ (fun _ s₅ h₅ => wpAny_pure (wpAny_pure ⟨rfl, h₅⟩)) fun _ _ h' => h')) fun _ _ h' => h'))
section
variable {X : Cx}
def tLc (wi : TI) (g : TG) (tt : TT) (te : TE) (vs : List Nat) : TE := fun σ H Q => wi σ H fun J H1 => ∀ D, H1 D = none → ∃ W : Nat → Nat → Hp → Prop, (∃ m, W 0 m (upd H1 D (.lst []))) ∧ ∀ i m H, W i m H →
  (J.stop i H ∧ Q (.ref D) H) ∨ (J.go i H ∧ ∃ Nx : Hp → Prop, (∀ H', Nx H' → ∃ m', m' < m ∧ W (i + 1) m' H') ∧ ∀ x H', J.yld i H x H' → g x (wipe σ vs) H' fun σ2 H2 => wipe σ2 vs = wipe σ vs ∧ tt σ2 H2 fun b H3 =>
    if b = true then te σ2 H3 fun y H4 => ∃ acc, H4 D = some (.lst acc) ∧ acc.length < sizeLine ∧ Nx (upd H4 D (.lst (acc ++ [y]))) else Nx H3)
theorem lc_core {pins : List (Addr × Obj)} {s : Shared} {σ : St} {H : Hp} {Q : VK} {elt tg iter : Expr} {ifs : List Expr} {scope : Scope} {own : List (Str × Nat)} {pos pos' : Pos} {wi : TI} {g : TG} {tt : TT} {te : TE} {use : Option (Value → Sem Unit)} {Qf : Value → Shared → Prop}
    (hc : X.calm = true) (hN : X.N.Nodup) (I : Inv X pins σ H s) (hi : PI X tg iter wi) (ok : BlkOk X.N X.env.scope scope own)
    (hg : ∀ (s : Shared) (H : Hp) (C : Addr) (cl : List (Str × Addr)) (fp : List Addr), PG (X.blk s H scope (compEnvC scope cl C X.env) fp) tg g) (ht : ∀ (s : Shared) (H : Hp) (C : Addr) (cl : List (Str × Addr)) (fp : List Addr), PTs (X.blk s H scope (compEnvC scope cl C X.env) fp) ifs tt)
    (he : ∀ (s : Shared) (H : Hp) (C : Addr) (cl : List (Str × Addr)) (fp : List Addr), PE (X.blk s H scope (compEnvC scope cl C X.env) fp) elt te) (hs : ∀ x, foldedSetIterable iter X.env x = pure x)
    (h : tLc wi g tt te (own.map (·.2)) σ H Q)
    (hRR : ∀ D C s' m H', Inv X pins σ H' s' → Q (.ref D) H' → s'.heap.Ns C m → FpOk X pins H' C → compPost (model X.prog X.w) X.A X.xe use Qf (.ref D) C (.ok .next) s') :
    wpAny (model X.prog X.w) X.A (comprehension (.ListComp elt [⟨tg, iter, ifs, 0⟩] scope pos) scope X.env pos' (newList []) false (eval iter X.env) use) Qf X.xe s := by
  have hfree : ∀ y ∈ scope.names, y.2 = .free → ∃ c, X.env.cells.lookup y.1 = some c := fun y hy e => by
    rcases ok.free y hy e with k | k
    · exact I.ok.has _ (.inl k)
    · exact I.ok.has _ (.inr k)
  refine wpAny_comprehension_free (use := use) rfl hs (closure_ok hfree) ok.kind (fun y hy e => by rw [ok.uniq y hy, e])
    (thn (hi pins s σ H _ I h) fun xv s1 hx => thn hx fun itv s2 h2 => ?_)
  obtain ⟨it, fp, tn, J, H2, e, I2, T, st2, f2, q⟩ := h2
  subst e
  refine wpAny_newObj_type (newEnv_comp ?_) (by show 0 ≤ sizeLine; decide)
  generalize hD : s2.heap.objs.size = D
  have hDn : H2 D = none := I2.hok.fresh (Nat.le_of_eq hD)
  obtain ⟨W, ⟨m0, w0⟩, turn⟩ := q D hDn
  -- the new list
  generalize hs3 : ({ s2 with heap := s2.heap.push { cls := .type "list", data := .seq ([] : List Value).toArray } } : Shared) = s3
  have I3 : Inv X pins σ (upd H2 D (.lst [])) s3 := by
    rw [← hs3]
    refine I2.laid (t' := s2.toks) (fun b o e => Heap.get?_push_of_some _ e) (Nat.le_of_eq hD) ⟨Nat.zero_le _, [], 0, .nil, ?_⟩
    rw [← hD]
    exact Heap.get?_push_size _ rfl
  have h3 : s3.heap = s2.heap.push { cls := .type "list", data := .seq ([] : List Value).toArray } := by rw [← hs3]
  have sz : ∀ b ∈ fp, b < s2.heap.objs.size := fun b hb => by
    obtain ⟨o, e, _⟩ := T.obj _ _ st2 b hb
    exact Heap.lt_size e
  have f3 : ∀ b ∈ fp, FpOk X pins (upd H2 D (.lst [])) b ∧ b < s3.heap.objs.size := fun b hb => by
    have hlt := sz b hb
    refine ⟨⟨?_, (f2 b hb).2⟩, by rw [h3, Heap.size_push]; exact Nat.lt_succ_of_lt hlt⟩
    rw [upd_ne (by rw [← hD]; exact Nat.ne_of_lt hlt)]
    exact (f2 b hb).1
  have st3 : tn 0 s3.heap := T.keep _ _ _ st2 fun b _ o e => by rw [h3]; exact Heap.get?_push_of_some _ e
  have I4 := block_start I3 ok hN f3
  have pg := hg s3 (upd H2 D (.lst [])) s3.heap.objs.size (cellsFrom (s3.heap.objs.size + 1) scope.names (cloFrom X.env.cells scope.names [])) fp
  have pt := ht s3 (upd H2 D (.lst [])) s3.heap.objs.size (cellsFrom (s3.heap.objs.size + 1) scope.names (cloFrom X.env.cells scope.names [])) fp
  have pe := he s3 (upd H2 D (.lst [])) s3.heap.objs.size (cellsFrom (s3.heap.objs.size + 1) scope.names (cloFrom X.env.cells scope.names [])) fp
  show codeAny _ _ (.compStart (.ListComp elt [⟨tg, iter, ifs, 0⟩] scope pos) 0 (.ref it) (.ref D) (compEnvC scope (cellsFrom (s3.heap.objs.size + 1) scope.names (cloFrom X.env.cells scope.names [])) s3.heap.objs.size X.env)) (compPost (model X.prog X.w) X.A X.xe use Qf (.ref D) s3.heap.objs.size) { s3 with heap := pushCells (s3.heap.push { cls := .type "dict", data := .dict #[] }) scope.names }
  have nfp : ∀ b ∈ fp, (upd H2 D (.lst [])) b = none := fun b hb => (f3 b hb).1.1
  generalize hce : compEnvC scope (cellsFrom (s3.heap.objs.size + 1) scope.names (cloFrom X.env.cells scope.names [])) s3.heap.objs.size X.env = ce at I4 pg pt pe ⊢
  have cL : ce.locals = s3.heap.objs.size := by subst hce; rfl
  generalize hH3 : upd H2 D (.lst []) = H3 at I3 I4 pg pt pe w0 nfp f3
  generalize hs4 : ({ s3 with heap := pushCells (s3.heap.push { cls := .type "dict", data := .dict #[] }) scope.names } : Shared) = s4 at I4 ⊢
  have st4 : tn 0 s4.heap := T.keep _ _ _ st3 fun b _ o e => by rw [← hs4]; exact pushCells_keeps _ _ _ _ (Heap.get?_push_of_some _ e)
  have stat : ∀ {σ' : St} {H' : Hp} {s' : Shared}, Inv (X.blk s3 H3 scope ce fp) [] σ' H' s' → (∀ b ∈ fp, H' b = none) → ∀ b ∈ fp, FpOk (X.blk s3 H3 scope ce fp) [] H' b := fun {σ' H' s'} I' hn b hb =>
    ⟨hn b hb, (I'.ok.exf b hb).1, I'.ok.exfs b hb, .inl hb, fun x c e => (I'.ok.exf b hb).2 x c e, fun p hp => absurd (show p ∈ ([] : List (Addr × Obj)) ++ [] from hp) (by simp)⟩
  have loop : codeAny (model X.prog X.w) X.A (.compLoop (.ListComp elt [⟨tg, iter, ifs, 0⟩] scope pos) 0 (.ref it) (.ref D) ce) (compPost (model X.prog X.w) X.A X.xe use Qf (.ref D) s3.heap.objs.size) s4 := by
    refine compLoop_any (fun n s' => ∃ i H', Inv (X.blk s3 H3 scope ce fp) [] (wipe σ (own.map (·.2))) H' s' ∧ tn i s'.heap ∧ (∀ b ∈ fp, H' b = none) ∧ W i n H') ?_ m0 ⟨0, H3, I4, st4, nfp, w0⟩
    rintro n s5 ⟨i, H5, I5, st5, n5, w5⟩
    rcases turn i n H5 w5 with ⟨stop, qq⟩ | ⟨go, Nx, hNx, step⟩
    · have td := T.done (X.blk s3 H3 scope ce fp) rfl rfl rfl hc i [] s5 _ H5 (fun _ _ => False) I5 (stat I5 n5) st5 stop
      refine thnF td fun r s6 ⟨hr, I6⟩ => ?_
      subst hr
      -- back in the def's context
      have I7 : Inv X pins σ H5 s6 := I3.call' (ch := fp) I6.os I6.base I6.hok I6.bare fun b hb => ⟨(f3 b hb).1.2.2.2.1, (f3 b hb).1.2.1, (f3 b hb).1.2.2.2.2.1, (f3 b hb).1.2.2.2.2.2⟩
      have nC : H5 s3.heap.objs.size = none := by
        have z : H5 ce.locals = none := I6.free
        rw [cL] at z
        exact z
      obtain ⟨m, hn, _⟩ := I6.loc
      have hn : s6.heap.Ns ce.locals m := hn
      rw [cL] at hn
      exact hRR D s3.heap.objs.size s6 m H5 I7 qq hn (I3.fpOk (Nat.le_refl _) nC)
    · have ti := T.item (X.blk s3 H3 scope ce fp) rfl rfl rfl hc i [] s5 _ H5 (fun _ _ => False) I5 (stat I5 n5) st5 go
      refine thnF ti fun r s6 ⟨u, hr, h6⟩ => ?_
      subst hr
      refine thnF h6 fun _ s7 ⟨x, H7, I7, r7, y7, st7, n7⟩ => ?_
      have I7' := I7.pinned (stat I7 n7) (T.obj _ _ st7)
      refine thnF (pg _ s7 _ H7 x u _ I7' r7 (step x H7 y7)) fun _ s8 ⟨σ8, H8, I8, hw8, q8⟩ => ?_
      refine thnF (pt _ s8 σ8 H8 _ I8 q8) fun b s9 ⟨H9, I9, q9⟩ => ?_
      -- the turn's end
      have fin : ∀ {s' : Shared} {H' : Hp}, Inv (X.blk s3 H3 scope ce fp) ([] ++ pinsAt fp s7.heap) σ8 H' s' → Nx H' → ∃ m, m < n ∧ ∃ i H', Inv (X.blk s3 H3 scope ce fp) [] (wipe σ (own.map (·.2))) H' s' ∧ tn i s'.heap ∧ (∀ b ∈ fp, H' b = none) ∧ W i m H' := fun {s' H'} I' nx => by
        obtain ⟨m', hm, w'⟩ := hNx H' nx
        have pin' : ∀ b ∈ fp, ∀ o, s7.heap.get? b = some o → s'.heap.get? b = some o ∧ H' b = none := fun b hb o e =>
          let z := I'.pin (b, o) (List.mem_append_right _ (List.mem_append_right _ (mem_pinsAt hb e)))
          ⟨z.1, z.2.1⟩
        have hl : (wipe σ (own.map (·.2))).length = σ8.length := by rw [← hw8, wipe_length]
        refine ⟨m', hm, i + 1, H', (I'.unpinned (pins := [])).weak hl (fun j v e => ?_), T.keep _ _ _ st7 fun b hb o e => (pin' b hb o e).1, fun b hb => ?_, w'⟩
        · rw [← hw8] at e
          exact (wipe_some e).1
        · obtain ⟨o, e, _⟩ := T.obj _ _ st7 b hb
          exact (pin' b hb o e).2
      cases b with
      | false =>
        simp only [Bool.false_eq_true, if_false] at q9 ⊢
        exact fin I9 q9
      | true =>
        simp only [if_true] at q9 ⊢
        refine thnF (pe _ s9 σ8 H9 _ I9 q9) fun z s10 ⟨yv, H10, I10, r10, acc, hD10, hz10, nx⟩ => ?_
        exact app_ok (X := X.blk s3 H3 scope ce fp) I10 hD10 hz10 r10 fun s11 I11 => fin I11 nx
  exact codeAny_compStart_list loop (T.self X.A 0 _ _ _ st4 loop)
theorem pe_lc {elt tg iter : Expr} {ifs : List Expr} {scope : Scope} {own : List (Str × Nat)} {pos : Pos} {wi : TI} {g : TG} {tt : TT} {te : TE} (hc : X.calm = true) (hN : X.N.Nodup) (hi : PI X tg iter wi) (ok : BlkOk X.N X.env.scope scope own)
    (hg : ∀ (s : Shared) (H : Hp) (C : Addr) (cl : List (Str × Addr)) (fp : List Addr), PG (X.blk s H scope (compEnvC scope cl C X.env) fp) tg g) (ht : ∀ (s : Shared) (H : Hp) (C : Addr) (cl : List (Str × Addr)) (fp : List Addr), PTs (X.blk s H scope (compEnvC scope cl C X.env) fp) ifs tt)
    (he : ∀ (s : Shared) (H : Hp) (C : Addr) (cl : List (Str × Addr)) (fp : List Addr), PE (X.blk s H scope (compEnvC scope cl C X.env) fp) elt te) (hs : ∀ x, foldedSetIterable iter X.env x = pure x := by intro _; rfl) :
    PE X (.ListComp elt [⟨tg, iter, ifs, 0⟩] scope pos) (tLc wi g tt te (own.map (·.2))) := by
  intro pins s σ H Q I h
  rw [eval_ListComp]
  refine lc_core hc hN I hi ok hg ht he hs h fun D C s' m H' I' q hn f => ⟨m, hn, fun h'' sb => ?_⟩
  obtain ⟨f0, f1, f2, f3, f4, f5⟩ := f
  exact ⟨.ref D, H', I'.turned (t' := s'.toks) (fun b o hb e => (sb.2 b hb).trans e) f0 f1 f3 f4 f5, rfl, q⟩
theorem ps_setLc {i : Nat} {y : Str} {py : Pos} {elt tg iter : Expr} {ifs : List Expr} {scope : Scope} {own : List (Str × Nat)} {pos spos : Pos} {wi : TI} {g : TG} {tt : TT} {te : TE} (hc : X.calm = true) (hN : X.N.Nodup) (hy : X.N[i]? = some y) (hyl : X.env.scope.names.lookup y = some .local)
    (hsw : swapsWith (.ListComp elt [⟨tg, iter, ifs, 0⟩] scope pos) (some (.Name y py)) spos.line X.env = pure true) (hi : PI X tg iter wi) (ok : BlkOk X.N X.env.scope scope own)
    (hg : ∀ (s : Shared) (H : Hp) (C : Addr) (cl : List (Str × Addr)) (fp : List Addr), PG (X.blk s H scope (compEnvC scope cl C X.env) fp) tg g) (ht : ∀ (s : Shared) (H : Hp) (C : Addr) (cl : List (Str × Addr)) (fp : List Addr), PTs (X.blk s H scope (compEnvC scope cl C X.env) fp) ifs tt)
    (he : ∀ (s : Shared) (H : Hp) (C : Addr) (cl : List (Str × Addr)) (fp : List Addr), PE (X.blk s H scope (compEnvC scope cl C X.env) fp) elt te) (hs : ∀ x, foldedSetIterable iter X.env x = pure x := by intro _; rfl) :
    PS X (.Assign [.Name y py] (.ListComp elt [⟨tg, iter, ifs, 0⟩] scope pos) spos) (tAsg (tLc wi g tt te (own.map (·.2))) (gName i)) := by
  intro pins s σ H D I h
  rw [exec_Assign_Name_used _ _ _ _ hsw]
  refine wpAny_bind (wpAny_standAt (wpAny_bind ?_))
  show wpAny _ X.A (do let _ ← comprehension (.ListComp elt [⟨tg, iter, ifs, 0⟩] scope pos) scope X.env (firstIterPos [⟨tg, iter, ifs, 0⟩] pos) (newList []) false (eval iter X.env) (some (assign (.Name y py) X.env))) _ _ s
  have h : tLc wi g tt te (own.map (·.2)) σ H (fun x H1 => gName i x σ H1 D.nx) := h
  refine wpAny_bind (thn (lc_core (Qf := fun _ s' => SP X pins D .next s') hc hN I hi ok hg ht he hs h fun L C s' m H' I' q hn f => ?_) fun _ s' hq => wpAny_pure (wpAny_pure hq))
  show wpAny _ _ (assign (.Name y py) X.env (.ref L)) _ _ _
  refine wpAny_assign_Name (store_ok2 (v := V.ref L) I' hN hy (.inl hyl) rfl (fun s2 I2 ⟨a, sb, ha⟩ => ?_) (.inr hyl))
  obtain ⟨f0, f1, f2, f3, f4, f5⟩ := f
  have haC : C ≠ a := by
    rcases ha with z | z
    · rw [z]; exact f1
    · exact fun e => f4 y a z e.symm
  refine ⟨m, hn.sameBut sb haC, fun h3 sb3 => ?_⟩
  exact ⟨_, H', I2.turned (t' := s2.toks) (fun b o hb e => (sb3.2 b hb).trans e) f0 f1 f3 f4 f5, q⟩
theorem sw_true {elt : Expr} {gs : List Comprehension} {scope : Scope} {pos py : Pos} {y : Str} {l : Nat} {env : Env} (hk : env.scope.kind = .function) (hy : env.scope.names.lookup y = some .local) (hl : (py.line == pos.line) = true)
    (ha : (scope.names.any fun (n, k) => n == y && (k == .local || k == .cell)) = false) : swapsWith (.ListComp elt gs scope pos) (some (.Name y py)) l env = pure true := by
  have ky : env.kindOf y = some .local := hy
  have hb : env.blockKind = .function := by unfold Env.blockKind; rw [hk]; rfl
  unfold swapsWith
  simp only [hb, ky, ha, Expr.pos, hl]
  rfl
end
theorem lc_range {lo : Int} {n : Nat} {g : TG} {tt : TT} {te : TE} {vs : List Nat} {σ : St} {H1 : Hp} {D : Addr} {Qd : Hp → Prop} (Pv : Nat → Hp → Prop) (h0 : Pv 0 (upd H1 D (.lst [])))
    (hs : ∀ i H, i < n → Pv i H → g (.int (lo + i)) (wipe σ vs) H fun σ2 H2 => wipe σ2 vs = wipe σ vs ∧ tt σ2 H2 fun b H3 =>
      if b = true then te σ2 H3 fun y H4 => ∃ acc, H4 D = some (.lst acc) ∧ acc.length < sizeLine ∧ Pv (i + 1) (upd H4 D (.lst (acc ++ [y]))) else Pv (i + 1) H3) (hd : ∀ H, Pv n H → Qd H) :
    ∃ W : Nat → Nat → Hp → Prop, (∃ m, W 0 m (upd H1 D (.lst []))) ∧ ∀ i m H, W i m H →
      ((Itr lo n).stop i H ∧ Qd H) ∨ ((Itr lo n).go i H ∧ ∃ Nx : Hp → Prop, (∀ H', Nx H' → ∃ m', m' < m ∧ W (i + 1) m' H') ∧ ∀ x H', (Itr lo n).yld i H x H' → g x (wipe σ vs) H' fun σ2 H2 => wipe σ2 vs = wipe σ vs ∧ tt σ2 H2 fun b H3 =>
        if b = true then te σ2 H3 fun y H4 => ∃ acc, H4 D = some (.lst acc) ∧ acc.length < sizeLine ∧ Nx (upd H4 D (.lst (acc ++ [y]))) else Nx H3) := by
  refine ⟨fun i m H => m = n - i ∧ i ≤ n ∧ Pv i H, ⟨n, by simp, Nat.zero_le _, h0⟩, ?_⟩
  rintro i m H ⟨rfl, hi, p⟩
  by_cases hlt : i < n
  · refine .inr ⟨hlt, Pv (i + 1), fun H' p' => ⟨n - (i + 1), by omega, rfl, hlt, p'⟩, fun x H' y => ?_⟩
    obtain ⟨e, y⟩ := y
    subst e y
    exact hs i _ hlt p
  · have e : i = n := by omega
    subst e
    exact .inl ⟨Nat.le_refl _, hd H p⟩
theorem lc_list {K : PySem.W.Frag} {a : Addr} {xs : List V} {g : TG} {tt : TT} {te : TE} {vs : List Nat} {σ : St} {H1 : Hp} {D : Addr} {Qd : Hp → Prop} (Pv : Nat → Hp → Prop) (h0 : Pv 0 (upd H1 D (.lst []))) (hl : ∀ i H, i ≤ xs.length → Pv i H → SqL K H a xs)
    (hs : ∀ i x H, xs[i]? = some x → Pv i H → g x (wipe σ vs) H fun σ2 H2 => wipe σ2 vs = wipe σ vs ∧ tt σ2 H2 fun b H3 =>
      if b = true then te σ2 H3 fun y H4 => ∃ acc, H4 D = some (.lst acc) ∧ acc.length < sizeLine ∧ Pv (i + 1) (upd H4 D (.lst (acc ++ [y]))) else Pv (i + 1) H3) (hd : ∀ H, Pv xs.length H → Qd H) :
    ∃ W : Nat → Nat → Hp → Prop, (∃ m, W 0 m (upd H1 D (.lst []))) ∧ ∀ i m H, W i m H →
      ((Itl K a).stop i H ∧ Qd H) ∨ ((Itl K a).go i H ∧ ∃ Nx : Hp → Prop, (∀ H', Nx H' → ∃ m', m' < m ∧ W (i + 1) m' H') ∧ ∀ x H', (Itl K a).yld i H x H' → g x (wipe σ vs) H' fun σ2 H2 => wipe σ2 vs = wipe σ vs ∧ tt σ2 H2 fun b H3 =>
        if b = true then te σ2 H3 fun y H4 => ∃ acc, H4 D = some (.lst acc) ∧ acc.length < sizeLine ∧ Nx (upd H4 D (.lst (acc ++ [y]))) else Nx H3) := by
  refine ⟨fun i m H => m = xs.length - i ∧ i ≤ xs.length ∧ Pv i H, ⟨xs.length, by simp, Nat.zero_le _, h0⟩, ?_⟩
  rintro i m H ⟨rfl, hi, p⟩
  have q := hl i H hi p
  by_cases hlt : i < xs.length
  · refine .inr ⟨⟨xs, xs[i], q, by simp [hlt]⟩, Pv (i + 1), fun H' p' => ⟨xs.length - (i + 1), by omega, rfl, hlt, p'⟩, fun x H' y => ?_⟩
    obtain ⟨e, y⟩ := y
    subst e
    exact hs i x _ (y xs q) p
  · have e : i = xs.length := by omega
    subst e
    exact .inl ⟨⟨xs, q, Nat.le_refl _⟩, hd H p⟩
def blkC (N : List Str) (sc scope : Scope) (own : List (Str × Nat)) : Bool :=
  (match scope.kind with | .function => true | _ => false) && (scope.names.all fun y => decide (scope.names.lookup y.1 = some y.2)) && (own.all fun p => decide (N[p.2]? = some p.1)) &&
    (scope.names.all fun y => match y.2 with
      | .free => (match sc.names.lookup y.1 with | some .cell => true | some .free => true | _ => false)
      | .local => decide (y.1 ∈ own.map (·.1)) || decide (y.1 ∉ N)
      | .cell => decide (y.1 ∈ own.map (·.1)) || decide (y.1 ∉ N)
      | _ => true)
theorem blkOk_by {N : List Str} {sc scope : Scope} {own : List (Str × Nat)} (h : blkC N sc scope own = true) : BlkOk N sc scope own := by
  unfold blkC at h
  simp only [Bool.and_eq_true, List.all_eq_true, decide_eq_true_eq] at h
  obtain ⟨⟨⟨h1, h2⟩, h3⟩, h4⟩ := h
  refine ⟨?_, h2, h3, fun y hy e => ?_, fun y hy e => ?_⟩
  · split at h1
    · assumption
    · cases h1
  · have q := h4 y hy
    simp only [e] at q
    split at q <;> first | exact .inl (by assumption) | exact .inr (by assumption) | cases q
  · have q := h4 y hy
    rcases e with e | e <;> (simp only [e, Bool.or_eq_true, decide_eq_true_eq] at q; exact q)
end L2
namespace L2
open PySem PySem.Spec PyProof.Rows
end L2
namespace L2
open PySem PySem.Spec PyProof.Rows
section
variable {κ : Type} [DecidableEq κ]
def valV (kvs : List (κ × V)) (k : κ) : Option V := (kvs.find? fun kv => decide (kv.1 = k)).map (·.2)
def putK (kvs : List (κ × V)) (k : κ) (v : V) : List (κ × V) :=
  if (kvs.any fun kv => decide (kv.1 = k)) = true then kvs.map (fun kv => if kv.1 = k then (kv.1, v) else kv) else kvs ++ [(k, v)]
theorem valV_pos {p : κ × V} {r : List (κ × V)} {k : κ} (e : p.1 = k) : valV (p :: r) k = some p.2 := by simp [valV, List.find?_cons, e]
theorem valV_neg {p : κ × V} {r : List (κ × V)} {k : κ} (e : ¬ p.1 = k) : valV (p :: r) k = valV r k := by simp [valV, List.find?_cons, e]
theorem valV_any (k : κ) : ∀ kvs : List (κ × V), (kvs.any fun kv => decide (kv.1 = k)) = (valV kvs k).isSome
  | [] => rfl
  | p :: r => by
    rw [List.any_cons]
    by_cases e : p.1 = k
    · simp only [valV_pos e, decide_eq_true e, Bool.true_or, Option.isSome_some]
    · rw [valV_neg e, decide_eq_false e, Bool.false_or]; exact valV_any k r
theorem valV_map (k j : κ) (y : V) : ∀ kvs : List (κ × V), valV (kvs.map fun kv => if kv.1 = k then (kv.1, y) else kv) j = (valV kvs j).map fun x => if j = k then y else x
  | [] => rfl
  | p :: r => by
    have ih := valV_map k j y r
    rw [List.map_cons]
    by_cases h : p.1 = k
    · rw [if_pos h]
      by_cases e : p.1 = j
      · rw [valV_pos (p := (p.1, y)) e, valV_pos e, Option.map_some, if_pos (e.symm.trans h)]
      · rw [valV_neg (p := (p.1, y)) e, valV_neg e, ih]
    · rw [if_neg h]
      by_cases e : p.1 = j
      · rw [valV_pos (p := p) e, valV_pos e, Option.map_some, if_neg (fun z => h (e.trans z))]
      · rw [valV_neg (p := p) e, valV_neg e, ih]
theorem valV_snoc (k j : κ) (y : V) : ∀ kvs : List (κ × V), valV kvs k = none → valV (kvs ++ [(k, y)]) j = if j = k then some y else valV kvs j
  | [], _ => by
    by_cases e : k = j
    · rw [if_pos e.symm]; exact valV_pos (p := (k, y)) e
    · rw [if_neg (fun z => e z.symm)]; exact valV_neg (p := (k, y)) e
  | p :: r, hn => by
    rw [List.cons_append]
    have hk : ¬ p.1 = k := fun z => by rw [valV_pos z] at hn; cases hn
    rw [valV_neg hk] at hn
    have ih := valV_snoc k j y r hn
    by_cases e : p.1 = j
    · rw [valV_pos e, valV_pos e, if_neg (fun z => hk (e.trans z))]
    · rw [valV_neg e, valV_neg e, ih]
theorem valV_put (kvs : List (κ × V)) (k j : κ) (y : V) : valV (putK kvs k y) j = if j = k then some y else valV kvs j := by
  unfold putK
  by_cases a : (kvs.any fun kv => decide (kv.1 = k)) = true
  · rw [if_pos a, valV_map]
    rw [valV_any] at a
    by_cases e : j = k
    · obtain ⟨x, hx⟩ := Option.isSome_iff_exists.mp a
      rw [if_pos e, e, hx, Option.map_some, if_pos rfl]
    · rw [if_neg e]
      cases valV kvs j with
      | none => rfl
      | some x => rw [Option.map_some, if_neg e]
  · rw [if_neg a]
    refine valV_snoc k j y kvs ?_
    rw [valV_any] at a
    cases q : valV kvs k with
    | none => rfl
    | some x => rw [q] at a; exact (a rfl).elim
theorem length_putK (kvs : List (κ × V)) (k : κ) (v : V) : (putK kvs k v).length ≤ kvs.length + 1 := by
  unfold putK
  split
  · rw [List.length_map]; omega
  · rw [List.length_append, List.length_cons, List.length_nil]; omega
theorem putK_new {kvs : List (κ × V)} {k : κ} (v : V) (h : valV kvs k = none) : putK kvs k v = kvs ++ [(k, v)] := by
  unfold putK
  rw [valV_any, h]
  exact if_neg (by decide)
theorem RelO.isSome_eq {o : Option V} {u : Option Value} (r : RelO o u) : o.isSome = u.isSome := by
  cases o with
  | none => cases u with
    | none => rfl
    | some _ => exact (show False from r).elim
  | some _ => cases u with
    | none => exact (show False from r).elim
    | some _ => rfl
theorem RelO.getD {o : Option V} {u : Option Value} {d : V} {d' : Value} (r : RelO o u) (rd : RelV d d') : RelV (o.getD d) (u.getD d') := by
  cases o with
  | none => cases u with
    | none => exact rd
    | some _ => exact (show False from r).elim
  | some _ => cases u with
    | none => exact (show False from r).elim
    | some _ => exact r
theorem KV.val {kvs : List (κ × V)} {vs : List (κ × Value)} (r : KV kvs vs) (k : κ) : RelO (valV kvs k) (valueAt vs k) := by
  unfold KV at r
  induction r with
  | nil => exact True.intro
  | @cons p q ps qs h t ih =>
    obtain ⟨h1, h2⟩ := h
    by_cases e : p.1 = k
    · have e' : q.1 = k := h1.symm.trans e
      have b : valueAt (q :: qs) k = some q.2 := by simp [valueAt, List.find?_cons, e']
      rw [valV_pos e, b]; exact h2
    · have e' : ¬ q.1 = k := fun z => e (h1.trans z)
      have b : valueAt (q :: qs) k = valueAt qs k := by simp [valueAt, List.find?_cons, e']
      rw [valV_neg e, b]; exact ih
theorem KV.any {kvs : List (κ × V)} {vs : List (κ × Value)} (r : KV kvs vs) (k : κ) : (kvs.any fun kv => decide (kv.1 = k)) = vs.any fun kv => decide (kv.1 = k) := by
  unfold KV at r
  induction r with
  | nil => rfl
  | cons h t ih => rw [List.any_cons, List.any_cons, ih, h.1]
theorem KV.repl {kvs : List (κ × V)} {vs : List (κ × Value)} (r : KV kvs vs) (k : κ) {y : V} {u : Value} (ry : RelV y u) :
    KV (kvs.map fun kv => if kv.1 = k then (kv.1, y) else kv) (vs.map fun kv => if kv.1 = k then (kv.1, u) else kv) := by
  unfold KV at r ⊢
  induction r with
  | nil => exact .nil
  | @cons p q ps qs h t ih =>
    rw [List.map_cons, List.map_cons]
    refine .cons ?_ ih
    obtain ⟨h1, h2⟩ := h
    by_cases e : p.1 = k
    · rw [if_pos e, if_pos (h1.symm.trans e)]; exact ⟨h1, ry⟩
    · rw [if_neg e, if_neg (fun z => e (h1.trans z))]; exact ⟨h1, h2⟩
theorem KV.put {kvs : List (κ × V)} {vs : List (κ × Value)} (r : KV kvs vs) (k : κ) {y : V} {u : Value} (ry : RelV y u) : KV (putK kvs k y) (stored vs k u) := by
  unfold putK stored
  rw [r.any k]
  by_cases e : (vs.any fun kv => decide (kv.1 = k)) = true
  · rw [if_pos e, if_pos e]; exact r.repl k ry
  · rw [if_neg e, if_neg e]; exact Paired.snoc r ⟨rfl, ry⟩
theorem KV.length {kvs : List (κ × V)} {vs : List (κ × Value)} (r : KV kvs vs) : kvs.length = vs.length := Paired.length r
end
theorem kV_is {P : Program} {w : World} {k : Key} {u : Value} (r : RelV (kV k) u) : (mixKind P w).is k u = true := by
  cases k with
  | inl i => obtain ⟨t, e⟩ := (show ∃ t, u = Value.int i t from r); subst e; exact mixKind_int P w i t
  | inr x => obtain ⟨t, e⟩ := (show ∃ t, u = Value.str x t from r); subst e; exact mixKind_str P w x t
theorem items_are {P : Program} {w : World} : ∀ {ks : List Key} {us : List Value}, Vals (ks.map kV) us → ItemsAre (mixKind P w) ks us
  | [], _, r => by rw [List.map_nil] at r; cases r; exact .nil
  | k :: ks, _, r => by
    rw [List.map_cons] at r
    cases r with
    | cons h t => exact .cons (kV_is h) (items_are t)
abbrev KT (H : Hp) : List (List Key × V) → List (List Key × Addr × Value) → Prop := Paired fun p q => p.1 = q.1 ∧ H q.2.1 = some (.tup (p.1.map kV)) ∧ RelV p.2 q.2.2
theorem KT.val {H : Hp} {kvs : List (List Key × V)} {xs : List (List Key × Addr × Value)} (r : KT H kvs xs) (k : List Key) : RelO (valV kvs k) ((atKey xs k).map (·.2)) := by
  induction r with
  | nil => exact True.intro
  | @cons p q ps qs h t ih =>
    obtain ⟨h1, _, h2⟩ := h
    by_cases e : p.1 = k
    · have e' : q.1 = k := h1.symm.trans e
      have b : atKey (q :: qs) k = some q.2 := by simp [atKey, List.find?_cons, e']
      rw [valV_pos e, b]; exact h2
    · have e' : ¬ q.1 = k := fun z => e (h1.trans z)
      have b : atKey (q :: qs) k = atKey qs k := by simp [atKey, List.find?_cons, e']
      rw [valV_neg e, b]; exact ih
theorem KT.repl {H : Hp} {kvs : List (List Key × V)} {xs : List (List Key × Addr × Value)} (r : KT H kvs xs) (k : List Key) {y : V} {u : Value} (ry : RelV y u) :
    KT H (kvs.map fun kv => if kv.1 = k then (kv.1, y) else kv) (xs.map (putAt k u)) := by
  induction r with
  | nil => exact .nil
  | @cons p q ps qs h t ih =>
    rw [List.map_cons, List.map_cons]
    refine .cons ?_ ih
    obtain ⟨h1, h2, h3⟩ := h
    unfold putAt
    by_cases e : p.1 = k
    · rw [if_pos e, if_pos (h1.symm.trans e)]; exact ⟨h1, h2, ry⟩
    · rw [if_neg e, if_neg (fun z => e (h1.trans z))]; exact ⟨h1, h2, h3⟩
theorem KT.put {H : Hp} {kvs : List (List Key × V)} {xs : List (List Key × Addr × Value)} (r : KT H kvs xs) (k : List Key) {b : Addr} {y : V} {u : Value} (hb : H b = some (.tup (k.map kV))) (ry : RelV y u) :
    KT H (putK kvs k y) (storedH xs k b u) := by
  have e : (kvs.any fun kv => decide (kv.1 = k)) = (atKey xs k).isSome := by
    rw [valV_any, (r.val k).isSome_eq, Option.isSome_map]
  unfold putK storedH
  rw [e]
  by_cases q : (atKey xs k).isSome = true
  · rw [if_pos q, if_pos q]; exact r.repl k ry
  · rw [if_neg q, if_neg q]; exact Paired.snoc r ⟨rfl, hb, ry⟩
theorem KT.keeps {H H' : Hp} {kvs : List (List Key × V)} {xs : List (List Key × Addr × Value)} (r : KT H kvs xs) (ht : ∀ b ys, H b = some (.tup ys) → H' b = some (.tup ys)) : KT H' kvs xs :=
  Paired.mapP r fun _ _ z => ⟨z.1, ht _ _ z.2.1, z.2.2⟩
section
variable {P : Program} {w : World} {H : Hp} {h : Heap} {a : Addr}
theorem rd_of {u : HO} (ok : HOk P w H h) (e : Rd H a u) : ObjOk P w H h a u := e.ok ok
theorem dk_rd {kvs : List (Key × V)} (ok : HOk P w H h) (e : Rd H a (.dK kvs)) : kvs.length ≤ sizeLine ∧ (a == sysModules) = false ∧ ∃ vs, KV kvs vs ∧ h.DictOf (mixKind P w) a vs :=
  show ObjOk P w H h a (.dK kvs) from rd_of ok e
theorem dk_of {kvs : List (Key × V)} (ok : HOk P w H h) (e : H a = some (.dK kvs)) : kvs.length ≤ sizeLine ∧ (a == sysModules) = false ∧ ∃ vs, KV kvs vs ∧ h.DictOf (mixKind P w) a vs := dk_rd ok (.inl e)
theorem key_of {ks : List Key} (ok : HOk P w H h) (e : H a = some (.tup (ks.map kV))) : (tupleKind (mixKind P w)).is h ks a := by
  obtain ⟨_, its, r, o, h1, h2, n, h3⟩ := (show ObjOk P w H h a (.tup (ks.map kV)) from ok a _ e)
  exact ⟨o, its.toArray, n, h1, h2, h3, by simpa using items_are r⟩
theorem dt_rd {kvs : List (List Key × V)} (ok : HOk P w H h) (e : Rd H a (.dT kvs)) : kvs.length ≤ sizeLine ∧ (a == sysModules) = false ∧
    ∃ xs, KT H kvs xs ∧ h.DictOfH (tupleKind (mixKind P w)) a xs := by
  obtain ⟨z, y, xs, r, o, es, ep, h1, h2, h3, h4, h5⟩ := (show ObjOk P w H h a (.dT kvs) from rd_of ok e)
  refine ⟨z, y, xs, r, o, es, ep, h1, h2, h3, h4, fun x hx => ?_, h5⟩
  have all : ∀ {l : List (List Key × V)} {m : List (List Key × Addr × Value)}, KT H l m → ∀ x ∈ m, (tupleKind (mixKind P w)).is h x.1 x.2.1 := by
    intro l m q
    induction q with
    | nil => intro x hx; exact nomatch hx
    | @cons p q ps qs hq t ih =>
      intro x hx
      rcases List.mem_cons.mp hx with e | hx
      · subst e
        exact key_of ok (by rw [← hq.1]; exact hq.2.1)
      · exact ih x hx
  exact all r x hx
theorem dt_of {kvs : List (List Key × V)} (ok : HOk P w H h) (e : H a = some (.dT kvs)) : kvs.length ≤ sizeLine ∧ (a == sysModules) = false ∧
    ∃ xs, KT H kvs xs ∧ h.DictOfH (tupleKind (mixKind P w)) a xs := dt_rd ok (.inl e)
end
def DGet (H : Hp) (a : Addr) (y : V) (r : Option V) : Prop :=
  (∃ kvs k, Rd H a (.dK kvs) ∧ y = kV k ∧ r = valV kvs k) ∨ ∃ kvs k b, Rd H a (.dT kvs) ∧ y = .ref b ∧ H b = some (.tup (k.map kV)) ∧ r = valV kvs k
def DPut (H : Hp) (a : Addr) (y v : V) (H' : Hp) : Prop :=
  (∃ kvs k, H a = some (.dK kvs) ∧ y = kV k ∧ kvs.length < sizeLine ∧ H' = upd H a (.dK (putK kvs k v))) ∨
  ∃ kvs k b, H a = some (.dT kvs) ∧ y = .ref b ∧ H b = some (.tup (k.map kV)) ∧ kvs.length < sizeLine ∧ H' = upd H a (.dT (putK kvs k v))
theorem DGet.k {H : Hp} {a : Addr} {kvs : List (Key × V)} {k : Key} (e : H a = some (.dK kvs)) : DGet H a (kV k) (valV kvs k) := .inl ⟨kvs, k, .inl e, rfl, rfl⟩
theorem DGet.t {H : Hp} {a b : Addr} {kvs : List (List Key × V)} {k : List Key} (e : H a = some (.dT kvs)) (eb : H b = some (.tup (k.map kV))) : DGet H a (.ref b) (valV kvs k) := .inr ⟨kvs, k, b, .inl e, rfl, eb, rfl⟩
theorem DPut.k {H : Hp} {a : Addr} {kvs : List (Key × V)} {k : Key} {v : V} (e : H a = some (.dK kvs)) (hl : kvs.length < sizeLine) : DPut H a (kV k) v (upd H a (.dK (putK kvs k v))) := .inl ⟨kvs, k, e, rfl, hl, rfl⟩
section
variable {X : Cx} {pins : List (Addr × Obj)} {σ : St} {H : Hp} {s : Shared} {a : Addr} {y v : V} {u r : Value} {o : Option V} {A : Around} {E : Value → Shared → Prop}
theorem Inv.big (I : Inv X pins σ H s) : sysModules < s.heap.objs.size := by
  have h : mainGlobals < s.heap.objs.size := (I.mod.glob.keeps I.bk).lt
  exact Nat.lt_trans (by decide) h
theorem d_notIn {Q : Value → Shared → Prop} (hu : A.units + 1 < cLine) (I : Inv X pins σ H s) (g : DGet H a y o) (ry : RelV y u) (h : ∀ s', Inv X pins σ H s' → Q (.bool (!o.isSome)) s') :
    wpAny (model X.prog X.w) A (compareOp .NotIn u (.ref a)) Q E s := by
  rcases g with ⟨kvs, k, e, ey, l⟩ | ⟨kvs, k, b, e, ey, eb, l⟩
  · subst ey
    obtain ⟨z, hd, vs, rel, dd⟩ := dk_rd I.hok e
    refine wpAny_notIn_of (kV_is ry) hd dd.mapOf ?_
    rw [← (rel.val k).isSome_eq, ← l]
    exact h _ (I.tok _)
  · subst ey
    cases (show u = Value.ref b from ry)
    obtain ⟨z, hd, xs, rel, dd⟩ := dt_rd I.hok e
    refine wpAny_notIn_heap (tupleKind_room_in1 hu) (key_of I.hok eb) hd dd ?_
    have q := (rel.val k).isSome_eq
    rw [Option.isSome_map] at q
    rw [← q, ← l]
    exact h _ (I.tok _)
theorem d_write {h' : Heap} {t' : Nat} {ob : HO} (I : Inv X pins σ H s) (mu : Mut (H a)) (hs : Heap.SameBut a s.heap h') (he : ∃ q, h'.get? a = some q) (new : ObjOk X.prog X.w (upd H a ob) h' a ob) :
    Inv X pins σ (upd H a ob) { s with heap := h', toks := t' } :=
  I.write (x := a) (e := a) mu (.inl rfl) (fun b q hb z => (hs.2 b hb).trans z) he new
theorem dk_new {P : Program} {w : World} {H' : Hp} {h' : Heap} {kvs : List (Key × V)} {vs : List (Key × Value)} (z : kvs.length ≤ sizeLine) (hd : (a == sysModules) = false) (rel : KV kvs vs) (dd : h'.DictOf (mixKind P w) a vs) :
    ObjOk P w H' h' a (.dK kvs) := ⟨z, hd, vs, rel, dd⟩
theorem d_setItem {H' : Hp} {Q : Unit → Shared → Prop} (hu : A.units + 1 < cLine) (I : Inv X pins σ H s) (g : DPut H a y v H') (ry : RelV y u) (rv : RelV v r) (h : ∀ s', Inv X pins σ H' s' → Q () s') :
    wpAny (model X.prog X.w) A (setItem (.ref a) u r) Q E s := by
  rcases g with ⟨kvs, k, e, ey, l, eH⟩ | ⟨kvs, k, b, e, ey, eb, l, eH⟩
  · subst ey eH
    obtain ⟨z, hd, vs, rel, dd⟩ := dk_of I.hok e
    have hz : vs.length ≤ sizeLine := by rw [← rel.length]; exact z
    have hl : (putK kvs k v).length ≤ sizeLine := by have := length_putK kvs k v; omega
    refine wpAny_setItem_pairs (hsz := hz) (kV_is ry) dd fun h' dd' hs => h _ ?_
    have he : ∃ q, h'.get? a = some q := let ⟨q, _, _, hq, _⟩ := dd'; ⟨q, hq⟩
    exact d_write I (by rw [e]; exact True.intro) hs he (dk_new hl hd (rel.put k rv) dd')
  · subst ey eH
    cases (show u = Value.ref b from ry)
    obtain ⟨z, hd, xs, rel, dd⟩ := dt_of I.hok e
    have hz : xs.length ≤ sizeLine := by rw [← Paired.length rel]; exact z
    have hl : (putK kvs k v).length ≤ sizeLine := by have := length_putK kvs k v; omega
    refine wpAny_setItem_heap (hsz := hz) (tupleKind_room_in1 hu) (key_of I.hok eb) dd fun h' dd' hs => h _ ?_
    obtain ⟨q, es, ep, hq, h2, h3, h4, _, h5⟩ := dd'
    refine d_write I (by rw [e]; exact True.intro) hs ⟨q, hq⟩ ⟨hl, hd, _, (rel.put k eb rv).keeps fun c ys ec => ?_, q, es, ep, hq, h2, h3, h4, h5⟩
    rw [upd_ne (ne_of ec e (fun z => nomatch z))]
    exact ec
end
def NoSl (i : Expr) : Prop := ∀ ov iv, subscripted i false ov iv = operate [ov, iv] (getItem ov iv)
theorem subD_of {prog : Program} {w : World} {A : Around} {E : Value → Shared → Prop} {s : Shared} {env : Env} {value slice : Expr} {pos : Pos} {T id : String} {Q : Value → Shared → Prop}
    (hl : typeLookup (.type T) "__getitem__" = pure (some (.builtin id))) (hs : NoSl slice)
    (h : wpAny (model prog w) A (eval value env) (fun o s₁ => wpAny (model prog w) A (eval slice env) (fun i s₂ => s₂.TypeIs o T ∧ wpAny (model prog w) A (getItem o i) Q E s₂) E s₁) E s) :
    wpAny (model prog w) A (eval (.Subscript value slice pos) env) Q E s := by
  refine Subscript_ (wpAny_mono h (fun o s₁ h₁ => wpAny_mono h₁ (fun i s₂ h₂ => ?_) fun _ _ x => x) fun _ _ x => x)
  obtain ⟨hT, h₂⟩ := h₂
  unfold subscriptTail
  refine wpAny_bind ?_
  rw [getitemInPython_of_ne hT.not_modules]
  refine wpAny_bind (wpAny_specialOf hT hl ?_)
  have fin : wpAny (model prog w) A (subscripted slice false o i) (fun r s₃ => wpAny (model prog w) A (letTemporaryGo value o r >>= fun _ => pure r) Q E s₃) E s₂ := by
    rw [hs o i]
    exact wpAny_operating (wpAny_mono h₂ (fun r s₃ h₃ => wpAny_bind (wpAny_letTemporaryGo (wpAny_pure h₃))) fun _ _ x => x)
  first
    | exact wpAny_pure (wpAny_bind fin)
    | exact wpAny_bind (wpAny_pure (wpAny_bind fin))
    | exact wpAny_bind fin
def tDNotIn (ty td : TE) : TE := fun σ H Q => ty σ H fun y H1 => td σ H1 fun x H2 => ∃ a o, x = .ref a ∧ DGet H2 a y o ∧ Q (.bl (!o.isSome)) H2
def sDPut (td ty tv : TE) : TS := fun D σ H => tv σ H fun v H1 => td σ H1 fun x H2 => ty σ H2 fun y H3 => ∃ a H4, x = .ref a ∧ DPut H3 a y v H4 ∧ D.nx σ H4
section
variable {X : Cx} {o i e value : Expr} {pos pos' tpos : Pos} {td ty tv : TE}
theorem pc_dnotin (hu : X.A.units + 1 < cLine) (hi : PE X i ty) (ho : PE X o td) : PC X .NotIn i o (tDNotIn ty td) := by
  intro pins s σ H Q I h
  refine thn (hi pins s σ H _ I h) fun iv s1 ⟨y, H1, I1, ry, q1⟩ => thn (ho pins s1 σ H1 _ I1 q1) fun u s2 ⟨x, H2, I2, rx, a, ov, ex, g, q2⟩ => ?_
  subst ex
  obtain rfl : u = Value.ref a := rx
  exact d_notIn hu I2 g ry fun s3 I3 => ⟨.bl (!ov.isSome), H2, I3, rfl, q2⟩
theorem ps_dput (hu : X.A.units + 1 < cLine) (ho : PE X o td) (hi : PE X i ty) (hv : PE X value tv) (hs : swapsWith value (some (.Subscript o i pos')) pos.line X.env = pure false) :
    PS X (.Assign [.Subscript o i pos'] value pos) (sDPut td ty tv) := by
  intro pins s σ H D I h
  refine wpAny_Assign_Subscript (thn (hv pins s σ H _ I h) fun r s1 ⟨v, H1, I1, rv, q1⟩ => thn (ho pins s1 σ H1 _ I1 q1) fun u s2 ⟨x, H2, I2, rx, q2⟩ => thn (hi pins s2 σ H2 _ I2 q2) fun iv s3 ⟨y, H3, I3, ry, a, H4, ex, g, q3⟩ => ?_) hs
  subst ex
  obtain rfl : u = Value.ref a := rx
  exact d_setItem hu I3 g ry rv fun s4 I4 => ⟨σ, H4, I4, q3⟩
end
theorem dk_empty {P : Program} {w : World} {H : Hp} (h : Heap) (hb : sysModules < h.objs.size) : ObjOk P w H (h.push { cls := .type "dict", data := .dict #[] }) h.objs.size (.dK []) :=
  ⟨Nat.zero_le _, beq_eq_false_iff_ne.mpr (Ne.symm (Nat.ne_of_lt hb)), [], .nil, Heap.DictOf.new h⟩
theorem dt_empty {P : Program} {w : World} {H : Hp} (h : Heap) (hb : sysModules < h.objs.size) : ObjOk P w H (h.push { cls := .type "dict", data := .dict #[] }) h.objs.size (.dT []) :=
  ⟨Nat.zero_le _, beq_eq_false_iff_ne.mpr (Ne.symm (Nat.ne_of_lt hb)), [], .nil, _, #[], 0, Heap.get?_push_size _ rfl, ⟨rfl, rfl, rfl⟩, rfl, rfl, List.nodup_nil⟩
def tDNewK : TE := fun _ H Q => ∀ p, H p = none → Q (.ref p) (upd H p (.dK []))
def tDNewT : TE := fun _ H Q => ∀ p, H p = none → Q (.ref p) (upd H p (.dT []))
section
variable {X : Cx} {pos : Pos}
theorem pe_dnewK : PE X (.Dict [] [] pos) tDNewK := fun pins s σ H Q I h =>
  wpAny_Dict_empty ⟨.ref s.heap.objs.size, _, I.laid (a := s.heap.objs.size) (o := .dK []) (t' := s.toks) (fun _ _ q => Heap.get?_push_of_some _ q) (Nat.le_refl _) (dk_empty s.heap I.big), rfl, h _ (I.hok.fresh (Nat.le_refl _))⟩
theorem pe_dnewT : PE X (.Dict [] [] pos) tDNewT := fun pins s σ H Q I h =>
  wpAny_Dict_empty ⟨.ref s.heap.objs.size, _, I.laid (a := s.heap.objs.size) (o := .dT []) (t' := s.toks) (fun _ _ q => Heap.get?_push_of_some _ q) (Nat.le_refl _) (dt_empty s.heap I.big), rfl, h _ (I.hok.fresh (Nat.le_refl _))⟩
end
def mergeK (kvs more : List (Key × V)) : List (Key × V) := more.foldl (fun acc kv => putK acc kv.1 kv.2) kvs
theorem KV.merge : ∀ {more : List (Key × V)} {rs : List (Key × Value)} {kvs : List (Key × V)} {vs : List (Key × Value)}, KV more rs → KV kvs vs → KV (mergeK kvs more) (merged vs rs) := by
  intro more rs kvs vs r
  unfold KV at r
  induction r generalizing kvs vs with
  | nil => intro q; exact q
  | @cons p q ps qs h t ih =>
    intro r0
    have e : KV (putK kvs p.1 p.2) (stored vs q.1 q.2) := by
      have := r0.put p.1 h.2
      rw [← h.1]; exact this
    exact ih e
theorem length_mergeK : ∀ (more kvs : List (Key × V)), (mergeK kvs more).length ≤ kvs.length + more.length
  | [], kvs => by show kvs.length ≤ kvs.length + 0; omega
  | p :: r, kvs => by
    have h1 := length_mergeK r (putK kvs p.1 p.2)
    have h2 := length_putK kvs p.1 p.2
    show (mergeK (putK kvs p.1 p.2) r).length ≤ _
    rw [List.length_cons]; omega
structure M1 (X : Cx) (o : Expr) (m : Str) (apos : Pos) (e : Expr) (cpos : Pos) : Prop where
  base : attributeBase o m X.env (eval o X.env) = eval o X.env
  few : ((backTo cpos (starEach [e] X.env)).all (fun x => !x.1) && (backToKw cpos (keywordEach [] X.env)).all (fun x => x.1.isSome)
    && decide (([e] : List Expr).length + ([] : List Keyword).length + (if ([] : List Keyword).isEmpty then 0 else 1) < 30)) = true
  line : (apos.endLine == cpos.line) = true
  trees : backTo cpos (starEach [e] X.env) = [(false, eval e X.env)]
structure M2 (X : Cx) (o : Expr) (m : Str) (apos : Pos) (e f : Expr) (cpos : Pos) : Prop where
  base : attributeBase o m X.env (eval o X.env) = eval o X.env
  few : ((backTo cpos (starEach [e, f] X.env)).all (fun x => !x.1) && (backToKw cpos (keywordEach [] X.env)).all (fun x => x.1.isSome)
    && decide (([e, f] : List Expr).length + ([] : List Keyword).length + (if ([] : List Keyword).isEmpty then 0 else 1) < 30)) = true
  line : (apos.endLine == cpos.line) = true
  trees : backTo cpos (starEach [e, f] X.env) = [(false, eval e X.env), (false, eval f X.env)]
def IsD (H : Hp) (a : Addr) : Prop := (∃ kvs, Rd H a (.dK kvs)) ∨ ∃ kvs, Rd H a (.dT kvs)
theorem isD_at {X : Cx} {pins : List (Addr × Obj)} {σ : St} {H : Hp} {s : Shared} {a : Addr} (I : Inv X pins σ H s) (d : IsD H a) :
    s.TypeIs (.ref a) "dict" ∧ (∀ b, Value.ref a = .ref b → ∃ ob, s.heap.get? b = some ob ∧ ob.dict = none) ∧ (a == sysModules) = false := by
  rcases d with ⟨kvs, e⟩ | ⟨kvs, e⟩
  · obtain ⟨_, hd, vs, _, dd⟩ := dk_rd I.hok e
    refine ⟨dd.typeIs, fun b q => ?_, hd⟩
    cases q
    obtain ⟨ob, _, _, h1, h2, _⟩ := dd
    exact ⟨ob, h1, h2.2.1⟩
  · obtain ⟨_, hd, xs, _, dd⟩ := dt_rd I.hok e
    refine ⟨dd.typeIs, fun b q => ?_, hd⟩
    cases q
    obtain ⟨ob, _, _, h1, h2, _⟩ := dd
    exact ⟨ob, h1, h2.2.1⟩
section
variable {X : Cx} {pins : List (Addr × Obj)} {σ : St} {H : Hp} {s : Shared} {a : Addr} {y d : V} {u r : Value} {o : Option V} {A : Around} {E : Value → Shared → Prop}
theorem d_get1 {Q : Value → Shared → Prop} (hu : A.units + 1 < cLine) (I : Inv X pins σ H s) (g : DGet H a y o) (ry : RelV y u) (h : ∀ w' s', Inv X pins σ H s' → RelV (o.getD .non) w' → Q w' s') :
    wpAny (model X.prog X.w) A (call (.builtin "dict.get") [.ref a, u]) Q E s := by
  rcases g with ⟨kvs, k, e, ey, l⟩ | ⟨kvs, k, b, e, ey, eb, l⟩
  · subst ey
    obtain ⟨z, hd, vs, rel, dd⟩ := dk_rd I.hok e
    refine call_meetsIn PySem.F.slot_dict_get dd.typeIs PySem.F.entry_dict_get (PySem.F.args_dict_get_2 _ _) (meets_dict_get (mixKind X.prog X.w) a (kV_is ry) hd) ⟨_, dd.mapOf, h _ _ (I.tok _) ?_⟩
    rw [l]
    exact (rel.val k).getD rfl
  · subst ey
    cases (show u = Value.ref b from ry)
    obtain ⟨z, hd, xs, rel, dd⟩ := dt_rd I.hok e
    refine call_meetsIn PySem.F.slot_dict_get dd.typeIs PySem.F.entry_dict_get (PySem.F.args_dict_get_2 _ _) (meetsH_dict_get (tupleKind (mixKind X.prog X.w)) a b hd) ⟨tupleKind_room_in1 hu, k, xs, key_of I.hok eb, dd, h _ _ (I.tok _) ?_⟩
    rw [l]
    exact (rel.val k).getD rfl
theorem d_get2 {Q : Value → Shared → Prop} (hu : A.units + 1 < cLine) (I : Inv X pins σ H s) (g : DGet H a y o) (ry : RelV y u) (rd : RelV d r) (h : ∀ w' s', Inv X pins σ H s' → RelV (o.getD d) w' → Q w' s') :
    wpAny (model X.prog X.w) A (call (.builtin "dict.get") [.ref a, u, r]) Q E s := by
  rcases g with ⟨kvs, k, e, ey, l⟩ | ⟨kvs, k, b, e, ey, eb, l⟩
  · subst ey
    obtain ⟨z, hd, vs, rel, dd⟩ := dk_rd I.hok e
    refine call_meetsIn PySem.F.slot_dict_get dd.typeIs PySem.F.entry_dict_get (PySem.F.args_dict_get_3 _ _ _) (meets_dict_get_default (mixKind X.prog X.w) a (kV_is ry) hd r) ⟨_, dd.mapOf, h _ _ (I.tok _) ?_⟩
    rw [l]
    exact (rel.val k).getD rd
  · subst ey
    cases (show u = Value.ref b from ry)
    obtain ⟨z, hd, xs, rel, dd⟩ := dt_rd I.hok e
    refine call_meetsIn PySem.F.slot_dict_get dd.typeIs PySem.F.entry_dict_get (PySem.F.args_dict_get_3 _ _ _) (meetsH_dict_get_default (tupleKind (mixKind X.prog X.w)) a b hd r) ⟨tupleKind_room_in1 hu, k, xs, key_of I.hok eb, dd, h _ _ (I.tok _) ?_⟩
    rw [l]
    exact (rel.val k).getD rd
end
def tDGet1 (td ty : TE) : TE := fun σ H Q => td σ H fun x H1 => ∃ a, x = .ref a ∧ IsD H1 a ∧ ty σ H1 fun y H2 => ∃ o, DGet H2 a y o ∧ Q (o.getD .non) H2
def tDGet2 (td ty tx : TE) : TE := fun σ H Q => td σ H fun x H1 => ∃ a, x = .ref a ∧ IsD H1 a ∧ ty σ H1 fun y H2 => tx σ H2 fun z H3 => ∃ o, DGet H3 a y o ∧ Q (o.getD z) H3
section
variable {X : Cx} {o e f : Expr} {apos cpos : Pos} {td ty tx : TE}
theorem pe_dget1 (hu : X.A.units + 1 < cLine) (ho : PE X o td) (he : PE X e ty) (m : M1 X o "get" apos e cpos) : PE X (.Call (.Attribute o "get" apos) [e] [] cpos) (tDGet1 td ty) := by
  intro pins s σ H Q I h
  refine wpAny_Call_method m.base m.few m.line PySem.F.plainAttrs_dict PySem.F.slot_dict_get PySem.F.type_dict_get (thn (ho pins s σ H _ I h) fun u s1 ⟨x, H1, I1, rx, a, ex, d, q1⟩ => ?_)
  subst ex
  obtain rfl : u = Value.ref a := rx
  obtain ⟨t1, t2, _⟩ := isD_at I1 d
  refine ⟨t1, t2, ?_⟩
  rw [m.trees]
  refine Calls.callWith_builtin rfl (Calls.evalArgs_plain (Calls.spliced_cons (thn (he pins s1 σ H1 _ I1 q1) fun iv s2 ⟨y, H2, I2, ry, ov, g, q2⟩ => Calls.spliced_nil ?_)))
  exact d_get1 hu I2 g ry fun w' s3 I3 rw' => ⟨_, H2, I3, rw', q2⟩
theorem pe_dget2 (hu : X.A.units + 1 < cLine) (ho : PE X o td) (he : PE X e ty) (hf : PE X f tx) (m : M2 X o "get" apos e f cpos) : PE X (.Call (.Attribute o "get" apos) [e, f] [] cpos) (tDGet2 td ty tx) := by
  intro pins s σ H Q I h
  refine wpAny_Call_method m.base m.few m.line PySem.F.plainAttrs_dict PySem.F.slot_dict_get PySem.F.type_dict_get (thn (ho pins s σ H _ I h) fun u s1 ⟨x, H1, I1, rx, a, ex, d, q1⟩ => ?_)
  subst ex
  obtain rfl : u = Value.ref a := rx
  obtain ⟨t1, t2, _⟩ := isD_at I1 d
  refine ⟨t1, t2, ?_⟩
  rw [m.trees]
  refine Calls.callWith_builtin rfl (Calls.evalArgs_plain (Calls.spliced_cons (thn (he pins s1 σ H1 _ I1 q1) fun iv s2 ⟨y, H2, I2, ry, q2⟩ =>
    Calls.spliced_cons (thn (hf pins s2 σ H2 _ I2 q2) fun fv s3 ⟨z, H3, I3, rz, ov, g, q3⟩ => Calls.spliced_nil ?_))))
  exact d_get2 hu I3 g ry rz fun w' s4 I4 rw' => ⟨_, H3, I4, rw', q3⟩
end
section
variable {X : Cx} {pins : List (Addr × Obj)} {σ : St} {H : Hp} {s : Shared} {a : Addr} {kvs : List (Key × V)} {A : Around} {E : Value → Shared → Prop}
theorem d_copyOf {Q : Value → Shared → Prop} (I : Inv X pins σ H s) (e : Rd H a (.dK kvs)) (h : ∀ p s', H p = none → Inv X pins σ (upd H p (.dK kvs)) s' → Q (.ref p) s') : wpAny (model X.prog X.w) A (call (.type "dict") [.ref a]) Q E s := by
  obtain ⟨z, hd, vs, rel, dd⟩ := dk_rd I.hok e
  refine kt_call_dict hd dd (by rw [← rel.length]; exact z) fun h' dd' hs => ?_
  refine h _ _ (I.hok.fresh (Nat.le_refl _)) (I.laid (a := s.heap.objs.size) (o := .dK kvs) (t' := s.toks) (fun b q hq => ?_) (Nat.le_refl _) (dk_new z (beq_eq_false_iff_ne.mpr (Ne.symm (Nat.ne_of_lt I.big))) rel dd'))
  exact (hs.2 b (Nat.ne_of_lt (Heap.lt_size hq))).trans (Heap.get?_push_of_some _ hq)
end
end L2
namespace L2
open PySem PySem.Spec PyProof.Rows
theorem list_keys_none : typeLookup (.type "list") "keys" = pure none := am_miss_of_fast (by first | decide +kernel | rfl)
theorem ud_entry : entryFor table "dict.update.loop" = some Builtin.«dict.update.loop» := entryFor_of_tree (by kernel_rfl)
theorem ud_plain : plainId "dict.update.loop" = true := by decide +kernel
section
variable {prog : Program} {w : World} {A : Around} {E : Value → Shared → Prop}
theorem miss_list {s : Shared} {a : Addr} {o : Obj} {xs : Array Value} {k : Nat} {Q : Option Value → Shared → Prop} (hx : s.heap.get? a = some o) (hc : o.cls = .type "list") (hdat : o.data = .seq xs k) (hd : o.dict = none) (hA : A.handled = none)
    (h : ∀ h' tk, (∀ b ob, s.heap.get? b = some ob → h'.get? b = some ob) → Q none { s with heap := h', toks := tk }) : wpAny (model prog w) A (getAttr? (.ref a) "keys") Q E s := by
  obtain ⟨c, dct, dat, sl⟩ := o
  simp only at hc hdat hd
  subst hc hdat hd
  obtain ⟨hp, g, d, tk, os⟩ := s
  have hT : ∀ tk', (⟨hp, g, d, tk', os⟩ : Shared).TypeIs (.ref a) "list" := fun _ => ⟨_, hx, rfl⟩
  have hmiss := list_keys_none
  have hname : (["__module__", "__name__", "__qualname__", "__doc__", "__annotations__"] : List Str).contains "keys" = false := by decide +kernel
  have hsz : ("keys" : Str).length + 100 ≤ sizeLine := by first | size_fits | decide +kernel
  have f1 := sub_AttributeError
  have f3 := PySem.F.slot_list_getattribute.lookup
  have f4 := PySem.F.slot_list_getattribute.bind (.ref a)
  have f5 := am_list_getattr_none
  unfold getAttr? getAttrBy? getAttrBy
  repeat (any_goals (first | assumption | exact hT _ | ((with_reducible show wpAny _ _ (call (Value.builtin "list.__getattribute__") _ _) _ _ _); refine call_meets PySem.F.slot_list_getattribute (hT _) am_entry_list_getattribute (PySem.F.args_list_getattribute_2 _ _) (meets_getattribute_miss_list a xs k sl "keys" _ hmiss hname hsz) ⟨hx, hA, fun h' tk' e hx' => ?_⟩) | wp_step))
  obtain ⟨t', u', he⟩ := hx'.there
  show wpAny _ _ (getattributeRaised _ _ _ _ _ _ _) _ _ _
  unfold getattributeRaised
  repeat (any_goals (first | assumption | wp_step))
  all_goals first | exact h _ _ hx'.keeps | (dsimp only; repeat (any_goals (first | assumption | exact h _ _ hx'.keeps | wp_step)))
theorem upd_loop {R : Result → Shared → Prop} {S I l : Addr} {items : Array Value} {res : Value} (hh : A.handled = none) (hlI : l ≠ I) (hSI : S ≠ I) (hSl : S ≠ l) :
    ∀ (rest : List (Key × Value)) (i : Nat) (acc : List (Key × Value)) (ix : Int) (t : Tok) (s : Shared), items.size = i + rest.length → acc.length + rest.length ≤ sizeLine →
      (∀ (j : Nat) (q : Key × Value), rest[j]? = some q → ∃ (b : Addr) (u : Value), items[i + j]? = some (.ref b) ∧ b ≠ S ∧ b ≠ I ∧ IsTup s.heap b #[u, q.2] ∧ keyIs q.1 u = true) →
      s.heap.IsListIter I l i → s.heap.IsList l items → s.heap.DictOf (mixKind prog w) S acc →
      (∀ h' tk, h'.DictOf (mixKind prog w) S (merged acc rest) → (∀ b o, b ≠ S → b ≠ I → s.heap.get? b = some o → h'.get? b = some o) → R (.ok (.ret res)) { s with heap := h', toks := tk }) →
      codeAny (model prog w) A (.builtin "dict.update.loop" ⟨[.ref S, .ref I, .int ix t, res], []⟩) R s
  | [], i, acc, ix, t, s, hsz, hln, ht, hit, hl, hm, hR => by
    refine codeAny_builtin ud_entry ?_
    rw [Around.under_plainId ud_plain _]
    show wpAny _ A.in1 (pyNext (.ref I) >>= _) _ _ s
    refine wpAny_bind (wpAny_pyNext_list_end (A := A.in1) hh hit hl (by first | exact Array.getElem?_eq_none (Nat.le_of_eq hsz) | (simp at hsz; simp; omega)) fun h' he => ?_)
    show wpAny _ A.in1 (Builtin.Dict.addKeywords S [] >>= _) _ _ _
    refine wpAny_bind (wpAny_pure (wpAny_pure ?_))
    exact hR h' s.toks (hm.extBut he hSI) fun b o _ hb e => he b o hb e
  | q :: rest, i, acc, ix, t, s, hsz, hln, ht, hit, hl, hm, hR => by
    obtain ⟨b, u, hb, hbS, hbI, htup, hk⟩ := ht 0 q rfl
    rw [List.length_cons] at hsz hln
    refine codeAny_builtin ud_entry ?_
    rw [Around.under_plainId ud_plain _]
    show wpAny _ A.in1 (pyNext (.ref I) >>= _) _ _ s
    refine wpAny_bind (wpAny_pyNext_list_item (x := .ref b) hit hl (by simpa using hb) fun h1 hit1 hs1 => ?_)
    have ht1 : IsTup h1 b #[u, q.2] := htup.extBut hs1.extBut hbI
    have hl1 : h1.IsList l items := hl.extBut hs1.extBut hlI
    have hm1 : h1.DictOf (mixKind prog w) S acc := hm.extBut hs1.extBut hSI
    obtain ⟨o, ho, hc, n, hd⟩ := id ht1
    show wpAny _ A.in1 (holding [Value.ref b] _ >>= _) _ _ _
    refine wpAny_bind (wpAny_holding ?_)
    refine wpAny_bind (wpAny_tryCatch ?_)
    unfold Builtin.Dict.pairItems
    refine wpAny_bind (wpAny_typeOf (T := "tuple") ⟨o, ho, hc⟩ ?_)
    rw [if_pos (by first | decide | rfl | simp)]
    refine wpAny_bind (wpAny_seqItems ho hd (wpAny_pure ?_))
    show wpAny _ A.in1 (holding [u, q.2] (dictSet S u q.2)) _ _ _
    refine wpAny_holding (wpAny_dictSet_pairs (knd := mixKind prog w) (k := q.1) hk hm1 (fun h2 hm2 hs2 => ?_) (by omega))
    refine wpAny_pure ⟨plainId_quiet ud_plain _, upd_loop (items := items) hh hlI hSI hSl rest (i + 1) (stored acc q.1 q.2) (ix + 1) 0 _ (show items.size = i + 1 + rest.length by omega) ?_ (fun j q' e => ?_) ?_ ?_ hm2 fun h' tk hd' k => ?_⟩
    · have z := stored_length_le acc q.1 q.2
      omega
    · obtain ⟨b', u', hb', hbS', hbI', htup', hk'⟩ := ht (j + 1) q' (by simpa using e)
      refine ⟨b', u', ?_, hbS', hbI', (htup'.extBut hs1.extBut hbI').extBut hs2.extBut hbS', hk'⟩
      rw [show i + 1 + j = i + (j + 1) by omega]
      exact hb'
    · exact hit1.at fun o' e => hs2.extBut I o' (Ne.symm hSI) e
    · exact hl1.extBut hs2.extBut (Ne.symm hSl)
    · exact hR h' tk hd' fun c oc h3 h4 e => k c oc h3 h4 (hs2.extBut c oc h3 (hs1.extBut c oc h4 e))
end
section
variable {X : Cx}
theorem pairs_of {pins : List (Addr × Obj)} {σ : St} {H : Hp} {s : Shared} (I : Inv X pins σ H s) : ∀ {ps : List Addr} {kvs : List (Key × V)}, Paired (fun p kv => SqT X.K H p [kV kv.1, kv.2]) ps kvs →
    ∃ prs : List (Key × Value), KV kvs prs ∧ prs.length = ps.length ∧ ∀ (j : Nat) (q : Key × Value), prs[j]? = some q → ∃ (b : Addr) (u : Value), ps[j]? = some b ∧ IsTup s.heap b #[u, q.2] ∧ keyIs q.1 u = true
  | _, _, .nil => ⟨[], .nil, rfl, fun j q e => by simp at e⟩
  | _, _, .cons (a := p) (b := kv) h t => by
    obtain ⟨prs, r, hl, hp⟩ := pairs_of I t
    obtain ⟨its, rv, ht, _⟩ := I.tuple h
    obtain ⟨u, y, ei, ru, ry⟩ := vals2 rv
    subst ei
    refine ⟨(kv.1, y) :: prs, .cons ⟨rfl, ry⟩ r, by rw [List.length_cons, List.length_cons, hl], fun j q e => ?_⟩
    cases j with
    | zero =>
      have e' : (kv.1, y) = q := Option.some.inj e
      subst e'
      exact ⟨p, u, rfl, ht, kV_is (P := X.prog) (w := X.w) ru⟩
    | succ j =>
      obtain ⟨b, u', e1, e2, e3⟩ := hp j q (by simpa using e)
      exact ⟨b, u', by simpa using e1, e2, e3⟩
theorem refs_at : ∀ {ps : List Addr} {us : List Value}, Vals (ps.map V.ref) us → us = ps.map Value.ref
  | [], us, r => by
    rw [List.map_nil] at r
    cases r
    rfl
  | p :: ps, us, r => by
    rw [List.map_cons] at r
    cases r with
    | cons h t =>
      cases h
      rw [List.map_cons, ← refs_at t]
end
end L2
namespace L2
open PySem PySem.Spec PyProof.Rows
section
variable {X : Cx} {pins : List (Addr × Obj)} {σ : St} {H : Hp} {s : Shared} {h' : Heap}
theorem Inv.turnedNew {t' : Nat} {ch : List Addr} {T : Addr} {ob : HO} (I : Inv X pins σ H s) (k : ∀ b o, b ∉ ch → s.heap.get? b = some o → h'.get? b = some o) (hf : ∀ b ∈ ch, FpOk X pins H b) (hT : s.heap.objs.size ≤ T)
    (new : ObjOk X.prog X.w (upd H T ob) h' T ob) : Inv X pins σ (upd H T ob) { s with heap := h', toks := t' } := by
  have hn : H T = none := I.hok.fresh hT
  have nit : ∀ b u, H b = some u → b ∉ ch := fun b u e z => by
    have q := (hf b z).1
    rw [q] at e; cases e
  refine I.step (g' := s.gens) (d' := s.drawn) (ch := ch) (fun b hb => ⟨(hf b hb).2.2.2.1, (hf b hb).2.1, (hf b hb).2.2.2.2.1, (hf b hb).2.2.2.2.2⟩) (fun b o _ _ hc e _ => k b o hc e) (fun b o _ _ hc e _ => ⟨o.slots, k b o hc e⟩)
    (fun b o _ e n => ?_) (fun b o hc e => ⟨o, k b o hc e⟩) (fun b xs e => ?_) (fun b o u e => ?_) (fun b ps e => ⟨#[], ?_⟩) (fun m hm => ?_) (fun b u e => ?_) I.bare
  · rw [upd_ne (Nat.ne_of_lt (Nat.lt_of_lt_of_le (Heap.lt_size e) hT))]; exact n
  · rw [upd_ne (ne_of_none e hn)]; exact e
  · rw [upd_ne (ne_of_none e hn)]; exact e
  · rw [upd_ne (ne_of_none e hn), e]; simp
  · obtain ⟨o, es, ep, ho, r⟩ := hm
    exact ⟨o, es, ep, k _ o (fun z => (hf _ z).2.1 rfl) ho, r⟩
  · by_cases hb : b = T
    · subst hb
      rw [upd_same] at e
      cases e
      exact new
    · rw [upd_ne hb] at e
      refine (I.hok b u e).stay (fun c v hc q => k c v ?_ q) (fun c q => by rw [upd_ne (ne_of_none q hn)]; exact q) fun c xs q => by rw [upd_ne (ne_of_none q hn)]; exact q
      rcases hc with z | z
      · rw [z]; exact nit b u e
      · exact nit c _ z
theorem Inv.lock {d : Addr} {u : HO} (I : Inv X pins σ H s) (h : H d = some u) (mu : Mut (some u)) : ∃ od, Inv X pins σ (upd H d (.frz od u)) s := by
  have x := I.hok d u h
  have ex : ∃ od, s.heap.get? d = some od := by
    cases u with
    | lst xs => obtain ⟨_, _, _, _, e⟩ := x; exact ⟨_, e⟩
    | dK kvs => obtain ⟨_, _, _, _, o, _, _, e, _⟩ := x; exact ⟨o, e⟩
    | dT kvs => obtain ⟨_, _, _, _, o, _, _, e, _⟩ := x; exact ⟨o, e⟩
    | set S n => obtain ⟨o, _, _, _, e, _⟩ := x; exact ⟨o, e⟩
    | ins C dx fs => obtain ⟨_, _, _, e, _⟩ := x; exact ⟨_, e⟩
    | ext φ => obtain ⟨_, ⟨_, e⟩, _⟩ := x; exact ⟨_, e⟩
    | _ => exact False.elim mu
  obtain ⟨od, e⟩ := ex
  have new : ObjOk X.prog X.w (upd H d (.frz od u)) s.heap d (.frz od u) := by
    refine ⟨e, x.stay (fun b v _ q => q) (fun b q => ?_) fun b xs q => ?_⟩
    · rw [upd_ne (fun z => by rw [z, h] at q; cases q; exact mu)]; exact q
    · rw [upd_ne (fun z => by rw [z, h] at q; cases q; exact mu)]; exact q
  exact ⟨od, I.write (x := d) (e := d) (t' := s.toks) (h' := s.heap) (by rw [h]; exact mu) (.inl rfl) (fun b v _ q => q) ⟨od, e⟩ new⟩
theorem Inv.nofrz {d : Addr} {u : HO} (I : Inv X pins σ H s) (h : H d = some u) (mu : Mut (some u)) : ∀ o' u', X.H_0 d ≠ some (.frz o' u') := fun o' u' e => by
  have q := I.base.frzs d o' u' e
  rw [h] at q
  cases q
  exact mu
theorem Inv.unlock {d : Addr} {od : Obj} {u : HO} (I : Inv X pins σ H s) (h : H d = some (.frz od u)) (hn : ∀ o' u', X.H_0 d ≠ some (.frz o' u')) : Inv X pins σ (upd H d u) s := by
  have neH : ∀ b o, H b = some o → (∀ o' u', o ≠ .frz o' u') → b ≠ d := fun b o e hne z => by
    rw [z, h] at e
    cases e
    exact hne _ _ rfl
  have neN : ∀ b, H b = none → b ≠ d := fun b e z => by rw [z, h] at e; cases e
  refine ⟨I.ok, I.os, I.bare, ⟨I.base.keep, I.base.slot, fun b o e n hx => ?_, I.base.there, fun b xs e => ?_, fun b o x e => ?_, fun b ps e => ?_⟩, I.loc, I.cell, ?_, fun x c e => ?_, fun p hp => ?_, fun b o e => ?_, I.len⟩
  · rw [upd_ne (neN b (I.base.free b o e n hx))]; exact I.base.free b o e n hx
  · have q := I.base.tups b xs e
    rw [upd_ne (neH b _ q (fun _ _ z => nomatch z))]; exact q
  · have q := I.base.frzs b o x e
    rw [upd_ne (fun z => by rw [z] at e; exact hn _ _ e)]; exact q
  · obtain ⟨m, q⟩ := I.base.tbls b ps e
    exact ⟨m, by rw [upd_ne (neH b _ q (fun _ _ z => nomatch z))]; exact q⟩
  · rw [upd_ne (neN _ I.free)]; exact I.free
  · rw [upd_ne (neN c (I.freeC x c e))]; exact I.freeC x c e
  · obtain ⟨e, n, r⟩ := I.pin p hp
    exact ⟨e, by rw [upd_ne (neN _ n)]; exact n, r⟩
  · by_cases hb : b = d
    · rw [hb, upd_same] at e
      cases e
      rw [hb]
      obtain ⟨_, x⟩ := I.hok d _ h
      exact x.stay (fun c v _ q => q) (fun c q => by rw [upd_ne (neH c _ q (fun _ _ z => nomatch z))]; exact q) fun c xs q => by rw [upd_ne (neH c _ q (fun _ _ z => nomatch z))]; exact q
    · rw [upd_ne hb] at e
      exact (I.hok b o e).stay (fun c v _ q => q) (fun c q => by rw [upd_ne (neH c _ q (fun _ _ z => nomatch z))]; exact q) fun c xs q => by rw [upd_ne (neH c _ q (fun _ _ z => nomatch z))]; exact q
end
def tLock (t : TS) : TS := fun D σ H => ∃ d u, H d = some u ∧ Mut (some u) ∧ ∀ od, t ⟨fun σ' H' => H' d = some (.frz od u) ∧ D.nx σ' (upd H' d u), fun v H' => H' d = some (.frz od u) ∧ D.rt v (upd H' d u), fun σ' H' => H' d = some (.frz od u) ∧ D.bk σ' (upd H' d u), fun σ' H' => H' d = some (.frz od u) ∧ D.ct σ' (upd H' d u)⟩ σ (upd H d (.frz od u))
section
variable {X : Cx}
theorem ps_lock {st : Stmt} {t : TS} (h : PS X st t) : PS X st (tLock t) := by
  intro pins s σ H D I hw
  obtain ⟨d, u, hd, mu, hw⟩ := hw
  obtain ⟨od, I1⟩ := I.lock hd mu
  refine thn (h pins s σ _ _ I1 (hw od)) fun f s1 q => ?_
  cases f with
  | next => obtain ⟨σ', H', I2, e, q⟩ := q; exact ⟨σ', _, I2.unlock e (I.nofrz hd mu), q⟩
  | brk => obtain ⟨σ', H', I2, e, q⟩ := q; exact ⟨σ', _, I2.unlock e (I.nofrz hd mu), q⟩
  | cont => obtain ⟨σ', H', I2, e, q⟩ := q; exact ⟨σ', _, I2.unlock e (I.nofrz hd mu), q⟩
  | ret v => obtain ⟨x, σ', H', I2, r, e, q⟩ := q; exact ⟨x, σ', _, I2.unlock e (I.nofrz hd mu), r, q⟩
theorem pi_one {tg : Expr} {pins : List (Addr × Obj)} {σ : St} {H : Hp} {s : Shared} {R : It → Hp → Prop} {J : It} {tn : Nat → Heap → Prop} {tk : Nat} (I : Inv X pins σ H s) (o : Obj)
    (T : Turn X.prog X.w X.K tg J [s.heap.objs.size] s.heap.objs.size tn) (st : tn 0 (s.heap.push o)) (q : R J H) : PIE X pins σ tg R (.ref s.heap.objs.size) { s with heap := s.heap.push o, toks := tk } := by
  refine ⟨s.heap.objs.size, [s.heap.objs.size], tn, J, H, rfl, I.kept fun b ob e => Heap.get?_push_of_some _ e, T, st, fun b hb => ?_, q⟩
  have e : b = s.heap.objs.size := by simpa using hb
  subst e
  exact I.fpOk (Nat.le_refl _) (I.hok.fresh (Nat.le_refl _))
end
theorem kv_get {κ : Type} {kvs : List (κ × V)} {vs : List (κ × Value)} (h : KV kvs vs) : ∀ {i : Nat} {k : κ} {v : V}, kvs[i]? = some (k, v) → ∃ u, vs[i]? = some (k, u) ∧ RelV v u := by
  unfold KV at h
  induction h with
  | nil => intro i k v e; simp at e
  | @cons a b l₁ l₂ r t ih =>
    intro i k v e
    cases i with
    | zero =>
      simp only [List.getElem?_cons_zero, Option.some.injEq] at e
      subst e
      refine ⟨b.2, ?_, r.2⟩
      simp only [List.getElem?_cons_zero]
      exact congrArg some (Prod.ext r.1.symm rfl)
    | succ j =>
      simp only [List.getElem?_cons_succ] at e ⊢
      exact ih e
theorem paired_get {α β : Type} {G : α → β → Prop} {l₁ : List α} {l₂ : List β} (h : Paired G l₁ l₂) : ∀ {i : Nat} {a : α}, l₁[i]? = some a → ∃ b, l₂[i]? = some b ∧ G a b := by
  induction h with
  | nil => intro i a e; simp at e
  | @cons a b l₁ l₂ r t ih =>
    intro i a' e
    cases i with
    | zero =>
      simp only [List.getElem?_cons_zero, Option.some.injEq] at e
      subst e
      exact ⟨b, rfl, r⟩
    | succ j =>
      simp only [List.getElem?_cons_succ] at e ⊢
      exact ih e
theorem relV_key {k : Key} {u : Value} (h : keyIs k u = true) : RelV (kV k) u := by
  rcases keyIs_shape h with ⟨i, t, rfl, rfl⟩ | ⟨x, t, rfl, rfl⟩
  · exact ⟨t, rfl⟩
  · exact ⟨t, rfl⟩
section
variable {X : Cx} {pins : List (Addr × Obj)} {σ : St} {H : Hp} {s : Shared} {d : Addr} {o : Obj}
theorem Inv.frzK {kvs : List (Key × V)} (I : Inv X pins σ H s) (h : H d = some (.frz o (.dK kvs))) :
    (d == sysModules) = false ∧ s.heap.get? d = some o ∧ o.ExactDict ∧ ∃ (es : Array DictEntry) (ep : Nat) (vs : List (Key × Value)), o.data = .dict es ep ∧ es.size = kvs.length ∧ KV kvs vs ∧ s.heap.DictAt (mixKind X.prog X.w) d vs ep := by
  obtain ⟨hd, z, hs, vs, kv, o', es, ep, ho, hx, hdt, r⟩ := I.hok d _ h
  rw [hd] at ho
  cases ho
  refine ⟨hs, hd, hx, es, ep, vs, hdt, ?_, kv, o, es, hd, hx, hdt, r⟩
  have l1 := r.2.1.length
  have l2 : kvs.length = vs.length := Paired.length kv
  rw [Array.length_toList] at l1
  omega
end
def Iti (d : Addr) (o : Obj) (kvs : List (Key × V)) : It :=
  ⟨fun i H => H d = some (.frz o (.dK kvs)) ∧ i < kvs.length, fun i H x H' => ∃ T k v, kvs[i]? = some (k, v) ∧ x = .ref T ∧ H T = none ∧ H' = upd H T (.tup [kV k, v]), fun i H => H d = some (.frz o (.dK kvs)) ∧ kvs.length ≤ i⟩
theorem dict_ep {o : Obj} {es es' : Array DictEntry} {ep ep' : Nat} (h : o.data = .dict es ep) (h' : o.data = .dict es' ep') : es' = es ∧ ep' = ep := by
  rw [h] at h'
  cases h'
  exact ⟨rfl, rfl⟩
section
variable {P : Program} {w : World} {K : PySem.W.Frag} {tg : Expr} {d : Addr} {o : Obj} {es : Array DictEntry} {ep : Nat}
theorem turn_items {kvs : List (Key × V)} {elts : List Expr} {kk : Nat} {tpos : Pos} (it : Addr) (hod : o.data = .dict es ep) :
    Turn P w K (.Tuple elts kk tpos) (Iti d o kvs) [it] it (fun i h => ∃ ok ov, IsItemIter h it d i kvs.length ep ok ov) where
  mem := by simp
  obj := fun i h st b hb => by
    have e : b = it := by simpa using hb
    subst e
    obtain ⟨ok, ov, e⟩ := st
    exact ⟨_, e, fun v z => nomatch z⟩
  keep := fun i h h' st k => let ⟨ok, ov, e⟩ := st; ⟨ok, ov, k it (by simp) _ e⟩
  item := by
    intro X hP hw hK hc i pins s σ H E I hf st hg
    subst hP hw hK
    obtain ⟨hd, hi⟩ := hg
    obtain ⟨hs, hgd, hx, es', ep', vs, hdt, hsz, kv, hm⟩ := I.frzK hd
    obtain ⟨rfl, rfl⟩ := dict_ep hod hdt
    obtain ⟨⟨k, v⟩, hkv⟩ : ∃ p, kvs[i]? = some p := ⟨kvs[i], List.getElem?_eq_getElem hi⟩
    obtain ⟨u, hu, ru⟩ := kv_get kv hkv
    have hl : kvs.length = vs.length := Paired.length kv
    obtain ⟨ok, ov, he⟩ := st
    rw [hl] at he
    have hlt : it < s.heap.objs.size := Heap.lt_size he
    refine wpAny_pyNext_items_item he hm hu fun key h' hkey ho hT hz hk => ?_
    refine ⟨_, rfl, wpAny_letOwnedTupleGo_items (s := { s with heap := h' }) ho fun h'' he' sb => ?_⟩
    have hT2 : h''.get? s.heap.objs.size = some { cls := .type "tuple", data := .seq #[key, u] } := (sb.2 _ (Nat.ne_of_gt hlt)).trans hT
    have new : ObjOk X.prog X.w (upd H s.heap.objs.size (.tup [kV k, v])) h'' s.heap.objs.size (.tup [kV k, v]) :=
      ⟨by show 2 ≤ sizeLine; decide, [key, u], .cons (relV_key (show keyIs k key = true from hkey)) (.cons ru .nil), ⟨_, hT2, rfl, _, rfl⟩⟩
    have I1 : Inv X pins σ (upd H s.heap.objs.size (.tup [kV k, v])) { s with heap := h'' } :=
      I.turnedNew (t' := s.toks) (ch := [it]) (fun b ob hb e => (sb.2 b (by simpa using hb)).trans (hk b ob (by simpa using hb) e)) hf (Nat.le_refl _) new
    refine ⟨.ref s.heap.objs.size, _, I1, rfl, ⟨_, k, v, hkv, rfl, I.hok.fresh (Nat.le_refl _), rfl⟩, ⟨key, u, ?_⟩, fun b hb => ?_⟩
    · rw [hl]; exact he'
    · have e : b = it := by simpa using hb
      rw [e, upd_ne (Nat.ne_of_lt hlt)]
      exact (hf it (by simp)).1
  done := by
    intro X hP hw hK hc i pins s σ H E I hf st hg
    subst hP hw hK
    obtain ⟨hd, hi⟩ := hg
    obtain ⟨f0, f1, f2, f3, f4, f5⟩ := hf it (by simp)
    obtain ⟨hs, hgd, hx, es', ep', vs, hdt, hsz, kv, hm⟩ := I.frzK hd
    obtain ⟨rfl, rfl⟩ := dict_ep hod hdt
    have hl : kvs.length = vs.length := Paired.length kv
    obtain ⟨ok, ov, he⟩ := st
    rw [hl] at he
    exact wpAny_pyNext_items_end (I.ok.hd hc) he hm (List.getElem?_eq_none (by omega)) fun h' eb => ⟨rfl, I.turned (t' := s.toks) (fun b ob hb e => eb b ob hb e) f0 f1 f3 f4 f5⟩
  self := fun A i s Q E st h => let ⟨_, _, e⟩ := st; PySem.W.kcp_self e h
end
def iItems (td : TE) : TI := fun σ H R => td σ H fun x H1 => ∃ d o kvs, x = .ref d ∧ H1 d = some (.frz o (.dK kvs)) ∧ R (Iti d o kvs) H1
section
variable {X : Cx} {tg e : Expr} {td : TE} {apos cpos : Pos}
theorem pi_items {elts : List Expr} {kk : Nat} {tpos : Pos} (he : PE X e td) (hbase : attributeBase e "items" X.env (eval e X.env) = eval e X.env := by rfl) (hline : (apos.endLine == cpos.line) = true := by rfl) :
    PI X (.Tuple elts kk tpos) (.Call (.Attribute e "items" apos) [] [] cpos) (iItems td) := by
  intro pins s σ H R I h
  refine wpAny_Call_method (T := "dict") (id := "dict.items") hbase rfl hline F.plainAttrs_dict F.slot_dict_items F.type_dict_items (thn (he pins s σ H _ I h) fun u s1 ⟨x, H1, I1, rx, d, o, kvs, ex, hd, q⟩ => ?_)
  subst ex
  obtain rfl : u = Value.ref d := rx
  obtain ⟨hs, hgd, hx, es, ep, vs, hdt, hsz, kv, hm⟩ := I1.frzK hd
  have hl : kvs.length = vs.length := Paired.length kv
  refine ⟨hm.dictOf.typeIs, hm.dictOf.mapOf.noDict, ?_⟩
  have I2 : Inv X pins σ H1 { s1 with heap := s1.heap.push { cls := .type "dict_items", data := .fields #[.ref d] } } := I1.kept (t' := s1.toks) fun b ob q => Heap.get?_push_of_some _ q
  have fin : wpAny (model X.prog X.w) X.A (pyIter (.ref s1.heap.objs.size)) (PIE X pins σ (.Tuple elts kk tpos) R) X.xe { s1 with heap := s1.heap.push { cls := .type "dict_items", data := .fields #[.ref d] } } := by
    refine wpAny_pyIter_items (d := d) (knd := mixKind X.prog X.w) ⟨_, Heap.get?_push_size _ rfl, rfl, rfl⟩ (hm.push _) (pi_one (tk := s1.toks) I2 _ (turn_items _ hdt) ⟨.none, .none, ?_⟩ q)
    rw [hl]
    exact Heap.get?_push_size _ rfl
  show wpAny _ _ (callWith cpos (.builtin "dict.items") [.ref d] [] []) _ X.xe s1
  exact method_meetsIn F.slot_dict_items F.entry_dict_items rfl (PySem.evalArgs_none ⟨rfl, hm.dictOf.typeIs, F.args_dict_items_1 _, _, meets_dict_items (mixKind X.prog X.w) d hs, ⟨vs, hm.dictOf⟩, fin⟩)
end
theorem boot_zip5 : bootBuiltins "zip" = some (.type "zip") := by decide +kernel
end L2
section 
namespace Bits
open PySem PyProof.Rows
end Bits
end 
section 
namespace TL
open PySem PySem.Builtin PySem.Builtin.Str PySem.StrLaws
end TL
end 
namespace L2
open PySem PySem.Spec PyProof.Rows
end L2
namespace L2
open PySem PySem.Spec PyProof.Rows
end L2
namespace Att
open PySem PySem.W PySem.Calls PyProof.Rows
end Att
namespace L2
open PySem PySem.Spec PyProof.Rows
end L2
namespace L2
open PySem PySem.Spec PyProof.Rows
end L2
namespace L2
open PySem PySem.Spec PyProof.Rows
def inClass (s : Stmt) (j : Nat) : Stmt := match s with
  | .ClassDef _ _ _ body _ _ _ _ _ _ _ => body.getD j (.Pass ⟨0, 0, 0, 0⟩)
  | _ => .Pass ⟨0, 0, 0, 0⟩
def defArgs (s : Stmt) : Arguments := match s with
  | .FunctionDef _ a _ _ _ _ _ _ _ _ => a
  | _ => { posonlyargs := [], args := [], vararg := none, kwonlyargs := [], kw_defaults := [], kwarg := none, defaults := [] }
def defBody (s : Stmt) : List Stmt := match s with
  | .FunctionDef _ _ b _ _ _ _ _ _ _ => b
  | _ => []
def defScope (s : Stmt) : Scope := match s with
  | .FunctionDef _ _ _ _ _ _ sc _ _ _ => sc
  | _ => { kind := .function, names := [], isGenerator := false, isCoroutine := false }
abbrev CX0 : CXT := fun _ _ _ _ _ _ => False
abbrev E0 : XK := fun _ _ _ => False
theorem pass0 {X : Cx} : Passes CX0 X E0 := fun _ _ _ _ _ _ _ h => h.elim
structure Fun (K : PySem.W.Frag) (x qual : Str) (st : Stmt) (f : Addr) (fd : FuncData) : Prop where
  ex : ∃ (oc : Value) (od : Option Addr) (kV doc pm : Value) (an : Option Addr) (cdv ct : Value) (osl : Array (Option Value)),
    fd = PySem.W.fnOf x qual (defArgs st) (defBody st) (defScope st) .none kV doc pm an cdv ct ∧ K.lookup f = some ⟨oc, od, .func fd, osl⟩ ∧ PySem.W.codeIn K cdv qual = true
  kp : PySem.W.keepIn K (.ref f) = true
section
variable {P : Program} {w : World} {K : PySem.W.Frag} {mg : Str → Option Value} {base : Heap}
theorem Fun.ok {x qual : Str} {st : Stmt} {f : Addr} {fd : FuncData} {N ps : List Str} {k : Nat} {sp : Sp} (F : Fun K x qual st f fd) (S : FnScope N ps (defScope st)) (len : ∀ vs H Q E, sp vs H Q E → vs.length = ps.length)
    (hbody : ∀ (cdv : Value) (A : Around) (outer : List Env) (s : Shared) (H : Hp) (vs : List V) (Q : VK) (E : XK), Room k (A.deeper (envOfC qual (defScope st) s.heap.objs.size f cdv)) → sp vs H Q E →
      ∃ t, PSs (cxOf CX0 P w K mg base N qual (defScope st) f cdv A outer s H E).nox (defBody st) t ∧ t { nx := fun _ H' => Q .non H', rt := Q } (start N vs) H) : FnOk P w K mg base CX0 (k + 1) f fd ps sp := by
  obtain ⟨oc, od, kV, doc, pm, an, cdv, ct, osl, rfl, lk, hcd⟩ := F.ex
  refine fn_of lk hcd S len fun A outer s H vs Q E hr hsp => ?_
  obtain ⟨t, h, q⟩ := hbody cdv A outer s H vs Q E hr hsp
  exact ⟨t, h.nox, q⟩
theorem Fun.binds {x qual : Str} {st : Stmt} {f : Addr} {fd : FuncData} {ps : List Str} (F : Fun K x qual st f fd)
    (h : ∀ (kV doc pm : Value) (an : Option Addr) (cdv ct : Value) (us : List Value), us.length = ps.length → bindArgs (PySem.W.fnOf x qual (defArgs st) (defBody st) (defScope st) .none kV doc pm an cdv ct) ⟨us, []⟩ = pure (ps.zip us)) : Binds K fd ps [] := by
  obtain ⟨oc, od, kV, doc, pm, an, cdv, ct, osl, rfl, lk, hcd⟩ := F.ex
  exact .all (h kV doc pm an cdv ct)
theorem fun_mk {x qual : Str} {st : Stmt} {f : Addr} {oc : Value} {od an : Option Addr} {osl : Array (Option Value)} {kV doc pm cdv ct : Value} (l : K.lookup f = some ⟨oc, od, .func (PySem.W.fnOf x qual (defArgs st) (defBody st) (defScope st) .none kV doc pm an cdv ct), osl⟩)
    (c : PySem.W.codeIn K cdv qual = true) (k : PySem.W.keepIn K (.ref f) = true) : Fun K x qual st f (PySem.W.fnOf x qual (defArgs st) (defBody st) (defScope st) .none kV doc pm an cdv ct) := ⟨⟨oc, od, kV, doc, pm, an, cdv, ct, osl, rfl, l, c⟩, k⟩
end
theorem hu_of {A : Around} {k : Nat} (hr : Room k A) : A.units + 1 < cLine := Nat.lt_of_le_of_lt (Nat.add_le_add_left (by decide : 1 ≤ 64) _) hr.units
section
variable {X : Cx}
theorem pv (i : Nat) {x : Str} {pos : Pos} (hN : X.N[i]? = some x := by rfl) (hv : Vis X.env.scope x := by first | exact Or.inl rfl | exact Or.inr (Or.inl rfl) | exact Or.inr (Or.inr rfl)) (hd : (x == ("__debug__" : Str)) = false := by decide)
    (hcd : (x == ("__classdict__" : Str)) = false := by decide) : PE X (.Name x pos) (tVar i) := pe_var hN hv hd hcd
end
theorem iteF {A B : Prop} (h : B) : if false = true then A else B := by
  rw [if_neg Bool.false_ne_true]
  exact h
theorem iteT {A B : Prop} (h : A) : if true = true then A else B := by
  rw [if_pos rfl]
  exact h
theorem ite2 {c A B : Prop} [Decidable c] (h1 : c → A) (h2 : ¬ c → B) : if c then A else B := by
  by_cases h : c
  · rw [if_pos h]
    exact h1 h
  · rw [if_neg h]
    exact h2 h
def Same (H H' : Hp) : Prop := ∀ b o, H b = some o → H' b = some o
theorem Same.refl (H : Hp) : Same H H := fun _ _ h => h
theorem Same.trans {H H1 H2 : Hp} (a : Same H H1) (b : Same H1 H2) : Same H H2 := fun c o h => b c o (a c o h)
theorem Same.free {H H' : Hp} (e : Same H H') {l : Addr} (h : H' l = Option.none) : H l = Option.none := by
  cases q : H l with
  | none => rfl
  | some o =>
    rw [e l o q] at h
    cases h
theorem Same.seq {K : PySem.W.Frag} {H H' : Hp} {a : Addr} {xs : List V} (e : Same H H') (h : SqL K H a xs) : SqL K H' a xs := by
  rcases h with (h | ⟨o, h⟩) | h
  · exact .inl (.inl (e _ _ h))
  · exact .inl (.inr ⟨o, e _ _ h⟩)
  · exact .inr h
section
variable {κ : Type} [DecidableEq κ]
theorem valV_not {kvs : List (κ × V)} {k : κ} (h : valV kvs k = none) : ¬ k ∈ kvs.map (·.1) := by
  intro m
  obtain ⟨p, hp, e⟩ := List.mem_map.mp m
  have q : (kvs.any fun kv => decide (kv.1 = k)) = true := List.any_eq_true.mpr ⟨p, hp, decide_eq_true e⟩
  rw [valV_any, h] at q
  exact absurd q (by simp)
theorem nd_snoc : ∀ {l : List κ} {k : κ}, l.Nodup → ¬ k ∈ l → (l ++ [k]).Nodup
  | [], k, _, _ => by simp
  | a :: r, k, h, hk => by
    obtain ⟨h1, h2⟩ := List.nodup_cons.mp h
    show (a :: (r ++ [k])).Nodup
    refine List.nodup_cons.mpr ⟨fun m => ?_, nd_snoc h2 fun m => hk (List.mem_cons.mpr (Or.inr m))⟩
    rcases List.mem_append.mp m with q | q
    · exact h1 q
    · exact hk (List.mem_cons.mpr (Or.inl (List.mem_singleton.mp q).symm))
theorem nd_putK {kvs : List (κ × V)} {k : κ} (v : V) (hn : (kvs.map (·.1)).Nodup) (h : valV kvs k = none) : ((putK kvs k v).map (·.1)).Nodup := by
  rw [putK_new v h, List.map_append]
  exact nd_snoc hn (valV_not h)
end
theorem at_of {xs : List V} {z : Int} {j : Nat} {v : V} (e : z = (j : Int)) (h : xs[j]? = some v) : atI xs z = some v := by
  rw [e]
  exact atI_nat h
theorem Same.made {H H1 : Hp} {x dx C : Addr} (nx : H x = Option.none) (nd : H dx = Option.none) (k : ∀ b o, (upd (upd H dx (.own x)) x (.ins C dx [])) b = some o → b ≠ x → H1 b = some o) : Same H H1 := fun b o e =>
  k b o (by rw [upd_ne (ne_of_none e nx), upd_ne (ne_of_none e nd)]; exact e) (ne_of_none e nx)
end L2
section
set_option Elab.async false
set_option linter.all false
set_option maxRecDepth 100000
set_option maxHeartbeats 2000000
namespace L2
open PySem PySem.Spec PyProof.Rows
open PySem.W (WData Codec OpenSpec Well WellAll ReadsW ReadsAllW)
mutual
/-- x stands for the datum d, lists and tuples all the way -/
inductive Dw (K : PySem.W.Frag) (H : Hp) : V → WData → Prop
  | non : Dw K H .non .none
  | bl (b : Bool) : Dw K H (.bl b) (.bool b)
  | int (i : Int) : Dw K H (.int i) (.int i)
  | str (x : Str) : Dw K H (.str x) (.str x)
  | byt (b : Array UInt8) : Dw K H (.byt b) (.bytes b.toList)
  | lst {a : Addr} {xs : List V} {ds : List WData} : SqL K H a xs → DwAll K H xs ds → Dw K H (.ref a) (.list ds)
  | tup {a : Addr} {xs : List V} {ds : List WData} : SqT K H a xs → DwAll K H xs ds → Dw K H (.ref a) (.tuple ds)
inductive DwAll (K : PySem.W.Frag) (H : Hp) : List V → List WData → Prop
  | nil : DwAll K H [] []
  | cons {v : V} {vs : List V} {d : WData} {ds : List WData} : Dw K H v d → DwAll K H vs ds → DwAll K H (v :: vs) (d :: ds)
end
theorem dw_ints {K : PySem.W.Frag} {H : Hp} : ∀ ns : List Int, DwAll K H (ns.map V.int) (ns.map WData.int)
  | [] => .nil
  | n :: r => .cons (.int n) (dw_ints r)
theorem ints_dw {K : PySem.W.Frag} {H : Hp} : ∀ (ns : List Int) (xs : List V), DwAll K H xs (ns.map WData.int) → xs = ns.map V.int
  | [], xs, h => by
    cases h
    rfl
  | n :: r, xs, h => by
    cases h with
    | cons h1 h2 =>
      cases h1
      rw [ints_dw r _ h2] <;> rfl
section
variable {P : Program} {w : World} {K : PySem.W.Frag} {H : Hp} {h : Heap} {R : PySem.W.WRecords} {cl : Str → Option Addr}
theorem sqL_at {a : Addr} {xs : List V} (hok : HOk P w H h) (KX : K.In h) (q : SqL K H a xs) : ∃ (its : List Value) (o : Obj) (n : Nat), Vals xs its ∧ h.get? a = some o ∧ o.cls = .type "list" ∧ o.data = .seq its.toArray n := by
  rcases q with q | ⟨o, its, n, e, hc, _, hd, _, hv⟩
  · obtain ⟨_, its, n, hv, e⟩ := (show ObjOk P w H h a (.lst xs) from q.ok hok)
    exact ⟨its, _, n, hv, e, rfl, rfl⟩
  · exact ⟨its.toList, o, n, hv, KX _ _ e, hc, by simp [hd]⟩
theorem sqT_at {a : Addr} {xs : List V} (hok : HOk P w H h) (KX : K.In h) (q : SqT K H a xs) : ∃ (its : List Value) (o : Obj) (n : Nat), Vals xs its ∧ h.get? a = some o ∧ o.cls = .type "tuple" ∧ o.data = .seq its.toArray n := by
  rcases q with q | ⟨o, its, n, e, hc, hd, _, hv⟩
  · obtain ⟨_, its, hv, o, e, hc, n, hd⟩ := (show ObjOk P w H h a (.tup xs) from q.ok hok)
    exact ⟨its, o, n, hv, e, hc, hd⟩
  · exact ⟨its.toList, o, n, hv, KX _ _ e, hc, by simp [hd]⟩
mutual
theorem Dw.reads (hok : HOk P w H h) (KX : K.In h) : ∀ (d : WData) (v : V) (u : Value), Dw K H v d → RelV v u → ∃ as, ReadsW R cl h u d as
  | .none, _, _, x, r => by
    cases x
    cases r
    exact ⟨_, ReadsW.none⟩
  | .bool b, _, _, x, r => by
    cases x
    cases r
    exact ⟨_, ReadsW.bool b⟩
  | .int i, _, _, x, r => by
    cases x
    obtain ⟨t, rfl⟩ := r
    exact ⟨_, ReadsW.int i t⟩
  | .str s, _, _, x, r => by
    cases x
    obtain ⟨t, rfl⟩ := r
    exact ⟨_, ReadsW.str s t⟩
  | .bytes b, _, _, x, r => by
    cases x
    obtain ⟨t, rfl⟩ := r
    exact ⟨_, ReadsW.bytes _ t⟩
  | .list ds, _, _, x, r => by
    cases x with
    | lst hs ha =>
      cases r
      obtain ⟨its, o, n, rv, ho, hc, hd⟩ := sqL_at hok KX hs
      obtain ⟨as, hr⟩ := Dw.readsAll hok KX ds _ its ha rv
      exact ⟨_, ReadsW.list ho hc hd hr⟩
  | .tuple ds, _, _, x, r => by
    cases x with
    | tup hs ha =>
      cases r
      obtain ⟨its, o, n, rv, ho, hc, hd⟩ := sqT_at hok KX hs
      obtain ⟨as, hr⟩ := Dw.readsAll hok KX ds _ its ha rv
      exact ⟨_, ReadsW.tuple ho hc hd hr⟩
  | .float _, _, _, x, _ => by cases x
  | .dict _, _, _, x, _ => by cases x
  | .bytearray _, _, _, x, _ => by cases x
  | .set _, _, _, x, _ => by cases x
  | .frozenset _, _, _, x, _ => by cases x
  | .obj _ _, _, _, x, _ => by cases x
theorem Dw.readsAll (hok : HOk P w H h) (KX : K.In h) : ∀ (ds : List WData) (vs : List V) (us : List Value), DwAll K H vs ds → Vals vs us → ∃ as, ReadsAllW R cl h us ds as
  | [], _, _, x, r => by
    cases x
    cases r
    exact ⟨_, ReadsAllW.nil⟩
  | d :: ds, _, _, x, r => by
    cases x with
    | cons h1 h2 =>
      cases r with
      | cons r1 r2 =>
        obtain ⟨as, q1⟩ := Dw.reads hok KX d _ _ h1 r1
        obtain ⟨bs, q2⟩ := Dw.readsAll hok KX ds _ _ h2 r2
        exact ⟨_, ReadsAllW.cons q1 q2⟩
end
end
mutual
/-- data that a codec tells -/
def plW : WData → Bool
  | .none => true
  | .bool _ => true
  | .int _ => true
  | .str _ => true
  | .bytes _ => true
  | .list xs => plWs xs
  | .tuple xs => plWs xs
  | _ => false
def plWs : List WData → Bool
  | [] => true
  | x :: r => plW x && plWs r
end
theorem plWs_map {α : Type} {f : α → WData} (h : ∀ a, plW (f a) = true) : ∀ l : List α, plWs (l.map f) = true
  | [] => rfl
  | x :: r => by
    show (plW (f x) && plWs (r.map f)) = true
    rw [h x, plWs_map h r] <;> rfl
theorem pl_enc : ∀ (c : Codec) (a : c.denote), plW (c.enc a) = true
  | .unit, _ => rfl
  | .bool, _ => rfl
  | .int _ _, _ => rfl
  | .nat _ _, _ => rfl
  | .u8, _ => rfl
  | .bytes _ _, _ => rfl
  | .text _ _ _ _, _ => rfl
  | .list _ _ c, a => plWs_map (fun x => pl_enc c x) a
  | .pair c d, a => by
    show (plW (c.enc a.1) && (plW (d.enc a.2) && true)) = true
    rw [pl_enc c a.1, pl_enc d a.2] <;> rfl
  | .triple c d e, a => by
    show (plW (c.enc a.1) && (plW (d.enc a.2.1) && (plW (e.enc a.2.2) && true))) = true
    rw [pl_enc c a.1, pl_enc d a.2.1, pl_enc e a.2.2] <;> rfl
  | .option c, none => rfl
  | .option c, some x => pl_enc c x
theorem pl_encAll : ∀ (cs : List Codec) (a : Codec.denoteAll cs), plWs (Codec.encAll cs a) = true
  | [], _ => rfl
  | c :: cs, a => by
    show (plW (c.enc a.1) && plWs (Codec.encAll cs a.2)) = true
    rw [pl_enc c a.1, pl_encAll cs a.2] <;> rfl
theorem weight_mem : ∀ {xs : List WData} {d : WData}, d ∈ xs → d.weight ≤ WData.weightAll xs
  | [], d, h => absurd h (by simp)
  | x :: r, d, h => by
    show d.weight ≤ x.weight + 1 + WData.weightAll r
    rcases List.mem_cons.mp h with e | m
    · rw [e]
      omega
    · have z := weight_mem m
      omega
def toV : Value → V
  | .none => .non
  | .bool b => .bl b
  | .int i _ => .int i
  | .str x _ => .str x
  | .bytes b _ => .byt b
  | .ref a => .ref a
  | _ => .non
def OkU (A : List Addr) : Value → Prop
  | .none => True
  | .bool _ => True
  | .int _ _ => True
  | .str _ _ => True
  | .bytes _ _ => True
  | .ref a => a ∈ A
  | _ => False
theorem OkU.mono {A B : List Addr} (h : ∀ a ∈ A, a ∈ B) : ∀ {u : Value}, OkU A u → OkU B u := fun {u} x => by
  cases u with
  | ref a => exact h a x
  | none => trivial
  | bool b => trivial
  | int i t => trivial
  | str s t => trivial
  | bytes b t => trivial
  | _ => exact False.elim x
theorem relV_toV {A : List Addr} {u : Value} (x : OkU A u) : RelV (toV u) u := by
  cases u with
  | ref a => rfl
  | none => rfl
  | bool b => rfl
  | int i t => exact ⟨t, rfl⟩
  | str s t => exact ⟨t, rfl⟩
  | bytes b t => exact ⟨t, rfl⟩
  | _ => exact False.elim x
theorem vals_toV {A : List Addr} : ∀ {vs : List Value}, (∀ u ∈ vs, OkU A u) → Vals (vs.map toV) vs
  | [], _ => .nil
  | u :: r, h => .cons (relV_toV (h u (List.mem_cons_self ..))) (vals_toV fun x hx => h x (List.mem_cons_of_mem _ hx))
def ArgOb (h : Heap) (A : List Addr) (a : Addr) : Prop := ∃ vs : List Value, vs.length ≤ sizeLine ∧ (∀ u ∈ vs, OkU A u) ∧
  (h.get? a = some { cls := .type "list", data := .seq vs.toArray } ∨ h.get? a = some { cls := .type "tuple", data := .seq vs.toArray })
theorem ArgOb.mono {h : Heap} {A B : List Addr} {a : Addr} (k : ∀ a ∈ A, a ∈ B) (x : ArgOb h A a) : ArgOb h B a := by
  obtain ⟨vs, h1, h2, h3⟩ := x
  exact ⟨vs, h1, fun u hu => (h2 u hu).mono k, h3⟩
theorem wellAll_len {P : Params} {h : Heap} : ∀ {vs : List Value} {ds : List WData}, WellAll P h vs ds → vs.length = ds.length
  | _, _, .nil => rfl
  | _, _, .cons _ b => by
    show _ + 1 = _ + 1
    rw [wellAll_len b]
theorem well_list {P : Params} {h : Heap} {v : Value} {ds : List WData} (x : Well P h v (.list ds)) : ∃ (a : Addr) (vs : List Value), v = .ref a ∧ h.get? a = some { cls := .type "list", data := .seq vs.toArray } ∧ WellAll P h vs ds := by
  cases x with
  | list ho hall => exact ⟨_, _, rfl, ho, hall⟩
theorem well_tuple {P : Params} {h : Heap} {v : Value} {ds : List WData} (x : Well P h v (.tuple ds)) : ∃ (a : Addr) (vs : List Value), v = .ref a ∧ h.get? a = some { cls := .type "tuple", data := .seq vs.toArray } ∧ WellAll P h vs ds := by
  cases x with
  | tuple ho hall => exact ⟨_, _, rfl, ho, hall⟩
theorem well_cons {P : Params} {h : Heap} {us : List Value} {d : WData} {ds : List WData} (x : WellAll P h us (d :: ds)) : ∃ (v : Value) (vs : List Value), us = v :: vs ∧ Well P h v d ∧ WellAll P h vs ds := by
  cases x with
  | cons a b => exact ⟨_, _, rfl, a, b⟩
theorem line_of {n : Nat} (h : n ≤ 1048576) : n ≤ sizeLine := Nat.le_trans h (by decide)
section
variable {P : Params} {h : Heap}
mutual
theorem area_one : ∀ (d : WData) (v : Value), Well P h v d → plW d = true → d.weight ≤ 1048576 → ∃ A : List Addr, OkU A v ∧ ∀ a ∈ A, ArgOb h A a
  | .none, _, x, _, _ => by
    cases x
    exact ⟨[], trivial, fun a m => absurd m (by simp)⟩
  | .bool b, _, x, _, _ => by
    cases x
    exact ⟨[], trivial, fun a m => absurd m (by simp)⟩
  | .int i, _, x, _, _ => by
    cases x
    exact ⟨[], trivial, fun a m => absurd m (by simp)⟩
  | .str s, _, x, _, _ => by
    cases x
    exact ⟨[], trivial, fun a m => absurd m (by simp)⟩
  | .bytes b, _, x, _, _ => by
    cases x
    exact ⟨[], trivial, fun a m => absurd m (by simp)⟩
  | .list ds, _, x, p, z => by
    obtain ⟨a, vs, rfl, ho, hall⟩ := well_list x
    have z2 : WData.weightAll ds ≤ 1048576 := z
    obtain ⟨A, h1, h2⟩ := area_all ds _ hall p fun d hd => Nat.le_trans (weight_mem hd) z2
    have k : ∀ b ∈ A, b ∈ a :: A := fun b hb => List.mem_cons_of_mem _ hb
    refine ⟨a :: A, List.mem_cons_self .., fun b hb => ?_⟩
    rcases List.mem_cons.mp hb with e | m
    · rw [e]
      exact ⟨vs, line_of (by rw [wellAll_len hall]; exact Nat.le_trans (PySem.W.length_le_weightAllW ds) z2), fun u hu => (h1 u hu).mono k, .inl ho⟩
    · exact (h2 b m).mono k
  | .tuple ds, _, x, p, z => by
    obtain ⟨a, vs, rfl, ho, hall⟩ := well_tuple x
    have z2 : WData.weightAll ds ≤ 1048576 := z
    obtain ⟨A, h1, h2⟩ := area_all ds _ hall p fun d hd => Nat.le_trans (weight_mem hd) z2
    have k : ∀ b ∈ A, b ∈ a :: A := fun b hb => List.mem_cons_of_mem _ hb
    refine ⟨a :: A, List.mem_cons_self .., fun b hb => ?_⟩
    rcases List.mem_cons.mp hb with e | m
    · rw [e]
      exact ⟨vs, line_of (by rw [wellAll_len hall]; exact Nat.le_trans (PySem.W.length_le_weightAllW ds) z2), fun u hu => (h1 u hu).mono k, .inr ho⟩
    · exact (h2 b m).mono k
  | .float _, _, _, p, _ => Bool.noConfusion (show false = true from p)
  | .dict _, _, _, p, _ => Bool.noConfusion (show false = true from p)
  | .bytearray _, _, _, p, _ => Bool.noConfusion (show false = true from p)
  | .set _, _, _, p, _ => Bool.noConfusion (show false = true from p)
  | .frozenset _, _, _, p, _ => Bool.noConfusion (show false = true from p)
  | .obj _ _, _, _, p, _ => Bool.noConfusion (show false = true from p)
theorem area_all : ∀ (ds : List WData) (vs : List Value), WellAll P h vs ds → plWs ds = true → (∀ d ∈ ds, d.weight ≤ 1048576) → ∃ A : List Addr, (∀ u ∈ vs, OkU A u) ∧ ∀ a ∈ A, ArgOb h A a
  | [], _, x, _, _ => by
    cases x
    exact ⟨[], fun u m => absurd m (by simp), fun a m => absurd m (by simp)⟩
  | d :: ds, _, x, p, z => by
    obtain ⟨v, vs, rfl, x1, x2⟩ := well_cons x
    have q : plW d = true ∧ plWs ds = true := Bool.and_eq_true_iff.mp p
    obtain ⟨A, a1, a2⟩ := area_one d v x1 q.1 (z d (List.mem_cons_self ..))
    obtain ⟨B, b1, b2⟩ := area_all ds vs x2 q.2 fun e he => z e (List.mem_cons_of_mem _ he)
    have kA : ∀ b ∈ A, b ∈ A ++ B := fun b hb => List.mem_append.mpr (.inl hb)
    have kB : ∀ b ∈ B, b ∈ A ++ B := fun b hb => List.mem_append.mpr (.inr hb)
    refine ⟨A ++ B, fun u hu => ?_, fun b hb => ?_⟩
    · rcases List.mem_cons.mp hu with e | m
      · rw [e]
        exact a1.mono kA
      · exact (b1 u m).mono kB
    · rcases List.mem_append.mp hb with m | m
      · exact (a2 b m).mono kA
      · exact (b2 b m).mono kB
end
end
def hoOf (o : Obj) : Option HO := match o.data with
  | .seq vs _ => if (o.cls == Value.type "list") = true then some (.frz o (.lst (vs.toList.map toV))) else some (.frz o (.tup (vs.toList.map toV)))
  | _ => none
def argH (K : PySem.W.Frag) (h : Heap) (A : List Addr) : Hp := fun b => if b ∈ A then (if (K.lookup b).isNone = true then (h.get? b).bind hoOf else none) else none
def OnlyF (H : Hp) : Prop := ∀ b, H b = none ∨ ∃ o u, H b = some (.frz o u)
theorem hoOf_lst (vs : List Value) : hoOf { cls := .type "list", data := .seq vs.toArray } = some (.frz { cls := .type "list", data := .seq vs.toArray } (.lst (vs.map toV))) := by
  show (if (Value.type "list" == Value.type "list") = true then some (HO.frz { cls := .type "list", data := .seq vs.toArray } (.lst (vs.toArray.toList.map toV))) else some (HO.frz { cls := .type "list", data := .seq vs.toArray } (.tup (vs.toArray.toList.map toV)))) = _
  rw [if_pos (beq_self_eq_true _)]
theorem hoOf_tup (vs : List Value) : hoOf { cls := .type "tuple", data := .seq vs.toArray } = some (.frz { cls := .type "tuple", data := .seq vs.toArray } (.tup (vs.map toV))) := by
  show (if (Value.type "tuple" == Value.type "list") = true then some (HO.frz { cls := .type "tuple", data := .seq vs.toArray } (.lst (vs.toArray.toList.map toV))) else some (HO.frz { cls := .type "tuple", data := .seq vs.toArray } (.tup (vs.toArray.toList.map toV)))) = _
  rw [if_neg (by decide)]
section
variable {P : Program} {w : World} {K : PySem.W.Frag} {h : Heap} {A : List Addr}
theorem argH_at {b : Addr} {o : Obj} (hb : b ∈ A) (hk : K.lookup b = none) (e : h.get? b = some o) : argH K h A b = hoOf o := by
  unfold argH
  rw [if_pos hb, hk, if_pos (show (none : Option Obj).isNone = true from rfl), e] <;> rfl
theorem of_argH {b : Addr} {u : HO} (q : argH K h A b = some u) : b ∈ A ∧ K.lookup b = none := by
  unfold argH at q
  by_cases hb : b ∈ A
  · rw [if_pos hb] at q
    cases hk : K.lookup b with
    | none => exact ⟨hb, rfl⟩
    | some o =>
      rw [hk, if_neg (by simp)] at q
      cases q
  · rw [if_neg hb] at q
    cases q
theorem argH_is (ar : ∀ a ∈ A, ArgOb h A a) {b : Addr} {u : HO} (q : argH K h A b = some u) : K.lookup b = none ∧ ∃ vs : List Value, vs.length ≤ sizeLine ∧ (∀ u ∈ vs, OkU A u) ∧
    ((h.get? b = some { cls := .type "list", data := .seq vs.toArray } ∧ u = .frz { cls := .type "list", data := .seq vs.toArray } (.lst (vs.map toV))) ∨
     (h.get? b = some { cls := .type "tuple", data := .seq vs.toArray } ∧ u = .frz { cls := .type "tuple", data := .seq vs.toArray } (.tup (vs.map toV)))) := by
  obtain ⟨hb, hk⟩ := of_argH q
  obtain ⟨vs, h1, h2, h3⟩ := ar b hb
  refine ⟨hk, vs, h1, h2, ?_⟩
  rcases h3 with e | e
  · rw [argH_at hb hk e, hoOf_lst] at q
    exact .inl ⟨e, (Option.some.inj q).symm⟩
  · rw [argH_at hb hk e, hoOf_tup] at q
    exact .inr ⟨e, (Option.some.inj q).symm⟩
theorem argH_only (ar : ∀ a ∈ A, ArgOb h A a) : OnlyF (argH K h A) := fun b => by
  cases q : argH K h A b with
  | none => exact .inl rfl
  | some u =>
    obtain ⟨_, vs, _, _, ⟨_, e⟩ | ⟨_, e⟩⟩ := argH_is ar q
    · exact .inr ⟨_, _, by rw [e]⟩
    · exact .inr ⟨_, _, by rw [e]⟩
theorem argH_ok (ar : ∀ a ∈ A, ArgOb h A a) : HOk P w (argH K h A) h := fun b u q => by
  obtain ⟨_, vs, h1, h2, ⟨e, rfl⟩ | ⟨e, rfl⟩⟩ := argH_is ar q
  · exact ⟨e, by rw [List.length_map]; exact h1, vs, _, vals_toV h2, e⟩
  · exact ⟨e, by rw [List.length_map]; exact h1, vs, vals_toV h2, _, e, rfl, _, rfl⟩
theorem seq_inj {c c' : Value} {vs us : List Value} (e : (some { cls := c, data := .seq vs.toArray } : Option Obj) = some { cls := c', data := .seq us.toArray }) : c = c' ∧ vs = us := by
  have e1 := Option.some.inj e
  have e2 : c = c' := congrArg Obj.cls e1
  have e3 : Data.seq vs.toArray = Data.seq us.toArray := congrArg Obj.data e1
  injection e3 with e4
  refine ⟨e2, ?_⟩
  have e5 := congrArg Array.toList e4
  simpa using e5
theorem argL (KX : K.In h) (ar : ∀ a ∈ A, ArgOb h A a) {a : Addr} {vs : List Value} (ha : a ∈ A) (e : h.get? a = some { cls := .type "list", data := .seq vs.toArray }) : (∀ u ∈ vs, OkU A u) ∧ SqL K (argH K h A) a (vs.map toV) := by
  obtain ⟨us, h1, h2, h3⟩ := ar a ha
  have hu : us = vs := by
    rcases h3 with q | q
    · rw [e] at q
      exact (seq_inj q).2.symm
    · rw [e] at q
      exact absurd (Value.type.inj (seq_inj q).1) (by decide)
  subst hu
  refine ⟨h2, ?_⟩
  cases hk : K.lookup a with
  | none => exact .inl (.inr ⟨_, by rw [argH_at ha hk e, hoOf_lst]⟩)
  | some o =>
    have e2 := KX a o hk
    rw [e] at e2
    obtain rfl := Option.some.inj e2
    exact .inr ⟨_, us.toArray, _, hk, rfl, rfl, rfl, by rw [List.size_toArray]; exact h1, by simpa using vals_toV h2⟩
theorem argT (KX : K.In h) (ar : ∀ a ∈ A, ArgOb h A a) {a : Addr} {vs : List Value} (ha : a ∈ A) (e : h.get? a = some { cls := .type "tuple", data := .seq vs.toArray }) : (∀ u ∈ vs, OkU A u) ∧ SqT K (argH K h A) a (vs.map toV) := by
  obtain ⟨us, h1, h2, h3⟩ := ar a ha
  have hu : us = vs := by
    rcases h3 with q | q
    · rw [e] at q
      exact absurd (Value.type.inj (seq_inj q).1) (by decide)
    · rw [e] at q
      exact (seq_inj q).2.symm
  subst hu
  refine ⟨h2, ?_⟩
  cases hk : K.lookup a with
  | none => exact .inl (.inr ⟨_, by rw [argH_at ha hk e, hoOf_tup]⟩)
  | some o =>
    have e2 := KX a o hk
    rw [e] at e2
    obtain rfl := Option.some.inj e2
    exact .inr ⟨_, us.toArray, _, hk, rfl, rfl, by rw [List.size_toArray]; exact h1, by simpa using vals_toV h2⟩
mutual
theorem dw_one {Pm : Params} (KX : K.In h) (ar : ∀ a ∈ A, ArgOb h A a) : ∀ (d : WData) (v : Value), Well Pm h v d → plW d = true → OkU A v → Dw K (argH K h A) (toV v) d
  | .none, _, x, _, _ => by
    cases x
    exact .non
  | .bool b, _, x, _, _ => by
    cases x
    exact .bl b
  | .int i, _, x, _, _ => by
    cases x
    exact .int i
  | .str s, _, x, _, _ => by
    cases x
    exact .str s
  | .bytes b, _, x, _, _ => by
    cases x
    have z := Dw.byt (K := K) (H := argH K h A) b.toArray
    exact z
  | .list ds, _, x, p, hu => by
    obtain ⟨a, vs, rfl, ho, hall⟩ := well_list x
    obtain ⟨h2, hs⟩ := argL KX ar hu ho
    exact .lst hs (dw_all KX ar ds _ hall p h2)
  | .tuple ds, _, x, p, hu => by
    obtain ⟨a, vs, rfl, ho, hall⟩ := well_tuple x
    obtain ⟨h2, hs⟩ := argT KX ar hu ho
    exact .tup hs (dw_all KX ar ds _ hall p h2)
  | .float _, _, _, p, _ => Bool.noConfusion (show false = true from p)
  | .dict _, _, _, p, _ => Bool.noConfusion (show false = true from p)
  | .bytearray _, _, _, p, _ => Bool.noConfusion (show false = true from p)
  | .set _, _, _, p, _ => Bool.noConfusion (show false = true from p)
  | .frozenset _, _, _, p, _ => Bool.noConfusion (show false = true from p)
  | .obj _ _, _, _, p, _ => Bool.noConfusion (show false = true from p)
theorem dw_all {Pm : Params} (KX : K.In h) (ar : ∀ a ∈ A, ArgOb h A a) : ∀ (ds : List WData) (vs : List Value), WellAll Pm h vs ds → plWs ds = true → (∀ u ∈ vs, OkU A u) → DwAll K (argH K h A) (vs.map toV) ds
  | [], _, x, _, _ => by
    cases x
    exact .nil
  | d :: ds, _, x, p, hu => by
    obtain ⟨v, vs, rfl, x1, x2⟩ := well_cons x
    have q : plW d = true ∧ plWs ds = true := Bool.and_eq_true_iff.mp p
    exact .cons (dw_one KX ar d v x1 q.1 (hu _ (List.mem_cons_self ..))) (dw_all KX ar ds vs x2 q.2 fun u m => hu u (List.mem_cons_of_mem _ m))
end
end
theorem spec_call {P : Program} {w : World} {K : PySem.W.Frag} {mg mb : Str → Option Value} {CX : CXT} {k : Nat} {fa : Addr} {fd : FuncData} {ps : List Str} {sp : Sp} {s₁ : Shared} {vals : List Value} {ds : List WData} {R : PySem.W.WRecords} {cl : Str → Option Addr} {d0 : WData}
    (KX : K.In s₁.heap) (hns : s₁.heap.Ns mainGlobals mg) (hb : s₁.heap.Ns builtinsNs mb) (hbb : ∀ x : Str, x ≠ "__name__" → mb x = bootBuiltins x) (hlim : s₁.heap.NoLimit) (hg : s₁.gens = #[])
    (hwl : WellAll w.params s₁.heap vals ds) (hpl : plWs ds = true) (hwt : ∀ d ∈ ds, d.weight ≤ 1048576) (hr : Room k callerA)
    (F : ∀ base : Heap, K.In base → base.Ns mainGlobals mg → FnOk P w K mg base CX k fa fd ps sp) (hbind : ∀ (s : Shared) (us : List Value), us.length = ps.length → BindsTo s fd ⟨us, []⟩ (ps.zip us)) (hlen : ds.length = ps.length)
    (hsp : ∀ (H : Hp) (xs : List V), OnlyF H → DwAll K H xs ds → sp xs H (fun v H' => Dw K H' v d0) fun _ _ _ => False)
    (hCX : ∀ H e s', CX [] H s₁ (fun _ _ _ => False) e s' → False) :
    codeAny (model P w) callerA (.call (.ref fa) ⟨vals, []⟩) (fun r s' => ∃ u as, r = .ok (.ret u) ∧ ReadsW R cl s'.heap u d0 as ∧ OldK s₁.heap s'.heap ∧ s'.os = s₁.os ∧ AllBare s'.gens) s₁ := by
  obtain ⟨A, ho, ar⟩ := area_all ds vals hwl hpl hwt
  have hO : OnlyF (argH K s₁.heap A) := argH_only ar
  have hok : HOk P w (argH K s₁.heap A) s₁.heap := argH_ok ar
  have hS := dw_all KX ar ds vals hwl hpl ho
  have hV := vals_toV ho
  have hK : ∀ b u, argH K s₁.heap A b = some u → K.lookup b = none := fun b u q => (argH_is ar q).1
  have noA : ∀ {b : Addr} {o : Obj} {es : Array DictEntry} {ep : Nat}, s₁.heap.get? b = some o → o.data = .dict es ep → argH K s₁.heap A b = none := fun {b o es ep} e d => by
    cases q : argH K s₁.heap A b with
    | none => rfl
    | some u =>
      obtain ⟨_, vs, _, _, ⟨e2, _⟩ | ⟨e2, _⟩⟩ := argH_is ar q
      · rw [e2] at e
        cases e
        have d' : Data.seq vs.toArray _ = Data.dict es ep := d
        cases d'
      · rw [e2] at e
        cases e
        have d' : Data.seq vs.toArray _ = Data.dict es ep := d
        cases d'
  generalize argH K s₁.heap A = H at hO hok hS hK noA
  have base_of : ∀ {b : Addr} {o : Obj}, s₁.heap.get? b = some o → H b = none → (hidT s₁.heap H).get? b = some o := fun e n => hidT_get e n
  have nsK : ∀ {b : Addr} {m : Str → Option Value}, s₁.heap.Ns b m → (hidT s₁.heap H).Ns b m := fun {b m} ⟨o, es, ep, e, d, r⟩ => ⟨o, es, ep, base_of e (noA e d), d, r⟩
  have nK : ∀ b o, K.lookup b = some o → H b = none := fun b o e => by
    cases q : H b with
    | none => rfl
    | some u =>
      rw [hK b u q] at e
      cases e
  have hKb : K.In (hidT s₁.heap H) := fun b o e => base_of (KX b o e) (nK b o e)
  have hM : Mod K mg (hidT s₁.heap H) := ⟨hKb, nsK hns, ⟨mb, nsK hb, hbb⟩, let ⟨mc, h1, h2⟩ := hlim; ⟨mc, nsK h1, h2⟩⟩
  have e0 : Env0 P w K mg (hidT s₁.heap H) callerA [] s₁ H := ⟨rfl, hM, fun b o e => of_hidT e, Nat.le_of_eq (hidT_size _ _), trivial, fun b hb => absurd (show b ∈ ([] : List Addr) from hb) (by simp), hok, .of_eq hg⟩
  have hl : vals.length = ps.length := by rw [wellAll_len hwl]; exact hlen
  refine codeAny_mono ((F _ hKb (nsK hns)).run callerA [] s₁ H ⟨vals, []⟩ vals (vals.map toV) _ _ hr e0 (hbind s₁ vals hl) hV (hsp H _ hO hS)) fun r s' x => ?_
  cases r with
  | error e => exact (hCX H e s' x).elim
  | ok fl =>
    cases fl with
    | next => exact False.elim x
    | brk => exact False.elim x
    | cont => exact False.elim x
    | ret u =>
      obtain ⟨v, H', os, bare, un, hok', r', q⟩ := x
      have kept : ∀ b o, s₁.heap.get? b = some o → s'.heap.get? b = some o := fun b o e => by
        cases q2 : H b with
        | none => exact un.keep b o e q2 (by intro z; exact absurd (show b ∈ ([] : List Addr) from z) (by simp)) (by simp)
        | some u2 =>
          rcases hO b with z | ⟨ob, u3, z⟩
          · rw [q2] at z
            cases z
          · have z2 := un.frzs b ob _ z
            obtain ⟨e1, _⟩ := hok b _ z
            obtain ⟨e2, _⟩ := hok' b _ z2
            rw [e] at e1
            cases e1
            exact e2
      have KX' : K.In s'.heap := fun b o e => kept b o (KX b o e)
      obtain ⟨as, hrd⟩ := Dw.reads (R := R) (cl := cl) hok' KX' d0 v u q r'
      exact ⟨u, as, rfl, hrd, OldK.of_keep kept, os, bare⟩
theorem layable_weight {ds : List WData} (h : WData.layableAll ds = true) : ∀ d ∈ ds, d.weight ≤ 1048576 := fun d hd =>
  (PySem.W.layableW_iff.mp (List.all_eq_true.mp h d hd)).2.2
theorem encAll_len : ∀ (cs : List Codec) (a : Codec.denoteAll cs), (Codec.encAll cs a).length = cs.length
  | [], _ => rfl
  | c :: cs, a => by
    show (Codec.encAll cs a.2).length + 1 = cs.length + 1
    rw [encAll_len cs a.2]
theorem walk_spec {r : OpenSpec} {k : Nat} {q : Program} {loose : List Str} {XP : (Str → Option Value) → Heap → Prop} {YP : World → Heap → Prop} {d : DefRec} {K : Params → PySem.W.Frag} {CX : World → CXT} {ps : List Str} {sp : World → Sp}
    (hwell : r.wellSaid = true) (hdf : d.params.defaults = []) (hlen : r.args.length = ps.length) (hr : Room k callerA)
    (hY : ∀ (w : World) (h : Heap), YP w h → (K w.params).In h)
    (F : ∀ (w : World) (mg : Str → Option Value) (fa : Addr) (h : Heap), YP w h → (K w.params).In h → h.Ns mainGlobals mg → mg d.name = some (.ref fa) →
      ∃ fd : FuncData, (∀ (s : Shared) (us : List Value), us.length = ps.length → BindsTo s fd ⟨us, []⟩ (ps.zip us)) ∧
        ∀ base : Heap, (K w.params).In base → base.Ns mainGlobals mg → FnOk r.prog w (K w.params) mg base (CX w) k fa fd ps (sp w))
    (hsp : ∀ (w : World) (H : Hp) (xs : List V) (a : Codec.denoteAll r.args), OnlyF H → Codec.withinAll r.args a = true → Codec.app r.args r.asked a = true → DwAll (K w.params) H xs (Codec.encAll r.args a) →
      sp w xs H (fun v H' => Dw (K w.params) H' v (r.ret.enc (Codec.app r.args r.f a))) fun _ _ _ => False)
    (hCX : ∀ (w : World) (H : Hp) (s : Shared) (e : Value) (s' : Shared), CX w [] H s (fun _ _ _ => False) e s' → False) :
    PySem.W.WalkOS q loose XP YP r d [] (fun f vs => PySem.call f vs) := by
  intro w s_0 s₁ mg mb G Y fa o pm cd doc dV kV ho hd hcd hD hmg hg args vals as hpre hlay hrd hwl hlo
  obtain ⟨a, e1, e2⟩ := PySem.W.os_pre_some hpre
  obtain ⟨e3, hwi⟩ := Codec.encAll_of_decAll r.args args a e1
  subst e3
  have KX := hY w _ Y
  obtain ⟨fd, hb, hF⟩ := F w mg fa _ Y KX G.T.g hmg
  refine PySem.W.enter_call (codeAny_mono (spec_call (R := []) (cl := classAt s_0.heap) (d0 := r.ret.enc (Codec.app r.args r.f a)) KX G.T.g G.T.b G.T.builtins G.T.nolimit hg hwl (pl_encAll _ _) (layable_weight hlay) hr hF hb (by rw [encAll_len]; exact hlen)
    (fun H xs hO hS => hsp w H xs a hO hwi e2 hS) fun H e s' => hCX w H s₁ e s') fun r' s' hq => ?_)
  obtain ⟨u, as', rfl, h1, h2, h3, h4⟩ := hq
  exact ⟨.inl ⟨u, _, as', rfl, fun _ => rfl, h1, (OpenSpec.post_iff hwell hwi _ _).mpr rfl, fun z => Bool.noConfusion (show false = true from z)⟩, h2, h3, h4⟩
theorem walk_specK {r : OpenSpec} {k : Nat} {q : Program} {loose : List Str} {XP : (Str → Option Value) → Heap → Prop} {YP : World → Heap → Prop} {d : DefRec} {K : Params → PySem.W.Frag} {CX : CXT} {ps : List Str} {sp : PySem.W.Frag → Sp}
    (hwell : r.wellSaid = true) (hdf : d.params.defaults = []) (hlen : r.args.length = ps.length) (hr : Room k callerA)
    (hY : ∀ (w : World) (h : Heap), YP w h → (K w.params).In h)
    (F : ∀ (w : World) (mg : Str → Option Value) (fa : Addr) (h : Heap), YP w h → (K w.params).In h → h.Ns mainGlobals mg → mg d.name = some (.ref fa) →
      ∃ fd : FuncData, (∀ (s : Shared) (us : List Value), us.length = ps.length → BindsTo s fd ⟨us, []⟩ (ps.zip us)) ∧
        ∀ base : Heap, (K w.params).In base → base.Ns mainGlobals mg → FnOk r.prog w (K w.params) mg base CX k fa fd ps (sp (K w.params)))
    (hsp : ∀ (K : PySem.W.Frag) (H : Hp) (xs : List V) (a : Codec.denoteAll r.args), OnlyF H → Codec.withinAll r.args a = true → Codec.app r.args r.asked a = true → DwAll K H xs (Codec.encAll r.args a) →
      sp K xs H (fun v H' => Dw K H' v (r.ret.enc (Codec.app r.args r.f a))) fun _ _ _ => False)
    (hCX : ∀ (H : Hp) (s : Shared) (e : Value) (s' : Shared), CX [] H s (fun _ _ _ => False) e s' → False) :
    PySem.W.WalkOS q loose XP YP r d [] (fun f vs => PySem.call f vs) :=
  walk_spec (K := K) (CX := fun _ => CX) (sp := fun w => sp (K w.params)) hwell hdf hlen hr hY F (fun w H xs a h1 h2 h3 h4 => hsp (K w.params) H xs a h1 h2 h3 h4) fun _ H s e s' => hCX H s e s'
end L2
-- rests on (row put in by the clerk, for the bench that shows a file only what it spells): KE.SpHead KE.OsShapes
end
end
section
set_option linter.all false
set_option maxRecDepth 100000
set_option Elab.async false
set_option maxHeartbeats 2000000
namespace L2
open PySem PySem.Spec PyProof.Rows
/-! ### more than one new object at a time -/
section
variable {X : Cx} {pins : List (Addr × Obj)} {σ : St} {H H2 : Hp} {s : Shared} {h' : Heap}
theorem Inv.many {t' : Nat} (I : Inv X pins σ H s) (k : ∀ b u, s.heap.get? b = some u → h'.get? b = some u) (old : ∀ b, b < s.heap.objs.size → H2 b = H b)
    (new : ∀ b o, s.heap.objs.size ≤ b → H2 b = some o → ObjOk X.prog X.w H2 h' b o) : Inv X pins σ H2 { s with heap := h', toks := t' } := by
  have st : ∀ b o, H b = some o → H2 b = some o := fun b o e => by rw [old b (I.hok.lt e)]; exact e
  refine I.un (t' := t') ⟨fun b o e _ _ _ => k b o e, fun b o e _ _ _ => ⟨o.slots, k b o e⟩, fun b o e n _ => by rw [old b (Heap.lt_size e)]; exact n, fun b o e _ => ⟨o, k b o e⟩, fun b xs e => st b _ e, fun b o u e => st b _ e, fun b ps e => ⟨#[], by rw [st b _ e]; simp⟩⟩ fun b o e => ?_
  by_cases hb : b < s.heap.objs.size
  · have e1 : H b = some o := by rw [← old b hb]; exact e
    exact (I.hok b o e1).stay (fun c v _ q => k c v q) (fun c q => st c _ q) fun c xs q => st c _ q
  · exact new b o (Nat.le_of_not_lt hb) e
end

/-! ### a or b, of ints -/
section
variable {X : Cx} {a b : Expr} {rest : List Expr} {ta tb : TE} {pos : Pos}
def tOrI (ta tb : TE) : TE := fun σ H Q => ta σ H fun x H1 => ∃ i, x = .int i ∧ ((i = 0 → tb σ H1 Q) ∧ (i ≠ 0 → Q (.int i) H1))
theorem pe_orI (ha : PE X a ta) (hb : PE X (.BoolOp .Or (b :: rest) pos) tb) : PE X (.BoolOp .Or (a :: b :: rest) pos) (tOrI ta tb) := by
  intro pins s σ H Q I h
  refine BoolOp_or (thn (ha pins s σ H _ I h) fun v s1 ⟨x, H1, I1, r1, q1⟩ => ?_)
  obtain ⟨i, rfl, q1, q2⟩ := q1
  obtain ⟨t, rfl⟩ := r1
  refine PySem.P.truthy_int ?_
  by_cases e : i = 0
  · rw [e]
    exact hb pins s1 σ H1 Q I1 (q1 e)
  · have e2 : (i != 0) = true := by simpa using e
    rw [e2]
    exact ⟨.int i, H1, I1, ⟨t, rfl⟩, q2 e⟩
end

/-! ### a global number -/
section
variable {X : Cx} {x : Str} {pos : Pos} {n : Int}
theorem pe_gint (hm : ∃ t, X.mg x = some (.int n t)) (hg : Gl X x := by rfl) (hd : (x == ("__debug__" : Str)) = false := by decide) : PE X (.Name x pos) (tC (.int n)) :=
  let ⟨_, h⟩ := hm
  pe_glob hg h ⟨_, rfl⟩ hd
end

/-! ### a def of the program, by its name -/
section
/-- the name x stands for a def that keeps the promise sp -/
def Fn (P : Program) (w : World) (K : PySem.W.Frag) (mg : Str → Option Value) (base : Heap) (k : Nat) (x : Str) (ps : List Str) (sp : Sp) : Prop :=
  ∃ f fd, FnOk P w K mg base CX0 k f fd ps sp ∧ mg x = some (.ref f) ∧ PySem.W.keepIn K (.ref f) = true ∧ Binds K fd ps []
variable {X : Cx} {k j : Nat} {ps : List Str} {sp : Sp} {x : Str} {p pos : Pos} {e : Expr} {es : List Expr} {t : TA}
/-- f(..) -/
def tFn (sp : Sp) (t : TA) : TE := fun σ H Q => t σ H fun vs H1 => sp vs H1 Q E0
theorem pe_fn (F : Fn X.prog X.w X.K X.mg X.base k x ps sp) (hr : Room j X.A) (ha : PA X (e :: es) t) (hjk : k ≤ j := by decide) (hg : Gl X x := by rfl) (hdb : (x == ("__debug__" : Str)) = false := by decide)
    (he : starEach (e :: es) X.env = (false, eval e X.env) :: starEach es X.env := by rfl) (hpl : (backTo pos (starEach es X.env)).any (·.1) = false := by rfl) :
    PE X (.Call (.Name x p) (e :: es) [] pos) (tFn sp t) := by
  obtain ⟨f, fd, F, hm, hk, hb⟩ := F
  intro pins s σ H Q I h
  refine pe_call (E := E0) F (hr.mono hjk) hg hm hk hb (dvs := []) .nil pass0 ha hdb he hpl pins s σ H Q I ?_
  show t σ H fun vs H1 => sp (vs ++ []) H1 Q E0
  have e1 : (fun (vs : List V) (H1 : Hp) => sp (vs ++ []) H1 Q E0) = fun vs H1 => sp vs H1 Q E0 := by
    funext vs H1
    rw [List.append_nil]
  rw [e1]
  exact h
/-- f(..), f a local name: what it stands for must be a def that keeps a promise -/
def tFnV (X : Cx) (k : Nat) (i : Nat) (t : TA) : TE := fun σ H Q => ∃ f, σ[i]? = some (some (.ref f)) ∧ PySem.W.keepIn X.K (.ref f) = true ∧
  t σ H fun vs H1 => ∃ fd ps sp, FnOk X.prog X.w X.K X.mg X.base CX0 k f fd ps sp ∧ Binds X.K fd ps [] ∧ sp vs H1 Q E0
theorem pe_fnV (i : Nat) (hr : Room k X.A) (ha : PA X (e :: es) t) (hN : X.N[i]? = some x := by rfl) (hv : Vis X.env.scope x := by first | exact Or.inl rfl | exact Or.inr (Or.inl rfl) | exact Or.inr (Or.inr rfl)) (hdb : (x == ("__debug__" : Str)) = false := by decide)
    (hcd : (x == ("__classdict__" : Str)) = false := by decide) (he : starEach (e :: es) X.env = (false, eval e X.env) :: starEach es X.env := by rfl) (hpl : (backTo pos (starEach es X.env)).any (·.1) = false := by rfl) :
    PE X (.Call (.Name x p) (e :: es) [] pos) (tFnV X k i t) := by
  intro pins s σ H Q I h
  obtain ⟨f, e1, hk, h⟩ := h
  refine wpAny_Call_Name_kw (thn (pe_var hN hv hdb hcd pins s σ H (fun v H1 => v = .ref f ∧ H1 = H) I ⟨_, e1, rfl, rfl⟩) fun u s1 ⟨v, H1, I1, r1, e2, e3⟩ => ?_)
  subst e2
  subst e3
  cases r1
  refine PySem.W.callWith_K (h₀ := X.base) I1.ok.mod.kin hk (thn (ha pos pins s1 σ H1 _ I1 h) fun us s2 ⟨vs, H2, I2, r, fd, ps, sp, F, hb, q⟩ => ⟨I2.kIn, ?_⟩) he hpl
  exact run_fn (E := E0) F hr hb (dvs := []) .nil pass0 I2 r (by rw [List.append_nil]; exact q)
end

/-! ### every second item of a list -/
section
variable {X : Cx} {e : Expr} {te : TE} {pos p2 p3 p4 : Pos} {j3 j4 : Nat}
theorem Vals.ev : ∀ {xs : List V} {us : List Value}, Vals xs us → Vals (TZ.ev xs) (TZ.ev us)
  | _, _, .nil => .nil
  | _, _, .cons r .nil => .cons r .nil
  | _, _, .cons r (.cons _ t) => .cons r (Vals.ev t)
theorem Vals.dropV : ∀ {xs : List V} {us : List Value} (n : Nat), Vals xs us → Vals (xs.drop n) (us.drop n)
  | _, _, 0, r => r
  | _, _, _ + 1, .nil => .nil
  | _, _, n + 1, .cons _ t => Vals.dropV n t
def tEv (K : PySem.W.Frag) (c : Nat) (te : TE) : TE := fun σ H Q => te σ H fun x H1 => ∃ a xs, x = .ref a ∧ SqL K H1 a xs ∧ ∀ p, H1 p = none → Q (.ref p) (upd H1 p (.lst (TZ.ev (xs.drop c))))
theorem pe_ev {c : Int} {n : Nat} (hc : c = (n : Int)) (hpick : ∀ its : List Value, slicePick its.toArray (some c) none (some 2) = (TZ.ev (its.drop n)).toArray) (he : PE X e te) :
    PE X (.Subscript e (.Slice (some (.Constant (.int c) j3 p3)) none (some (.Constant (.int 2) j4 p4)) p2) pos) (tEv X.K n te) := by
  intro pins s σ H Q I h
  refine Subscript_ (thn (he pins s σ H _ I h) fun v s1 ⟨x, H1, I1, r1, q1⟩ => ?_)
  obtain ⟨a, xs, ex, hx, q⟩ := q1
  subst ex
  cases r1
  refine wpAny_Slice (thn (po_some (X := X) (pe_int (X := X) (i := c) (j := j3) (pos := p3)) pins s1 σ H1 (fun o H' => o = some c ∧ H' = H1) I1 ⟨c, rfl, rfl, rfl⟩) fun vl s2 ⟨l, H2, I2, pl, e1, e2⟩ => ?_)
  subst e1
  subst e2
  rw [evalPart_none]
  refine wpAny_pure ?_
  refine thn (po_some (X := X) (pe_int (X := X) (i := 2) (j := j4) (pos := p4)) pins s2 σ H2 (fun o H' => o = some 2 ∧ H' = H2) I2 ⟨2, rfl, rfl, rfl⟩) fun vs s3 ⟨l3, H3, I3, ps, e3, e4⟩ => ?_
  subst e3
  subst e4
  have I4 : Inv X pins σ H3 { s3 with heap := s3.heap.push { cls := .type "slice", data := .fields #[vl, .none, vs] } } := I3.kept (t' := s3.toks) fun b ob q => Heap.get?_push_of_some _ q
  obtain ⟨its, r, ht, hz⟩ := I4.list hx
  have hlen := r.length
  show wpAny (model X.prog X.w) X.A (subscriptTail e (.Slice (some (.Constant (.int c) j3 p3)) none (some (.Constant (.int 2) j4 p4)) p2) (.ref a) (.ref s3.heap.objs.size)) (EP X pins σ Q) X.xe { s3 with heap := s3.heap.push { cls := .type "slice", data := .fields #[vl, .none, vs] } }
  refine tail_any (ops := [.ref a, .ref s3.heap.objs.size]) (T := "list") ht.isList.typeIs slot_list_getitem.lookup ?_ (by with_unfolding_all rfl)
  refine wpAny_getItem_list_slice ht.isList (Heap.IsSliceOf.new ..) pl .none ps (by simp) ?_ (by rw [List.size_toArray]; omega)
  rw [hpick]
  refine ⟨.ref _, _, I4.laid (t' := s3.toks) (o := .lst (TZ.ev (xs.drop n))) (fun b ob q => Heap.get?_push_of_some _ q) (Nat.le_refl _) ?_, rfl, q _ (I4.hok.fresh (Nat.le_refl _))⟩
  refine ⟨?_, _, 0, Vals.ev (Vals.dropV n r), Heap.get?_push_size _ rfl⟩
  rw [TZ.ev_length, List.length_drop]
  omega
theorem pe_ev0 (he : PE X e te) : PE X (.Subscript e (.Slice (some (.Constant (.int 0) j3 p3)) none (some (.Constant (.int 2) j4 p4)) p2) pos) (tEv X.K 0 te) := pe_ev (c := 0) (n := 0) rfl (fun its => TZ.slice0 its) he
theorem pe_ev1 (he : PE X e te) : PE X (.Subscript e (.Slice (some (.Constant (.int 1) j3 p3)) none (some (.Constant (.int 2) j4 p4)) p2) pos) (tEv X.K 1 te) := pe_ev (c := 1) (n := 1) rfl (fun its => TZ.slice1 its) he
end

/-! ### list(zip(a, b)) -/
def tupAt : List Addr → List (V × V) → Addr → Option HO
  | a :: as, (x, y) :: ps, b => if b = a then some (.tup [x, y]) else tupAt as ps b
  | _, _, _ => none
theorem tupAt_mem : ∀ {as : List Addr} {ps : List (V × V)} {b : Addr} {o : HO}, tupAt as ps b = some o → b ∈ as ∧ ∃ (j : Nat) (x y : V), as[j]? = some b ∧ ps[j]? = some (x, y) ∧ o = .tup [x, y]
  | [], _, _, _, h => by simp [tupAt] at h
  | _ :: _, [], _, _, h => by simp [tupAt] at h
  | a :: as, (x, y) :: ps, b, o, h => by
    unfold tupAt at h
    by_cases e : b = a
    · rw [if_pos e] at h
      subst e
      exact ⟨List.mem_cons_self, 0, x, y, rfl, rfl, (Option.some.inj h).symm⟩
    · rw [if_neg e] at h
      obtain ⟨m, j, x', y', e1, e2, e3⟩ := tupAt_mem h
      exact ⟨List.mem_cons_of_mem _ m, j + 1, x', y', by simpa using e1, by simpa using e2, e3⟩
theorem tupAt_at : ∀ {as : List Addr} {ps : List (V × V)}, as.Pairwise (· < ·) → as.length = ps.length → Paired (fun q xy => tupAt as ps q = some (.tup [xy.1, xy.2])) as ps
  | [], [], _, _ => .nil
  | a :: as, (x, y) :: ps, hp, hl => by
    obtain ⟨h1, h2⟩ := List.pairwise_cons.mp hp
    refine .cons (by show (if a = a then some (HO.tup [x, y]) else tupAt as ps a) = _; rw [if_pos rfl]) ?_
    have ih := tupAt_at h2 (by simpa using hl)
    have all : ∀ {bs : List Addr} {qs : List (V × V)}, (∀ b ∈ bs, a < b) → Paired (fun q xy => tupAt as ps q = some (.tup [xy.1, xy.2])) bs qs → Paired (fun q xy => tupAt (a :: as) ((x, y) :: ps) q = some (.tup [xy.1, xy.2])) bs qs := by
      intro bs qs hb r
      induction r with
      | nil => exact .nil
      | @cons b q bs qs r t ih2 =>
        refine .cons ?_ (ih2 fun c hc => hb c (List.mem_cons_of_mem _ hc))
        show (if b = a then some (HO.tup [x, y]) else tupAt as ps b) = _
        rw [if_neg (Nat.ne_of_gt (hb b List.mem_cons_self))]
        exact r
    exact all h1 ih
section
variable {X : Cx} {e e2 : Expr} {ta : TA} {p p2 pos pos2 : Pos}
theorem bt_list : bootBuiltins "list" = some (.type "list") := by decide +kernel
theorem zip_vals : ∀ {xs ys : List V} {us vs : List Value}, Vals xs us → Vals ys vs → ∀ (j : Nat) (x y : V), (xs.zip ys)[j]? = some (x, y) → ∃ u v, us[j]? = some u ∧ vs[j]? = some v ∧ RelV x u ∧ RelV y v := by
  intro xs ys us vs r1 r2 j x y h
  rw [List.getElem?_zip_eq_some] at h
  obtain ⟨u, e1, q1⟩ := r1.get h.1
  obtain ⟨v, e2, q2⟩ := r2.get h.2
  exact ⟨u, v, e1, e2, q1, q2⟩
/-- a new list of new pairs -/
def tLZ (K : PySem.W.Frag) (ta : TA) : TE := fun σ H Q => ta σ H fun vs H1 => ∃ a b xs ys, vs = [.ref a, .ref b] ∧ SqL K H1 a xs ∧ SqL K H1 b ys ∧
  ∀ (l : Addr) (as : List Addr) (H2 : Hp), H1 l = none → Same H1 H2 → H2 l = some (.lst (as.map V.ref)) → Paired (fun q xy => H2 q = some (.tup [xy.1, xy.2])) as (xs.zip ys) → Q (.ref l) H2
theorem pe_listzip (hc : X.calm = true) (hm : X.mg "zip" = none) (hm2 : X.mg "list" = none) (ha : PA X [e, e2] ta) (hg : Gl X "zip" := by rfl) (hg2 : Gl X "list" := by rfl)
    (hs : starEach [e, e2] X.env = (false, eval e X.env) :: starEach [e2] X.env := by rfl) (hpl : (backTo pos (starEach [e2] X.env)).any (·.1) = false := by rfl)
    (hs2 : starEach [.Call (.Name "zip" p) [e, e2] [] pos] X.env = [(false, eval (.Call (.Name "zip" p) [e, e2] [] pos) X.env)] := by rfl) :
    PE X (.Call (.Name "list" p2) [.Call (.Name "zip" p) [e, e2] [] pos] [] pos2) (tLZ X.K ta) := by
  intro pins s σ H Q I h
  refine wpAny_Call_Name_kw (ld_blt I hg2 hm2 bt_list ?_)
  refine PyProof.Rows.callWith_type1 ?_ hs2 rfl
  rw [hs2]
  show wpAny _ _ (spliced [(false, eval (.Call (.Name "zip" p) [e, e2] [] pos) X.env)]) _ _ s
  refine Calls.spliced_cons ?_
  refine Call_ (ld_blt I hg hm boot_zip5 (PyProof.Rows.callWith_type1 (thn (ha pos pins s σ H _ I h) fun us s1 ⟨vs, H1, I1, r1, q1⟩ => ?_) hs hpl))
  obtain ⟨a, b, xs, ys, ex, hqx, hqy, q⟩ := q1
  subst ex
  obtain ⟨u1, u2, eu, ru1, ru2⟩ := vals2 r1
  subst eu
  cases ru1
  cases ru2
  obtain ⟨its, rv, p1, z1⟩ := I1.list hqx
  obtain ⟨its2, rv2, p2', z2⟩ := I1.list hqy
  have l1 := rv.length
  have l2 := rv2.length
  refine wpAny_mono (TZ.call_list_zip (I1.ok.hd hc) p1.isList p2'.isList (by rw [List.size_toArray, List.size_toArray]; omega) (Q := EP X pins σ Q) (E := X.xe) fun h' tk acc c as S hSle kp hS hlen hG hacc => ?_) (fun v s' hv => Calls.spliced_nil hv) fun _ _ z => z
  rw [List.size_toArray, List.size_toArray] at hlen
  have hz : as.length = (xs.zip ys).length := by rw [List.length_zip, hlen]; omega
  have low : ∀ x ∈ as, S + 1 ≤ x := hG.above
  have notS : ∀ x ∈ as, ¬ x = S := fun x hx e => by
    have := low x hx
    rw [e] at this
    exact absurd this (Nat.not_succ_le_self S)
  let H2 : Hp := fun x => if x = S then some (.lst (as.map V.ref)) else match tupAt as (xs.zip ys) x with
    | some o => some o
    | none => H1 x
  have eS : H2 S = some (.lst (as.map V.ref)) := if_pos rfl
  have eT : ∀ {x o}, tupAt as (xs.zip ys) x = some o → H2 x = some o := fun {x o} e => by
    show (if x = S then some (HO.lst (as.map V.ref)) else match tupAt as (xs.zip ys) x with | some o => some o | none => H1 x) = some o
    rw [if_neg (notS x (tupAt_mem e).1), e]
  have eO : ∀ {x}, x ≠ S → tupAt as (xs.zip ys) x = none → H2 x = H1 x := fun {x} h1 h2 => by
    show (if x = S then some (HO.lst (as.map V.ref)) else match tupAt as (xs.zip ys) x with | some o => some o | none => H1 x) = H1 x
    rw [if_neg h1, h2]
  have old : ∀ x, x < s1.heap.objs.size → H2 x = H1 x := fun x hx => by
    refine eO (Nat.ne_of_lt (Nat.lt_of_lt_of_le hx hSle)) ?_
    cases e : tupAt as (xs.zip ys) x with
    | none => rfl
    | some o =>
      have := low x (tupAt_mem e).1
      exact absurd (Nat.lt_of_lt_of_le hx (Nat.le_trans hSle (Nat.le_trans (Nat.le_succ S) this))) (Nat.lt_irrefl _)
  have same : Same H1 H2 := fun x o e => by rw [old x (I1.hok.lt e)]; exact e
  refine ⟨.ref S, H2, I1.many (t' := tk) kp old (fun x o hx e => ?_), rfl, q S as H2 (I1.hok.fresh hSle) same eS ?_⟩
  · by_cases hxS : x = S
    · rw [hxS, eS] at e
      cases e
      rw [hxS]
      refine ⟨by rw [List.length_map, hlen]; omega, as.map Value.ref, c, ?_, ?_⟩
      · clear hG hacc hlen hz low notS eS eT eO old same
        induction as with
        | nil => exact .nil
        | cons a r ih => exact .cons rfl ih
      · rw [← hacc]
        simpa using hS
    · cases et : tupAt as (xs.zip ys) x with
      | none =>
        rw [eO hxS et] at e
        exact absurd (Nat.lt_of_lt_of_le (I1.hok.lt e) hx) (Nat.lt_irrefl _)
      | some o2 =>
        rw [eT et] at e
        cases e
        obtain ⟨_, j, vx, vy, e1, e2', e3⟩ := tupAt_mem et
        subst e3
        obtain ⟨ux, uy, k1, k2, k3⟩ := hG.pairs j x e1
        obtain ⟨ux', uy', k4, k5, k6, k7⟩ := zip_vals rv rv2 j vx vy e2'
        have q1 : ux = ux' := by
          have : its[j]? = some ux := by simpa using k1
          rw [k4] at this
          exact (Option.some.inj this).symm
        have q2 : uy = uy' := by
          have : its2[j]? = some uy := by simpa using k2
          rw [k5] at this
          exact (Option.some.inj this).symm
        subst q1 q2
        exact ⟨by show 2 ≤ sizeLine; decide, [ux, uy], .cons k6 (.cons k7 .nil), ⟨_, k3, rfl, _, rfl⟩⟩
  · exact Paired.mapP (tupAt_at hG.rise hz) fun _ _ z => eT z
end

/-! ### d.setdefault(k, v) -/
section
variable {X : Cx}
theorem mt_setdefault : MtR X "dict.setdefault" (fun x vs H Q => ∃ a kvs k d, x = .ref a ∧ vs = [kV k, d] ∧ H a = some (.dK kvs) ∧ kvs.length < sizeLine ∧ (∀ v, valV kvs k = some v → Q v H) ∧ (valV kvs k = none → Q d (upd H a (.dK (putK kvs k d))))) := by
  intro pins s σ H x xs v us Q I rx r h
  obtain ⟨a, kvs, k, d, rfl, rfl, e, hl, q1, q2⟩ := h
  cases rx
  obtain ⟨u, w', eu, ru, rd⟩ := vals2 r
  subst eu
  obtain ⟨z, hd, vs, rel, dd⟩ := dk_of I.hok e
  refine call_meetsIn PySem.F.slot_dict_setdefault dd.typeIs PySem.F.entry_dict_setdefault (PySem.F.args_dict_setdefault_3 _ _ _) (kt_meets_setdefault (mixKind X.prog X.w) a (kV_is ru) hd w') ⟨vs, dd, by rw [← rel.length]; exact z, fun y hy => ?_, fun hn h' dd' hs => ?_⟩
  · have r0 := rel.val k
    rw [hy] at r0
    cases ev : valV kvs k with
    | none => rw [ev] at r0; exact r0.elim
    | some y' =>
      rw [ev] at r0
      exact ⟨y', H, I.tok _, r0, q1 y' ev⟩
  · have r0 := rel.val k
    rw [hn] at r0
    have hv : valV kvs k = none := by
      cases ev : valV kvs k with
      | none => rfl
      | some y' => rw [ev] at r0; exact r0.elim
    have hl2 : (putK kvs k d).length ≤ sizeLine := by have := length_putK kvs k d; omega
    have he : ∃ q, h'.get? a = some q := let ⟨q, _, _, hq, _⟩ := dd'; ⟨q, hq⟩
    exact ⟨d, _, d_write I (by rw [e]; exact True.intro) hs he (dk_new hl2 hd (rel.put k rd) dd'), rd, q2 hv⟩
end

/-! ### d.update(pairs) -/
section
variable {prog : Program} {w : World} {A : Around} {E : Value → Shared → Prop}
theorem call_update_pairs {s : Shared} {d l : Addr} {ol : Obj} {items : Array Value} {n : Nat} {kvs prs : List (Key × Value)} {Q : Value → Shared → Prop} (hh : A.handled = none) (hm : s.heap.DictOf (mixKind prog w) d kvs) (hl : s.heap.get? l = some ol) (hc : ol.cls = .type "list") (hd : ol.dict = none)
    (hdat : ol.data = .seq items n) (hsz : items.size = prs.length) (hln : kvs.length + prs.length ≤ sizeLine)
    (ht : ∀ (j : Nat) (q : Key × Value), prs[j]? = some q → ∃ (b : Addr) (u : Value), items[j]? = some (.ref b) ∧ b ≠ d ∧ IsTup s.heap b #[u, q.2] ∧ keyIs q.1 u = true)
    (h : ∀ h' tk, h'.DictOf (mixKind prog w) d (merged kvs prs) → (∀ b o, b ≠ d → s.heap.get? b = some o → h'.get? b = some o) → Q .none { s with heap := h', toks := tk }) :
    wpAny (model prog w) A (call (.builtin "dict.update") [.ref d, .ref l]) Q E s := by
  have hdl : d ≠ l := fun e => by
    obtain ⟨o, es, ep, ho, _, hdd, _⟩ := hm
    rw [e, hl] at ho
    cases ho
    rw [hdat] at hdd
    cases hdd
  refine wpAny_call (codeAny_call_builtin PySem.F.slot_dict_update.plain PySem.F.entry_dict_update (PySem.F.slot_dict_update.check _ _ _ _ _ _ _ _ hm.typeIs (PySem.F.args_dict_update_2 _ _) ?_))
  unfold Builtin.«dict.update»
  refine wpAny_bind ?_
  unfold Builtin.Dict.selfAndRest
  refine wpAny_bind (wpAny_notOrdered_dict hm.typeIs ?_)
  show wpAny _ _ (pure (d, [Value.ref l])) _ _ _
  refine wpAny_pure ?_
  show wpAny _ _ (Builtin.Dict.updateFrom "dict.update" d (.ref l) [] .none) _ _ _
  unfold Builtin.Dict.updateFrom
  refine wpAny_bind (wpAny_typeOf (T := "list") ⟨ol, hl, hc⟩ ?_)
  rw [if_pos (by first | decide | rfl | simp)]
  refine wpAny_bind (miss_list hl hc hdat hd hh fun h1 tk1 hk1 => ?_)
  rw [if_pos (show (none : Option Value).isNone = true from rfl)]
  refine wpAny_bind (wpAny_rule ?_)
  have hl1 : h1.IsList l items := ⟨ol, hk1 _ _ hl, hc, n, hdat⟩
  refine wpAny_bind (wpAny_pyIter_list hl1 ?_)
  have k2 : ∀ b o, h1.get? b = some o → (h1.push { cls := .type "list_iterator", data := .fields #[.ref l, .int 0 0] }).get? b = some o := fun b o e => Heap.get?_push_of_some _ e
  have hlt : l < s.heap.objs.size := Heap.lt_size hl
  have lI : ∀ {b : Addr} {o : Obj}, s.heap.get? b = some o → b ≠ h1.objs.size := fun {b o} e => Nat.ne_of_lt (Heap.lt_size (hk1 _ _ e))
  have key := upd_loop (prog := prog) (w := w) (A := A) (R := wants Q E) (S := d) (I := h1.objs.size) (l := l) (items := items) (res := Value.none) hh
    (lI hl) (by obtain ⟨o, _, _, ho, _⟩ := hm; exact lI ho) hdl prs 0 kvs 0 0
    { s with heap := h1.push { cls := .type "list_iterator", data := .fields #[.ref l, .int 0 0] }, toks := tk1 } (by rw [hsz, Nat.zero_add]) hln
    (fun j q e => by
      obtain ⟨b, u, e1, e0, e2, e3⟩ := ht j q e
      obtain ⟨ob, hob, _⟩ := id e2
      exact ⟨b, u, by rw [Nat.zero_add]; exact e1, e0, lI hob, e2.keeps fun c o z => k2 _ _ (hk1 _ _ z), e3⟩)
    ⟨_, Heap.get?_push_size _ rfl, rfl, rfl⟩ (hl1.at fun o e => k2 _ _ e) ((hm.at fun o e => hk1 _ _ e).at fun o e => k2 _ _ e)
    (fun h' tk hd' k => h h' tk hd' fun b o hb e => k b o hb (lI e) (k2 _ _ (hk1 _ _ e)))
  first
    | exact wpAny_pure ⟨plainId_quiet ud_plain _, key⟩
    | exact wpAny_bind (wpAny_pure (wpAny_pure ⟨plainId_quiet ud_plain _, key⟩))
end
section
variable {X : Cx}
def rUpdate (K : PySem.W.Frag) : V → List V → Hp → VK → Prop := fun x vs H Q => ∃ (d a : Addr) (ps : List Addr) (kvs prs : List (Key × V)), x = .ref d ∧ vs = [.ref a] ∧ H d = some (.dK kvs) ∧ SqL K H a (ps.map V.ref) ∧ Paired (fun p kv => SqT K H p [kV kv.1, kv.2]) ps prs ∧
  kvs.length + prs.length ≤ sizeLine ∧ Q .non (upd H d (.dK (mergeK kvs prs)))
theorem mt_update (hcalm : X.calm = true) : MtR X "dict.update" (rUpdate X.K) := by
  intro pins s σ H x xs v us Q I rx r h
  obtain ⟨d, a, ps, kvs, prs, rfl, rfl, e, hq, hp, hl, q⟩ := h
  cases rx
  obtain ⟨u, eu, ra⟩ := vals1 r
  subst eu
  cases ra
  obtain ⟨its, rv, pl, hz⟩ := I.list hq
  have ei := refs_at rv
  subst ei
  rw [List.length_map] at hz
  obtain ⟨prv, rel, hlp, hpr⟩ := pairs_of I hp
  obtain ⟨o, n, ho, hc, hd, hdat⟩ := pl
  obtain ⟨z, hS, vs, relD, dd⟩ := dk_of I.hok e
  have lk : kvs.length = vs.length := relD.length
  have lp : prs.length = prv.length := rel.length
  refine call_update_pairs (prs := prv) (I.ok.hd hcalm) dd ho hc hd hdat (by simp [hlp]) (by rw [← lk, ← lp]; exact hl) (fun j q' e' => ?_) fun h' tk hd' k => ?_
  · obtain ⟨b, u, e1, e2, e3⟩ := hpr j q' e'
    refine ⟨b, u, by simp [e1], fun ed => ?_, e2, e3⟩
    obtain ⟨ob, es, ep, ho2, _, hdd, _⟩ := dd
    obtain ⟨ot, ht1, ht2, nt, ht3⟩ := e2
    rw [ed, ho2] at ht1
    cases ht1
    rw [hdd] at ht3
    cases ht3
  · have hlen : (mergeK kvs prs).length ≤ sizeLine := Nat.le_trans (length_mergeK prs kvs) hl
    have he : ∃ q, h'.get? d = some q := let ⟨q, _, _, hq, _⟩ := hd'; ⟨q, hq⟩
    refine ⟨.non, _, I.write (x := d) (e := d) (t' := tk) (by rw [e]; exact True.intro) (.inl rfl) (fun b q hb z => k b q hb z) he (dk_new hlen hS (KV.merge rel relD) hd'), rfl, q⟩
theorem call_dictD : CallR X (.type "dict") (fun xs H Q => ∃ a kvs, xs = [.ref a] ∧ Rd H a (.dK kvs) ∧ ∀ p, H p = none → Q (.ref p) (upd H p (.dK kvs))) := by
  intro pins s σ H xs us Q I r h
  obtain ⟨a, kvs, rfl, e, q⟩ := h
  obtain ⟨u, eu, ra⟩ := vals1 r
  subst eu
  cases ra
  exact d_copyOf I e fun p s' hp I' => ⟨.ref p, _, I', rfl, q p hp⟩
end

/-! ### set(xs), its length -/
section
variable {X : Cx}
def dedup (ns : List Int) : List Int := PyProof.Rows.firstMet (fun i => ns.getD i 0) ns.length
theorem call_setL (hcalm : X.calm = true) : CallR X (.type "set") (fun xs H Q => ∃ a ns, xs = [.ref a] ∧ SqL X.K H a (ns.map V.int) ∧ ns.length < 4000 ∧ ∀ (p : Addr) (S : Int → Bool), H p = none → Q (.ref p) (upd H p (.set S (dedup ns).length))) := by
  intro pins s σ H xs us Q I r h
  obtain ⟨a, ns, rfl, hq, hl, q⟩ := h
  obtain ⟨u, eu, ra⟩ := vals1 r
  subst eu
  cases ra
  obtain ⟨its, rv, pl, hz⟩ := I.list hq
  have l1 : its.length = ns.length := by rw [← rv.length, List.length_map]
  have hia : IntsAre its.toArray.toList ns := by simpa using intsAre_of rv
  refine PySem.call_set_list (I.ok.hd hcalm) pl.isList hia (by rw [List.size_toArray, l1]; unfold scanBound; omega) fun h' tk hS hk => ?_
  have e0 : its.toArray.size = ns.length := by rw [List.size_toArray, l1]
  rw [e0] at hS
  exact ⟨.ref s.heap.objs.size, _, I.laid (t' := tk) (fun b o e => hk b o (Heap.lt_size e) e) (Nat.le_refl _) (show ObjOk X.prog X.w _ h' _ (.set _ (dedup ns).length) from hS), rfl, q _ _ (I.hok.fresh (Nat.le_refl _))⟩
theorem call_lenS : CallR X (.builtin "len") (fun xs H Q => ∃ a S n, xs = [.ref a] ∧ H a = some (.set S n) ∧ Q (.int n) H) := by
  intro pins s σ H xs us Q I r h
  obtain ⟨a, S, n, rfl, e, q⟩ := h
  obtain ⟨u, eu, ra⟩ := vals1 r
  subst eu
  cases ra
  obtain ⟨o, es, ep, t, ho, hex, hd, _, _, hsz, hf, hn⟩ := (show s.heap.SetOf (intKind X.prog X.w) a S n from I.hok a _ e)
  refine call_len_set ho hex hd hf (by unfold scanBound at hsz; omega) ⟨.int n, H, I.tok _, ⟨s.toks + 1, by rw [hn]⟩, q⟩
end

/-! ### a dict of the module -/
section
variable {X : Cx} {o i : Expr} {td ty : TE} {pos : Pos}
/-- the dict at a of the module, as it was written -/
def ModD (P : Program) (w : World) (K : PySem.W.Frag) (a : Addr) (kvs : List (Key × V)) : Prop := ∃ (ob : Obj) (vs : List (Key × Value)), K.lookup a = some ob ∧ ob.IsDictOf (mixKind P w) vs ∧ KV kvs vs
def tMDGet (a : Addr) (kvs : List (Key × V)) (td ty : TE) : TE := fun σ H Q => td σ H fun x H1 => ty σ H1 fun y H2 => ∃ k v, x = .ref a ∧ y = kV k ∧ valV kvs k = some v ∧ Q v H2
theorem pe_mdget {a : Addr} {kvs : List (Key × V)} (M : ModD X.prog X.w X.K a kvs) (ho : PE X o td) (hi : PE X i ty) (hs : NoSl i) : PE X (.Subscript o i pos) (tMDGet a kvs td ty) := by
  intro pins s σ H Q I h
  refine subD_of PySem.F.slot_dict_getitem.lookup hs (thn (ho pins s σ H _ I h) fun ov s1 ⟨x, H1, I1, rx, q1⟩ => thn (hi pins s1 σ H1 _ I1 q1) fun iv s2 ⟨y, H2, I2, ry, k, v, ex, ey, hv, q⟩ => ?_)
  subst ex ey
  cases rx
  obtain ⟨ob, vs, hk, hd, rel⟩ := M
  have dd : s2.heap.DictOf (mixKind X.prog X.w) a vs := Heap.dictOf_iff.mpr ⟨ob, I2.kIn a ob hk, hd⟩
  obtain ⟨w', hw, rw'⟩ := RelO.some_of (v := v) (o := valueAt vs k) (by rw [← hv]; exact rel.val k)
  exact ⟨dd.typeIs, wpAny_getItem_of (kV_is ry) dd.mapOf hw ⟨v, H2, I2.tok _, rw', q⟩⟩
end

/-! ### a class of the program, by its name -/
section
/-- the name x stands for the class at C, whose __init__ keeps the promise sp -/
def MkOk (P : Program) (w : World) (K : PySem.W.Frag) (mg : Str → Option Value) (base : Heap) (k : Nat) (x : Str) (C : Addr) (ps : List Str) (sp : Sp) : Prop :=
  ∃ f fd, Mk K C f ∧ FnOk P w K mg base CX0 k f fd ps sp ∧ mg x = some (.ref C) ∧ Binds K fd ps []
variable {X : Cx} {k j : Nat} {ps : List Str} {sp : Sp} {x : Str} {C : Addr} {p pos : Pos} {e : Expr} {es : List Expr} {t : TA}
def tMk (C : Addr) (sp : Sp) (t : TA) : TE := fun σ H Q => t σ H fun vs H1 => ∀ a dx, H1 a = none → H1 dx = none → dx ≠ a → sp (.ref a :: vs) (upd (upd H1 dx (.own a)) a (.ins C dx [])) (fun v H2 => v = .non ∧ Q (.ref a) H2) E0
theorem pe_mk (M : MkOk X.prog X.w X.K X.mg X.base k x C ps sp) (hr : Room j X.A) (ha : PA X (e :: es) t) (hjk : k + 1 ≤ j := by decide) (hg : Gl X x := by rfl) (hdb : (x == ("__debug__" : Str)) = false := by decide)
    (he : starEach (e :: es) X.env = (false, eval e X.env) :: starEach es X.env := by rfl) (hpl : (backTo pos (starEach es X.env)).any (·.1) = false := by rfl) :
    PE X (.Call (.Name x p) (e :: es) [] pos) (tMk C sp t) := by
  obtain ⟨f, fd, M, F, hm, hb⟩ := M
  intro pins s σ H Q I h
  refine pe_make (E := E0) M F (hr.mono hjk) hg hm hb (dvs := []) .nil pass0 ha hdb he hpl pins s σ H Q I ?_
  show t σ H fun vs H1 => ∀ x dx, H1 x = none → H1 dx = none → dx ≠ x → sp (.ref x :: (vs ++ [])) (upd (upd H1 dx (.own x)) x (.ins C dx [])) (fun v H2 => v = .non ∧ Q (.ref x) H2) E0
  have e1 : (fun (vs : List V) (H1 : Hp) => ∀ x dx, H1 x = none → H1 dx = none → dx ≠ x → sp (.ref x :: (vs ++ [])) (upd (upd H1 dx (.own x)) x (.ins C dx [])) (fun v H2 => v = .non ∧ Q (.ref x) H2) E0) =
      fun vs H1 => ∀ x dx, H1 x = none → H1 dx = none → dx ≠ x → sp (.ref x :: vs) (upd (upd H1 dx (.own x)) x (.ins C dx [])) (fun v H2 => v = .non ∧ Q (.ref x) H2) E0 := by
    funext vs H1
    rw [List.append_nil]
  rw [e1]
  exact h
theorem pe_mk0 (M : MkOk X.prog X.w X.K X.mg X.base k x C ps sp) (hr : Room j X.A) (hjk : k + 1 ≤ j := by decide) (hg : Gl X x := by rfl) (hdb : (x == ("__debug__" : Str)) = false := by decide) :
    PE X (.Call (.Name x p) [] [] pos) (tMk C sp tNil) := by
  obtain ⟨f, fd, M, F, hm, hb⟩ := M
  intro pins s σ H Q I h
  exact pe_make0 (E := E0) M F (hr.mono hjk) hg hm hb (dvs := []) .nil pass0 hdb pins s σ H Q I h
theorem bt_set : bootBuiltins "set" = some (.type "set") := by decide +kernel
theorem bt_dict : bootBuiltins "dict" = some (.type "dict") := by decide +kernel
theorem bt_sum : bootBuiltins "sum" = some (.builtin "sum") := by decide +kernel
theorem bt_any : bootBuiltins "any" = some (.builtin "any") := by decide +kernel
theorem bt_all : bootBuiltins "all" = some (.builtin "all") := by decide +kernel
end

/-! ### rules whose reading names the module's part by K itself (within a comprehension) -/
section
variable {X : Cx} {K : PySem.W.Frag}
theorem pg_tupK {es : List Expr} {k : Nat} {pos : Pos} {t : TGs} {n : Nat} (hK : X.K = K) (hc : X.calm = true) (h : PGs X es t)
    (hn : (assignEach es X.env).length = n := by rfl) (hst : (assignEach es X.env).findIdx? (·.1) = none := by rfl) : PG X (.Tuple es k pos) (gTup K n t) := by
  subst hK
  exact pg_tup hc h hn hst
theorem pe_fldK {e : Expr} {f : Str} {pos : Pos} {ta : TE} (hK : X.K = K) (he : PE X e ta) (hb : attributeBase e f X.env (eval e X.env) = eval e X.env) : PE X (.Attribute e f pos) (tFld K ta f) := by
  subst hK
  exact pe_fld he hb
theorem pt_truthK {a : Expr} {ta : TE} (hK : X.K = K) (ha : PE X a ta) (he : ∀ whole, isTrue a X.env whole = (do let v ← whole; standAt a.pos; holding [v] (truthy v))) : PT X a (fun σ H Q => ta σ H fun x H' => ∃ k, TruV K x H' k ∧ Q k H') := by
  subst hK
  exact pt_truth ha he
theorem call_len_seqK (hK : X.K = K) : CallR X (.builtin "len") (fun xs H Q => ∃ p ys, xs = [.ref p] ∧ (SqL K H p ys ∨ SqT K H p ys) ∧ Q (.int ys.length) H) := by
  subst hK
  exact call_len_seq
theorem ix_listK (hK : X.K = K) : IxR X (rIxL K) := by
  subst hK
  exact ix_list
theorem ix_tupK (hK : X.K = K) : IxR X (rIxT K) := by
  subst hK
  exact ix_tup
theorem op_in_seqK (hK : X.K = K) : OpR X (compareOp .In) (rIn K false) := by
  subst hK
  exact op_in_seq
theorem op_notIn_seqK (hK : X.K = K) : OpR X (compareOp .NotIn) (rIn K true) := by
  subst hK
  exact op_notIn_seq
end
end L2
end
section
set_option linter.all false
set_option maxRecDepth 100000
set_option Elab.async false
set_option maxHeartbeats 2000000
namespace L2
open PySem PySem.Spec PyProof.Rows
/-! ### d.setdefault(k, v), k a tuple -/
section
variable {prog : Program} {w : World} {K : Type} [DecidableEq K] {knd : HeapKind prog w K} {A : Around} {E : Value → Shared → Prop} {s : Shared} {d a : Addr} {k : K} {xs : List (K × Addr × Value)}
theorem sd_heap {v : Value} {Q : Value → Shared → Prop} (hu : knd.room A) (hkey : knd.is s.heap k a) (hm : s.heap.DictOfH knd d xs) (hz : xs.length ≤ sizeLine)
    (h1 : ∀ p, atKey xs k = some p → Q p.2 { s with toks := s.toks + knd.draws k })
    (h2 : atKey xs k = none → ∀ h', h'.DictOfH knd d (storedH xs k a v) → Heap.SameBut d s.heap h' → Q v { s with heap := h', toks := s.toks + knd.draws k }) :
    wpAny (model prog w) A (dictSetDefault d (.ref a) v) Q E s := by
  obtain ⟨o, es, ep, ho, hc, hd, he, his, hn⟩ := hm
  have hes : es.size ≤ sizeLine := by rw [size_of_entries he]; exact hz
  unfold dictSetDefault
  try with_reducible refine wpAny_holding ?_
  refine wpAny_bind (knd.pyHash hu hkey (wpAny_bind (wpAny_dictFind_heap (s := { s with toks := s.toks + knd.draws k }) hu hkey ho hd he his hn (fun hno => ?_) fun j p hj => ?_)))
  · have e0 := atKey_none_of_get hno
    have hnot := not_mem_keys_of_get hno
    have e1 := storedH_new e0 a v
    refine wpAny_bind (wpAny_rule (wpAny_bind (wpAny_updateDictKeys (hz := hes) (s := { s with toks := s.toks + knd.draws k }) ho hd (wpAny_pure (h2 e0 _ ⟨_, _, ep + 1, Heap.get?_update_self _ ho (Obj.isFreed_of_dict (Obj.data_mapDictKeys hd _)),
      hc.mapDictKeys _, Obj.data_mapDictKeys hd _, by rw [e1]; simp [he, entryOfKey], fun x hx => ?_, ?_⟩ (Heap.SameBut.update ..))))))
    · rw [e1] at hx
      rcases List.mem_append.mp hx with q | q
      · exact knd.keeps (his x q) ho hd (Heap.SameBut.update ..)
      · rw [List.mem_singleton.mp q]
        exact knd.keeps hkey ho hd (Heap.SameBut.update ..)
    · rw [e1, List.map_append, List.nodup_append]
      refine ⟨hn, by simp, fun x hx y hy => ?_⟩
      have ey : y = k := by simpa using hy
      exact fun z => hnot (by rw [← ey, ← z]; exact hx)
  · refine wpAny_bind (wpAny_dictEntries (s := { s with toks := s.toks + knd.draws k }) ho hd ?_)
    rw [entry_at he j, hj]
    exact wpAny_bind (wpAny_rule (wpAny_pure (h1 p (atKey_of_get hn hj))))
theorem sd_meets (knd : HeapKind prog w K) (d a : Addr) (hd : (d == sysModules) = false) (v : Value) :
    MeetsIn prog w (Builtin.«dict.setdefault» ⟨[.ref d, .ref a, v], []⟩) (fun A R s => knd.room A.in1 ∧ ∃ k xs, knd.is s.heap k a ∧ s.heap.DictOfH knd d xs ∧ xs.length ≤ sizeLine ∧
      (∀ p, atKey xs k = some p → R (.ok (.ret p.2)) { s with toks := s.toks + knd.draws k }) ∧
      (atKey xs k = none → ∀ h', h'.DictOfH knd d (storedH xs k a v) → Heap.SameBut d s.heap h' → R (.ok (.ret v)) { s with heap := h', toks := s.toks + knd.draws k })) :=
  .of_wp fun A R s ⟨hu, k, xs, hk, hm, hz, h1, h2⟩ => by
    unfold Builtin.«dict.setdefault»
    refine wpAny_bind ?_
    unfold Builtin.Dict.keyAndDefault
    refine wpAny_bind (wpAny_notOrdered_dict hm.typeIs ?_)
    show wpAny _ _ (pure (d, Value.ref a, some v)) _ _ s
    refine wpAny_pure ?_
    show wpAny _ _ (if (d == sysModules) = true then _ else (dictSetDefault d (.ref a) v >>= _)) _ _ s
    rw [if_neg (by rw [hd]; exact Bool.false_ne_true)]
    exact wpAny_bind (sd_heap hu hk hm hz (fun p hp => wpAny_pure ⟨p.2, rfl, h1 p hp⟩) fun e h' m' s' => wpAny_pure ⟨v, rfl, h2 e h' m' s'⟩)
end
section
variable {X : Cx}
theorem mt_setdefaultT (hu : X.A.units + 1 < cLine) : MtR X "dict.setdefault" (fun x vs H Q => ∃ a kvs k b d, x = .ref a ∧ vs = [.ref b, d] ∧ H a = some (.dT kvs) ∧ H b = some (.tup (k.map kV)) ∧ kvs.length < sizeLine ∧
    (∀ v, valV kvs k = some v → Q v H) ∧ (valV kvs k = none → Q d (upd H a (.dT (putK kvs k d))))) := by
  intro pins s σ H x xs v us Q I rx r h
  obtain ⟨a, kvs, k, b, d, rfl, rfl, e, eb, hl, q1, q2⟩ := h
  cases rx
  obtain ⟨u, w', eu, ru, rd⟩ := vals2 r
  subst eu
  cases ru
  obtain ⟨z, hd, ys, rel, dd⟩ := dt_of I.hok e
  have hz : ys.length ≤ sizeLine := by rw [← Paired.length rel]; exact z
  refine call_meetsIn PySem.F.slot_dict_setdefault dd.typeIs PySem.F.entry_dict_setdefault (PySem.F.args_dict_setdefault_3 _ _ _) (sd_meets (tupleKind (mixKind X.prog X.w)) a b hd w') ⟨tupleKind_room_in1 hu, k, ys, key_of I.hok eb, dd, hz, fun p hp => ?_, fun hn h' dd' hs => ?_⟩
  · have r0 := rel.val k
    rw [hp] at r0
    cases ev : valV kvs k with
    | none => rw [ev] at r0; exact r0.elim
    | some y' =>
      rw [ev] at r0
      exact ⟨y', H, I.tok _, r0, q1 y' ev⟩
  · have r0 := rel.val k
    rw [hn] at r0
    have hv : valV kvs k = none := by
      cases ev : valV kvs k with
      | none => rfl
      | some y' => rw [ev] at r0; exact r0.elim
    have hl2 : (putK kvs k d).length ≤ sizeLine := by have := length_putK kvs k d; omega
    obtain ⟨q, es, ep, hq, g2, g3, g4, _, g5⟩ := dd'
    refine ⟨d, _, d_write (ob := .dT (putK kvs k d)) I (by rw [e]; exact True.intro) hs ⟨q, hq⟩ ⟨hl2, hd, _, (rel.put k eb rd).keeps fun c ys' ec => ?_, q, es, ep, hq, g2, g3, g4, g5⟩, rd, q2 hv⟩
    rw [upd_ne (ne_of ec e (fun z => nomatch z))]
    exact ec
end

/-! ### list(range(n)) -/
section
variable {X : Cx} {e : Expr} {ta : TA} {p p2 pos pos2 : Pos}
theorem items_vals (n : Nat) : ∀ (l : List Value), l.length = n → ∀ (j : Nat), (∀ (i : Nat) (v : Value), l[i]? = some v → ∃ t, v = .int (((j + i : Nat) : Int)) t) → Vals ((List.range' j n).map fun k : Nat => V.int (k : Int)) l := by
  induction n with
  | zero =>
    intro l hl j _
    have : l = [] := List.length_eq_zero_iff.mp hl
    subst this
    exact .nil
  | succ n ih =>
    intro l hl j h
    cases l with
    | nil => simp at hl
    | cons a r =>
      rw [List.range'_succ, List.map_cons]
      refine .cons ?_ (ih r (by simpa using hl) (j + 1) fun i v e => ?_)
      · obtain ⟨t, q⟩ := h 0 a rfl
        exact ⟨t, by simpa using q⟩
      · obtain ⟨t, q⟩ := h (i + 1) v (by simpa using e)
        exact ⟨t, by rw [q]; congr 1; omega⟩
/-- a new list 0, 1, .. below n -/
def tLR (ta : TA) : TE := fun σ H Q => ta σ H fun vs H1 => ∃ n : Nat, vs = [.int (n : Int)] ∧ n ≤ 1000 ∧ ∀ l, H1 l = none → Q (.ref l) (upd H1 l (.lst ((List.range n).map fun k : Nat => V.int (k : Int))))
theorem pe_listrange (hc : X.calm = true) (hm : X.mg "range" = none) (hm2 : X.mg "list" = none) (ha : PA X [e] ta) (hg : Gl X "range" := by rfl) (hg2 : Gl X "list" := by rfl)
    (hs : starEach [e] X.env = [(false, eval e X.env)] := by rfl)
    (hs2 : starEach [.Call (.Name "range" p) [e] [] pos] X.env = [(false, eval (.Call (.Name "range" p) [e] [] pos) X.env)] := by rfl) :
    PE X (.Call (.Name "list" p2) [.Call (.Name "range" p) [e] [] pos] [] pos2) (tLR ta) := by
  intro pins s σ H Q I h
  refine wpAny_Call_Name_kw (ld_blt I hg2 hm2 bt_list ?_)
  refine PyProof.Rows.callWith_type1 ?_ hs2 rfl
  rw [hs2]
  show wpAny _ _ (spliced [(false, eval (.Call (.Name "range" p) [e] [] pos) X.env)]) _ _ s
  refine Calls.spliced_cons ?_
  refine Call_ (ld_blt I hg hm boot_range (PyProof.Rows.callWith_type1 (thn (ha pos pins s σ H _ I h) fun us s1 ⟨vs, H1, I1, r1, q1⟩ => ?_) hs rfl))
  obtain ⟨n, ev, hn, q⟩ := q1
  subst ev
  obtain ⟨u1, eu, ru1⟩ := vals1 r1
  subst eu
  obtain ⟨t, rfl⟩ := ru1
  refine call_range_1 (Calls.spliced_nil ?_)
  have hsm : Builtin.Range.small 0 (n : Int) 1 = true := small_one (by omega) (by omega) (by omega) (by omega)
  have hrs : Builtin.Range.rangeSize 0 (n : Int) 1 = ((n : Nat) : Int) := by rw [rangeSize_one]; split <;> omega
  have I2 : Inv X pins σ H1 { s1 with heap := s1.heap.push { cls := .type "range", data := .fields #[.int 0 s1.toks, .int (n : Int) t, .int 1 (s1.toks + 1)] }, toks := s1.toks + 1 + 1 } := I1.kept fun b ob z => Heap.get?_push_of_some _ z
  refine call_list_range (n := n) (I.ok.hd hc) (IsRange.new ..) hsm hrs (by omega) fun h' tk acc c hk hS hI => ?_
  refine ⟨.ref _, _, I2.laid (t' := tk) (o := .lst ((List.range n).map fun k : Nat => V.int (k : Int))) (fun b ob z => hk b ob z) (Nat.le_refl _) ⟨by rw [List.length_map, List.length_range, sizeLine_eq]; omega, acc.toList, c, ?_, by simpa using hS⟩, rfl, q _ (I2.hok.fresh (Nat.le_refl _))⟩
  rw [List.range_eq_range']
  refine items_vals n acc.toList (by simpa using hI.1) 0 fun i v e => ?_
  obtain ⟨t', q'⟩ := hI.2 i v (by simpa using e)
  have e2 : (0 : Int) + (i : Int) * 1 = ((0 + i : Nat) : Int) := by omega
  rw [e2] at q'
  exact ⟨t', q'⟩
end

/-! ### for v in d.values(), d's keys tuples -/
section
variable {prog : Program} {w : World} {A : Around} {E : Value → Shared → Prop} {s : Shared}
theorem vals_meets (d : Addr) (hd : (d == sysModules) = false) :
    MeetsIn prog w (Builtin.«dict.values» ⟨[.ref d], []⟩) (fun _ R s => s.TypeIs (.ref d) "dict" ∧ R (.ok (.ret (.ref s.heap.objs.size))) { s with heap := s.heap.push { cls := .type "dict_values", data := .fields #[.ref d] } }) :=
  .of_wp fun A R s ⟨hT, h⟩ => by
    refine wpAny_bind ?_
    unfold Builtin.Dict.noArgs
    refine wpAny_bind (wpAny_notOrdered_dict hT ?_)
    show wpAny _ _ (pure d) _ _ s
    refine wpAny_pure ?_
    show wpAny _ _ (Builtin.Dict.showsAll d >>= _) _ _ s
    unfold Builtin.Dict.showsAll
    rw [if_neg (by rw [hd]; exact Bool.false_ne_true)]
    refine wpAny_bind (wpAny_pure ?_)
    exact wpAny_bind (wpAny_newObj_type (wpAny_pure ⟨_, rfl, h⟩))
theorem iter_vals {v d : Addr} {o : Obj} {es : Array DictEntry} {ep : Nat} {Q : Value → Shared → Prop} (hv : s.heap.IsValuesView v d) (ho : s.heap.get? d = some o) (hdat : o.data = .dict es ep)
    (hQ : Q (.ref s.heap.objs.size) { s with heap := s.heap.push { cls := .type "dict_valueiterator", data := .fields #[.ref d, .int 0 0, .int es.size 0, .int ep 0] } }) :
    wpAny (model prog w) A (pyIter (.ref v)) Q E s := by
  obtain ⟨ov, hov, hcv, hdv⟩ := id hv
  refine wpAny_pyIter_slot hv.typeIs F.slot_dict_values_iter (wpAny_call_entry F.slot_dict_values_iter hv.typeIs F.entry_dict_values_iter ?_ (F.args_dict_values_iter_1 _))
  unfold Builtin.«dict_values.__iter__»
  refine wpAny_bind (wpAny_pure ?_)
  refine wpAny_bind ?_
  unfold Builtin.Dict_items.dictOf
  refine wpAny_bind (wpAny_field hov hdv (x := .ref d) rfl (wpAny_pure ?_))
  refine wpAny_bind ?_
  unfold Builtin.Dict_items.newIterator
  refine wpAny_bind (wpAny_dictEntries ho hdat (wpAny_bind (wpAny_dictEpoch ho hdat ?_)))
  have hown : Builtin.Dict_items.ownsTuple "dict_valueiterator" = false := by decide
  simp only [hown, Bool.false_eq_true, if_false]
  refine wpAny_newObj_type (wpAny_pure ⟨_, rfl, "dict_valueiterator", _, ⟨_, Heap.get?_push_size _ rfl, rfl⟩, F.slot_dict_valueiterator_next.lookup, ?_⟩)
  simpa [rawInt] using hQ
theorem next_val_item {it d : Addr} {i n ep : Nat} {od : Obj} {es : Array DictEntry} {en : DictEntry} {Q : Option Value → Shared → Prop} (hit : s.heap.IsValIter it d i n ep) (hod : s.heap.get? d = some od) (hdd : od.data = .dict es ep)
    (hsz : es.size = n) (hx : es[i]? = some en) (hQ : ∀ h', h'.IsValIter it d (i + 1) n ep → Heap.SameBut it s.heap h' → Q (some en.val) { s with heap := h' }) : wpAny (model prog w) A (pyNext (.ref it)) Q E s := by
  obtain ⟨o, ho, hc, hd⟩ := id hit
  unfold pyNext
  refine wpAny_bind (wpAny_attempt (wpAny_callSpecial?_slot (name := Str.ofString "__next__") hit.typeIs F.slot_dict_valueiterator_next (wpAny_call_entry F.slot_dict_valueiterator_next hit.typeIs F.entry_dict_valueiterator_next ?_ (F.args_dict_valueiterator_next_1 _))))
  refine wpAny_bind (wpAny_pure (wpAny_bind (wpAny_bind ?_)))
  first | refine wpAny_bind (wpAny_typeNameOfWhole_valiter hit.typeIs (wpAny_pure ?_)) | refine wpAny_bind (wpAny_typeNameOf_valiter hit.typeIs (wpAny_pure ?_))
  refine wpAny_bind (wpAny_fieldsOf ho hd ?_)
  have hown : Builtin.Dict_items.ownsTuple "dict_valueiterator" = false := by decide
  simp only [hown, Bool.false_eq_true, if_false]
  show wpAny _ _ (if (Value.ref d == Value.none) = true then _ else _) _ _ s
  rw [if_neg (show ¬ ((Value.ref d == Value.none) = true) from Bool.false_ne_true)]
  refine wpAny_bind (wpAny_pure (wpAny_bind (wpAny_dictEntries hod hdd ?_)))
  rw [if_neg (by rw [hsz]; simp)]
  refine wpAny_bind (wpAny_pure (wpAny_bind (wpAny_dictEpoch hod hdd ?_)))
  rw [if_neg (by simp)]
  refine wpAny_pure ?_
  obtain ⟨hlt', hen⟩ := Array.getElem?_eq_some_iff.mp hx
  simp only [show ¬ ((i : Int) < 0) from by omega, if_false, Int.toNat_natCast, Array.getElem?_eq_getElem hlt']
  refine wpAny_bind ?_
  first | refine wpAny_bind (wpAny_typeNameOfWhole_valiter hit.typeIs (wpAny_pure ?_)) | refine wpAny_bind (wpAny_typeNameOf_valiter hit.typeIs (wpAny_pure ?_))
  refine wpAny_bind (wpAny_isOneOf_valiter hit.typeIs ?_)
  show wpAny _ _ (setField (.ref it) 1 (rawInt ((i : Int) + 1)) >>= _) _ _ s
  refine wpAny_bind (wpAny_setField ho hd (by simp) ?_)
  have hit' : (s.heap.update it (Obj.mapFields (·.setIfInBounds 1 (rawInt ((i : Int) + 1))))).IsValIter it d (i + 1) n ep :=
    ⟨_, Heap.get?_update_self _ ho (Obj.isFreed_of_fields (Obj.data_mapFields hd _)), (Obj.cls_mapFields ..).trans hc, by rw [Obj.data_mapFields hd]; simp [rawInt]⟩
  refine wpAny_bind (wpAny_holding (wpAny_bind (wpAny_isOneOf_valiter (s := { s with heap := s.heap.update it (Obj.mapFields (·.setIfInBounds 1 (rawInt ((i : Int) + 1)))) }) hit'.typeIs (wpAny_bind (wpAny_isOneOf_valiter (s := { s with heap := s.heap.update it (Obj.mapFields (·.setIfInBounds 1 (rawInt ((i : Int) + 1)))) }) hit'.typeIs ?_)))))
  show wpAny _ _ (pure es[i].val) _ _ _
  rw [hen]
  exact wpAny_pure (wpAny_pure ⟨_, rfl, wpAny_pure (hQ _ hit' (Heap.SameBut.update ..))⟩)
theorem next_val_end {it d : Addr} {i n ep : Nat} {od : Obj} {es : Array DictEntry} {Q : Option Value → Shared → Prop} (hh : A.handled = none) (hit : s.heap.IsValIter it d i n ep) (hod : s.heap.get? d = some od) (hdd : od.data = .dict es ep)
    (hsz : es.size = n) (hge : n ≤ i) (hQ : ∀ h', Heap.ExtBut it s.heap h' → Q none { s with heap := h' }) : wpAny (model prog w) A (pyNext (.ref it)) Q E s := by
  obtain ⟨o, ho, hc, hd⟩ := id hit
  unfold pyNext
  refine wpAny_bind (wpAny_attempt (wpAny_callSpecial?_slot (name := Str.ofString "__next__") hit.typeIs F.slot_dict_valueiterator_next (wpAny_call_entry F.slot_dict_valueiterator_next hit.typeIs F.entry_dict_valueiterator_next ?_ (F.args_dict_valueiterator_next_1 _))))
  refine wpAny_bind (wpAny_pure (wpAny_bind (wpAny_bind ?_)))
  first | refine wpAny_bind (wpAny_typeNameOfWhole_valiter hit.typeIs (wpAny_pure ?_)) | refine wpAny_bind (wpAny_typeNameOf_valiter hit.typeIs (wpAny_pure ?_))
  refine wpAny_bind (wpAny_fieldsOf ho hd ?_)
  have hown : Builtin.Dict_items.ownsTuple "dict_valueiterator" = false := by decide
  simp only [hown, Bool.false_eq_true, if_false]
  show wpAny _ _ (if (Value.ref d == Value.none) = true then _ else _) _ _ s
  rw [if_neg (show ¬ ((Value.ref d == Value.none) = true) from Bool.false_ne_true)]
  refine wpAny_bind (wpAny_pure (wpAny_bind (wpAny_dictEntries hod hdd ?_)))
  rw [if_neg (by rw [hsz]; simp)]
  refine wpAny_bind (wpAny_pure (wpAny_bind (wpAny_dictEpoch hod hdd ?_)))
  rw [if_neg (by simp)]
  refine wpAny_pure ?_
  have hge' : es.size ≤ i := by rw [hsz]; exact hge
  simp only [show ¬ ((i : Int) < 0) from by omega, if_false, Int.toNat_natCast, Array.getElem?_eq_none hge']
  refine wpAny_bind ?_
  first | refine wpAny_bind (wpAny_typeNameOfWhole_valiter hit.typeIs (wpAny_pure ?_)) | refine wpAny_bind (wpAny_typeNameOf_valiter hit.typeIs (wpAny_pure ?_))
  show wpAny _ _ (setField (.ref it) 0 .none >>= _) _ _ s
  refine wpAny_bind (wpAny_setField ho hd (by simp) ?_)
  show wpAny _ _ (newExc (.type "StopIteration") [] >>= _) _ _ _
  refine wpAny_bind ?_
  simp only [newExc, newTuple]
  refine wpAny_bind (wpAny_newObj_type ?_ (by size_fits))
  refine wpAny_bind (m := firstArgMember _ _) (wpAny_of_eq (a := Value.none) (by first | rfl | (simp only [firstArgMember]; rfl)) ?_)
  refine wpAny_newObj_type ?_ (by size_fits)
  simp only [raiseNew]
  refine wpAny_bind (wpAny_handled ?_)
  rw [show A.in1.handled = none from hh]
  refine wpAny_bind (wpAny_pure (wpAny_throw ?_))
  refine wpAny_bind (wpAny_isInstance (T := "StopIteration") (b := true) ⟨_, Heap.get?_push_size _ rfl, rfl⟩ isSubtype_stop ?_)
  exact wpAny_pure (hQ _ (((Heap.SameBut.update ..).extBut.push _).push _))
end
section
variable {X : Cx} {pins : List (Addr × Obj)} {σ : St} {H : Hp} {s : Shared} {d : Addr} {o : Obj}
theorem Inv.frzTv {kvs : List (List Key × V)} (I : Inv X pins σ H s) (h : H d = some (.frz o (.dT kvs))) :
    (d == sysModules) = false ∧ s.heap.get? d = some o ∧ o.ExactDict ∧ ∃ (es : Array DictEntry) (ep : Nat), o.data = .dict es ep ∧ es.size = kvs.length ∧
      ∀ (i : Nat) (k : List Key) (v : V), kvs[i]? = some (k, v) → ∃ en : DictEntry, es[i]? = some en ∧ RelV v en.val := by
  obtain ⟨hd, z, hs, xs, pr, o', es, ep, ho, hx, hdt, he, _⟩ := I.hok d _ h
  rw [hd] at ho
  cases ho
  refine ⟨hs, hd, hx, es, ep, hdt, ?_, fun i k v e => ?_⟩
  · have l1 : es.size = xs.length := size_of_entries he
    have l2 : kvs.length = xs.length := Paired.length pr
    omega
  · obtain ⟨b, hb, e1, e2, e3⟩ := paired_get pr e
    have q := entry_at he i
    rw [hb] at q
    exact ⟨_, q, e3⟩
end
/-- the values of a dict whose keys are tuples -/
def Itdt (d : Addr) (o : Obj) (kvs : List (List Key × V)) : It :=
  ⟨fun i H => H d = some (.frz o (.dT kvs)) ∧ i < kvs.length, fun i H x H' => H' = H ∧ ∃ k, kvs[i]? = some (k, x), fun i H => H d = some (.frz o (.dT kvs)) ∧ kvs.length ≤ i⟩
section
variable {P : Program} {w : World} {K : PySem.W.Frag} {tg : Expr} {d : Addr} {o : Obj} {es : Array DictEntry} {ep : Nat}
theorem turn_valsT {kvs : List (List Key × V)} (it : Addr) (hod : o.data = .dict es ep) : Turn P w K tg (Itdt d o kvs) [it] it (fun i h => h.IsValIter it d i kvs.length ep) where
  mem := by simp
  obj := fun i h st b hb => by
    have e : b = it := by simpa using hb
    subst e
    obtain ⟨oi, e, c, dd⟩ := st
    exact ⟨oi, e, fun v z => by rw [dd] at z; cases z⟩
  keep := fun i h h' st k => st.at fun oi e => k it (by simp) oi e
  item := by
    intro X hP hw hK hc i pins s σ H E I hf st hg
    subst hP hw hK
    obtain ⟨hd, hi⟩ := hg
    obtain ⟨f0, f1, f2, f3, f4, f5⟩ := hf it (by simp)
    obtain ⟨hs, hgd, hx, es', ep', hdt, hsz, ent⟩ := I.frzTv hd
    obtain ⟨rfl, rfl⟩ := dict_ep hod hdt
    obtain ⟨⟨k, v⟩, hkv⟩ : ∃ p, kvs[i]? = some p := ⟨kvs[i], List.getElem?_eq_getElem hi⟩
    obtain ⟨en, hen, hv⟩ := ent i k v hkv
    refine next_val_item st hgd hdt hsz hen fun h' st' sb => ?_
    have I1 : Inv X pins σ H { s with heap := h' } := I.turned (t' := s.toks) (fun b ob hb e => (sb.2 b hb).trans e) f0 f1 f3 f4 f5
    obtain ⟨oi, e, c, dd⟩ := id st'
    exact ⟨en.val, rfl, go_of (s := { s with heap := h' }) e c dd (by decide) ⟨v, H, I1, hv, ⟨rfl, k, hkv⟩, st', fun b hb => (hf b hb).1⟩⟩
  done := by
    intro X hP hw hK hc i pins s σ H E I hf st hg
    subst hP hw hK
    obtain ⟨hd, hi⟩ := hg
    obtain ⟨f0, f1, f2, f3, f4, f5⟩ := hf it (by simp)
    obtain ⟨hs, hgd, hx, es', ep', hdt, hsz, ent⟩ := I.frzTv hd
    obtain ⟨rfl, rfl⟩ := dict_ep hod hdt
    exact next_val_end (I.ok.hd hc) st hgd hdt hsz hi fun h' eb => ⟨rfl, I.turned (t' := s.toks) (fun b ob hb e => eb b ob hb e) f0 f1 f3 f4 f5⟩
  self := fun A i s Q E st h => wpAny_pyIter_valiter st h
end
def iValsT (td : TE) : TI := fun σ H R => td σ H fun x H1 => ∃ d o kvs, x = .ref d ∧ H1 d = some (.frz o (.dT kvs)) ∧ R (Itdt d o kvs) H1
section
variable {X : Cx} {tg e : Expr} {td : TE} {apos cpos : Pos}
theorem pi_valuesT (he : PE X e td) (hbase : attributeBase e "values" X.env (eval e X.env) = eval e X.env := by rfl) (hline : (apos.endLine == cpos.line) = true := by rfl) : PI X tg (.Call (.Attribute e "values" apos) [] [] cpos) (iValsT td) := by
  intro pins s σ H R I h
  refine wpAny_Call_method (T := "dict") (id := "dict.values") hbase rfl hline F.plainAttrs_dict F.slot_dict_values F.type_dict_values (thn (he pins s σ H _ I h) fun u s1 ⟨x, H1, I1, rx, d, o, kvs, ex, hd, q⟩ => ?_)
  subst ex
  obtain rfl : u = Value.ref d := rx
  obtain ⟨hs, hgd, hx, es, ep, hdt, hsz, ent⟩ := I1.frzTv hd
  have hT : s1.TypeIs (.ref d) "dict" := ⟨o, hgd, hx.1⟩
  refine ⟨hT, fun b z => ?_, ?_⟩
  · cases z
    exact ⟨o, hgd, hx.2.1⟩
  have I2 : Inv X pins σ H1 { s1 with heap := s1.heap.push { cls := .type "dict_values", data := .fields #[.ref d] } } := I1.kept (t' := s1.toks) fun b ob q => Heap.get?_push_of_some _ q
  have fin : wpAny (model X.prog X.w) X.A (pyIter (.ref s1.heap.objs.size)) (PIE X pins σ tg R) X.xe { s1 with heap := s1.heap.push { cls := .type "dict_values", data := .fields #[.ref d] } } := by
    refine iter_vals (d := d) ⟨_, Heap.get?_push_size _ rfl, rfl, rfl⟩ (Heap.get?_push_of_some _ hgd) hdt (pi_one (tk := s1.toks) I2 _ (turn_valsT _ hdt) ⟨_, Heap.get?_push_size _ rfl, rfl, ?_⟩ q)
    rw [hsz] <;> rfl
  show wpAny _ _ (callWith cpos (.builtin "dict.values") [.ref d] [] []) _ X.xe s1
  exact method_meetsIn F.slot_dict_values F.entry_dict_values rfl (PySem.evalArgs_none ⟨rfl, hT, F.args_dict_values_1 _, _, vals_meets d hs, hT, fin⟩)
end
end L2
end
section
set_option linter.all false
set_option maxRecDepth 100000
set_option Elab.async false
namespace TC
open PySem PySem.Spec PyProof.Rows L2 Vabldf
open L2 (Same)

abbrev vi (n : Nat) : V := .int (n : Int)
def nats (l : List Nat) : List V := l.map vi
def iv (l : List Int) : List V := l.map V.int
/-- the classes' places -/
structure Cl where
  cs : Addr
  ct : Addr
  ck : Addr
/-- the places of the lists that grow, and of the object's own dict -/
structure Mem where
  dS : Addr
  lset : Addr
  lpl : Addr
  ltc : Addr
  /-- places of others that the object never leans on -/
  ext : List Addr
def fSet (c : Nat) (d : Option Nat) : List (Str × V) := [("count", vi c), ("default", .int (orMinus d))]
def fTc (k : Nat) (a b : Addr) : List (Str × V) := [("kind", vi k), ("first", .ref a), ("second", .ref b)]
def fStk (m : Mem) (lr lp : Addr) : List (Str × V) := [("settings", .ref m.lset), ("platforms", .ref m.lpl), ("toolchains", .ref m.ltc), ("ranking", .ref lr), ("places", .ref lp)]

/-! ### heaps that say more -/
/-- all that was tracked is as it was, but that a dict may be locked -/
def Ext (H H' : Hp) : Prop := ∀ a o, H a = some o → H' a = some o ∨ ∃ kvs ob, o = .dK kvs ∧ H' a = some (.frz ob o)
theorem Ext.of {H H' : Hp} (s : Same H H') : Ext H H' := fun a o e => .inl (s a o e)
theorem Ext.refl (H : Hp) : Ext H H := fun _ _ e => .inl e
theorem Ext.lock {H : Hp} {d : Addr} {kvs : List (Key × V)} (e : H d = some (.dK kvs)) (od : Obj) : Ext H (upd H d (.frz od (.dK kvs))) := fun a o h => by
  by_cases q : a = d
  · subst q
    rw [e] at h
    cases h
    exact .inr ⟨kvs, od, rfl, upd_same⟩
  · rw [upd_ne q]
    exact .inl h
theorem Ext.lst {H H' : Hp} {a : Addr} {xs : List V} (x : Ext H H') (h : H a = some (.lst xs)) : H' a = some (.lst xs) := by
  rcases x a _ h with q | ⟨_, _, q, _⟩
  · exact q
  · cases q
theorem Ext.ins {H H' : Hp} {a C dx : Addr} {fs : List (Str × V)} (x : Ext H H') (h : H a = some (.ins C dx fs)) : H' a = some (.ins C dx fs) := by
  rcases x a _ h with q | ⟨_, _, q, _⟩
  · exact q
  · cases q
theorem Ext.rdK {H H' : Hp} {a : Addr} {kvs : List (Key × V)} (x : Ext H H') (h : Rd H a (.dK kvs)) : Rd H' a (.dK kvs) := by
  rcases h with h | ⟨o, h⟩
  · rcases x a _ h with q | ⟨kvs', ob, q, q2⟩
    · exact .inl q
    · exact .inr ⟨ob, q2⟩
  · rcases x a _ h with q | ⟨_, _, q, _⟩
    · exact .inr ⟨o, q⟩
    · cases q
theorem Ext.trans {H H1 H2 : Hp} (a : Ext H H1) (b : Same H1 H2) : Ext H H2 := fun c o h => by
  rcases a c o h with q | ⟨k, ob, q1, q2⟩
  · exact .inl (b _ _ q)
  · exact .inr ⟨k, ob, q1, b _ _ q2⟩
theorem Same.pairedMono {α β : Type} {F G : α → β → Prop} {as : List α} {bs : List β} (h : Paired F as bs) (f : ∀ a b, F a b → G a b) : Paired G as bs := Paired.mapP h f
theorem same_upd {H : Hp} {p : Addr} {o : HO} (h : H p = none) : Same H (upd H p o) := fun b u e => by rw [upd_ne (ne_of_none e h)]; exact e
theorem Same.upd {H H' : Hp} (s : Same H H') {p : Addr} {o : HO} (h : H' p = none) : Same H (upd H' p o) := s.trans (same_upd h)

/-! ### what stands for what -/
def SetAt (C : Addr) (H : Hp) (a : Addr) (st : Vabldf.Setting) : Prop := ∃ dx, H a = some (.ins C dx (fSet st.count st.default))
/-- a platform's table: f tells its values -/
def PlatAt (H : Hp) (a : Addr) (f : Nat → Option Nat) (n : Nat) : Prop := ∃ kvs, Rd H a (.dK kvs) ∧ (∀ k : Nat, valV kvs (Sum.inl (k : Int)) = (f k).map vi) ∧ kvs.length ≤ n
/-- the entries of a need's table -/
def Ent (H : Hp) (e : Key × V) (kv : Nat × List Nat) : Prop := e.1 = Sum.inl (kv.1 : Int) ∧ ∃ a, e.2 = .ref a ∧ H a = some (.lst (nats kv.2))
def NeedAt (H : Hp) (d : Addr) (need : Pairs) : Prop := ∃ es, H d = some (.dK es) ∧ Paired (Ent H) es (needOf need)
def ChainAt (C : Addr) (H : Hp) (a : Addr) (ch : Chain) : Prop := ∃ dx d1 d2, H a = some (.ins C dx (fTc ch.kind d1 d2)) ∧ NeedAt H d1 ch.first ∧ NeedAt H d2 ch.second
theorem SetAt.ext {C : Addr} {H H' : Hp} {a : Addr} {st : Vabldf.Setting} (x : Ext H H') (h : SetAt C H a st) : SetAt C H' a st := let ⟨dx, e⟩ := h; ⟨dx, x.ins e⟩
theorem PlatAt.ext {H H' : Hp} {a : Addr} {f : Nat → Option Nat} {n : Nat} (x : Ext H H') (h : PlatAt H a f n) : PlatAt H' a f n := let ⟨kvs, e, r⟩ := h; ⟨kvs, x.rdK e, r⟩
theorem Ent.ext {H H' : Hp} {e : Key × V} {kv : Nat × List Nat} (x : Ext H H') (h : Ent H e kv) : Ent H' e kv := let ⟨e1, a, e2, e3⟩ := h; ⟨e1, a, e2, x.lst e3⟩
theorem NeedAt.same {H H' : Hp} {d : Addr} {need : Pairs} (x : Same H H') (h : NeedAt H d need) : NeedAt H' d need := let ⟨es, e, r⟩ := h; ⟨es, x _ _ e, Paired.mapP r fun _ _ z => z.ext (Ext.of x)⟩
theorem ChainAt.same {C : Addr} {H H' : Hp} {a : Addr} {ch : Chain} (x : Same H H') (h : ChainAt C H a ch) : ChainAt C H' a ch := let ⟨dx, d1, d2, e, n1, n2⟩ := h; ⟨dx, d1, d2, x _ _ e, n1.same x, n2.same x⟩

/-- what the object is seen to hold by a def that only reads -/
structure View (c : Cl) (H : Hp) (S : Addr) (s : State) : Prop where
  wf : WF s
  ex : ∃ (m : Mem) (lr lp : Addr) (as ps ts : List Addr), H S = some (.ins c.ck m.dS (fStk m lr lp)) ∧ H m.lset = some (.lst (as.map V.ref)) ∧ H m.lpl = some (.lst (ps.map V.ref)) ∧ H m.ltc = some (.lst (ts.map V.ref)) ∧
    H lr = some (.lst (nats s.ranking)) ∧ H lp = some (.lst (nats s.places)) ∧ Paired (SetAt c.cs H) as s.settings ∧ ps.length = s.platforms.length ∧ ts.length = s.chains.length ∧
    ∀ (i : Nat) (a : Addr), ps[i]? = some a → PlatAt H a (known s i) (32 * (i + 1))
theorem View.ext {c : Cl} {H H' : Hp} {S : Addr} {s : State} (v : View c H S s) (x : Ext H H') : View c H' S s := by
  obtain ⟨w, m, lr, lp, as, ps, ts, e1, e2, e3, e4, e5, e6, e7, e8, e9, e10⟩ := v
  exact ⟨w, m, lr, lp, as, ps, ts, x.ins e1, x.lst e2, x.lst e3, x.lst e4, x.lst e5, x.lst e6, Paired.mapP e7 fun _ _ z => z.ext x, e8, e9, fun i a h => (e10 i a h).ext x⟩
theorem View.same {c : Cl} {H H' : Hp} {S : Addr} {s : State} (v : View c H S s) (x : Same H H') : View c H' S s := v.ext (Ext.of x)
/-- .. with the toolchains -/
structure Full (c : Cl) (H : Hp) (S : Addr) (s : State) : Prop where
  wf : WF s
  ex : ∃ (m : Mem) (lr lp : Addr) (as ps ts : List Addr), H S = some (.ins c.ck m.dS (fStk m lr lp)) ∧ H m.lset = some (.lst (as.map V.ref)) ∧ H m.lpl = some (.lst (ps.map V.ref)) ∧ H m.ltc = some (.lst (ts.map V.ref)) ∧
    H lr = some (.lst (nats s.ranking)) ∧ H lp = some (.lst (nats s.places)) ∧ Paired (SetAt c.cs H) as s.settings ∧ ps.length = s.platforms.length ∧ Paired (ChainAt c.ct H) ts s.chains ∧
    ∀ (i : Nat) (a : Addr), ps[i]? = some a → PlatAt H a (known s i) (32 * (i + 1))
theorem Full.same {c : Cl} {H H' : Hp} {S : Addr} {s : State} (v : Full c H S s) (x : Same H H') : Full c H' S s := by
  obtain ⟨w, m, lr, lp, as, ps, ts, e1, e2, e3, e4, e5, e6, e7, e8, e9, e10⟩ := v
  exact ⟨w, m, lr, lp, as, ps, ts, x _ _ e1, x _ _ e2, x _ _ e3, x _ _ e4, x _ _ e5, x _ _ e6, Paired.mapP e7 fun _ _ z => z.ext (Ext.of x), e8, Paired.mapP e9 fun _ _ z => z.same x, fun i a h => (e10 i a h).ext (Ext.of x)⟩
theorem Full.view {c : Cl} {H : Hp} {S : Addr} {s : State} (v : Full c H S s) : View c H S s := by
  obtain ⟨w, m, lr, lp, as, ps, ts, e1, e2, e3, e4, e5, e6, e7, e8, e9, e10⟩ := v
  exact ⟨w, m, lr, lp, as, ps, ts, e1, e2, e3, e4, e5, e6, e7, e8, Paired.length e9, e10⟩

/-! ### promises of defs that only read -/
def spP (pre : List V → Hp → V → Prop) : Sp := fun vs H Q _ => ∃ v, pre vs H v ∧ ∀ H', Same H H' → Q v H'
section
variable {P : Program} {w : World} {K : PySem.W.Frag} {mg : Str → Option Value} {base : Heap}
/-- a def of the text and its promise -/
theorem fn_mk {x : Str} {st : Stmt} {N ps : List Str} {k : Nat} {sp : Sp} (F : ∃ f fd, Fun K x x st f fd ∧ mg x = some (.ref f)) (S : FnScope N ps (defScope st))
    (B : ∀ (kV doc pm : Value) (an : Option Addr) (cdv ct : Value) (us : List Value), us.length = ps.length → bindArgs (PySem.W.fnOf x x (defArgs st) (defBody st) (defScope st) .none kV doc pm an cdv ct) ⟨us, []⟩ = pure (ps.zip us))
    (len : ∀ vs H Q E, sp vs H Q E → vs.length = ps.length)
    (hbody : ∀ (f : Addr) (cdv : Value) (A : Around) (outer : List Env) (s : Shared) (H : Hp) (vs : List V) (Q : VK) (E : XK), Room k (A.deeper (envOfC x (defScope st) s.heap.objs.size f cdv)) → sp vs H Q E →
      ∃ t, PSs (cxOf CX0 P w K mg base N x (defScope st) f cdv A outer s H E).nox (defBody st) t ∧ t { nx := fun _ H' => Q .non H', rt := Q } (start N vs) H) : Fn P w K mg base (k + 1) x ps sp := by
  obtain ⟨f, fd, F, hm⟩ := F
  exact ⟨f, fd, F.ok S len fun cdv A outer s H vs Q E hr h => hbody f cdv A outer s H vs Q E hr h, hm, F.kp, F.binds B⟩
end
/-! ### names and slots, in short -/
section
variable {X : Cx}
theorem pset (i : Nat) {x : Str} {e : Expr} {te : TE} {pos pos' : Pos} (hN : X.N.Nodup) (he : PE X e te) (hi : X.N[i]? = some x := by rfl) (hx : Loc X.env.scope x := by first | exact Or.inl rfl | exact Or.inr rfl)
    (hs : swapsWith e (some (.Name x pos')) pos.line X.env = pure false := by rfl) (hf : X.fn x = true ∨ X.env.scope.names.lookup x = some .local := by first | exact .inl rfl | exact .inr rfl | assumption) :
    PS X (.Assign [.Name x pos'] e pos) (tAsg te (gName i)) := ps_set hN hi hx he hs hf
theorem pgn (i : Nat) {x : Str} {pos : Pos} (hN : X.N.Nodup) (hi : X.N[i]? = some x := by rfl) (hx : Loc X.env.scope x := by first | exact Or.inl rfl | exact Or.inr rfl)
    (hf : X.fn x = true ∨ X.env.scope.names.lookup x = some .local := by first | exact .inl rfl | exact .inr rfl | assumption) : PG X (.Name x pos) (gName i) := pg_name hN hi hx hf
end
end TC
end
section
set_option linter.all false
set_option maxRecDepth 100000
set_option Elab.async false
set_option maxHeartbeats 2000000
namespace TC
open PySem PySem.Spec PyProof.Rows L2 Vabldf
/-! ### a table of what is chosen -/
def key3 (k p t : Nat) : List Key := [Sum.inl (k : Int), Sum.inl (p : Int), Sum.inl (t : Int)]
theorem key3_inj {k p t k' p' t' : Nat} (h : key3 k p t = key3 k' p' t') : k = k' ∧ p = p' ∧ t = t' := by
  unfold key3 at h
  injection h with a h
  injection h with b h
  injection h with d h
  injection a with a
  injection b with b
  injection d with d
  exact ⟨by omega, by omega, by omega⟩
def setD (D : List (List Key × V)) (k : List Key) (v : V) : List (List Key × V) := match valV D k with
  | some _ => D
  | none => putK D k v
theorem setD_some {D : List (List Key × V)} {k : List Key} {v u : V} (h : valV D k = some u) : setD D k v = D := by
  unfold setD
  rw [h]
theorem setD_none {D : List (List Key × V)} {k : List Key} {v : V} (h : valV D k = none) : setD D k v = putK D k v := by
  unfold setD
  rw [h]
theorem setD_val (D : List (List Key × V)) (k j : List Key) (v : V) : valV (setD D k v) j = (valV D j).or (if j = k then some v else none) := by
  cases e : valV D k with
  | some u =>
    rw [setD_some e]
    by_cases h : j = k
    · rw [h, e]; rfl
    · rw [if_neg h, Option.or_none]
  | none =>
    rw [setD_none e, valV_put]
    by_cases h : j = k
    · rw [if_pos h, if_pos h, h, e]; rfl
    · rw [if_neg h, if_neg h, Option.or_none]
theorem setD_len (D : List (List Key × V)) (k : List Key) (v : V) : (setD D k v).length ≤ D.length + 1 := by
  cases e : valV D k with
  | some u => rw [setD_some e]; omega
  | none => rw [setD_none e]; exact length_putK D k v
/-- the table's form -/
structure DOk (D : List (List Key × V)) : Prop where
  nd : (D.map (·.1)).Nodup
  form : ∀ e ∈ D, ∃ k p t n : Nat, e = (key3 k p t, vi n)
theorem DOk.nil : DOk [] := ⟨List.nodup_nil, by simp⟩
theorem DOk.set {D : List (List Key × V)} (h : DOk D) (k p t n : Nat) : DOk (setD D (key3 k p t) (vi n)) := by
  cases e : valV D (key3 k p t) with
  | some u => rw [setD_some e]; exact h
  | none =>
    rw [setD_none e]
    refine ⟨nd_putK _ h.nd e, fun x hx => ?_⟩
    rw [putK_new _ e] at hx
    rcases List.mem_append.mp hx with q | q
    · exact h.form x q
    · exact ⟨k, p, t, n, List.mem_singleton.mp q⟩
theorem valV_of_mem {D : List (List Key × V)} (h : (D.map (·.1)).Nodup) {x : List Key × V} (hx : x ∈ D) : valV D x.1 = some x.2 := by
  induction D with
  | nil => simp at hx
  | cons a r ih =>
    rw [List.map_cons, List.nodup_cons] at h
    rcases List.mem_cons.mp hx with q | q
    · subst q; exact valV_pos rfl
    · rw [valV_neg (fun z => h.1 (List.mem_map.mpr ⟨x, q, z.symm⟩))]
      exact ih h.2 q
theorem mem_of_valV {D : List (List Key × V)} {k : List Key} {v : V} (h : valV D k = some v) : (k, v) ∈ D := by
  unfold valV at h
  obtain ⟨x, h1, h2⟩ := Option.map_eq_some_iff.mp h
  have h3 := List.mem_of_find?_eq_some h1
  have h5 : decide (x.1 = k) = true := List.find?_some (p := fun kv : List Key × V => decide (kv.1 = k)) h1
  have h4 : x.1 = k := of_decide_eq_true h5
  subst h2 h4
  exact h3
/-! ### one toolchain's part -/
def putEnds (kind n : Nat) (l : List (Nat × Nat)) (D : List (List Key × V)) : List (List Key × V) := l.foldl (fun D x => setD D (key3 kind x.1 x.2) (vi n)) D
theorem putEnds_val (c n k p t : Nat) : ∀ (l : List (Nat × Nat)) (D : List (List Key × V)), valV (putEnds c n l D) (key3 k p t) = (valV D (key3 k p t)).or (if c = k ∧ (p, t) ∈ l then some (vi n) else none)
  | [], D => by
    show valV D (key3 k p t) = _
    rw [if_neg (by simp), Option.or_none]
  | x :: r, D => by
    show valV (putEnds c n r (setD D (key3 c x.1 x.2) (vi n))) (key3 k p t) = _
    rw [putEnds_val c n k p t r, setD_val, Option.or_assoc]
    congr 1
    by_cases h : key3 k p t = key3 c x.1 x.2
    · obtain ⟨h1, h2, h3⟩ := key3_inj h
      have hm : c = k ∧ (p, t) ∈ x :: r := ⟨h1.symm, by rw [h2, h3]; exact List.mem_cons_self⟩
      rw [if_pos h, if_pos hm]
      rfl
    · rw [if_neg h, Option.none_or]
      have e : (p, t) ∈ x :: r ↔ (p, t) = x ∨ (p, t) ∈ r := List.mem_cons
      by_cases h2 : c = k ∧ (p, t) ∈ r
      · rw [if_pos h2, if_pos ⟨h2.1, e.mpr (.inr h2.2)⟩]
      · rw [if_neg h2, if_neg]
        rintro ⟨z1, z2⟩
        rcases e.mp z2 with q | q
        · exact h (by rw [z1, ← q])
        · exact h2 ⟨z1, q⟩
theorem putEnds_len (c n : Nat) : ∀ (l : List (Nat × Nat)) (D : List (List Key × V)), (putEnds c n l D).length ≤ D.length + l.length
  | [], D => Nat.le_refl _
  | x :: r, D => by
    show (putEnds c n r (setD D (key3 c x.1 x.2) (vi n))).length ≤ _
    have h1 := putEnds_len c n r (setD D (key3 c x.1 x.2) (vi n))
    have h2 := setD_len D (key3 c x.1 x.2) (vi n)
    rw [List.length_cons]
    omega
theorem putEnds_ok (c n : Nat) : ∀ (l : List (Nat × Nat)) (D : List (List Key × V)), DOk D → DOk (putEnds c n l D)
  | [], D, h => h
  | x :: r, D, h => putEnds_ok c n r _ (h.set c x.1 x.2 n)
theorem putEnds_snoc (c n : Nat) (l : List (Nat × Nat)) (x : Nat × Nat) (D : List (List Key × V)) : putEnds c n (l ++ [x]) D = setD (putEnds c n l D) (key3 c x.1 x.2) (vi n) := by
  unfold putEnds
  rw [List.foldl_append]
  rfl
/-! ### places and targets that a toolchain fits -/
def ends (s : State) (ch : Chain) (ps ts : List Nat) : List (Nat × Nat) := (ps.filter (meets s ch.first)).flatMap fun p => (ts.filter (meets s ch.second)).map fun t => (p, t)
theorem mem_ends (s : State) (ch : Chain) (ps ts : List Nat) (p t : Nat) : (p, t) ∈ ends s ch ps ts ↔ (p ∈ ps ∧ t ∈ ts) ∧ (meets s ch.first p && meets s ch.second t) = true := by
  unfold ends
  simp only [List.mem_flatMap, List.mem_filter, List.mem_map, Prod.mk.injEq, Bool.and_eq_true]
  constructor
  · rintro ⟨a, ⟨h1, h2⟩, b, ⟨h3, h4⟩, rfl, rfl⟩
    exact ⟨⟨h1, h3⟩, h2, h4⟩
  · rintro ⟨⟨h1, h3⟩, h2, h4⟩
    exact ⟨p, ⟨h1, h2⟩, t, ⟨h3, h4⟩, rfl, rfl⟩
theorem ends_len (s : State) (ch : Chain) (ps ts : List Nat) : (ends s ch ps ts).length ≤ ps.length * ts.length := by
  unfold ends
  have go : ∀ l : List Nat, (l.flatMap fun p => (ts.filter (meets s ch.second)).map fun t => (p, t)).length ≤ l.length * ts.length := by
    intro l
    induction l with
    | nil => simp
    | cons a r ih =>
      rw [List.flatMap_cons, List.length_append, List.length_map, List.length_cons, Nat.succ_mul]
      have := List.length_filter_le (meets s ch.second) ts
      omega
  refine Nat.le_trans (go _) (Nat.mul_le_mul_right _ (List.length_filter_le _ _))
theorem ends_snoc (s : State) (ch : Chain) (ps ts : List Nat) (p : Nat) : ends s ch (ps ++ [p]) ts = ends s ch ps ts ++ if meets s ch.first p = true then (ts.filter (meets s ch.second)).map (fun t => (p, t)) else [] := by
  unfold ends
  rw [List.filter_append, List.flatMap_append]
  congr 1
  cases h : meets s ch.first p with
  | true => simp [h]
  | false => simp [h]
/-! ### the ranking, one by one -/
def stepT (s : State) (ks ps ts : List Nat) (D : List (List Key × V)) (n : Nat) : List (List Key × V) := match s.chains[n]? with
  | none => D
  | some ch => if ks.contains ch.kind = true then putEnds ch.kind n (ends s ch ps ts) D else D
def tabOf (s : State) (ks ps ts rk : List Nat) : List (List Key × V) := rk.foldl (stepT s ks ps ts) []
theorem tabOf_snoc (s : State) (ks ps ts rk : List Nat) (n : Nat) : tabOf s ks ps ts (rk ++ [n]) = stepT s ks ps ts (tabOf s ks ps ts rk) n := by
  unfold tabOf
  rw [List.foldl_append]
  rfl
theorem stepT_val (s : State) (ks ps ts : List Nat) (D : List (List Key × V)) (n k p t : Nat) :
    valV (stepT s ks ps ts D n) (key3 k p t) = (valV D (key3 k p t)).or (if (k ∈ ks ∧ p ∈ ps ∧ t ∈ ts) ∧ fitting s k p t n = true then some (vi n) else none) := by
  unfold stepT fitting
  cases e : s.chains[n]? with
  | none =>
    show valV D (key3 k p t) = _
    rw [if_neg (by simp), Option.or_none]
  | some ch =>
    dsimp only
    by_cases hk : ks.contains ch.kind = true
    · rw [if_pos hk, putEnds_val]
      congr 1
      rw [List.contains_iff_mem] at hk
      by_cases h : ch.kind = k ∧ (p, t) ∈ ends s ch ps ts
      · have h2 := (mem_ends s ch ps ts p t).mp h.2
        rw [if_pos h, if_pos]
        refine ⟨⟨h.1 ▸ hk, h2.1.1, h2.1.2⟩, ?_⟩
        rw [h2.2, h.1]
        simp
      · rw [if_neg h, if_neg]
        rintro ⟨⟨a, b, d⟩, g⟩
        rw [Bool.and_eq_true] at g
        exact h ⟨by simpa using g.1, (mem_ends s ch ps ts p t).mpr ⟨⟨b, d⟩, g.2⟩⟩
    · rw [if_neg hk, if_neg, Option.or_none]
      rintro ⟨⟨a, b, d⟩, g⟩
      rw [Bool.and_eq_true] at g
      have e2 : ch.kind = k := by simpa using g.1
      exact hk (List.contains_iff_mem.mpr (e2 ▸ a))
theorem fold_val (s : State) (ks ps ts : List Nat) (k p t : Nat) : ∀ (rk : List Nat) (D : List (List Key × V)), valV (rk.foldl (stepT s ks ps ts) D) (key3 k p t) =
    (valV D (key3 k p t)).or (if k ∈ ks ∧ p ∈ ps ∧ t ∈ ts then (rk.find? (fitting s k p t)).map vi else none)
  | [], D => by
    show valV D (key3 k p t) = _
    split
    · show _ = (valV D (key3 k p t)).or none
      rw [Option.or_none]
    · rw [Option.or_none]
  | n :: r, D => by
    rw [List.foldl_cons, fold_val s ks ps ts k p t r, stepT_val, Option.or_assoc, List.find?_cons]
    congr 1
    by_cases h : k ∈ ks ∧ p ∈ ps ∧ t ∈ ts
    · rw [if_pos h, if_pos h]
      cases g : fitting s k p t n with
      | true =>
        rw [if_pos ⟨h, rfl⟩]
        rfl
      | false =>
        rw [if_neg (fun z => by simp at z), Option.none_or]
    · rw [if_neg h, if_neg h, if_neg (fun z => h z.1)]
      rfl
/-- what is chosen, of these kinds, places and targets -/
def among (s : State) (ks ps ts : List Nat) (k p t : Nat) : Option Nat := if k ∈ ks ∧ p ∈ ps ∧ t ∈ ts then chosen s k p t else none
theorem tab_val (s : State) (ks ps ts : List Nat) (k p t : Nat) : valV (tabOf s ks ps ts s.ranking) (key3 k p t) = (among s ks ps ts k p t).map vi := by
  unfold tabOf among
  rw [fold_val]
  show (if k ∈ ks ∧ p ∈ ps ∧ t ∈ ts then (s.ranking.find? (fitting s k p t)).map vi else none) = _
  split
  · rfl
  · rfl
theorem tab_ok (s : State) (ks ps ts : List Nat) : ∀ rk : List Nat, DOk (tabOf s ks ps ts rk) := by
  have step : ∀ (D : List (List Key × V)) (n : Nat), DOk D → DOk (stepT s ks ps ts D n) := fun D n h => by
    unfold stepT
    split
    · exact h
    · split
      · exact putEnds_ok _ _ _ _ h
      · exact h
  have go : ∀ (rk : List Nat) (D : List (List Key × V)), DOk D → DOk (rk.foldl (stepT s ks ps ts) D) := by
    intro rk
    induction rk with
    | nil => exact fun D h => h
    | cons n r ih => exact fun D h => ih _ (step D n h)
  exact fun rk => go rk [] DOk.nil
theorem stepT_len (s : State) (ks ps ts : List Nat) (D : List (List Key × V)) (n : Nat) : (stepT s ks ps ts D n).length ≤ D.length + ps.length * ts.length := by
  unfold stepT
  split
  · omega
  · split
    · rename_i ch _ _
      have h1 := putEnds_len ch.kind n (ends s ch ps ts) D
      have h2 := ends_len s ch ps ts
      omega
    · omega
theorem tab_len (s : State) (ks ps ts : List Nat) : ∀ rk : List Nat, (tabOf s ks ps ts rk).length ≤ rk.length * (ps.length * ts.length) := by
  have go : ∀ (rk : List Nat) (D : List (List Key × V)), (rk.foldl (stepT s ks ps ts) D).length ≤ D.length + rk.length * (ps.length * ts.length) := by
    intro rk
    induction rk with
    | nil => intro D; show D.length ≤ _; omega
    | cons n r ih =>
      intro D
      rw [List.foldl_cons, List.length_cons, Nat.succ_mul]
      have h1 := ih (stepT s ks ps ts D n)
      have h2 := stepT_len s ks ps ts D n
      omega
  intro rk
  have := go rk []
  rw [List.length_nil, Nat.zero_add] at this
  exact this
/-! ### what is chosen nowhere -/
theorem used_iff (s : State) {ks : List Nat} {t : Nat} {ch : Chain} (hc : s.chains[t]? = some ch) (hk : ch.kind ∈ ks) :
    usedAt s t = true ↔ ∃ e ∈ tabOf s ks s.places (allPlatforms s) s.ranking, e.2 = vi t := by
  unfold usedAt
  rw [hc]
  dsimp only
  rw [List.any_eq_true]
  constructor
  · rintro ⟨e, he, h⟩
    obtain ⟨p, hp, h⟩ := List.any_eq_true.mp h
    have h2 : chosen s ch.kind e p = some t := by
      unfold isChosen at h
      cases q : chosen s ch.kind e p with
      | none => rw [q] at h; cases h
      | some n => rw [q] at h; rw [eq_of_beq h]
    have h3 := tab_val s ks s.places (allPlatforms s) ch.kind e p
    unfold among at h3
    rw [if_pos ⟨hk, he, hp⟩, h2] at h3
    exact ⟨_, mem_of_valV h3, rfl⟩
  · rintro ⟨e, he, h⟩
    have ok := tab_ok s ks s.places (allPlatforms s) s.ranking
    obtain ⟨k, p, q, n, rfl⟩ := ok.form e he
    have hn : n = t := by
      have h' : V.int (n : Int) = V.int (t : Int) := h
      injection h' with h'
      omega
    subst hn
    have h3 := tab_val s ks s.places (allPlatforms s) k p q
    rw [valV_of_mem ok.nd he] at h3
    unfold among at h3
    split at h3
    · rename_i hm
      cases hcz : chosen s k p q with
      | none => rw [hcz] at h3; cases h3
      | some n' =>
        rw [hcz] at h3
        have e2 : n' = n := by
          have h4 : V.int (n : Int) = V.int (n' : Int) := Option.some.inj h3
          injection h4 with h4
          omega
        subst e2
        have hf : fitting s k p q n' = true := by
          have := hcz
          unfold chosen at this
          exact List.find?_some this
        have hkk : ch.kind = k := by
          unfold fitting at hf
          rw [hc] at hf
          dsimp only at hf
          rw [Bool.and_eq_true] at hf
          simpa using hf.1
        refine ⟨p, hm.2.1, List.any_eq_true.mpr ⟨q, hm.2.2, ?_⟩⟩
        rw [hkk, hcz]
        unfold isChosen
        simp
    · cases h3
end TC
end
section
set_option linter.all false
set_option maxRecDepth 100000
set_option Elab.async false
set_option maxHeartbeats 2000000
namespace TC
open PySem PySem.Spec PyProof.Rows L2 Vabldf
def top (i : Nat) : Stmt := PySem.Challenge.pw_toolchoice_s01_answers.main.body.getD i (.Pass ⟨0, 0, 0, 0⟩)
abbrev s_pairs_of : Stmt := top 2
theorem sc_pairs_of : FnScope ["row"] ["row"] (defScope s_pairs_of) := ⟨rfl, rfl, rfl, by decide +kernel, rfl, by decide +kernel, by decide +kernel⟩
abbrev s_need_of : Stmt := top 3
theorem sc_need_of : FnScope ["row", "need", "setting", "value"] ["row"] (defScope s_need_of) := ⟨rfl, rfl, rfl, by decide +kernel, rfl, by decide +kernel, by decide +kernel⟩
abbrev s_value_of : Stmt := top 4
theorem sc_value_of : FnScope ["stock", "platform", "setting"] ["stock", "platform", "setting"] (defScope s_value_of) := ⟨rfl, rfl, rfl, by decide +kernel, rfl, by decide +kernel, by decide +kernel⟩
abbrev s_same_values : Stmt := top 5
theorem sc_same_values : FnScope ["stock", "platform", "other", "setting"] ["stock", "platform", "other"] (defScope s_same_values) := ⟨rfl, rfl, rfl, by decide +kernel, rfl, by decide +kernel, by decide +kernel⟩
abbrev s_unmet_setting : Stmt := top 6
theorem sc_unmet_setting : FnScope ["stock", "platform", "need", "setting", "alternatives"] ["stock", "platform", "need"] (defScope s_unmet_setting) := ⟨rfl, rfl, rfl, by decide +kernel, rfl, by decide +kernel, by decide +kernel⟩
abbrev s_meets : Stmt := top 7
theorem sc_meets : FnScope ["stock", "platform", "need"] ["stock", "platform", "need"] (defScope s_meets) := ⟨rfl, rfl, rfl, by decide +kernel, rfl, by decide +kernel, by decide +kernel⟩
abbrev s_fitting_ends : Stmt := top 11
theorem sc_fitting_ends : FnScope ["stock", "toolchain", "places", "targets", "fitting_targets", "ends", "place", "target"] ["stock", "toolchain", "places", "targets"] (defScope s_fitting_ends) := ⟨rfl, rfl, rfl, by decide +kernel, rfl, by decide +kernel, by decide +kernel⟩
abbrev s_chosen_toolchains : Stmt := top 12
theorem sc_chosen_toolchains : FnScope ["stock", "kinds", "places", "targets", "chosen", "number", "toolchain", "place", "target"] ["stock", "kinds", "places", "targets"] (defScope s_chosen_toolchains) := ⟨rfl, rfl, rfl, by decide +kernel, rfl, by decide +kernel, by decide +kernel⟩
abbrev s_chosen_for : Stmt := top 13
theorem sc_chosen_for : FnScope ["chosen", "kinds", "place", "target", "kind"] ["chosen", "kinds", "place", "target"] (defScope s_chosen_for) := ⟨rfl, rfl, rfl, by decide +kernel, rfl, by decide +kernel, by decide +kernel⟩
abbrev s_lacking_kind : Stmt := top 14
theorem sc_lacking_kind : FnScope ["chosen", "kinds", "place", "target", "kind"] ["chosen", "kinds", "place", "target"] (defScope s_lacking_kind) := ⟨rfl, rfl, rfl, by decide +kernel, rfl, by decide +kernel, by decide +kernel⟩
abbrev s_served_place : Stmt := top 15
theorem sc_served_place : FnScope ["stock", "chosen", "kinds", "target", "place"] ["stock", "chosen", "kinds", "target"] (defScope s_served_place) := ⟨rfl, rfl, rfl, by decide +kernel, rfl, by decide +kernel, by decide +kernel⟩
abbrev s_chosen_anywhere : Stmt := top 16
theorem sc_chosen_anywhere : FnScope ["stock", "kinds"] ["stock", "kinds"] (defScope s_chosen_anywhere) := ⟨rfl, rfl, rfl, by decide +kernel, rfl, by decide +kernel, by decide +kernel⟩
abbrev s_served_targets : Stmt := top 17
theorem sc_served_targets : FnScope ["stock", "kinds", "chosen", "platforms", "target"] ["stock", "kinds"] (defScope s_served_targets) := ⟨rfl, rfl, rfl, by decide +kernel, rfl, by decide +kernel, by decide +kernel⟩
abbrev s_idle_toolchains : Stmt := top 18
theorem sc_idle_toolchains : FnScope ["stock", "kinds", "chosen", "busy", "ranked", "number"] ["stock", "kinds"] (defScope s_idle_toolchains) := ⟨rfl, rfl, rfl, by decide +kernel, rfl, by decide +kernel, by decide +kernel⟩
abbrev s_look_below : Stmt := top 33
theorem sc_look_below : FnScope ["number", "bound", "refusal"] ["number", "bound", "refusal"] (defScope s_look_below) := ⟨rfl, rfl, rfl, by decide +kernel, rfl, by decide +kernel, by decide +kernel⟩
abbrev s_look_setting : Stmt := top 34
theorem sc_look_setting : FnScope ["stock", "setting"] ["stock", "setting"] (defScope s_look_setting) := ⟨rfl, rfl, rfl, by decide +kernel, rfl, by decide +kernel, by decide +kernel⟩
abbrev s_look_platform : Stmt := top 35
theorem sc_look_platform : FnScope ["stock", "platform"] ["stock", "platform"] (defScope s_look_platform) := ⟨rfl, rfl, rfl, by decide +kernel, rfl, by decide +kernel, by decide +kernel⟩
abbrev s_look_toolchain : Stmt := top 36
theorem sc_look_toolchain : FnScope ["stock", "toolchain"] ["stock", "toolchain"] (defScope s_look_toolchain) := ⟨rfl, rfl, rfl, by decide +kernel, rfl, by decide +kernel, by decide +kernel⟩
abbrev s_look_kind : Stmt := top 37
theorem sc_look_kind : FnScope ["kind"] ["kind"] (defScope s_look_kind) := ⟨rfl, rfl, rfl, by decide +kernel, rfl, by decide +kernel, by decide +kernel⟩
abbrev s_look_once : Stmt := top 38
theorem sc_look_once : FnScope ["numbers"] ["numbers"] (defScope s_look_once) := ⟨rfl, rfl, rfl, by decide +kernel, rfl, by decide +kernel, by decide +kernel⟩
abbrev s_look_row : Stmt := top 39
theorem sc_look_row : FnScope ["row", "bound", "refusal", "number"] ["row", "bound", "refusal"] (defScope s_look_row) := ⟨rfl, rfl, rfl, by decide +kernel, rfl, by decide +kernel, by decide +kernel⟩
abbrev s_look_platforms : Stmt := top 40
theorem sc_look_platforms : FnScope ["stock", "row"] ["stock", "row"] (defScope s_look_platforms) := ⟨rfl, rfl, rfl, by decide +kernel, rfl, by decide +kernel, by decide +kernel⟩
abbrev s_look_toolchains : Stmt := top 41
theorem sc_look_toolchains : FnScope ["stock", "row"] ["stock", "row"] (defScope s_look_toolchains) := ⟨rfl, rfl, rfl, by decide +kernel, rfl, by decide +kernel, by decide +kernel⟩
abbrev s_look_kinds : Stmt := top 42
theorem sc_look_kinds : FnScope ["row"] ["row"] (defScope s_look_kinds) := ⟨rfl, rfl, rfl, by decide +kernel, rfl, by decide +kernel, by decide +kernel⟩
abbrev s_look_pairs : Stmt := top 43
theorem sc_look_pairs : FnScope ["stock", "row", "setting", "value", "refused"] ["stock", "row"] (defScope s_look_pairs) := ⟨rfl, rfl, rfl, by decide +kernel, rfl, by decide +kernel, by decide +kernel⟩
abbrev s_look_own : Stmt := top 44
theorem sc_look_own : FnScope ["stock", "row", "setting", "value"] ["stock", "row"] (defScope s_look_own) := ⟨rfl, rfl, rfl, by decide +kernel, rfl, by decide +kernel, by decide +kernel⟩
abbrev s_look_parent : Stmt := top 45
theorem sc_look_parent : FnScope ["stock", "parent"] ["stock", "parent"] (defScope s_look_parent) := ⟨rfl, rfl, rfl, by decide +kernel, rfl, by decide +kernel, by decide +kernel⟩
abbrev s_look_values : Stmt := top 46
theorem sc_look_values : FnScope ["count", "default"] ["count", "default"] (defScope s_look_values) := ⟨rfl, rfl, rfl, by decide +kernel, rfl, by decide +kernel, by decide +kernel⟩
abbrev s_look_room : Stmt := top 47
theorem sc_look_room : FnScope ["held", "most"] ["held", "most"] (defScope s_look_room) := ⟨rfl, rfl, rfl, by decide +kernel, rfl, by decide +kernel, by decide +kernel⟩
abbrev s_Setting_init : Stmt := inClass (top 49) 0
theorem sc_Setting_init : FnScope ["self", "count", "default"] ["self", "count", "default"] (defScope s_Setting_init) := ⟨rfl, rfl, rfl, by decide +kernel, rfl, by decide +kernel, by decide +kernel⟩
abbrev s_Toolchain_init : Stmt := inClass (top 50) 0
theorem sc_Toolchain_init : FnScope ["self", "kind", "first", "second"] ["self", "kind", "first", "second"] (defScope s_Toolchain_init) := ⟨rfl, rfl, rfl, by decide +kernel, rfl, by decide +kernel, by decide +kernel⟩
abbrev s_Stock_init : Stmt := inClass (top 51) 0
theorem sc_Stock_init : FnScope ["self"] ["self"] (defScope s_Stock_init) := ⟨rfl, rfl, rfl, by decide +kernel, rfl, by decide +kernel, by decide +kernel⟩
abbrev s_add_setting : Stmt := top 56
theorem sc_add_setting : FnScope ["stock", "numbers", "rows", "count", "default", "refused"] ["stock", "numbers", "rows"] (defScope s_add_setting) := ⟨rfl, rfl, rfl, by decide +kernel, rfl, by decide +kernel, by decide +kernel⟩
abbrev s_add_platform : Stmt := top 57
theorem sc_add_platform : FnScope ["stock", "numbers", "rows", "parent", "own", "refused", "known"] ["stock", "numbers", "rows"] (defScope s_add_platform) := ⟨rfl, rfl, rfl, by decide +kernel, rfl, by decide +kernel, by decide +kernel⟩
abbrev s_add_toolchain : Stmt := top 58
theorem sc_add_toolchain : FnScope ["stock", "numbers", "rows", "kind", "refused"] ["stock", "numbers", "rows"] (defScope s_add_toolchain) := ⟨rfl, rfl, rfl, by decide +kernel, rfl, by decide +kernel, by decide +kernel⟩
abbrev s_set_ranking : Stmt := top 59
theorem sc_set_ranking : FnScope ["stock", "numbers", "rows", "refused"] ["stock", "numbers", "rows"] (defScope s_set_ranking) := ⟨rfl, rfl, rfl, by decide +kernel, rfl, by decide +kernel, by decide +kernel⟩
abbrev s_set_places : Stmt := top 60
theorem sc_set_places : FnScope ["stock", "numbers", "rows", "refused"] ["stock", "numbers", "rows"] (defScope s_set_places) := ⟨rfl, rfl, rfl, by decide +kernel, rfl, by decide +kernel, by decide +kernel⟩
abbrev s_tell_value : Stmt := top 61
theorem sc_tell_value : FnScope ["stock", "numbers", "rows", "refused", "value"] ["stock", "numbers", "rows"] (defScope s_tell_value) := ⟨rfl, rfl, rfl, by decide +kernel, rfl, by decide +kernel, by decide +kernel⟩
abbrev s_tell_fit : Stmt := top 62
theorem sc_tell_fit : FnScope ["stock", "numbers", "rows", "place", "target", "refused", "toolchain", "unmet"] ["stock", "numbers", "rows"] (defScope s_tell_fit) := ⟨rfl, rfl, rfl, by decide +kernel, rfl, by decide +kernel, by decide +kernel⟩
abbrev s_tell_choice : Stmt := top 63
theorem sc_tell_choice : FnScope ["stock", "numbers", "rows", "kind", "place", "target", "refused", "chosen", "toolchain"] ["stock", "numbers", "rows"] (defScope s_tell_choice) := ⟨rfl, rfl, rfl, by decide +kernel, rfl, by decide +kernel, by decide +kernel⟩
abbrev s_tell_resolve : Stmt := top 64
theorem sc_tell_resolve : FnScope ["stock", "numbers", "rows", "target", "kinds", "wishes", "refused", "chosen", "place"] ["stock", "numbers", "rows"] (defScope s_tell_resolve) := ⟨rfl, rfl, rfl, by decide +kernel, rfl, by decide +kernel, by decide +kernel⟩
abbrev s_tell_why : Stmt := top 65
theorem sc_tell_why : FnScope ["stock", "numbers", "rows", "target", "kinds", "refused", "chosen", "told", "place"] ["stock", "numbers", "rows"] (defScope s_tell_why) := ⟨rfl, rfl, rfl, by decide +kernel, rfl, by decide +kernel, by decide +kernel⟩
abbrev s_tell_served : Stmt := top 66
theorem sc_tell_served : FnScope ["stock", "numbers", "rows", "refused"] ["stock", "numbers", "rows"] (defScope s_tell_served) := ⟨rfl, rfl, rfl, by decide +kernel, rfl, by decide +kernel, by decide +kernel⟩
abbrev s_tell_alike : Stmt := top 67
theorem sc_tell_alike : FnScope ["stock", "numbers", "rows", "refused"] ["stock", "numbers", "rows"] (defScope s_tell_alike) := ⟨rfl, rfl, rfl, by decide +kernel, rfl, by decide +kernel, by decide +kernel⟩
abbrev s_tell_idle : Stmt := top 68
theorem sc_tell_idle : FnScope ["stock", "numbers", "rows", "refused"] ["stock", "numbers", "rows"] (defScope s_tell_idle) := ⟨rfl, rfl, rfl, by decide +kernel, rfl, by decide +kernel, by decide +kernel⟩
abbrev s_rows_from : Stmt := top 71
theorem sc_rows_from : FnScope ["calls", "start", "row_count", "rows", "at", "end"] ["calls", "start", "row_count"] (defScope s_rows_from) := ⟨rfl, rfl, rfl, by decide +kernel, rfl, by decide +kernel, by decide +kernel⟩
abbrev s_answers : Stmt := top 72
theorem sc_answers : FnScope ["calls", "stock", "told", "at", "form", "start", "numbers", "rows", "act", "answer", "row"] ["calls"] (defScope s_answers) := ⟨rfl, rfl, rfl, by decide +kernel, rfl, by decide +kernel, by decide +kernel⟩
/-- what of the text the proofs lean on -/
structure Txt (K : PySem.W.Frag) (mg : Str → Option Value) (c : Cl) : Prop where
  b_len : mg "len" = none
  b_zip : mg "zip" = none
  b_list : mg "list" = none
  b_set : mg "set" = none
  b_dict : mg "dict" = none
  b_sum : mg "sum" = none
  b_range : mg "range" = none
  g_NO_VALUE : ∃ t, mg "NO_VALUE" = some (.int (-1) t)
  g_NO_KIND : ∃ t, mg "NO_KIND" = some (.int (-1) t)
  g_NO_TOOLCHAIN : ∃ t, mg "NO_TOOLCHAIN" = some (.int (-1) t)
  g_ACCEPTED : ∃ t, mg "ACCEPTED" = some (.int (0) t)
  g_LIMIT : ∃ t, mg "LIMIT" = some (.int (-1) t)
  g_SETTING : ∃ t, mg "SETTING" = some (.int (-2) t)
  g_VALUE : ∃ t, mg "VALUE" = some (.int (-3) t)
  g_PLATFORM : ∃ t, mg "PLATFORM" = some (.int (-4) t)
  g_CHAIN : ∃ t, mg "CHAIN" = some (.int (-5) t)
  g_KIND : ∃ t, mg "KIND" = some (.int (-6) t)
  g_TWICE : ∃ t, mg "TWICE" = some (.int (-7) t)
  g_NONE : ∃ t, mg "NONE" = some (.int (-8) t)
  g_FULL : ∃ t, mg "FULL" = some (.int (-9) t)
  g_MOST_VALUES : ∃ t, mg "MOST_VALUES" = some (.int (16) t)
  g_MOST_KINDS : ∃ t, mg "MOST_KINDS" = some (.int (32) t)
  g_LONGEST_ROW : ∃ t, mg "LONGEST_ROW" = some (.int (64) t)
  g_MOST_SETTINGS : ∃ t, mg "MOST_SETTINGS" = some (.int (16) t)
  g_MOST_PLATFORMS : ∃ t, mg "MOST_PLATFORMS" = some (.int (16) t)
  g_MOST_TOOLCHAINS : ∃ t, mg "MOST_TOOLCHAINS" = some (.int (32) t)
  f_pairs_of : ∃ f fd, Fun K "pairs_of" "pairs_of" s_pairs_of f fd ∧ mg "pairs_of" = some (.ref f)
  f_need_of : ∃ f fd, Fun K "need_of" "need_of" s_need_of f fd ∧ mg "need_of" = some (.ref f)
  f_value_of : ∃ f fd, Fun K "value_of" "value_of" s_value_of f fd ∧ mg "value_of" = some (.ref f)
  f_same_values : ∃ f fd, Fun K "same_values" "same_values" s_same_values f fd ∧ mg "same_values" = some (.ref f)
  f_unmet_setting : ∃ f fd, Fun K "unmet_setting" "unmet_setting" s_unmet_setting f fd ∧ mg "unmet_setting" = some (.ref f)
  f_meets : ∃ f fd, Fun K "meets" "meets" s_meets f fd ∧ mg "meets" = some (.ref f)
  f_fitting_ends : ∃ f fd, Fun K "fitting_ends" "fitting_ends" s_fitting_ends f fd ∧ mg "fitting_ends" = some (.ref f)
  f_chosen_toolchains : ∃ f fd, Fun K "chosen_toolchains" "chosen_toolchains" s_chosen_toolchains f fd ∧ mg "chosen_toolchains" = some (.ref f)
  f_chosen_for : ∃ f fd, Fun K "chosen_for" "chosen_for" s_chosen_for f fd ∧ mg "chosen_for" = some (.ref f)
  f_lacking_kind : ∃ f fd, Fun K "lacking_kind" "lacking_kind" s_lacking_kind f fd ∧ mg "lacking_kind" = some (.ref f)
  f_served_place : ∃ f fd, Fun K "served_place" "served_place" s_served_place f fd ∧ mg "served_place" = some (.ref f)
  f_chosen_anywhere : ∃ f fd, Fun K "chosen_anywhere" "chosen_anywhere" s_chosen_anywhere f fd ∧ mg "chosen_anywhere" = some (.ref f)
  f_served_targets : ∃ f fd, Fun K "served_targets" "served_targets" s_served_targets f fd ∧ mg "served_targets" = some (.ref f)
  f_idle_toolchains : ∃ f fd, Fun K "idle_toolchains" "idle_toolchains" s_idle_toolchains f fd ∧ mg "idle_toolchains" = some (.ref f)
  f_look_below : ∃ f fd, Fun K "look_below" "look_below" s_look_below f fd ∧ mg "look_below" = some (.ref f)
  f_look_setting : ∃ f fd, Fun K "look_setting" "look_setting" s_look_setting f fd ∧ mg "look_setting" = some (.ref f)
  f_look_platform : ∃ f fd, Fun K "look_platform" "look_platform" s_look_platform f fd ∧ mg "look_platform" = some (.ref f)
  f_look_toolchain : ∃ f fd, Fun K "look_toolchain" "look_toolchain" s_look_toolchain f fd ∧ mg "look_toolchain" = some (.ref f)
  f_look_kind : ∃ f fd, Fun K "look_kind" "look_kind" s_look_kind f fd ∧ mg "look_kind" = some (.ref f)
  f_look_once : ∃ f fd, Fun K "look_once" "look_once" s_look_once f fd ∧ mg "look_once" = some (.ref f)
  f_look_row : ∃ f fd, Fun K "look_row" "look_row" s_look_row f fd ∧ mg "look_row" = some (.ref f)
  f_look_platforms : ∃ f fd, Fun K "look_platforms" "look_platforms" s_look_platforms f fd ∧ mg "look_platforms" = some (.ref f)
  f_look_toolchains : ∃ f fd, Fun K "look_toolchains" "look_toolchains" s_look_toolchains f fd ∧ mg "look_toolchains" = some (.ref f)
  f_look_kinds : ∃ f fd, Fun K "look_kinds" "look_kinds" s_look_kinds f fd ∧ mg "look_kinds" = some (.ref f)
  f_look_pairs : ∃ f fd, Fun K "look_pairs" "look_pairs" s_look_pairs f fd ∧ mg "look_pairs" = some (.ref f)
  f_look_own : ∃ f fd, Fun K "look_own" "look_own" s_look_own f fd ∧ mg "look_own" = some (.ref f)
  f_look_parent : ∃ f fd, Fun K "look_parent" "look_parent" s_look_parent f fd ∧ mg "look_parent" = some (.ref f)
  f_look_values : ∃ f fd, Fun K "look_values" "look_values" s_look_values f fd ∧ mg "look_values" = some (.ref f)
  f_look_room : ∃ f fd, Fun K "look_room" "look_room" s_look_room f fd ∧ mg "look_room" = some (.ref f)
  f_add_setting : ∃ f fd, Fun K "add_setting" "add_setting" s_add_setting f fd ∧ mg "add_setting" = some (.ref f)
  f_add_platform : ∃ f fd, Fun K "add_platform" "add_platform" s_add_platform f fd ∧ mg "add_platform" = some (.ref f)
  f_add_toolchain : ∃ f fd, Fun K "add_toolchain" "add_toolchain" s_add_toolchain f fd ∧ mg "add_toolchain" = some (.ref f)
  f_set_ranking : ∃ f fd, Fun K "set_ranking" "set_ranking" s_set_ranking f fd ∧ mg "set_ranking" = some (.ref f)
  f_set_places : ∃ f fd, Fun K "set_places" "set_places" s_set_places f fd ∧ mg "set_places" = some (.ref f)
  f_tell_value : ∃ f fd, Fun K "tell_value" "tell_value" s_tell_value f fd ∧ mg "tell_value" = some (.ref f)
  f_tell_fit : ∃ f fd, Fun K "tell_fit" "tell_fit" s_tell_fit f fd ∧ mg "tell_fit" = some (.ref f)
  f_tell_choice : ∃ f fd, Fun K "tell_choice" "tell_choice" s_tell_choice f fd ∧ mg "tell_choice" = some (.ref f)
  f_tell_resolve : ∃ f fd, Fun K "tell_resolve" "tell_resolve" s_tell_resolve f fd ∧ mg "tell_resolve" = some (.ref f)
  f_tell_why : ∃ f fd, Fun K "tell_why" "tell_why" s_tell_why f fd ∧ mg "tell_why" = some (.ref f)
  f_tell_served : ∃ f fd, Fun K "tell_served" "tell_served" s_tell_served f fd ∧ mg "tell_served" = some (.ref f)
  f_tell_alike : ∃ f fd, Fun K "tell_alike" "tell_alike" s_tell_alike f fd ∧ mg "tell_alike" = some (.ref f)
  f_tell_idle : ∃ f fd, Fun K "tell_idle" "tell_idle" s_tell_idle f fd ∧ mg "tell_idle" = some (.ref f)
  f_rows_from : ∃ f fd, Fun K "rows_from" "rows_from" s_rows_from f fd ∧ mg "rows_from" = some (.ref f)
  f_answers : ∃ f fd, Fun K "answers" "answers" s_answers f fd ∧ mg "answers" = some (.ref f)
  k_Setting : Cls K c.cs
  m_Setting : mg "Setting" = some (.ref c.cs)
  i_Setting : ∃ f fd, Fun K "__init__" "Setting.__init__" s_Setting_init f fd ∧ Mk K c.cs f
  n_Setting_count : NoAttr K c.cs "count"
  n_Setting_default : NoAttr K c.cs "default"
  k_Toolchain : Cls K c.ct
  m_Toolchain : mg "Toolchain" = some (.ref c.ct)
  i_Toolchain : ∃ f fd, Fun K "__init__" "Toolchain.__init__" s_Toolchain_init f fd ∧ Mk K c.ct f
  n_Toolchain_kind : NoAttr K c.ct "kind"
  n_Toolchain_first : NoAttr K c.ct "first"
  n_Toolchain_second : NoAttr K c.ct "second"
  k_Stock : Cls K c.ck
  m_Stock : mg "Stock" = some (.ref c.ck)
  i_Stock : ∃ f fd, Fun K "__init__" "Stock.__init__" s_Stock_init f fd ∧ Mk K c.ck f
  n_Stock_settings : NoAttr K c.ck "settings"
  n_Stock_platforms : NoAttr K c.ck "platforms"
  n_Stock_toolchains : NoAttr K c.ck "toolchains"
  n_Stock_ranking : NoAttr K c.ck "ranking"
  n_Stock_places : NoAttr K c.ck "places"

section
variable {P : Program} {w : World} {K : PySem.W.Frag} {mg : Str → Option Value} {base : Heap} {c : Cl}

def spBelow : Sp := spP fun vs _ v => ∃ n b r : Int, vs = [.int n, .int b, .int r] ∧ v = .int (if 0 ≤ n ∧ n < b then 0 else r)
theorem ok_look_below (T : Txt K mg c) : Fn P w K mg base 1 "look_below" ["number", "bound", "refusal"] spBelow := by
  have nd := sc_look_below.nd
  refine fn_mk T.f_look_below sc_look_below (fun _ _ _ _ _ _ us hl => match us, hl with | [_, _, _], _ => rfl) (fun vs H Q E h => ?_) fun f cdv A outer s H vs Q E hr h => ?_
  · obtain ⟨_, ⟨n, b, r, rfl, _⟩, _⟩ := h
    rfl
  · obtain ⟨_, ⟨n, b, r, rfl, rfl⟩, k⟩ := h
    refine ⟨_, (pss_one (ps_ret (pe_ifExp (pt_chain op_le op_lt pe_int (pv 0) (pv 1)) (pe_gint T.g_ACCEPTED) (pv 2)))), ?_⟩
    refine ⟨_, rfl, _, _, rfl, rfl, _, rfl, ite2 (fun h1 => ⟨_, rfl, _, _, rfl, rfl, _, rfl, ite2 (fun h2 => ?_) (fun h2 => ?_)⟩) (fun h1 => ⟨_, rfl, ?_⟩)⟩
    · rw [if_pos ⟨of_decide_eq_true h1, of_decide_eq_true h2⟩] at k
      exact k H (Same.refl _)
    · rw [if_neg (fun z => h2 (decide_eq_true z.2))] at k
      exact ⟨_, rfl, k H (Same.refl _)⟩
    · rw [if_neg (fun z => h1 (decide_eq_true z.1))] at k
      exact iteF ⟨_, rfl, k H (Same.refl _)⟩

theorem code_below (k : Int) (n : Nat) (z : Int) : code (below k n z) = if 0 ≤ z ∧ z < (n : Int) then 0 else k := by
  unfold below
  by_cases h : 0 ≤ z ∧ z < (n : Int)
  · rw [if_pos h, if_pos h]; rfl
  · rw [if_neg h, if_neg h]; rfl
theorem lk_settings (m : Mem) (lr lp : Addr) : (fStk m lr lp).lookup ("settings" : Str) = some (.ref m.lset) := rfl
theorem lk_platforms (m : Mem) (lr lp : Addr) : (fStk m lr lp).lookup ("platforms" : Str) = some (.ref m.lpl) := rfl
theorem lk_toolchains (m : Mem) (lr lp : Addr) : (fStk m lr lp).lookup ("toolchains" : Str) = some (.ref m.ltc) := rfl
theorem lk_ranking (m : Mem) (lr lp : Addr) : (fStk m lr lp).lookup ("ranking" : Str) = some (.ref lr) := rfl
theorem lk_places (m : Mem) (lr lp : Addr) : (fStk m lr lp).lookup ("places" : Str) = some (.ref lp) := rfl
theorem lk_count (n : Nat) (d : Option Nat) : (fSet n d).lookup ("count" : Str) = some (vi n) := rfl
theorem lk_default (n : Nat) (d : Option Nat) : (fSet n d).lookup ("default" : Str) = some (.int (orMinus d)) := rfl
theorem lk_kind (k : Nat) (a b : Addr) : (fTc k a b).lookup ("kind" : Str) = some (vi k) := rfl
theorem lk_first (k : Nat) (a b : Addr) : (fTc k a b).lookup ("first" : Str) = some (.ref a) := rfl
theorem lk_second (k : Nat) (a b : Addr) : (fTc k a b).lookup ("second" : Str) = some (.ref b) := rfl

def spLookSet (c : Cl) : Sp := spP fun vs H v => ∃ S s n, vs = [.ref S, .int n] ∧ View c H S s ∧ v = .int (code (settingOf s n))
theorem ok_look_setting (T : Txt K mg c) : Fn P w K mg base 2 "look_setting" ["stock", "setting"] (spLookSet c) := by
  have nd := sc_look_setting.nd
  refine fn_mk T.f_look_setting sc_look_setting (fun _ _ _ _ _ _ us hl => match us, hl with | [_, _], _ => rfl) (fun vs H Q E h => ?_) fun f cdv A outer s H vs Q E hr h => ?_
  · obtain ⟨_, ⟨S, s, n, rfl, _⟩, _⟩ := h
    rfl
  · obtain ⟨_, ⟨S, s, n, rfl, ⟨w, m, lr, lp, as, ps, ts, e1, e2, e3, e4, e5, e6, e7, e8, e9, e10⟩, rfl⟩, k⟩ := h
    refine ⟨_, (pss_one (ps_ret (pe_fn (ok_look_below T) hr (pa_cons (pv 1) (pa_cons (pe_callB call_len_seq rfl T.b_len PySem.boot_len (pa_cons (pe_fld (pv 0) rfl) pa_nil)) (pa_cons (pe_gint T.g_SETTING) pa_nil)))))), ?_⟩
    refine ⟨_, rfl, _, rfl, S, c.ck, m.dS, _, _, rfl, e1, T.k_Stock, T.n_Stock_settings, lk_settings m lr lp, m.lset, _, rfl, .inl (SqL.of e2), _, ⟨_, _, _, rfl, rfl⟩, fun H' sm => ?_⟩
    have e : (as.map V.ref).length = s.settings.length := by rw [List.length_map]; exact Paired.length e7
    rw [e]
    have k' := k H' sm
    unfold settingOf at k'
    rw [code_below] at k'
    exact k'
def spLookPl (c : Cl) : Sp := spP fun vs H v => ∃ S s n, vs = [.ref S, .int n] ∧ View c H S s ∧ v = .int (code (platformOf s n))
theorem ok_look_platform (T : Txt K mg c) : Fn P w K mg base 2 "look_platform" ["stock", "platform"] (spLookPl c) := by
  have nd := sc_look_platform.nd
  refine fn_mk T.f_look_platform sc_look_platform (fun _ _ _ _ _ _ us hl => match us, hl with | [_, _], _ => rfl) (fun vs H Q E h => ?_) fun f cdv A outer s H vs Q E hr h => ?_
  · obtain ⟨_, ⟨S, s, n, rfl, _⟩, _⟩ := h
    rfl
  · obtain ⟨_, ⟨S, s, n, rfl, ⟨w, m, lr, lp, as, ps, ts, e1, e2, e3, e4, e5, e6, e7, e8, e9, e10⟩, rfl⟩, k⟩ := h
    refine ⟨_, (pss_one (ps_ret (pe_fn (ok_look_below T) hr (pa_cons (pv 1) (pa_cons (pe_callB call_len_seq rfl T.b_len PySem.boot_len (pa_cons (pe_fld (pv 0) rfl) pa_nil)) (pa_cons (pe_gint T.g_PLATFORM) pa_nil)))))), ?_⟩
    refine ⟨_, rfl, _, rfl, S, c.ck, m.dS, _, _, rfl, e1, T.k_Stock, T.n_Stock_platforms, lk_platforms m lr lp, m.lpl, _, rfl, .inl (SqL.of e3), _, ⟨_, _, _, rfl, rfl⟩, fun H' sm => ?_⟩
    have e : (ps.map V.ref).length = s.platforms.length := by rw [List.length_map]; exact e8
    rw [e]
    have k' := k H' sm
    unfold platformOf at k'
    rw [code_below] at k'
    exact k'
def spLookTc (c : Cl) : Sp := spP fun vs H v => ∃ S s n, vs = [.ref S, .int n] ∧ View c H S s ∧ v = .int (code (chainOf s n))
theorem ok_look_toolchain (T : Txt K mg c) : Fn P w K mg base 2 "look_toolchain" ["stock", "toolchain"] (spLookTc c) := by
  have nd := sc_look_toolchain.nd
  refine fn_mk T.f_look_toolchain sc_look_toolchain (fun _ _ _ _ _ _ us hl => match us, hl with | [_, _], _ => rfl) (fun vs H Q E h => ?_) fun f cdv A outer s H vs Q E hr h => ?_
  · obtain ⟨_, ⟨S, s, n, rfl, _⟩, _⟩ := h
    rfl
  · obtain ⟨_, ⟨S, s, n, rfl, ⟨w, m, lr, lp, as, ps, ts, e1, e2, e3, e4, e5, e6, e7, e8, e9, e10⟩, rfl⟩, k⟩ := h
    refine ⟨_, (pss_one (ps_ret (pe_fn (ok_look_below T) hr (pa_cons (pv 1) (pa_cons (pe_callB call_len_seq rfl T.b_len PySem.boot_len (pa_cons (pe_fld (pv 0) rfl) pa_nil)) (pa_cons (pe_gint T.g_CHAIN) pa_nil)))))), ?_⟩
    refine ⟨_, rfl, _, rfl, S, c.ck, m.dS, _, _, rfl, e1, T.k_Stock, T.n_Stock_toolchains, lk_toolchains m lr lp, m.ltc, _, rfl, .inl (SqL.of e4), _, ⟨_, _, _, rfl, rfl⟩, fun H' sm => ?_⟩
    have e : (ts.map V.ref).length = s.chains.length := by rw [List.length_map]; exact e9
    rw [e]
    have k' := k H' sm
    unfold chainOf at k'
    rw [code_below] at k'
    exact k'
def spLookKind : Sp := spP fun vs H v => ∃ n, vs = [.int n] ∧ v = .int (code (kindOf n))
theorem ok_look_kind (T : Txt K mg c) : Fn P w K mg base 2 "look_kind" ["kind"] spLookKind := by
  have nd := sc_look_kind.nd
  refine fn_mk T.f_look_kind sc_look_kind (fun _ _ _ _ _ _ us hl => match us, hl with | [_], _ => rfl) (fun vs H Q E h => ?_) fun f cdv A outer s H vs Q E hr h => ?_
  · obtain ⟨_, ⟨n, rfl, _⟩, _⟩ := h
    rfl
  · obtain ⟨_, ⟨n, rfl, rfl⟩, k⟩ := h
    refine ⟨_, (pss_one (ps_ret (pe_fn (ok_look_below T) hr (pa_cons (pv 0) (pa_cons (pe_gint T.g_MOST_KINDS) (pa_cons (pe_gint T.g_KIND) pa_nil)))))), ?_⟩
    refine ⟨_, rfl, _, ⟨_, _, _, rfl, rfl⟩, fun H' sm => ?_⟩
    have k' := k H' sm
    unfold Vabldf.kindOf at k'
    rw [code_below] at k'
    exact k'
end
end TC
end
section
set_option linter.all false
set_option maxRecDepth 100000
set_option Elab.async false
set_option maxHeartbeats 2000000
namespace TC
open PySem PySem.Spec PyProof.Rows L2 Vabldf
/-- a walk over a locked dict's pairs -/
theorem for_items {d : Addr} {o : Obj} {es : List (Key × V)} {g : TG} {tb : TS} {D : Ends} {σ : L2.St} {H : Hp} (Pv : Nat → L2.St → Hp → Prop) (h0 : Pv 0 σ H) (hl : ∀ i σ H, i ≤ es.length → Pv i σ H → H d = some (.frz o (.dK es)))
    (hs : ∀ i k v σ H T, es[i]? = some (k, v) → Pv i σ H → H T = none → g (.ref T) σ (upd H T (.tup [kV k, v])) fun σ2 H2 => tb { D with nx := Pv (i + 1), ct := Pv (i + 1), bk := D.nx } σ2 H2) (hd : ∀ σ H, Pv es.length σ H → D.nx σ H) :
    ∃ W : Nat → Nat → L2.St → Hp → Prop, (∃ m, W 0 m σ H) ∧ ∀ i m σ H, W i m σ H →
      ((Iti d o es).stop i H ∧ D.nx σ H) ∨ ((Iti d o es).go i H ∧ ∃ N : L2.St → Hp → Prop, (∀ σ' H', N σ' H' → ∃ m', m' < m ∧ W (i + 1) m' σ' H') ∧ ∀ x H', (Iti d o es).yld i H x H' → g x σ H' fun σ2 H2 => tb { D with nx := N, ct := N, bk := D.nx } σ2 H2) := by
  refine ⟨fun i m σ H => m = es.length - i ∧ i ≤ es.length ∧ Pv i σ H, ⟨es.length, by simp, Nat.zero_le _, h0⟩, ?_⟩
  rintro i m σ H ⟨rfl, hi, p⟩
  have q := hl i σ H hi p
  by_cases hlt : i < es.length
  · refine .inr ⟨⟨q, hlt⟩, Pv (i + 1), fun σ' H' p' => ⟨es.length - (i + 1), by omega, rfl, hlt, p'⟩, fun x H' y => ?_⟩
    obtain ⟨T, k, v, e1, e2, e3, e4⟩ := y
    subst e2 e4
    exact hs i k v σ H T e1 p e3
  · have e : i = es.length := by omega
    subst e
    exact .inl ⟨⟨q, Nat.le_refl _⟩, hd σ H p⟩
theorem get_ints {ns : List Int} {i : Nat} {y : V} (h : (iv ns)[i]? = some y) : ∃ z, ns[i]? = some z ∧ y = .int z := by
  unfold iv at h
  rw [List.getElem?_map] at h
  cases e : ns[i]? with
  | none => rw [e] at h; cases h
  | some z => rw [e] at h; exact ⟨z, rfl, (Option.some.inj h).symm⟩
theorem get_refs {as : List Addr} {i : Nat} {y : V} (h : (as.map V.ref)[i]? = some y) : ∃ a, as[i]? = some a ∧ y = .ref a := by
  rw [List.getElem?_map] at h
  cases e : as[i]? with
  | none => rw [e] at h; cases h
  | some z => rw [e] at h; exact ⟨z, rfl, (Option.some.inj h).symm⟩
theorem take_snoc {α : Type} {l : List α} {i : Nat} {x : α} (h : l[i]? = some x) : l.take (i + 1) = l.take i ++ [x] := by
  rw [List.take_add_one, h]
  rfl
theorem Paired.at {α β : Type} {F : α → β → Prop} : ∀ {as : List α} {bs : List β} {i : Nat} {a : α}, Paired F as bs → as[i]? = some a → ∃ b, bs[i]? = some b ∧ F a b
  | _, _, _, _, .nil, h => by simp at h
  | _, _, 0, _, .cons r _, h => by simp at h; subst h; exact ⟨_, rfl, r⟩
  | _, _, i + 1, _, .cons _ t, h => by
    obtain ⟨b, h1, h2⟩ := Paired.at (i := i) t (by simpa using h)
    exact ⟨b, by simpa using h1, h2⟩
theorem Paired.to {α β : Type} {F : α → β → Prop} : ∀ {as : List α} {bs : List β} {i : Nat} {b : β}, Paired F as bs → bs[i]? = some b → ∃ a, as[i]? = some a ∧ F a b
  | _, _, _, _, .nil, h => by simp at h
  | _, _, 0, _, .cons r _, h => by simp at h; subst h; exact ⟨_, rfl, r⟩
  | _, _, i + 1, _, .cons _ t, h => by
    obtain ⟨b, h1, h2⟩ := Paired.to (i := i) t (by simpa using h)
    exact ⟨b, by simpa using h1, h2⟩
section
variable {P : Program} {w : World} {K : PySem.W.Frag} {mg : Str → Option Value} {base : Heap} {c : Cl}
/-! ### a list without repeats -/
def spOnce (K : PySem.W.Frag) : Sp := spP fun vs H v => ∃ a ns, vs = [.ref a] ∧ SqL K H a (iv ns) ∧ ns.length ≤ 100 ∧ v = .int (if ns.Nodup then 0 else -7)
theorem ok_look_once (T : Txt K mg c) : Fn P w K mg base 1 "look_once" ["numbers"] (spOnce K) := by
  have nd := sc_look_once.nd
  refine fn_mk T.f_look_once sc_look_once (fun _ _ _ _ _ _ us hl => match us, hl with | [_], _ => rfl) (fun vs H Q E h => ?_) fun f cdv A outer s H vs Q E hr h => ?_
  · obtain ⟨_, ⟨a, ns, rfl, _⟩, _⟩ := h
    rfl
  · obtain ⟨_, ⟨a, ns, rfl, hq, hl, rfl⟩, k⟩ := h
    refine ⟨_, (pss_one (ps_ret (pe_ifExp (pt_cmpR op_eq (pe_callB call_lenS rfl T.b_len PySem.boot_len (pa_cons (pe_callTy (call_setL rfl) rfl T.b_set bt_set (pa_cons (pv 0) pa_nil)) pa_nil)) (pe_callB call_len_seq rfl T.b_len PySem.boot_len (pa_cons (pv 0) pa_nil)) (nomark _)) (pe_gint T.g_ACCEPTED) (pe_gint T.g_TWICE)))), ?_⟩
    refine ⟨_, rfl, a, ns, rfl, hq, by omega, fun p S hp => ⟨p, S, _, rfl, upd_same, _, rfl, a, _, rfl, .inl ((same_upd hp).seq hq), rfl, _, rfl, ?_⟩⟩
    have e : (iv ns).length = ns.length := by unfold iv; rw [List.length_map]
    have d := dedup_len ns
    rw [e]
    refine ite2 (fun h => ?_) (fun h => ?_)
    · have h1 := of_decide_eq_true h
      injection h1 with h1
      rw [if_pos (d.mp (by unfold dedup at h1; omega))] at k
      exact k _ (same_upd hp)
    · rw [if_neg] at k
      · exact k _ (same_upd hp)
      · intro z
        refine h (decide_eq_true ?_)
        have := d.mpr z
        unfold dedup
        rw [this]
/-! ### a list that is looked at -/
def spRow (K : PySem.W.Frag) : Sp := spP fun vs H v => ∃ a ns, ∃ (b : Nat) (r : Int), vs = [.ref a, vi b, .int r] ∧ SqL K H a (iv ns) ∧ ns.length ≤ 100 ∧ r ≠ 0 ∧ v = .int (code (listOf (below r b) ns))
theorem ok_look_row (T : Txt K mg c) : Fn P w K mg base 2 "look_row" ["row", "bound", "refusal"] (spRow K) := by
  have nd := sc_look_row.nd
  refine fn_mk T.f_look_row sc_look_row (fun _ _ _ _ _ _ us hl => match us, hl with | [_, _, _], _ => rfl) (fun vs H Q E h => ?_) fun f cdv A outer s H vs Q E hr h => ?_
  · obtain ⟨_, ⟨a, ns, b, r, rfl, _⟩, _⟩ := h
    rfl
  · obtain ⟨_, ⟨a, ns, b, r, rfl, hq, hl, hr0, rfl⟩, k⟩ := h
    refine ⟨_, (pss_cons (ps_if (pt_cmpR op_gt (pe_callB call_len_seq rfl T.b_len PySem.boot_len (pa_cons (pv 0) pa_nil)) (pe_gint T.g_LONGEST_ROW) (nomark _)) (pss_one (ps_ret (pe_gint T.g_LIMIT))) pss_nil)
      (pss_cons (ps_for PassesOwn.never rfl (pi_list (pv 0)) (pgn 3 nd)
      (pss_one (ps_if (pt_truth (pe_fn (ok_look_below T) hr (pa_cons (pv 3) (pa_cons (pv 1) (pa_cons (pv 2) pa_nil)))) (fun _ => rfl)) (pss_one (ps_ret (pv 2))) pss_nil)))
      (pss_one (ps_ret (pe_fn (ok_look_once T) hr (pa_cons (pv 0) pa_nil)))))), ?_⟩
    have e : (iv ns).length = ns.length := by unfold iv; rw [List.length_map]
    rw [listOf_below] at k
    refine ⟨_, rfl, a, _, rfl, .inl hq, _, _, rfl, rfl, _, rfl, ?_⟩
    rw [e]
    refine ite2 (fun h1 => ?_) (fun h1 => ?_)
    · have h1 := of_decide_eq_true h1
      rw [if_pos (by omega)] at k
      exact k H (Same.refl _)
    · have h1 : ¬ (64 : Int) < ns.length := fun z => h1 (decide_eq_true z)
      rw [if_neg (by omega)] at k
      refine ⟨_, rfl, a, rfl, ⟨_, hq⟩, for_list (K := K) (a := a) (xs := iv ns) (fun i σ H' => ∃ v, σ = [some (.ref a), some (vi b), some (.int r), v] ∧ Same H H' ∧ (ns.take i).all (inR b) = true)
        ⟨none, rfl, Same.refl _, rfl⟩ (fun i σ H' _ ⟨_, _, sm, _⟩ => sm.seq hq) ?_ ?_⟩
      · rintro i y σ H' hi ⟨v, rfl, sm, al⟩
        obtain ⟨z, hz, rfl⟩ := get_ints hi
        refine ⟨_, rfl, _, rfl, _, rfl, _, ⟨z, _, r, rfl, rfl⟩, fun H2 s2 => ⟨_, rfl, ?_⟩⟩
        by_cases hin : 0 ≤ z ∧ z < (b : Int)
        · rw [if_pos hin]
          refine iteF ⟨_, rfl, sm.trans s2, ?_⟩
          rw [take_snoc hz, List.all_append, al]
          show (true && (inR b z && true)) = true
          unfold inR
          rw [decide_eq_true hin]
          rfl
        · rw [if_neg hin]
          have e2 : (r != 0) = true := by simpa using hr0
          rw [e2]
          refine iteT ⟨_, rfl, ?_⟩
          have hno : ¬ ns.all (inR b) = true := fun q => hin (of_decide_eq_true (List.all_eq_true.mp q z (List.mem_of_getElem? hz)))
          rw [if_neg hno] at k
          exact k H2 (sm.trans s2)
      · rintro σ H' ⟨v, rfl, sm, al⟩
        rw [e, List.take_length] at al
        rw [if_pos al] at k
        refine ⟨_, rfl, _, ⟨a, ns, rfl, sm.seq hq, hl, rfl⟩, fun H2 s2 => ?_⟩
        have k' := k H2 (sm.trans s2)
        by_cases hn : ns.Nodup
        · rw [if_pos hn] at k' ⊢
          exact k'
        · rw [if_neg hn] at k' ⊢
          exact k'
def spLookPls (K : PySem.W.Frag) (c : Cl) : Sp := spP fun vs H v => ∃ S s a ns, vs = [.ref S, .ref a] ∧ View c H S s ∧ SqL K H a (iv ns) ∧ ns.length ≤ 100 ∧ v = .int (code (listOf (platformOf s) ns))
theorem ok_look_platforms (T : Txt K mg c) : Fn P w K mg base 3 "look_platforms" ["stock", "row"] (spLookPls K c) := by
  have nd := sc_look_platforms.nd
  refine fn_mk T.f_look_platforms sc_look_platforms (fun _ _ _ _ _ _ us hl => match us, hl with | [_, _], _ => rfl) (fun vs H Q E h => ?_) fun f cdv A outer s H vs Q E hr h => ?_
  · obtain ⟨_, ⟨S, s, a, ns, rfl, _⟩, _⟩ := h
    rfl
  · obtain ⟨_, ⟨S, s, a, ns, rfl, ⟨w, m, lr, lp, as, ps, ts, e1, e2, e3, e4, e5, e6, e7, e8, e9, e10⟩, hq, hl, rfl⟩, k⟩ := h
    refine ⟨_, (pss_one (ps_ret (pe_fn (ok_look_row T) hr (pa_cons (pv 1) (pa_cons (pe_callB call_len_seq rfl T.b_len PySem.boot_len (pa_cons (pe_fld (pv 0) rfl) pa_nil)) (pa_cons (pe_gint T.g_PLATFORM) pa_nil)))))), ?_⟩
    refine ⟨_, rfl, _, rfl, S, c.ck, m.dS, _, _, rfl, e1, T.k_Stock, T.n_Stock_platforms, lk_platforms m lr lp, m.lpl, _, rfl, .inl (SqL.of e3), _, ⟨a, ns, ps.length, -4, by rw [List.length_map], hq, hl, by decide, rfl⟩, fun H' sm => ?_⟩
    rw [e8]
    exact k H' sm
def spLookTcs (K : PySem.W.Frag) (c : Cl) : Sp := spP fun vs H v => ∃ S s a ns, vs = [.ref S, .ref a] ∧ View c H S s ∧ SqL K H a (iv ns) ∧ ns.length ≤ 100 ∧ v = .int (code (listOf (chainOf s) ns))
theorem ok_look_toolchains (T : Txt K mg c) : Fn P w K mg base 3 "look_toolchains" ["stock", "row"] (spLookTcs K c) := by
  have nd := sc_look_toolchains.nd
  refine fn_mk T.f_look_toolchains sc_look_toolchains (fun _ _ _ _ _ _ us hl => match us, hl with | [_, _], _ => rfl) (fun vs H Q E h => ?_) fun f cdv A outer s H vs Q E hr h => ?_
  · obtain ⟨_, ⟨S, s, a, ns, rfl, _⟩, _⟩ := h
    rfl
  · obtain ⟨_, ⟨S, s, a, ns, rfl, ⟨w, m, lr, lp, as, ps, ts, e1, e2, e3, e4, e5, e6, e7, e8, e9, e10⟩, hq, hl, rfl⟩, k⟩ := h
    refine ⟨_, (pss_one (ps_ret (pe_fn (ok_look_row T) hr (pa_cons (pv 1) (pa_cons (pe_callB call_len_seq rfl T.b_len PySem.boot_len (pa_cons (pe_fld (pv 0) rfl) pa_nil)) (pa_cons (pe_gint T.g_CHAIN) pa_nil)))))), ?_⟩
    refine ⟨_, rfl, _, rfl, S, c.ck, m.dS, _, _, rfl, e1, T.k_Stock, T.n_Stock_toolchains, lk_toolchains m lr lp, m.ltc, _, rfl, .inl (SqL.of e4), _, ⟨a, ns, ts.length, -5, by rw [List.length_map], hq, hl, by decide, rfl⟩, fun H' sm => ?_⟩
    rw [e9]
    exact k H' sm
def spLookKinds (K : PySem.W.Frag) : Sp := spP fun vs H v => ∃ a ns, vs = [.ref a] ∧ SqL K H a (iv ns) ∧ ns.length ≤ 100 ∧ v = .int (code (listOf kindOf ns))
theorem ok_look_kinds (T : Txt K mg c) : Fn P w K mg base 3 "look_kinds" ["row"] (spLookKinds K) := by
  have nd := sc_look_kinds.nd
  refine fn_mk T.f_look_kinds sc_look_kinds (fun _ _ _ _ _ _ us hl => match us, hl with | [_], _ => rfl) (fun vs H Q E h => ?_) fun f cdv A outer s H vs Q E hr h => ?_
  · obtain ⟨_, ⟨a, ns, rfl, _⟩, _⟩ := h
    rfl
  · obtain ⟨_, ⟨a, ns, rfl, hq, hl, rfl⟩, k⟩ := h
    refine ⟨_, (pss_one (ps_ret (pe_fn (ok_look_row T) hr (pa_cons (pv 0) (pa_cons (pe_gint T.g_MOST_KINDS) (pa_cons (pe_gint T.g_KIND) pa_nil)))))), ?_⟩
    exact ⟨_, rfl, _, ⟨a, ns, 32, -6, rfl, hq, hl, by decide, rfl⟩, fun H' sm => k H' sm⟩
/-! ### pairs -/
def PairAt (H : Hp) (q : Addr) (x : Int × Int) : Prop := H q = some (.tup [.int x.1, .int x.2])
def spPairs (K : PySem.W.Frag) : Sp := fun vs H Q _ => ∃ a ns, vs = [.ref a] ∧ SqL K H a (iv ns) ∧ ∀ (H' : Hp) (l : Addr) (qs : List Addr), Same H H' → H l = none → H' l = some (.lst (qs.map V.ref)) → Paired (PairAt H') qs (pairsUp ns) → Q (.ref l) H'
theorem zip_pairs (ns : List Int) : (TZ.ev ((iv ns).drop 0)).zip (TZ.ev ((iv ns).drop 1)) = (pairsUp ns).map fun x => (V.int x.1, V.int x.2) := by
  unfold iv
  rw [List.drop_zero, ← List.map_drop, ev_map, ev_map, List.zip_map, ev_zip]
  rfl
theorem paired_map {α β γ : Type} {F : α → γ → Prop} {f : β → γ} : ∀ {as : List α} {bs : List β}, Paired F as (bs.map f) → Paired (fun a b => F a (f b)) as bs
  | _, [], h => by cases h; exact .nil
  | _, b :: bs, h => by
    cases h with
    | cons r t => exact .cons r (paired_map t)
theorem ok_pairs_of (T : Txt K mg c) : Fn P w K mg base 1 "pairs_of" ["row"] (spPairs K) := by
  have nd := sc_pairs_of.nd
  refine fn_mk T.f_pairs_of sc_pairs_of (fun _ _ _ _ _ _ us hl => match us, hl with | [_], _ => rfl) (fun vs H Q E h => ?_) fun f cdv A outer s H vs Q E hr h => ?_
  · obtain ⟨a, ns, rfl, _⟩ := h
    rfl
  · obtain ⟨a, ns, rfl, hq, k⟩ := h
    refine ⟨_, (pss_one (ps_ret (pe_listzip rfl T.b_zip T.b_list (pa_cons (pe_ev0 (pv 0)) (pa_cons (pe_ev1 (pv 0)) pa_nil))))), ?_⟩
    refine ⟨_, rfl, a, _, rfl, hq, fun p hp => ⟨_, rfl, a, _, rfl, (same_upd hp).seq hq, fun p2 hp2 => ?_⟩⟩
    have s1 := same_upd (o := .lst (TZ.ev ((iv ns).drop 0))) hp
    have s2 := same_upd (o := .lst (TZ.ev ((iv ns).drop 1))) hp2
    refine ⟨p, p2, _, _, rfl, SqL.of (s2 _ _ upd_same), SqL.of upd_same, fun l as H2 hl sm e1 e2 => ?_⟩
    rw [zip_pairs] at e2
    exact k H2 l as ((s1.trans s2).trans sm) ((s1.trans s2).free hl) e1 (paired_map (f := fun x : Int × Int => (V.int x.1, V.int x.2)) e2)
end
end TC
end
section
set_option linter.all false
set_option maxRecDepth 100000
set_option Elab.async false
set_option maxHeartbeats 2000000
namespace TC
open PySem PySem.Spec PyProof.Rows L2 Vabldf
section
variable {P : Program} {w : World} {K : PySem.W.Frag} {mg : Str → Option Value} {base : Heap} {c : Cl}
/-! ### the value of a platform -/
def spVal (c : Cl) : Sp := spP fun vs H v => ∃ S s, ∃ p k : Nat, vs = [.ref S, vi p, vi k] ∧ View c H S s ∧ p < s.platforms.length ∧ k < s.settings.length ∧ v = .int (orMinus (valueOf s p k))
theorem ok_value_of (T : Txt K mg c) : Fn P w K mg base 1 "value_of" ["stock", "platform", "setting"] (spVal c) := by
  have nd := sc_value_of.nd
  refine fn_mk T.f_value_of sc_value_of (fun _ _ _ _ _ _ us hl => match us, hl with | [_, _, _], _ => rfl) (fun vs H Q E h => ?_) fun f cdv A outer s H vs Q E hr h => ?_
  · obtain ⟨_, ⟨S, s, p, k, rfl, _⟩, _⟩ := h
    rfl
  · obtain ⟨_, ⟨S, s, p, k, rfl, ⟨w, m, lr, lp, as, ps, ts, e1, e2, e3, e4, e5, e6, e7, e8, e9, e10⟩, hp, hk, rfl⟩, kk⟩ := h
    obtain ⟨pa, hpa⟩ : ∃ a, ps[p]? = some a := ⟨_, List.getElem?_eq_getElem (by omega)⟩
    obtain ⟨kvs, hrd, hval, _⟩ := e10 p pa hpa
    obtain ⟨st, hst⟩ : ∃ x, s.settings[k]? = some x := ⟨_, List.getElem?_eq_getElem hk⟩
    obtain ⟨sa, hsa, dx, hdx⟩ := Paired.to e7 hst
    have i1 : (ps.map V.ref)[p]? = some (.ref pa) := by rw [List.getElem?_map, hpa]; rfl
    have i2 : (as.map V.ref)[k]? = some (.ref sa) := by rw [List.getElem?_map, hsa]; rfl
    refine ⟨_, (pss_one (ps_ret (pe_dget2 (hu_of hr) (pe_ix ix_list (pe_fld (pv 0) rfl) (pv 1) (fun _ _ => rfl)) (pv 2) (pe_fld (pe_ix ix_list (pe_fld (pv 0) rfl) (pv 2) (fun _ _ => rfl)) rfl) ⟨rfl, rfl, rfl, rfl⟩))), ?_⟩
    refine ⟨_, rfl, S, c.ck, m.dS, _, _, rfl, e1, T.k_Stock, T.n_Stock_platforms, lk_platforms m lr lp, _, rfl, m.lpl, _, _, _, rfl, rfl, SqL.of e3, atI_nat i1, pa, rfl, .inl ⟨kvs, hrd⟩, _, rfl,
      _, rfl, S, c.ck, m.dS, _, _, rfl, e1, T.k_Stock, T.n_Stock_settings, lk_settings m lr lp, _, rfl, m.lset, _, _, _, rfl, rfl, SqL.of e2, atI_nat i2, sa, c.cs, dx, _, _, rfl, hdx, T.k_Setting, T.n_Setting_default, lk_default _ _,
      _, .inl ⟨kvs, Sum.inl (k : Int), hrd, rfl, rfl⟩, ?_⟩
    have k' := kk H (Same.refl _)
    have ev : (valV kvs (Sum.inl (k : Int))).getD (.int (orMinus st.default)) = .int (orMinus (valueOf s p k)) := by
      rw [hval k, valueOf_known, hst]
      cases known s p k with
      | some x => rfl
      | none => rfl
    rw [ev]
    exact k'
/-! ### needs -/
def optV : Option Nat → V
  | none => .non
  | some k => vi k
theorem orMinus_in (o : Option Nat) (l : List Nat) : inV (.int (orMinus o)) (nats l) = match o with | some v => l.contains v | none => false := by
  unfold inV nats
  rw [List.any_map]
  cases o with
  | none =>
    show (l.any fun x => ((x : Int) == (-1 : Int))) = false
    rw [List.any_eq_false]
    intro x _ q
    have := eq_of_beq q
    omega
  | some v =>
    show (l.any fun x => ((x : Int) == (v : Int))) = l.contains v
    rw [Bool.eq_iff_iff, List.any_eq_true, List.contains_iff_mem]
    constructor
    · rintro ⟨x, hx, q⟩
      have := eq_of_beq q
      have e : x = v := by omega
      exact e ▸ hx
    · intro hv
      exact ⟨v, hv, by simp⟩
theorem flat_nats (l : List Nat) : (nats l).all flatV = true := by
  unfold nats
  rw [List.all_map]
  exact List.all_eq_true.mpr fun _ _ => rfl
def spUnmet (c : Cl) : Sp := spP fun vs H v => ∃ S s, ∃ (p : Nat) (d : Addr) (need : Pairs), vs = [.ref S, vi p, .ref d] ∧ View c H S s ∧ p < s.platforms.length ∧ NeedAt H d need ∧ PairsOk s need ∧ v = optV (unmet s need p)
theorem ok_unmet_setting (T : Txt K mg c) : Fn P w K mg base 2 "unmet_setting" ["stock", "platform", "need"] (spUnmet c) := by
  have nd := sc_unmet_setting.nd
  refine fn_mk T.f_unmet_setting sc_unmet_setting (fun _ _ _ _ _ _ us hl => match us, hl with | [_, _, _], _ => rfl) (fun vs H Q E h => ?_) fun f cdv A outer s H vs Q E hr h => ?_
  · obtain ⟨_, ⟨S, s, p, d, need, rfl, _⟩, _⟩ := h
    rfl
  · obtain ⟨_, ⟨S, s, p, d, need, rfl, V, hp, ⟨es, hd, hes⟩, hok, rfl⟩, kk⟩ := h
    rw [unmet_eq] at kk
    refine ⟨_, (pss_cons (ps_lock (ps_for PassesOwn.never rfl (pi_items (pv 2)) (pg_tup rfl (pgs_cons (pgn 3 nd) (pgs_cons (pgn 4 nd) pgs_nil)))
      (pss_one (ps_if (pt_cmpR op_notIn_seq (pe_fn (ok_value_of T) hr (pa_cons (pv 0) (pa_cons (pv 1) (pa_cons (pv 3) pa_nil)))) (pv 4) (by with_unfolding_all rfl)) (pss_one (ps_ret (pv 3))) pss_nil))))
      (pss_one (ps_ret pe_non))), ?_⟩
    refine ⟨d, .dK es, hd, True.intro, fun od => ⟨_, rfl, d, od, es, rfl, upd_same, for_items (fun i σ H' => ∃ v3 v4, σ = [some (.ref S), some (vi p), some (.ref d), v3, v4] ∧ Same (upd H d (.frz od (.dK es))) H' ∧ ∀ e ∈ (needOf need).take i, entryMet s p e = true)
      ⟨none, none, rfl, Same.refl _, by simp⟩ (fun i σ H' _ ⟨_, _, _, sm, _⟩ => sm _ _ upd_same) ?_ ?_⟩⟩
    · rintro i k v σ H' T0 hi ⟨v3, v4, rfl, sm, al⟩ hT
      obtain ⟨kv, hkv, e1, a, e2, e3⟩ := Paired.at hes hi
      simp only at e1 e2
      subst e1 e2
      have sT := same_upd (o := .tup [kV (Sum.inl (kv.1 : Int)), .ref a]) hT
      have x1 : Ext H H' := (Ext.lock hd od).trans sm
      have x2 : Ext H (upd H' T0 (.tup [kV (Sum.inl (kv.1 : Int)), .ref a])) := x1.trans sT
      have hm : kv ∈ needOf need := List.mem_of_getElem? hkv
      have hks : kv.1 < s.settings.length := by
        obtain ⟨y, hy, q⟩ : ∃ y ∈ need, y.1 = kv.1 := by
          have h1 : kv.1 ∈ (needOf need).map (·.1) := List.mem_map.mpr ⟨kv, hm, rfl⟩
          have := need_keys need kv.1 h1
          exact this
        obtain ⟨st, h1, _⟩ := hok y hy
        rw [q] at h1
        exact (List.getElem?_eq_some_iff.mp h1).1
      refine ⟨T0, _, rfl, SqT.of upd_same, rfl, _, _, rfl, _, _, rfl, rfl, _, rfl, _, rfl, _, rfl, _, ⟨S, s, p, kv.1, rfl, V.ext x2, hp, hks, rfl⟩, fun H2 s2 => ⟨_, rfl, a, _, rfl, .inl (SqL.of (s2 _ _ (x2.lst e3))), rfl, flat_nats _, _, rfl, ?_⟩⟩
      rw [if_pos (show true = true from rfl), orMinus_in]
      have e4 : (match valueOf s p kv.1 with | some v => kv.2.contains v | none => false) = entryMet s p kv := rfl
      rw [e4]
      cases em : entryMet s p kv with
      | true =>
        refine iteF ⟨_, _, rfl, ?_, ?_⟩
        · exact (sm.trans sT).trans s2
        · intro e he
          rw [take_snoc hkv] at he
          rcases List.mem_append.mp he with q | q
          · exact al e q
          · rw [List.mem_singleton.mp q]; exact em
      | false =>
        refine iteT ⟨_, rfl, s2 _ _ ((sm.trans sT) _ _ upd_same), ?_⟩
        have ef : ((needOf need).find? fun e => !entryMet s p e) = some kv := by
          rw [List.find?_eq_some_iff_append]
          refine ⟨by rw [em]; rfl, (needOf need).take i, (needOf need).drop (i + 1), ?_, fun e he => by rw [al e he]; rfl⟩
          have h1 : (needOf need).drop i = kv :: (needOf need).drop (i + 1) := by
            obtain ⟨h2, h3⟩ := List.getElem?_eq_some_iff.mp hkv
            rw [← h3]
            exact List.drop_eq_getElem_cons h2
          rw [← h1, List.take_append_drop]
        rw [ef] at kk
        refine kk _ fun b o e => ?_
        by_cases hb : b = d
        · subst hb
          rw [upd_same, ← e, hd]
        · rw [upd_ne hb]
          exact s2 _ _ ((sm.trans sT) _ _ (by rw [upd_ne hb]; exact e))
    · rintro σ H' ⟨v3, v4, rfl, sm, al⟩
      refine ⟨sm _ _ upd_same, ?_⟩
      have hlen : es.length = (needOf need).length := Paired.length hes
      rw [hlen, List.take_length] at al
      have ef : ((needOf need).find? fun e => !entryMet s p e) = none := by
        rw [List.find?_eq_none]
        intro e he
        rw [al e he]
        decide
      rw [ef] at kk
      refine kk _ fun b o e => ?_
      by_cases hb : b = d
      · subst hb
        rw [upd_same, ← e, hd]
      · rw [upd_ne hb]
        exact sm _ _ (by rw [upd_ne hb]; exact e)
def spMeets (c : Cl) : Sp := spP fun vs H v => ∃ S s, ∃ (p : Nat) (d : Addr) (need : Pairs), vs = [.ref S, vi p, .ref d] ∧ View c H S s ∧ p < s.platforms.length ∧ NeedAt H d need ∧ PairsOk s need ∧ v = .bl (meets s need p)
theorem ok_meets (T : Txt K mg c) : Fn P w K mg base 3 "meets" ["stock", "platform", "need"] (spMeets c) := by
  have nd := sc_meets.nd
  refine fn_mk T.f_meets sc_meets (fun _ _ _ _ _ _ us hl => match us, hl with | [_, _, _], _ => rfl) (fun vs H Q E h => ?_) fun f cdv A outer s H vs Q E hr h => ?_
  · obtain ⟨_, ⟨S, s, p, d, need, rfl, _⟩, _⟩ := h
    rfl
  · obtain ⟨_, ⟨S, s, p, d, need, rfl, V, hp, hn, hok, rfl⟩, kk⟩ := h
    refine ⟨_, (pss_one (ps_ret (pe_cmpR op_isN (pe_fn (ok_unmet_setting T) hr (pa_cons (pv 0) (pa_cons (pv 1) (pa_cons (pv 2) pa_nil)))) pe_non (nomark _)))), ?_⟩
    refine ⟨_, rfl, _, rfl, _, rfl, _, ⟨S, s, p, d, need, rfl, V, hp, hn, hok, rfl⟩, fun H2 s2 => ⟨rfl, ?_⟩⟩
    have k' := kk H2 s2
    unfold meets at k'
    cases e : unmet s need p with
    | none =>
      rw [e] at k'
      exact k'
    | some k =>
      rw [e] at k'
      exact k'
end
end TC
end
section
set_option linter.all false
set_option maxRecDepth 100000
set_option Elab.async false
set_option maxHeartbeats 2000000
namespace TC
open PySem PySem.Spec PyProof.Rows L2 Vabldf
/-! ### a need's table as it grows -/
def ents (kvs : List (Nat × List Nat)) (bs : List Addr) : List (Key × V) := (kvs.zip bs).map fun x => (Sum.inl (x.1.1 : Int), V.ref x.2)
structure Tab (H1 H' : Hp) (d : Addr) (bs : List Addr) (kvs : List (Nat × List Nat)) : Prop where
  dk : H' d = some (.dK (ents kvs bs))
  len : bs.length = kvs.length
  nd : bs.Nodup
  at_ : ∀ (j : Nat) (b : Addr) (kv : Nat × List Nat), bs[j]? = some b → kvs[j]? = some kv → H1 b = none ∧ H' b = some (.lst (nats kv.2))
theorem ents_keys : ∀ (kvs kvs' : List (Nat × List Nat)) (bs : List Addr), kvs.map (·.1) = kvs'.map (·.1) → ents kvs bs = ents kvs' bs
  | [], [], _, _ => rfl
  | [], _ :: _, _, h => by simp at h
  | _ :: _, [], _, h => by simp at h
  | a :: r, a' :: r', [], _ => by simp [ents]
  | a :: r, a' :: r', b :: bs, h => by
    rw [List.map_cons, List.map_cons] at h
    injection h with h1 h2
    have ih := ents_keys r r' bs h2
    show ((Sum.inl (a.1 : Int), V.ref b) : Key × V) :: ents r bs = (Sum.inl (a'.1 : Int), V.ref b) :: ents r' bs
    rw [ih, h1]
theorem ents_snoc : ∀ (kvs : List (Nat × List Nat)) (bs : List Addr) (kv : Nat × List Nat) (b : Addr), bs.length = kvs.length → ents (kvs ++ [kv]) (bs ++ [b]) = ents kvs bs ++ [(Sum.inl (kv.1 : Int), V.ref b)]
  | [], [], kv, b, _ => rfl
  | [], _ :: _, _, _, h => by simp at h
  | _ :: _, [], _, _, h => by simp at h
  | a :: r, x :: bs, kv, b, h => by
    have ih := ents_snoc r bs kv b (by simpa using h)
    show ((Sum.inl (a.1 : Int), V.ref x) : Key × V) :: ents (r ++ [kv]) (bs ++ [b]) = (Sum.inl (a.1 : Int), V.ref x) :: (ents r bs ++ [(Sum.inl (kv.1 : Int), V.ref b)])
    rw [ih]
theorem ents_val : ∀ (kvs : List (Nat × List Nat)) (bs : List Addr) (k : Nat), bs.length = kvs.length →
    (∀ v, valV (ents kvs bs) (Sum.inl (k : Int)) = some v → ∃ (j : Nat) (b : Addr) (kv : Nat × List Nat), bs[j]? = some b ∧ kvs[j]? = some kv ∧ kv.1 = k ∧ v = .ref b) ∧
    (valV (ents kvs bs) (Sum.inl (k : Int)) = none → k ∉ kvs.map (·.1))
  | [], [], k, _ => ⟨fun v h => (by cases h), fun _ => by simp⟩
  | [], _ :: _, _, h => by simp at h
  | _ :: _, [], _, h => by simp at h
  | a :: r, x :: bs, k, h => by
    obtain ⟨i1, i2⟩ := ents_val r bs k (by simpa using h)
    have e : ents (a :: r) (x :: bs) = (Sum.inl (a.1 : Int), V.ref x) :: ents r bs := rfl
    rw [e]
    by_cases hk : a.1 = k
    · have hp : valV (((Sum.inl (a.1 : Int), V.ref x) : Key × V) :: ents r bs) (Sum.inl (k : Int)) = some (V.ref x) := valV_pos (by rw [hk])
      rw [hp]
      refine ⟨fun v hv => ⟨0, x, a, rfl, rfl, hk, (Option.some.inj hv).symm⟩, fun hn => by cases hn⟩
    · have hp : valV (((Sum.inl (a.1 : Int), V.ref x) : Key × V) :: ents r bs) (Sum.inl (k : Int)) = valV (ents r bs) (Sum.inl (k : Int)) := valV_neg (fun z => hk (by
        injection z with z
        omega))
      rw [hp]
      refine ⟨fun v hv => ?_, fun hn => ?_⟩
      · obtain ⟨j, b, kv, e1, e2, e3, e4⟩ := i1 v hv
        exact ⟨j + 1, b, kv, by simpa using e1, by simpa using e2, e3, e4⟩
      · rw [List.map_cons, List.mem_cons]
        rintro (z | z)
        · exact hk z.symm
        · exact i2 hn z
theorem ents_length (kvs : List (Nat × List Nat)) (bs : List Addr) (h : bs.length = kvs.length) : (ents kvs bs).length = kvs.length := by
  unfold ents
  rw [List.length_map, List.length_zip, h, Nat.min_self]
theorem tab_paired {H1 H' : Hp} {d : Addr} : ∀ {bs : List Addr} {kvs : List (Nat × List Nat)}, bs.length = kvs.length → (∀ (j : Nat) (b : Addr) (kv : Nat × List Nat), bs[j]? = some b → kvs[j]? = some kv → H1 b = none ∧ H' b = some (.lst (nats kv.2))) → Paired (Ent H') (ents kvs bs) kvs
  | [], [], _, _ => .nil
  | [], _ :: _, h, _ => by simp at h
  | _ :: _, [], h, _ => by simp at h
  | b :: bs, kv :: kvs, h, f => by
    refine .cons ⟨rfl, b, rfl, (f 0 b kv rfl rfl).2⟩ ?_
    exact tab_paired (H1 := H1) (d := d) (by simpa using h) fun j b' kv' e1 e2 => f (j + 1) b' kv' (by simpa using e1) (by simpa using e2)
/-- a value is put to the alternatives of a setting that is there -/
theorem Tab.more {H1 H' : Hp} {d : Addr} {bs : List Addr} {kvs : List (Nat × List Nat)} (t : Tab H1 H' d bs kvs) (hnd : (kvs.map (·.1)).Nodup) {j : Nat} {b : Addr} {kv : Nat × List Nat} (hb : bs[j]? = some b) (hkv : kvs[j]? = some kv) (v : Nat) {H3 : Hp} (hbd : b ≠ d)
    (e1 : H3 b = some (.lst (nats kv.2 ++ [vi v]))) (e2 : ∀ x o, H' x = some o → x ≠ b → H3 x = some o) : Tab H1 H3 d bs (putN kvs kv.1 v) := by
  have hm : kv.1 ∈ kvs.map (·.1) := List.mem_map.mpr ⟨kv, List.mem_of_getElem? hkv, rfl⟩
  have ek : (putN kvs kv.1 v).map (·.1) = kvs.map (·.1) := by rw [putN_keys, if_pos hm]
  have ep : putN kvs kv.1 v = kvs.map (fun e => if e.1 = kv.1 then (e.1, e.2 ++ [v]) else e) := by
    unfold putN
    rw [if_pos]
    exact List.any_eq_true.mpr ⟨kv, List.mem_of_getElem? hkv, by simp⟩
  refine ⟨?_, ?_, t.nd, fun i x e hx he => ?_⟩
  · rw [ents_keys _ _ _ ek]
    exact e2 d _ t.dk (Ne.symm hbd)
  · have := congrArg List.length ek
    rw [List.length_map, List.length_map] at this
    rw [this]
    exact t.len
  · rw [ep, List.getElem?_map] at he
    obtain ⟨e0, h0, h1⟩ := Option.map_eq_some_iff.mp he
    obtain ⟨f1, f2⟩ := t.at_ i x e0 hx h0
    refine ⟨f1, ?_⟩
    by_cases hi : i = j
    · subst hi
      rw [hkv] at h0
      cases h0
      rw [hb] at hx
      cases hx
      rw [if_pos rfl] at h1
      rw [← h1, e1]
      show some (HO.lst (nats kv.2 ++ [vi v])) = some (HO.lst (nats (kv.2 ++ [v])))
      unfold nats
      rw [List.map_append]
      rfl
    · have hne : ¬ e0.1 = kv.1 := fun z => by
        have a1 : (kvs.map (·.1))[i]? = some kv.1 := by rw [List.getElem?_map, h0]; exact congrArg some z
        have a2 : (kvs.map (·.1))[j]? = some kv.1 := by rw [List.getElem?_map, hkv]; rfl
        obtain ⟨q1, q2⟩ := List.getElem?_eq_some_iff.mp a1
        obtain ⟨q3, q4⟩ := List.getElem?_eq_some_iff.mp a2
        exact hi ((List.getElem_inj hnd).mp (q2.trans q4.symm))
      rw [if_neg hne] at h1
      subst h1
      refine e2 x _ f2 fun z => ?_
      subst z
      obtain ⟨q1, q2⟩ := List.getElem?_eq_some_iff.mp hx
      obtain ⟨q3, q4⟩ := List.getElem?_eq_some_iff.mp hb
      exact hi ((List.getElem_inj t.nd).mp (q2.trans q4.symm))
/-- a setting that is not there yet -/
theorem Tab.new {H1 H' : Hp} {d : Addr} {bs : List Addr} {kvs : List (Nat × List Nat)} (t : Tab H1 H' d bs kvs) {k : Nat} (hk : k ∉ kvs.map (·.1)) (v : Nat) {e : Addr} {H3 : Hp} (he : H' e = none) (he1 : H1 e = none)
    (e0 : H3 d = some (.dK (ents kvs bs ++ [(Sum.inl (k : Int), .ref e)]))) (e1 : H3 e = some (.lst [vi v])) (e2 : ∀ x o, H' x = some o → x ≠ d → H3 x = some o) : Tab H1 H3 d (bs ++ [e]) (putN kvs k v) := by
  have ep : putN kvs k v = kvs ++ [(k, [v])] := by
    unfold putN
    rw [if_neg]
    intro z
    obtain ⟨x, hx, q⟩ := List.any_eq_true.mp z
    exact hk (List.mem_map.mpr ⟨x, hx, of_decide_eq_true q⟩)
  have nb : ∀ (j : Nat) (b : Addr), bs[j]? = some b → ∃ kv, kvs[j]? = some kv ∧ H1 b = none ∧ H' b = some (.lst (nats kv.2)) := fun j b hb => by
    have hl : j < kvs.length := by rw [← t.len]; exact (List.getElem?_eq_some_iff.mp hb).1
    exact ⟨kvs[j], List.getElem?_eq_getElem hl, t.at_ j b _ hb (List.getElem?_eq_getElem hl)⟩
  rw [ep]
  refine ⟨?_, ?_, ?_, fun j b kv hb hkv => ?_⟩
  · rw [ents_snoc _ _ _ _ t.len]
    exact e0
  · rw [List.length_append, List.length_append, t.len]
    rfl
  · refine List.nodup_append.mpr ⟨t.nd, by simp, fun x hx y hy => ?_⟩
    rw [List.mem_singleton.mp hy]
    intro z
    obtain ⟨j, hj⟩ := List.mem_iff_getElem?.mp hx
    obtain ⟨kv, _, _, q⟩ := nb j x hj
    rw [z, he] at q
    cases q
  · rcases get_snoc hb with q | ⟨q1, q2⟩
    · obtain ⟨kv0, h0, h1, h2⟩ := nb j b q
      have : kv = kv0 := by
        rw [get_old h0] at hkv
        exact (Option.some.inj hkv).symm
      subst this
      refine ⟨h1, e2 b _ h2 fun z => ?_⟩
      rw [z, t.dk] at h2
      cases h2
    · subst q1 q2
      rw [t.len, List.getElem?_append_right (Nat.le_refl _), Nat.sub_self] at hkv
      have : kv = (k, [v]) := (Option.some.inj hkv).symm
      subst this
      exact ⟨he1, e1⟩
theorem need_alts (l : Pairs) : ∀ e ∈ needOf l, e.2.length ≤ l.length := by
  have go : ∀ (l : Pairs) (acc : List (Nat × List Nat)) (n : Nat), (∀ e ∈ acc, e.2.length ≤ n) → ∀ e ∈ l.foldl (fun acc x => putN acc x.1 x.2) acc, e.2.length ≤ n + l.length := by
    intro l
    induction l with
    | nil => intro acc n h e he; exact h e he
    | cons x r ih =>
      intro acc n h e he
      rw [List.foldl_cons] at he
      have := ih (putN acc x.1 x.2) (n + 1) (fun e' he' => ?_) e he
      · rw [List.length_cons]; omega
      · unfold putN at he'
        split at he'
        · obtain ⟨e0, m0, q0⟩ := List.mem_map.mp he'
          have := h e0 m0
          split at q0
          · subst q0
            rw [List.length_append, List.length_singleton]; omega
          · subst q0; omega
        · rcases List.mem_append.mp he' with q | q
          · have := h e' q; omega
          · rw [List.mem_singleton.mp q, List.length_singleton]; omega
  intro e he
  have := go l [] 0 (by simp) e he
  omega
section
variable {P : Program} {w : World} {K : PySem.W.Frag} {mg : Str → Option Value} {base : Heap} {c : Cl}
def intPair (x : Nat × Nat) : Int × Int := ((x.1 : Int), (x.2 : Int))
/-- what is new in a heap -/
def newp (H H' : Hp) : Hp := fun b => match H b with
  | none => H' b
  | some _ => none
theorem newp_at {H H' : Hp} {b : Addr} {o : HO} (h : H b = none) (e : H' b = some o) : newp H H' b = some o := by
  unfold newp
  rw [h]
  exact e
theorem newp_of {H H' : Hp} {b : Addr} {o : HO} (h : newp H H' b = some o) : H b = none ∧ H' b = some o := by
  unfold newp at h
  cases e : H b with
  | none => rw [e] at h; exact ⟨rfl, h⟩
  | some u => rw [e] at h; cases h
theorem newp_same {H H' : Hp} : Same (newp H H') H' := fun b o h => (newp_of h).2
def spNeed (K : PySem.W.Frag) : Sp := fun vs H Q _ => ∃ a ns, ∃ prs : Pairs, vs = [.ref a] ∧ SqL K H a (iv ns) ∧ pairsUp ns = prs.map intPair ∧ prs.length ≤ 100 ∧ ∀ (H' : Hp) (d : Addr), Same H H' → H d = none → NeedAt (newp H H') d prs → Q (.ref d) H'
theorem ok_need_of (T : Txt K mg c) : Fn P w K mg base 2 "need_of" ["row"] (spNeed K) := by
  have nd := sc_need_of.nd
  refine fn_mk T.f_need_of sc_need_of (fun _ _ _ _ _ _ us hl => match us, hl with | [_], _ => rfl) (fun vs H Q E h => ?_) fun f cdv A outer s H vs Q E hr h => ?_
  · obtain ⟨a, ns, prs, rfl, _⟩ := h
    rfl
  · obtain ⟨a, ns, prs, rfl, hq, hprs, hl, k⟩ := h
    refine ⟨_, (pss_cons (pset 1 nd pe_dnewK)
      (pss_cons (ps_for PassesOwn.never rfl (pi_list (pe_fn (ok_pairs_of T) hr (pa_cons (pv 0) pa_nil))) (pg_tup rfl (pgs_cons (pgn 2 nd) (pgs_cons (pgn 3 nd) pgs_nil)))
      (pss_one (ps_expr (pe_bm PySem.F.plainAttrs_list PySem.F.slot_list_append PySem.F.type_list_append mt_append (pe_bm PySem.F.plainAttrs_dict PySem.F.slot_dict_setdefault PySem.F.type_dict_setdefault mt_setdefault (pv 1) (pa_cons (pv 2) (pa_cons (pe_lst pa_nil) pa_nil))) (pa_cons (pv 3) pa_nil)))))
      (pss_one (ps_ret (pv 1))))), ?_⟩
    intro d hd
    have s0 := same_upd (o := .dK []) hd
    refine ⟨_, rfl, a, ns, rfl, s0.seq hq, fun H1 l qs sm hln e1 e2 => ⟨l, rfl, ⟨_, SqL.of e1⟩, for_list (K := K) (a := l) (xs := qs.map V.ref)
      (fun i σ H' => ∃ v2 v3 bs, σ = [some (.ref a), some (.ref d), v2, v3] ∧ (∀ x o, H1 x = some o → x ≠ d → H' x = some o) ∧ Tab H1 H' d bs (needOf (prs.take i))) ?_ ?_ ?_ ?_⟩⟩
    · exact ⟨none, none, [], rfl, fun x o e _ => e, sm _ _ upd_same, rfl, List.nodup_nil, fun j b kv hb _ => by simp at hb⟩
    · rintro i σ H' _ ⟨v2, v3, bs, _, kp, t⟩
      refine SqL.of (kp l _ e1 fun z => ?_)
      rw [z, sm _ _ upd_same] at e1
      cases e1
    · rintro i y σ H' hi ⟨v2, v3, bs, rfl, kp, t⟩
      obtain ⟨q, hqi, rfl⟩ := get_refs hi
      obtain ⟨xy, hxy, hpa⟩ := Paired.at e2 hqi
      rw [hprs, List.getElem?_map] at hxy
      obtain ⟨pr, hpr, rfl⟩ := Option.map_eq_some_iff.mp hxy
      have hq' : H' q = some (.tup [vi pr.1, vi pr.2]) := kp q _ hpa fun z => by
        rw [z] at hpa
        have := sm _ _ (upd_same (H := H) (a := d) (o := .dK []))
        unfold PairAt at hpa
        rw [this] at hpa
        cases hpa
      have eneed : needOf (prs.take (i + 1)) = putN (needOf (prs.take i)) pr.1 pr.2 := by rw [take_snoc hpr, needOf_snoc]
      have hkl : (needOf (prs.take i)).length ≤ 100 := by
        have h1 := needOf_length (prs.take i)
        have h2 : (prs.take i).length ≤ prs.length := by rw [List.length_take]; exact Nat.min_le_right _ _
        omega
      have hsay := says_needOf (prs.take i)
      refine ⟨q, _, rfl, SqT.of hq', rfl, _, _, rfl, _, _, rfl, rfl, _, rfl, .inr (.inr (.inl ⟨rfl, .inl ⟨_, t.dk⟩⟩)), _, rfl, Nat.zero_le _, fun e he => ?_⟩
      have hed : d ≠ e := ne_of_none t.dk he
      have dk2 : upd H' e (.lst []) d = some (.dK (ents (needOf (prs.take i)) bs)) := by rw [upd_ne hed]; exact t.dk
      obtain ⟨v1, v2'⟩ := ents_val (needOf (prs.take i)) bs pr.1 t.len
      have H1e : H1 e = none := by
        cases ee : H1 e with
        | none => rfl
        | some o => rw [kp e o ee (Ne.symm hed)] at he; cases he
      refine ⟨d, _, Sum.inl (pr.1 : Int), .ref e, rfl, rfl, dk2, by rw [ents_length _ _ t.len, sizeLine_eq]; omega, fun v hv => ?_, fun hn => ?_⟩
      · obtain ⟨j, b, kv, hb, hkv, hk1, rfl⟩ := v1 v hv
        obtain ⟨b1, b2⟩ := t.at_ j b kv hb hkv
        have hbe : b ≠ e := ne_of_none b2 he
        have b3 : upd H' e (.lst []) b = some (.lst (nats kv.2)) := by rw [upd_ne hbe]; exact b2
        have hbd : b ≠ d := fun z => by rw [z, t.dk] at b2; cases b2
        have hal : kv.2.length ≤ 100 := by
          have h1 := need_alts (prs.take i) kv (List.mem_of_getElem? hkv)
          have h2 : (prs.take i).length ≤ prs.length := by rw [List.length_take]; exact Nat.min_le_right _ _
          omega
        refine ⟨.inl ⟨rfl, _, SqL.of b3⟩, _, rfl, b, _, _, rfl, rfl, b3, by unfold nats; rw [List.length_map, sizeLine_eq]; omega, _, _, bs, rfl, fun x o hx hxd => ?_, ?_⟩
        · have hxb : x ≠ b := fun z => by rw [z, b1] at hx; cases hx
          have hxe : x ≠ e := fun z => by rw [z, H1e] at hx; cases hx
          rw [upd_ne hxb, upd_ne hxe]
          exact kp x o hx hxd
        · rw [eneed, ← hk1]
          refine t.more hsay.1 hb hkv pr.2 hbd upd_same fun x o hx hxb => ?_
          rw [upd_ne hxb, upd_ne (ne_of_none hx he)]
          exact hx
      · have hk := v2' hn
        have e3 : upd (upd H' e (.lst [])) d (.dK (putK (ents (needOf (prs.take i)) bs) (Sum.inl (pr.1 : Int)) (.ref e))) e = some (.lst []) := by rw [upd_ne (Ne.symm hed), upd_same]
        refine ⟨.inl ⟨rfl, _, SqL.of e3⟩, _, rfl, e, _, _, rfl, rfl, e3, by rw [List.length_nil, sizeLine_eq]; omega, _, _, bs ++ [e], rfl, fun x o hx hxd => ?_, ?_⟩
        · have hxe : x ≠ e := fun z => by rw [z, H1e] at hx; cases hx
          rw [upd_ne hxe, upd_ne hxd, upd_ne hxe]
          exact kp x o hx hxd
        · rw [eneed]
          refine t.new hk pr.2 he H1e ?_ upd_same fun x o hx hxd => ?_
          · rw [upd_ne hed, upd_same, putK_new _ hn]
          · have hxe : x ≠ e := ne_of_none hx he
            rw [upd_ne hxe, upd_ne hxd, upd_ne hxe]
            exact hx
    · rintro σ H' ⟨v2, v3, bs, rfl, kp, t⟩
      have hlen : (qs.map V.ref).length = prs.length := by
        rw [List.length_map, Paired.length e2, hprs, List.length_map]
      rw [hlen, List.take_length] at t
      refine ⟨_, rfl, k H' d (fun x o hx => ?_) hd ⟨_, newp_at hd t.dk, tab_paired (H1 := H1) (d := d) t.len fun j b kv q1 q2 => ?_⟩⟩
      · exact kp x o (sm _ _ (s0 _ _ hx)) fun z => by rw [z, hd] at hx; cases hx
      · obtain ⟨q3, q4⟩ := t.at_ j b kv q1 q2
        exact ⟨q3, newp_at ((s0.trans sm).free q3) q4⟩
end
end TC
end
section
set_option linter.all false
set_option maxRecDepth 100000
set_option Elab.async false
set_option maxHeartbeats 2000000
namespace TC
open PySem PySem.Spec PyProof.Rows L2 Vabldf
theorem firstBad_at (s : State) : ∀ (l : List (Int × Int)) (i : Nat) (x : Int × Int), (∀ y ∈ l.take i, pairCode s y = 0) → l[i]? = some x → pairCode s x ≠ 0 → firstBad s l = pairCode s x
  | [], i, x, _, h, _ => by simp at h
  | a :: r, 0, x, _, h, hn => by
    have e : a = x := Option.some.inj h
    subst e
    unfold firstBad
    rw [if_neg hn]
  | a :: r, i + 1, x, hz, h, hn => by
    unfold firstBad
    rw [if_pos (hz a (by simp))]
    exact firstBad_at s r i x (fun y hy => hz y (by simp [hy])) (by simpa using h) hn
theorem firstBad_all (s : State) : ∀ (l : List (Int × Int)), (∀ y ∈ l, pairCode s y = 0) → firstBad s l = 0
  | [], _ => rfl
  | a :: r, h => by
    unfold firstBad
    rw [if_pos (h a List.mem_cons_self)]
    exact firstBad_all s r fun y hy => h y (List.mem_cons_of_mem _ hy)
section
variable {P : Program} {w : World} {K : PySem.W.Frag} {mg : Str → Option Value} {base : Heap} {c : Cl}
def spLookPairs (K : PySem.W.Frag) (c : Cl) : Sp := spP fun vs H v => ∃ S s a ns, vs = [.ref S, .ref a] ∧ View c H S s ∧ SqL K H a (iv ns) ∧ ns.length ≤ 100 ∧ v = .int (code (pairsOf s ns))
theorem ok_look_pairs (T : Txt K mg c) : Fn P w K mg base 3 "look_pairs" ["stock", "row"] (spLookPairs K c) := by
  have nd := sc_look_pairs.nd
  refine fn_mk T.f_look_pairs sc_look_pairs (fun _ _ _ _ _ _ us hl => match us, hl with | [_, _], _ => rfl) (fun vs H Q E h => ?_) fun f cdv A outer s H vs Q E hr h => ?_
  · obtain ⟨_, ⟨S, s, a, ns, rfl, _⟩, _⟩ := h
    rfl
  · obtain ⟨_, ⟨S, s, a, ns, rfl, Vw, hq, hl, rfl⟩, k⟩ := h
    refine ⟨_, (pss_cons (ps_if (PW.pt (pw_or (pt_cmpR op_gt (pe_callB call_len_seq rfl T.b_len PySem.boot_len (pa_cons (pv 1) pa_nil)) (pe_gint T.g_LONGEST_ROW) (nomark _)) (pw_or1 (pt_cmpR op_eq (pe_op op_mod (pe_callB call_len_seq rfl T.b_len PySem.boot_len (pa_cons (pv 1) pa_nil)) pe_int) pe_int (nomark _))))) (pss_one (ps_ret (pe_gint T.g_LIMIT))) pss_nil)
      (pss_cons (ps_for PassesOwn.never rfl (pi_list (pe_fn (ok_pairs_of T) hr (pa_cons (pv 1) pa_nil))) (pg_tup rfl (pgs_cons (pgn 2 nd) (pgs_cons (pgn 3 nd) pgs_nil)))
      (pss_cons (pset 4 nd (pe_orI (pe_fn (ok_look_setting T) hr (pa_cons (pv 0) (pa_cons (pv 2) pa_nil))) (pe_one (pe_fn (ok_look_below T) hr (pa_cons (pv 3) (pa_cons (pe_fld (pe_ix ix_list (pe_fld (pv 0) rfl) (pv 2) (fun _ _ => rfl)) rfl) (pa_cons (pe_gint T.g_VALUE) pa_nil)))))))
      (pss_one (ps_if (pt_truth (pv 4) (fun _ => rfl)) (pss_one (ps_ret (pv 4))) pss_nil))))
      (pss_one (ps_ret (pe_gint T.g_ACCEPTED))))), ?_⟩
    have e : (iv ns).length = ns.length := by unfold iv; rw [List.length_map]
    rw [pairsOf_eq] at k
    have main : ¬ (64 < ns.length ∨ ns.length % 2 = 1) → ∀ D : Ends, D.rt = Q → tSeq (tFor (iList K (tFn (spPairs K) (tCons (tVar 1) tNil))) (gTup K 2 (gCons (gName 2) (gCons (gName 3) gNil)))
        (tSeq (tAsg (tOrI (tFn (spLookSet c) (tCons (tVar 0) (tCons (tVar 2) tNil))) (tFn spBelow (tCons (tVar 3) (tCons (tFld K (tOp (rIxL K) (tFld K (tVar 0) "settings") (tVar 2)) "count") (tCons (tC (.int (-3))) tNil))))) (gName 4))
          (tIfS (fun σ H Q => tVar 4 σ H fun x H' => ∃ k, TruV K x H' k ∧ Q k H') (tRet (tVar 4)) tNext))) (tRet (tC (.int 0))) D [some (.ref S), some (.ref a), none, none, none] H := by
      intro hno D hD
      rw [if_neg hno] at k
      refine ⟨_, rfl, a, ns, rfl, hq, fun H1 l qs sm hln e1 e2 => ⟨l, rfl, ⟨_, SqL.of e1⟩, for_list (K := K) (a := l) (xs := qs.map V.ref)
        (fun i σ H' => ∃ v2 v3 v4, σ = [some (.ref S), some (.ref a), v2, v3, v4] ∧ Same H1 H' ∧ ∀ x ∈ (pairsUp ns).take i, pairCode s x = 0) ⟨none, none, none, rfl, Same.refl _, by simp⟩ (fun i σ H' _ ⟨_, _, _, _, s1, _⟩ => SqL.of (s1 _ _ e1)) ?_ ?_⟩⟩
      · rintro i y σ H' hi ⟨v2, v3, v4, rfl, s1, al⟩
        obtain ⟨q, hqi, rfl⟩ := get_refs hi
        obtain ⟨x, hx, hpa⟩ := Paired.at e2 hqi
        have sH : Same H H' := sm.trans s1
        refine ⟨q, _, rfl, SqT.of (s1 _ _ hpa), rfl, _, _, rfl, _, _, rfl, rfl, _, rfl, _, rfl, _, ⟨S, s, x.1, rfl, Vw.same sH, rfl⟩, fun H2 s2 => ⟨_, rfl, fun h0 => ?_, fun hn => ?_⟩⟩
        · obtain ⟨w, m, lr, lp, as, ps, ts, f1, f2, f3, f4, f5, f6, f7, f8, f9, f10⟩ := Vw.same (sH.trans s2)
          unfold settingOf at h0
          rw [code_below] at h0
          have hin : 0 ≤ x.1 ∧ x.1 < (s.settings.length : Int) := by
            by_cases z : 0 ≤ x.1 ∧ x.1 < (s.settings.length : Int)
            · exact z
            · rw [if_neg z] at h0
              exact absurd h0 (by decide)
          obtain ⟨st, hst⟩ : ∃ st, s.settings[x.1.toNat]? = some st := ⟨_, List.getElem?_eq_getElem (by omega)⟩
          obtain ⟨sa, hsa, dx, hdx⟩ := Paired.to f7 hst
          have i2 : (as.map V.ref)[x.1.toNat]? = some (.ref sa) := by rw [List.getElem?_map, hsa]; rfl
          refine ⟨_, rfl, _, rfl, S, c.ck, m.dS, _, _, rfl, f1, T.k_Stock, T.n_Stock_settings, lk_settings m lr lp, _, rfl, m.lset, _, _, _, rfl, rfl, SqL.of f2, at_of (j := x.1.toNat) (by omega) i2, sa, c.cs, dx, _, _, rfl, hdx, T.k_Setting, T.n_Setting_count, lk_count _ _,
            _, ⟨x.2, _, _, rfl, rfl⟩, fun H3 s3 => ⟨_, rfl, _, rfl, ?_⟩⟩
          have ec : pairCode s x = if 0 ≤ x.2 ∧ x.2 < ((st.count : Nat) : Int) then 0 else -3 := by
            unfold pairCode inR
            rw [decide_eq_true hin, if_pos rfl]
            have e5 : countAt s x.1.toNat = st.count := by unfold countAt; rw [hst]; rfl
            rw [e5]
            by_cases z : 0 ≤ x.2 ∧ x.2 < ((st.count : Nat) : Int)
            · rw [decide_eq_true z, if_pos rfl, if_pos z]
            · rw [decide_eq_false z, if_neg (by decide), if_neg z]; rfl
          by_cases z : 0 ≤ x.2 ∧ x.2 < ((st.count : Nat) : Int)
          · rw [if_pos z] at ec ⊢
            refine iteF ⟨_, _, _, rfl, (s1.trans s2).trans s3, fun y hy => ?_⟩
            rw [take_snoc hx] at hy
            rcases List.mem_append.mp hy with t | t
            · exact al y t
            · rw [List.mem_singleton.mp t]; exact ec
          · rw [if_neg z] at ec ⊢
            refine iteT ⟨_, rfl, ?_⟩
            have ef := firstBad_at s (pairsUp ns) i x al hx (by rw [ec]; decide)
            rw [ef, ec, if_neg (by decide)] at k
            show D.rt _ _
            rw [hD]
            exact k H3 ((sH.trans s2).trans s3)
        · unfold settingOf at hn ⊢
          rw [code_below] at hn ⊢
          have hout : ¬ (0 ≤ x.1 ∧ x.1 < (s.settings.length : Int)) := fun z => by
            rw [if_pos z] at hn
            exact hn rfl
          rw [if_neg hout]
          have ec : pairCode s x = -2 := by
            unfold pairCode inR
            rw [decide_eq_false hout, if_neg (by decide)]
            rfl
          refine ⟨_, rfl, _, rfl, iteT ⟨_, rfl, ?_⟩⟩
          have ef := firstBad_at s (pairsUp ns) i x al hx (by rw [ec]; decide)
          rw [ef, ec, if_neg (by decide)] at k
          show D.rt _ _
          rw [hD]
          exact k H2 (sH.trans s2)
      · rintro σ H' ⟨v2, v3, v4, rfl, s1, al⟩
        have hlen : (qs.map V.ref).length = (pairsUp ns).length := by rw [List.length_map, Paired.length e2]
        rw [hlen, List.take_length] at al
        rw [firstBad_all s _ al, if_pos rfl] at k
        show D.rt _ _
        rw [hD]
        exact k H' (sm.trans s1)
    refine ⟨_, rfl, a, _, rfl, .inl hq, _, _, rfl, rfl, _, rfl, ?_⟩
    rw [e]
    refine ite2 (fun h1 => ?_) (fun h1 => ?_)
    · have h1 := of_decide_eq_true h1
      rw [if_pos (.inl (by omega))] at k
      exact iteT (k H (Same.refl _))
    · have h1 : ¬ (64 : Int) < ns.length := fun z => h1 (decide_eq_true z)
      refine ⟨_, rfl, a, _, rfl, .inl hq, _, _, rfl, rfl, (by show (0 : Int) < 2; decide), rfl, _, rfl, ?_⟩
      rw [e]
      by_cases h2 : ns.length % 2 = 1
      · have e3 : decide (V.int ((ns.length : Int) % 2) = V.int 1) = true := decide_eq_true (by congr 1; omega)
        rw [e3]
        rw [if_pos (.inr h2)] at k
        exact iteT (k H (Same.refl _))
      · have e3 : decide (V.int ((ns.length : Int) % 2) = V.int 1) = false := decide_eq_false (fun z => by injection z with z; omega)
        rw [e3]
        exact iteF (main (by omega) _ rfl)
end
end TC
end
section
set_option linter.all false
set_option maxRecDepth 100000
set_option Elab.async false
set_option maxHeartbeats 2000000
namespace TC
open PySem PySem.Spec PyProof.Rows L2 Vabldf
section
variable {P : Program} {w : World} {K : PySem.W.Frag} {mg : Str → Option Value} {base : Heap} {c : Cl}
def ownCode (s : State) (ns : List Int) : Int := if code (pairsOf s ns) = 0 then (if ((pairsUp ns).map (·.1)).Nodup then 0 else -7) else code (pairsOf s ns)
def spLookOwn (K : PySem.W.Frag) (c : Cl) : Sp := spP fun vs H v => ∃ S s a ns, vs = [.ref S, .ref a] ∧ View c H S s ∧ SqL K H a (iv ns) ∧ ns.length ≤ 100 ∧ v = .int (ownCode s ns)
theorem ok_look_own (T : Txt K mg c) : Fn P w K mg base 4 "look_own" ["stock", "row"] (spLookOwn K c) := by
  have nd := sc_look_own.nd
  refine fn_mk T.f_look_own sc_look_own (fun _ _ _ _ _ _ us hl => match us, hl with | [_, _], _ => rfl) (fun vs H Q E h => ?_) fun f cdv A outer s H vs Q E hr h => ?_
  · obtain ⟨_, ⟨S, s, a, ns, rfl, _⟩, _⟩ := h
    rfl
  · obtain ⟨_, ⟨S, s, a, ns, rfl, Vw, hq, hl, rfl⟩, k⟩ := h
    refine ⟨_, (pss_one (ps_ret (pe_orI (pe_fn (ok_look_pairs T) hr (pa_cons (pv 0) (pa_cons (pv 1) pa_nil))) (pe_one (pe_fn (ok_look_once T) hr (pa_cons (pe_lc (own := [("setting", 2), ("value", 3)]) rfl nd (pi_list (pe_fn (ok_pairs_of T) hr (pa_cons (pv 1) pa_nil))) (blkOk_by (N := ["stock", "row", "setting", "value"]) (sc := defScope s_look_own) (by decide +kernel)) (fun s H C cl fp => by exact (pg_tupK (K := K) (n := 2) rfl rfl (pgs_cons (pgn 2 nd) (pgs_cons (pgn 3 nd) pgs_nil)))) (fun s H C cl fp => by exact pts_nil) (fun s H C cl fp => by exact (pv 2))) pa_nil)))))), ?_⟩
    unfold ownCode at k
    refine ⟨_, rfl, _, rfl, _, ⟨S, s, a, ns, rfl, Vw, hq, hl, rfl⟩, fun H2 s2 => ⟨_, rfl, fun h0 => ?_, fun hn => ?_⟩⟩
    · rw [if_pos h0] at k
      refine ⟨_, rfl, a, ns, rfl, s2.seq hq, fun H1 l qs sm hln e1 e2 => ⟨l, rfl, ⟨_, SqL.of e1⟩, fun D hD => lc_list (K := K) (a := l) (xs := qs.map V.ref)
        (fun i H' => H' D = some (.lst (iv (((pairsUp ns).map (·.1)).take i))) ∧ Same H1 H') ⟨upd_same, same_upd hD⟩ (fun i H' _ ⟨_, s3⟩ => SqL.of (s3 _ _ e1)) ?_ ?_⟩⟩
      · rintro i y H' hi ⟨hD', s3⟩
        obtain ⟨q, hqi, rfl⟩ := get_refs hi
        obtain ⟨x, hx, hpa⟩ := Paired.at e2 hqi
        refine ⟨q, _, rfl, SqT.of (s3 _ _ hpa), rfl, _, _, rfl, _, _, rfl, rfl, rfl, ?_⟩
        simp only [tYes, if_true]
        refine ⟨_, rfl, _, hD', ?_, ?_, ?_⟩
        · have h1 := pairsUp_length ns
          unfold iv
          rw [List.length_map, List.length_take, List.length_map, sizeLine_eq]
          omega
        · rw [upd_same, take_snoc (show ((pairsUp ns).map (·.1))[i]? = some x.1 by rw [List.getElem?_map, hx]; rfl)]
          unfold iv
          rw [List.map_append]
          rfl
        · exact fun b o e => by
            rw [upd_ne (fun z => by rw [z, hD] at e; cases e)]
            exact s3 b o e
      · rintro H' ⟨hD', s3⟩
        have hlen : (qs.map V.ref).length = ((pairsUp ns).map (·.1)).length := by rw [List.length_map, Paired.length e2, List.length_map]
        rw [hlen, List.take_length] at hD'
        refine ⟨_, ⟨D, _, rfl, SqL.of hD', ?_, rfl⟩, fun H3 s4 => ?_⟩
        · rw [List.length_map, pairsUp_length]; omega
        · exact k H3 (((s2.trans sm).trans s3).trans s4)
    · rw [if_neg hn] at k
      exact k H2 s2
def spLookPar (c : Cl) : Sp := spP fun vs H v => ∃ S s n, vs = [.ref S, .int n] ∧ View c H S s ∧ v = .int (if n = -1 then 0 else code (platformOf s n))
theorem ok_look_parent (T : Txt K mg c) : Fn P w K mg base 3 "look_parent" ["stock", "parent"] (spLookPar c) := by
  have nd := sc_look_parent.nd
  refine fn_mk T.f_look_parent sc_look_parent (fun _ _ _ _ _ _ us hl => match us, hl with | [_, _], _ => rfl) (fun vs H Q E h => ?_) fun f cdv A outer s H vs Q E hr h => ?_
  · obtain ⟨_, ⟨S, s, n, rfl, _⟩, _⟩ := h
    rfl
  · obtain ⟨_, ⟨S, s, n, rfl, Vw, rfl⟩, k⟩ := h
    refine ⟨_, (pss_one (ps_ret (pe_ifExp (pt_cmpR op_eq (pv 1) (pe_un un_neg pe_int) (nomark _)) (pe_gint T.g_ACCEPTED) (pe_fn (ok_look_platform T) hr (pa_cons (pv 0) (pa_cons (pv 1) pa_nil)))))), ?_⟩
    refine ⟨_, rfl, _, rfl, rfl, _, rfl, ite2 (fun h1 => ?_) (fun h1 => ?_)⟩
    · have h1 := of_decide_eq_true h1
      injection h1 with h1
      rw [if_pos h1] at k
      exact k H (Same.refl _)
    · have h1 : ¬ n = -1 := fun z => h1 (decide_eq_true (by rw [z]))
      rw [if_neg h1] at k
      exact ⟨_, rfl, _, rfl, _, ⟨S, s, n, rfl, Vw, rfl⟩, fun H2 s2 => k H2 s2⟩
def spLookVals : Sp := spP fun vs H v => ∃ n d : Int, vs = [.int n, .int d] ∧ v = .int (if n < 1 ∨ 16 < n ∨ d < -1 ∨ n ≤ d then -1 else 0)
theorem ok_look_values (T : Txt K mg c) : Fn P w K mg base 1 "look_values" ["count", "default"] spLookVals := by
  have nd := sc_look_values.nd
  refine fn_mk T.f_look_values sc_look_values (fun _ _ _ _ _ _ us hl => match us, hl with | [_, _], _ => rfl) (fun vs H Q E h => ?_) fun f cdv A outer s H vs Q E hr h => ?_
  · obtain ⟨_, ⟨n, d, rfl, _⟩, _⟩ := h
    rfl
  · obtain ⟨_, ⟨n, d, rfl, rfl⟩, k⟩ := h
    refine ⟨_, (pss_cons (ps_if (PW.pt (pw_and (pt_chain op_le op_le pe_int (pv 0) (pe_gint T.g_MOST_VALUES)) (pw_and1 (PW.pt (pw_or (pt_cmpR op_eq (pv 1) (pe_gint T.g_NO_VALUE) (nomark _)) (pw_or1 (pt_chain op_le op_lt pe_int (pv 1) (pv 0)))))))) (pss_one (ps_ret (pe_gint T.g_ACCEPTED))) pss_nil)
      (pss_one (ps_ret (pe_gint T.g_LIMIT)))), ?_⟩
    have bad : (n < 1 ∨ 16 < n ∨ d < -1 ∨ n ≤ d) → Q (.int (-1)) H := fun z => by rw [if_pos z] at k; exact k H (Same.refl _)
    have good : ¬ (n < 1 ∨ 16 < n ∨ d < -1 ∨ n ≤ d) → Q (.int 0) H := fun z => by rw [if_neg z] at k; exact k H (Same.refl _)
    refine ⟨_, rfl, _, _, rfl, rfl, _, rfl, ite2 (fun h1 => ⟨_, _, rfl, rfl, _, rfl, ite2 (fun h2 => ?_) (fun h2 => ?_)⟩) (fun h1 => ⟨_, rfl, ?_⟩)⟩
    · have h1 := of_decide_eq_true h1
      have h2 := of_decide_eq_true h2
      refine ⟨_, rfl, rfl, _, rfl, ite2 (fun h3 => ?_) (fun h3 => ⟨_, rfl, _, _, rfl, rfl, _, rfl, ite2 (fun h4 => ⟨_, rfl, _, _, rfl, rfl, _, rfl, ite2 (fun h5 => ?_) (fun h5 => ?_)⟩) (fun h4 => ⟨_, rfl, ?_⟩)⟩)⟩
      · have h3 := of_decide_eq_true h3
        injection h3 with h3
        exact iteT (good (by omega))
      · have h4 := of_decide_eq_true h4
        have h5 := of_decide_eq_true h5
        exact good (by omega)
      · have h5 : ¬ d < n := fun z => h5 (decide_eq_true z)
        exact bad (by omega)
      · have h4 : ¬ (0 : Int) ≤ d := fun z => h4 (decide_eq_true z)
        have h3 : ¬ d = -1 := fun z => h3 (decide_eq_true (by rw [z]))
        exact iteF (bad (by omega))
    · have h2 : ¬ n ≤ 16 := fun z => h2 (decide_eq_true z)
      exact bad (by omega)
    · have h1 : ¬ (1 : Int) ≤ n := fun z => h1 (decide_eq_true z)
      exact iteF (iteF (bad (by omega)))
def spLookRoom (K : PySem.W.Frag) : Sp := spP fun vs H v => ∃ a xs, ∃ n : Int, vs = [.ref a, .int n] ∧ SqL K H a xs ∧ v = .int (if (xs.length : Int) < n then 0 else -9)
theorem ok_look_room (T : Txt K mg c) : Fn P w K mg base 1 "look_room" ["held", "most"] (spLookRoom K) := by
  have nd := sc_look_room.nd
  refine fn_mk T.f_look_room sc_look_room (fun _ _ _ _ _ _ us hl => match us, hl with | [_, _], _ => rfl) (fun vs H Q E h => ?_) fun f cdv A outer s H vs Q E hr h => ?_
  · obtain ⟨_, ⟨a, xs, n, rfl, _⟩, _⟩ := h
    rfl
  · obtain ⟨_, ⟨a, xs, n, rfl, hq, rfl⟩, k⟩ := h
    refine ⟨_, (pss_one (ps_ret (pe_ifExp (pt_cmpR op_lt (pe_callB call_len_seq rfl T.b_len PySem.boot_len (pa_cons (pv 0) pa_nil)) (pv 1) (nomark _)) (pe_gint T.g_ACCEPTED) (pe_gint T.g_FULL)))), ?_⟩
    refine ⟨_, rfl, a, _, rfl, .inl hq, _, rfl, _, _, rfl, rfl, _, rfl, ite2 (fun h1 => ?_) (fun h1 => ?_)⟩
    · rw [if_pos (of_decide_eq_true h1)] at k
      exact k H (Same.refl _)
    · rw [if_neg (fun z => h1 (decide_eq_true z))] at k
      exact k H (Same.refl _)
end
end TC
end
section
set_option linter.all false
set_option maxRecDepth 100000
set_option Elab.async false
set_option maxHeartbeats 2000000
namespace TC
open PySem PySem.Spec PyProof.Rows L2 Vabldf
section
variable {P : Program} {w : World} {K : PySem.W.Frag} {mg : Str → Option Value} {base : Heap} {c : Cl}
/-- a class of the text and its promise -/
theorem mk_mk {x qual : Str} {st : Stmt} {C : Addr} {N ps : List Str} {k : Nat} {sp : Sp} (F : ∃ f fd, Fun K "__init__" qual st f fd ∧ Mk K C f) (hm : mg x = some (.ref C)) (S : FnScope N ps (defScope st))
    (B : ∀ (kV doc pm : Value) (an : Option Addr) (cdv ct : Value) (us : List Value), us.length = ps.length → bindArgs (PySem.W.fnOf "__init__" qual (defArgs st) (defBody st) (defScope st) .none kV doc pm an cdv ct) ⟨us, []⟩ = pure (ps.zip us))
    (len : ∀ vs H Q E, sp vs H Q E → vs.length = ps.length)
    (hbody : ∀ (f : Addr) (cdv : Value) (A : Around) (outer : List Env) (s : Shared) (H : Hp) (vs : List V) (Q : VK) (E : XK), Room k (A.deeper (envOfC qual (defScope st) s.heap.objs.size f cdv)) → sp vs H Q E →
      ∃ t, PSs (cxOf CX0 P w K mg base N qual (defScope st) f cdv A outer s H E).nox (defBody st) t ∧ t { nx := fun _ H' => Q .non H', rt := Q } (start N vs) H) : MkOk P w K mg base (k + 1) x C ps sp := by
  obtain ⟨f, fd, F, M⟩ := F
  exact ⟨f, fd, M, F.ok S len fun cdv A outer s H vs Q E hr h => hbody f cdv A outer s H vs Q E hr h, hm, F.binds B⟩
theorem ne_cd : ¬ ("count" : Str) = "default" := by decide +kernel
theorem ne_kf : ¬ ("kind" : Str) = "first" := by decide +kernel
theorem ne_ks : ¬ ("kind" : Str) = "second" := by decide +kernel
theorem ne_fs : ¬ ("first" : Str) = "second" := by decide +kernel
theorem put_set (a b : V) : putF "default" b (putF "count" a []) = [(("count" : Str), a), ("default", b)] := by
  show (if ("count" : Str) = "default" then _ else (("count" : Str), a) :: putF "default" b []) = _
  rw [if_neg ne_cd]
  rfl
theorem put_tc (a b d : V) : putF "second" d (putF "first" b (putF "kind" a [])) = [(("kind" : Str), a), ("first", b), ("second", d)] := by
  have e1 : putF "first" b (putF "kind" a []) = [(("kind" : Str), a), ("first", b)] := by
    show (if ("kind" : Str) = "first" then _ else (("kind" : Str), a) :: putF "first" b []) = _
    rw [if_neg ne_kf]
    rfl
  rw [e1]
  show (if ("kind" : Str) = "second" then _ else (("kind" : Str), a) :: (if ("first" : Str) = "second" then _ else (("first" : Str), b) :: putF "second" d [])) = _
  rw [if_neg ne_ks, if_neg ne_fs]
  rfl
def spInitS (c : Cl) : Sp := fun vs H Q _ => ∃ p dx a b, vs = [.ref p, a, b] ∧ H p = some (.ins c.cs dx []) ∧ ∀ H' : Hp, H' p = some (.ins c.cs dx [("count", a), ("default", b)]) → (∀ x o, H x = some o → x ≠ p → H' x = some o) → Q .non H'
theorem mk_Setting (T : Txt K mg c) : MkOk P w K mg base 1 "Setting" c.cs ["self", "count", "default"] (spInitS c) := by
  have nd := sc_Setting_init.nd
  refine mk_mk T.i_Setting T.m_Setting sc_Setting_init (fun _ _ _ _ _ _ us hl => match us, hl with | [_, _, _], _ => rfl) (fun vs H Q E h => ?_) fun f cdv A outer s H vs Q E hr h => ?_
  · obtain ⟨p, dx, a, b, rfl, _⟩ := h
    rfl
  · obtain ⟨p, dx, a, b, rfl, hp, k⟩ := h
    refine ⟨_, (pss_cons (ps_fld (pv 0) (pv 1) rfl)
      (pss_one (ps_fld (pv 0) (pv 2) rfl))), ?_⟩
    refine ⟨_, rfl, _, rfl, p, c.cs, dx, _, rfl, hp, T.k_Setting, T.n_Setting_count, (by show 0 < 1000; decide), _, rfl, _, rfl, p, c.cs, dx, _, rfl, upd_same, T.k_Setting, T.n_Setting_default, (by show 1 < 1000; decide), ?_⟩
    refine k _ ?_ fun x o e hx => ?_
    · rw [put_set]
      exact upd_same
    · rw [upd_ne hx, upd_ne hx]
      exact e
def spInitT (c : Cl) : Sp := fun vs H Q _ => ∃ p dx a b d, vs = [.ref p, a, b, d] ∧ H p = some (.ins c.ct dx []) ∧ ∀ H' : Hp, H' p = some (.ins c.ct dx [("kind", a), ("first", b), ("second", d)]) → (∀ x o, H x = some o → x ≠ p → H' x = some o) → Q .non H'
theorem mk_Toolchain (T : Txt K mg c) : MkOk P w K mg base 1 "Toolchain" c.ct ["self", "kind", "first", "second"] (spInitT c) := by
  have nd := sc_Toolchain_init.nd
  refine mk_mk T.i_Toolchain T.m_Toolchain sc_Toolchain_init (fun _ _ _ _ _ _ us hl => match us, hl with | [_, _, _, _], _ => rfl) (fun vs H Q E h => ?_) fun f cdv A outer s H vs Q E hr h => ?_
  · obtain ⟨p, dx, a, b, d, rfl, _⟩ := h
    rfl
  · obtain ⟨p, dx, a, b, d, rfl, hp, k⟩ := h
    refine ⟨_, (pss_cons (ps_fld (pv 0) (pv 1) rfl)
      (pss_cons (ps_fld (pv 0) (pv 2) rfl)
      (pss_one (ps_fld (pv 0) (pv 3) rfl)))), ?_⟩
    refine ⟨_, rfl, _, rfl, p, c.ct, dx, _, rfl, hp, T.k_Toolchain, T.n_Toolchain_kind, (by show 0 < 1000; decide), _, rfl, _, rfl, p, c.ct, dx, _, rfl, upd_same, T.k_Toolchain, T.n_Toolchain_first, (by show 1 < 1000; decide),
      _, rfl, _, rfl, p, c.ct, dx, _, rfl, upd_same, T.k_Toolchain, T.n_Toolchain_second, ?_, ?_⟩
    · exact Nat.lt_of_le_of_lt (length_putF _ _ _) (by show 1 + 1 < 1000; decide)
    · refine k _ ?_ fun x o e hx => ?_
      · rw [put_tc]
        exact upd_same
      · rw [upd_ne hx, upd_ne hx, upd_ne hx]
        exact e
theorem put_stk (a b d e g : V) : putF "places" g (putF "ranking" e (putF "toolchains" d (putF "platforms" b (putF "settings" a [])))) = [(("settings" : Str), a), ("platforms", b), ("toolchains", d), ("ranking", e), ("places", g)] := by
  have n1 : ¬ ("settings" : Str) = "platforms" := by decide +kernel
  have n2 : ¬ ("settings" : Str) = "toolchains" := by decide +kernel
  have n3 : ¬ ("settings" : Str) = "ranking" := by decide +kernel
  have n4 : ¬ ("settings" : Str) = "places" := by decide +kernel
  have n5 : ¬ ("platforms" : Str) = "toolchains" := by decide +kernel
  have n6 : ¬ ("platforms" : Str) = "ranking" := by decide +kernel
  have n7 : ¬ ("platforms" : Str) = "places" := by decide +kernel
  have n8 : ¬ ("toolchains" : Str) = "ranking" := by decide +kernel
  have n9 : ¬ ("toolchains" : Str) = "places" := by decide +kernel
  have n10 : ¬ ("ranking" : Str) = "places" := by decide +kernel
  simp only [putF, if_neg n1, if_neg n2, if_neg n3, if_neg n4, if_neg n5, if_neg n6, if_neg n7, if_neg n8, if_neg n9, if_neg n10]
def spInitK (c : Cl) : Sp := fun vs H Q _ => ∃ p dx, vs = [.ref p] ∧ H p = some (.ins c.ck dx []) ∧ ∀ (H' : Hp) (m : Mem) (lr lp : Addr), m.dS = dx → m.ext = [] → H' p = some (.ins c.ck dx (fStk m lr lp)) →
  (∀ l ∈ [m.lset, m.lpl, m.ltc, lr, lp], H l = none ∧ H' l = some (.lst [])) → [p, m.lset, m.lpl, m.ltc].Nodup → lr ∉ [p, m.lset, m.lpl, m.ltc] → lp ∉ [p, m.lset, m.lpl, m.ltc] → (∀ x o, H x = some o → x ≠ p → H' x = some o) → Q .non H'
theorem mk_Stock (T : Txt K mg c) : MkOk P w K mg base 1 "Stock" c.ck ["self"] (spInitK c) := by
  have nd := sc_Stock_init.nd
  refine mk_mk T.i_Stock T.m_Stock sc_Stock_init (fun _ _ _ _ _ _ us hl => match us, hl with | [_], _ => rfl) (fun vs H Q E h => ?_) fun f cdv A outer s H vs Q E hr h => ?_
  · obtain ⟨p, dx, rfl, _⟩ := h
    rfl
  · obtain ⟨p, dx, rfl, hp, k⟩ := h
    refine ⟨_, (pss_cons (ps_fld (pv 0) (pe_lst pa_nil) rfl)
      (pss_cons (ps_fld (pv 0) (pe_lst pa_nil) rfl)
      (pss_cons (ps_fld (pv 0) (pe_lst pa_nil) rfl)
      (pss_cons (ps_fld (pv 0) (pe_lst pa_nil) rfl)
      (pss_one (ps_fld (pv 0) (pe_lst pa_nil) rfl)))))), ?_⟩
    refine ⟨Nat.zero_le _, fun l1 h1 => ⟨_, rfl, p, c.ck, dx, _, rfl, (by rw [upd_ne (ne_of_none hp h1)]; exact hp), T.k_Stock, T.n_Stock_settings, (by show 0 < 1000; decide), ?_⟩⟩
    refine ⟨Nat.zero_le _, fun l2 h2 => ⟨_, rfl, p, c.ck, dx, _, rfl, (by rw [upd_ne (ne_of_none upd_same h2)]; exact upd_same), T.k_Stock, T.n_Stock_platforms, (by show 1 < 1000; decide), ?_⟩⟩
    refine ⟨Nat.zero_le _, fun l3 h3 => ⟨_, rfl, p, c.ck, dx, _, rfl, (by rw [upd_ne (ne_of_none upd_same h3)]; exact upd_same), T.k_Stock, T.n_Stock_toolchains, Nat.lt_of_le_of_lt (length_putF _ _ _) (by show 1 + 1 < 1000; decide), ?_⟩⟩
    refine ⟨Nat.zero_le _, fun l4 h4 => ⟨_, rfl, p, c.ck, dx, _, rfl, (by rw [upd_ne (ne_of_none upd_same h4)]; exact upd_same), T.k_Stock, T.n_Stock_ranking, Nat.lt_of_le_of_lt (length_putF _ _ _) (Nat.lt_of_le_of_lt (Nat.add_le_add_right (length_putF _ _ _) 1) (by show 1 + 1 + 1 < 1000; decide)), ?_⟩⟩
    refine ⟨Nat.zero_le _, fun l5 h5 => ⟨_, rfl, p, c.ck, dx, _, rfl, (by rw [upd_ne (ne_of_none upd_same h5)]; exact upd_same), T.k_Stock, T.n_Stock_places, Nat.lt_of_le_of_lt (length_putF _ _ _) (Nat.lt_of_le_of_lt (Nat.add_le_add_right (length_putF _ _ _) 1) (Nat.lt_of_le_of_lt (Nat.add_le_add_right (Nat.add_le_add_right (length_putF _ _ _) 1) 1) (by show 1 + 1 + 1 + 1 < 1000; decide))), ?_⟩⟩
    have p1 : p ≠ l1 := ne_of_none hp h1
    have p2 : p ≠ l2 := ne_of_none upd_same h2
    have p3 : p ≠ l3 := ne_of_none upd_same h3
    have p4 : p ≠ l4 := ne_of_none upd_same h4
    have p5 : p ≠ l5 := ne_of_none upd_same h5
    rw [upd_ne (Ne.symm p2)] at h2
    rw [upd_ne (Ne.symm p3)] at h3
    rw [upd_ne (Ne.symm p4)] at h4
    rw [upd_ne (Ne.symm p5)] at h5
    have q12 : l1 ≠ l2 := ne_of_none upd_same h2
    rw [upd_ne (Ne.symm q12)] at h2
    have q23 : l2 ≠ l3 := ne_of_none upd_same h3
    rw [upd_ne (Ne.symm q23), upd_ne (Ne.symm p3)] at h3
    have q13 : l1 ≠ l3 := ne_of_none upd_same h3
    rw [upd_ne (Ne.symm q13)] at h3
    have q34 : l3 ≠ l4 := ne_of_none upd_same h4
    rw [upd_ne (Ne.symm q34), upd_ne (Ne.symm p4)] at h4
    have q24 : l2 ≠ l4 := ne_of_none upd_same h4
    rw [upd_ne (Ne.symm q24), upd_ne (Ne.symm p4)] at h4
    have q14 : l1 ≠ l4 := ne_of_none upd_same h4
    rw [upd_ne (Ne.symm q14)] at h4
    have q45 : l4 ≠ l5 := ne_of_none upd_same h5
    rw [upd_ne (Ne.symm q45), upd_ne (Ne.symm p5)] at h5
    have q35 : l3 ≠ l5 := ne_of_none upd_same h5
    rw [upd_ne (Ne.symm q35), upd_ne (Ne.symm p5)] at h5
    have q25 : l2 ≠ l5 := ne_of_none upd_same h5
    rw [upd_ne (Ne.symm q25), upd_ne (Ne.symm p5)] at h5
    have q15 : l1 ≠ l5 := ne_of_none upd_same h5
    rw [upd_ne (Ne.symm q15)] at h5
    refine k _ ⟨dx, l1, l2, l3, []⟩ l4 l5 rfl rfl ?_ ?_ ?_ ?_ ?_ ?_
    · rw [put_stk]
      exact upd_same
    · intro l hl
      simp only [List.mem_cons, List.not_mem_nil, or_false] at hl
      rcases hl with rfl | rfl | rfl | rfl | rfl
      · exact ⟨h1, by rw [upd_ne (Ne.symm p1), upd_ne q15, upd_ne (Ne.symm p1), upd_ne q14, upd_ne (Ne.symm p1), upd_ne q13, upd_ne (Ne.symm p1), upd_ne q12, upd_ne (Ne.symm p1), upd_same]⟩
      · exact ⟨h2, by rw [upd_ne (Ne.symm p2), upd_ne q25, upd_ne (Ne.symm p2), upd_ne q24, upd_ne (Ne.symm p2), upd_ne q23, upd_ne (Ne.symm p2), upd_same]⟩
      · exact ⟨h3, by rw [upd_ne (Ne.symm p3), upd_ne q35, upd_ne (Ne.symm p3), upd_ne q34, upd_ne (Ne.symm p3), upd_same]⟩
      · exact ⟨h4, by rw [upd_ne (Ne.symm p4), upd_ne q45, upd_ne (Ne.symm p4), upd_same]⟩
      · exact ⟨h5, by rw [upd_ne (Ne.symm p5), upd_same]⟩
    · simp [p1, p2, p3, q12, q13, q23]
    · simp [Ne.symm p4, Ne.symm q14, Ne.symm q24, Ne.symm q34]
    · simp [Ne.symm p5, Ne.symm q15, Ne.symm q25, Ne.symm q35]
    · intro x o e hx
      have a1 : x ≠ l1 := fun z => by rw [z, h1] at e; cases e
      have a2 : x ≠ l2 := fun z => by rw [z, h2] at e; cases e
      have a3 : x ≠ l3 := fun z => by rw [z, h3] at e; cases e
      have a4 : x ≠ l4 := fun z => by rw [z, h4] at e; cases e
      have a5 : x ≠ l5 := fun z => by rw [z, h5] at e; cases e
      rw [upd_ne hx, upd_ne a5, upd_ne hx, upd_ne a4, upd_ne hx, upd_ne a3, upd_ne hx, upd_ne a2, upd_ne hx, upd_ne a1]
      exact e
end
end TC
end
section
set_option linter.all false
set_option maxRecDepth 100000
set_option Elab.async false
set_option maxHeartbeats 2000000
namespace TC
open PySem PySem.Spec PyProof.Rows L2 Vabldf
/-- a heap without some places -/
def hid (H : Hp) (l : List Addr) : Hp := fun a => if a ∈ l then none else H a
theorem hid_of {H : Hp} {l : List Addr} {a : Addr} {o : HO} (h : hid H l a = some o) : H a = some o ∧ a ∉ l := by
  unfold hid at h
  by_cases q : a ∈ l
  · rw [if_pos q] at h; cases h
  · rw [if_neg q] at h; exact ⟨h, q⟩
theorem hid_at {H : Hp} {l : List Addr} {a : Addr} {o : HO} (h : H a = some o) (q : a ∉ l) : hid H l a = some o := by
  unfold hid
  rw [if_neg q]
  exact h
theorem hid_same (H : Hp) (l : List Addr) : Same (hid H l) H := fun _ _ h => (hid_of h).1
theorem same_hid {H H' : Hp} {l : List Addr} (s : ∀ b o, H b = some o → b ∉ l → H' b = some o) : Same (hid H l) (hid H' l) := fun b o h => hid_at (s b o (hid_of h).1 (hid_of h).2) (hid_of h).2
abbrev mm (S : Addr) (m : Mem) : List Addr := [S, m.lset, m.lpl, m.ltc]
abbrev mx (S : Addr) (m : Mem) : List Addr := mm S m ++ m.ext
theorem mx_mm {S : Addr} {m : Mem} {b : Addr} (h : b ∉ mx S m) : b ∉ mm S m := fun z => h (List.mem_append_left _ z)
def Nd (H : Hp) (S : Addr) (m : Mem) : Prop := (mm S m).Nodup ∧ ∀ b ∈ m.ext, b ∉ mm S m ∧ ∃ o, H b = some o
theorem Nd.move {H H' : Hp} {S : Addr} {m : Mem} (h : Nd H S m) (f : ∀ b o, H b = some o → b ∉ mm S m → H' b = some o) : Nd H' S m := ⟨h.1, fun b hb => ⟨(h.2 b hb).1, let ⟨o, e⟩ := (h.2 b hb).2; ⟨o, f b o e (h.2 b hb).1⟩⟩⟩
/-- the object as it stands between two calls -/
structure Stk (c : Cl) (H : Hp) (S : Addr) (m : Mem) (s : State) : Prop where
  wf : WF s
  nd : Nd H S m
  ex : ∃ (lr lp : Addr) (as ps ts : List Addr), H S = some (.ins c.ck m.dS (fStk m lr lp)) ∧ H m.lset = some (.lst (as.map V.ref)) ∧ H m.lpl = some (.lst (ps.map V.ref)) ∧ H m.ltc = some (.lst (ts.map V.ref)) ∧
    hid H (mx S m) lr = some (.lst (nats s.ranking)) ∧ hid H (mx S m) lp = some (.lst (nats s.places)) ∧ Paired (SetAt c.cs (hid H (mx S m))) as s.settings ∧ ps.length = s.platforms.length ∧ Paired (ChainAt c.ct (hid H (mx S m))) ts s.chains ∧
    ∀ (i : Nat) (a : Addr), ps[i]? = some a → PlatAt (hid H (mx S m)) a (known s i) (32 * (i + 1))
theorem Stk.full {c : Cl} {H : Hp} {S : Addr} {m : Mem} {s : State} (k : Stk c H S m s) : Full c H S s := by
  obtain ⟨w, nd, lr, lp, as, ps, ts, e1, e2, e3, e4, e5, e6, e7, e8, e9, e10⟩ := k
  have h := hid_same H (mx S m)
  exact ⟨w, m, lr, lp, as, ps, ts, e1, e2, e3, e4, h _ _ e5, h _ _ e6, Paired.mapP e7 fun _ _ z => z.ext (Ext.of h), e8, Paired.mapP e9 fun _ _ z => z.same h, fun i a q => (e10 i a q).ext (Ext.of h)⟩
theorem Stk.view {c : Cl} {H : Hp} {S : Addr} {m : Mem} {s : State} (k : Stk c H S m s) : View c H S s := k.full.view
theorem Stk.same {c : Cl} {H H' : Hp} {S : Addr} {m : Mem} {s : State} (k : Stk c H S m s) (x : Same H H') : Stk c H' S m s := by
  obtain ⟨w, nd, lr, lp, as, ps, ts, e1, e2, e3, e4, e5, e6, e7, e8, e9, e10⟩ := k
  have h : Same (hid H (mx S m)) (hid H' (mx S m)) := same_hid fun b o e _ => x b o e
  exact ⟨w, nd.move fun b o e _ => x b o e, lr, lp, as, ps, ts, x _ _ e1, x _ _ e2, x _ _ e3, x _ _ e4, h _ _ e5, h _ _ e6, Paired.mapP e7 fun _ _ z => z.ext (Ext.of h), e8, Paired.mapP e9 fun _ _ z => z.same h, fun i a q => (e10 i a q).ext (Ext.of h)⟩
theorem paired_snoc {α β : Type} {F : α → β → Prop} : ∀ {as : List α} {bs : List β} {a : α} {b : β}, Paired F as bs → F a b → Paired F (as ++ [a]) (bs ++ [b])
  | _, _, _, _, .nil, h => .cons h .nil
  | _, _, _, _, .cons r t, h => .cons r (paired_snoc t h)
theorem known_eq_set (s : State) (st : List Vabldf.Setting) (i : Nat) : known { s with settings := st } i = known s i := by
  funext k
  exact known_setting s st i k
/-! ### the promise of a call -/
def RowAt (H : Hp) (l : List Addr) (a : Addr) (r : List Int) : Prop := hid H l a = some (.lst (iv r)) ∧ r.length ≤ 100
/-- what is handed to a call: the object, its whole numbers, its rows -/
structure Given (K : PySem.W.Frag) (c : Cl) (H : Hp) (vs : List V) (S : Addr) (m : Mem) (s : State) (nums : List Int) (rs : List (List Int)) : Prop where
  stk : Stk c H S m s
  ex : ∃ an ar ras, vs = [.ref S, .ref an, .ref ar] ∧ H an = some (.lst (iv nums)) ∧ H ar = some (.lst (ras.map V.ref)) ∧ Paired (RowAt H (mx S m)) ras rs
/-- what a call p gives and leaves -/
def spAct (K : PySem.W.Frag) (c : Cl) (p : Int) : Sp := fun vs H Q _ => ∃ S m s nums rs, Given K c H vs S m s nums rs ∧ (VabldfNeutral.callOf ((p :: nums) :: rs)).isSome = true ∧
  ∀ (H' : Hp) (l : Addr), Stk c H' S m (VabldfNeutral.step s ((p :: nums) :: rs)).1 → H' l = some (.lst (iv (VabldfNeutral.step s ((p :: nums) :: rs)).2)) → H l = none → (∀ b o, H b = some o → b ∉ mm S m → H' b = some o) → Q (.ref l) H'
theorem spAct_len {K : PySem.W.Frag} {c : Cl} {p : Int} {vs : List V} {H : Hp} {Q : VK} {E : XK} (h : spAct K c p vs H Q E) : vs.length = 3 := by
  obtain ⟨S, m, s, nums, rs, ⟨_, an, ar, ras, rfl, _⟩, _⟩ := h
  rfl
theorem RowAt.same {H H' : Hp} {l : List Addr} {a : Addr} {r : List Int} (x : Same H H') (h : RowAt H l a r) : RowAt H' l a r := ⟨same_hid (fun b o e _ => x b o e) _ _ h.1, h.2⟩
theorem RowAt.sq {K : PySem.W.Frag} {H : Hp} {l : List Addr} {a : Addr} {r : List Int} (h : RowAt H l a r) : SqL K H a (iv r) := SqL.of (hid_of h.1).1
/-- the shapes of what is handed in -/
theorem shape0 {nums : List Int} {rs : List (List Int)} (h : (VabldfNeutral.callOf ((0 :: nums) :: rs)).isSome = true) : ∃ n d, nums = [n, d] ∧ rs = [] := by
  match nums, rs, h with
  | [n, d], [], _ => exact ⟨n, d, rfl, rfl⟩
theorem shape1 {nums : List Int} {rs : List (List Int)} (h : (VabldfNeutral.callOf ((1 :: nums) :: rs)).isSome = true) : ∃ n r, nums = [n] ∧ rs = [r] := by
  match nums, rs, h with
  | [n], [r], _ => exact ⟨n, r, rfl, rfl⟩
theorem shape2 {nums : List Int} {rs : List (List Int)} (h : (VabldfNeutral.callOf ((2 :: nums) :: rs)).isSome = true) : ∃ n a b, nums = [n] ∧ rs = [a, b] := by
  match nums, rs, h with
  | [n], [a, b], _ => exact ⟨n, a, b, rfl, rfl⟩
theorem shape3 {nums : List Int} {rs : List (List Int)} (h : (VabldfNeutral.callOf ((3 :: nums) :: rs)).isSome = true) : ∃ r, nums = [] ∧ rs = [r] := by
  match nums, rs, h with
  | [], [r], _ => exact ⟨r, rfl, rfl⟩
theorem shape4 {nums : List Int} {rs : List (List Int)} (h : (VabldfNeutral.callOf ((4 :: nums) :: rs)).isSome = true) : ∃ r, nums = [] ∧ rs = [r] := by
  match nums, rs, h with
  | [], [r], _ => exact ⟨r, rfl, rfl⟩
theorem shape5 {nums : List Int} {rs : List (List Int)} (h : (VabldfNeutral.callOf ((5 :: nums) :: rs)).isSome = true) : ∃ p k, nums = [p, k] ∧ rs = [] := by
  match nums, rs, h with
  | [n, d], [], _ => exact ⟨n, d, rfl, rfl⟩
theorem shape6 {nums : List Int} {rs : List (List Int)} (h : (VabldfNeutral.callOf ((6 :: nums) :: rs)).isSome = true) : ∃ t p g, nums = [t, p, g] ∧ rs = [] := by
  match nums, rs, h with
  | [n, d, e], [], _ => exact ⟨n, d, e, rfl, rfl⟩
section
variable {P : Program} {w : World} {K : PySem.W.Frag} {mg : Str → Option Value} {base : Heap} {c : Cl}
/-! ### 1. setting -/
theorem ok_add_setting (T : Txt K mg c) : Fn P w K mg base 3 "add_setting" ["stock", "numbers", "rows"] (spAct K c 0) := by
  have nd := sc_add_setting.nd
  refine fn_mk T.f_add_setting sc_add_setting (fun _ _ _ _ _ _ us hl => match us, hl with | [_, _, _], _ => rfl) (fun vs H Q E h => spAct_len h) fun f cdv A outer s0 H vs Q E hr h => ?_
  obtain ⟨S, m, s, nums, rs, ⟨st, an, ar, ras, rfl, h1, h2, h3⟩, hc, k⟩ := h
  obtain ⟨n, d, rfl, rfl⟩ := shape0 hc
  have es : VabldfNeutral.step s [[0, n, d]] = ((addSetting s n d).1, VabldfNeutral.encode (addSetting s n d).2) := rfl
  rw [es] at k
  refine ⟨_, (pss_cons (pset 3 nd (pe_ix ix_list (pv 1) pe_int (fun _ _ => rfl)))
      (pss_cons (pset 4 nd (pe_ix ix_list (pv 1) pe_int (fun _ _ => rfl)))
      (pss_cons (pset 5 nd (pe_orI (pe_fn (ok_look_values T) hr (pa_cons (pv 3) (pa_cons (pv 4) pa_nil))) (pe_one (pe_fn (ok_look_room T) hr (pa_cons (pe_fld (pv 0) rfl) (pa_cons (pe_gint T.g_MOST_SETTINGS) pa_nil))))))
      (pss_cons (ps_if (pt_truth (pv 5) (fun _ => rfl)) (pss_one (ps_ret (pe_lst (pa_cons (pv 5) pa_nil)))) pss_nil)
      (pss_cons (ps_expr (pe_bm PySem.F.plainAttrs_list PySem.F.slot_list_append PySem.F.type_list_append mt_append (pe_fld (pv 0) rfl) (pa_cons (pe_mk (mk_Setting T) hr (pa_cons (pv 3) (pa_cons (pv 4) pa_nil))) pa_nil)))
      (pss_one (ps_ret (pe_lst (pa_cons (pe_op op_sub (pe_callB call_len_seq rfl T.b_len PySem.boot_len (pa_cons (pe_fld (pv 0) rfl) pa_nil)) pe_int) pa_nil))))))))), ?_⟩
  have st' := st
  obtain ⟨w, ndm, lr, lp, as, ps, ts, e1, e2, e3, e4, e5, e6, e7, e8, e9, e10⟩ := st'
  have las : as.length = s.settings.length := Paired.length e7
  refine ⟨_, rfl, an, _, _, _, rfl, rfl, SqL.of h1, rfl, _, rfl, an, _, _, _, rfl, rfl, SqL.of h1, rfl, _, rfl, _, rfl, _, ⟨n, d, rfl, rfl⟩, fun H1 s1 => ⟨_, rfl, fun h0 => ?_, fun hn => ?_⟩⟩
  · have good : ¬ (n < 1 ∨ 16 < n ∨ d < -1 ∨ n ≤ d) := fun z => by rw [if_pos z] at h0; exact absurd h0 (by decide)
    refine ⟨_, rfl, S, c.ck, m.dS, _, _, rfl, s1 _ _ e1, T.k_Stock, T.n_Stock_settings, lk_settings m lr lp, _, ⟨m.lset, _, 16, rfl, SqL.of (s1 _ _ e2), rfl⟩, fun H2 s2 => ⟨_, rfl, _, rfl, ?_⟩⟩
    have s12 := s1.trans s2
    rw [List.length_map, las]
    by_cases hl : (s.settings.length : Int) < 16
    · rw [if_pos hl]
      have ea : addSetting s n d = ({ s with settings := s.settings ++ [{ count := n.toNat, default := if d = -1 then none else some d.toNat }] }, told (num s.settings.length) []) := by
        unfold addSetting
        rw [if_neg good, if_neg (by omega)]
      rw [ea] at k
      refine iteF ⟨_, rfl, S, c.ck, m.dS, _, _, rfl, s12 _ _ e1, T.k_Stock, T.n_Stock_settings, lk_settings m lr lp, .inl ⟨rfl, _, SqL.of (s12 _ _ e2)⟩, _, rfl, _, rfl, fun x dx hx hdx hne =>
        ⟨x, dx, _, _, rfl, upd_same, fun H3 hx3 kp => ⟨rfl, m.lset, as.map V.ref, _, rfl, rfl, ?_, ?_, ?_⟩⟩⟩
      · have e2' := s12 _ _ e2
        exact kp _ _ (by rw [upd_ne (ne_of_none e2' hx), upd_ne (ne_of_none e2' hdx)]; exact e2') (ne_of_none e2' hx)
      · rw [List.length_map, las, sizeLine_eq]
        have := w.nset
        omega
      · have k3 : ∀ b o, H b = some o → H3 b = some o := fun b o e => by
          have e' := s12 _ _ e
          exact kp _ _ (by rw [upd_ne (ne_of_none e' hx), upd_ne (ne_of_none e' hdx)]; exact e') (ne_of_none e' hx)
        have ndm1 := ndm.1
        have nS : S ≠ m.lset := fun z => by simp [z] at ndm1
        refine ⟨_, rfl, S, c.ck, m.dS, _, _, rfl, (by rw [upd_ne nS]; exact k3 _ _ e1), T.k_Stock, T.n_Stock_settings, lk_settings m lr lp, m.lset, _, rfl, .inl (SqL.of upd_same), _, _, rfl, rfl, (by show 1 ≤ sizeLine; decide), fun l hl' => ?_⟩
        have xm : x ∉ mx S m := fun z => by
          rcases List.mem_append.mp z with z | z
          rotate_left
          · obtain ⟨_, o, q⟩ := ndm.2 x z
            rw [s12 _ _ q] at hx
            cases hx
          simp only [List.mem_cons, List.not_mem_nil, or_false] at z
          rcases z with z | z | z | z
          · rw [z, s12 _ _ e1] at hx; cases hx
          · rw [z, s12 _ _ e2] at hx; cases hx
          · rw [z, s12 _ _ e3] at hx; cases hx
          · rw [z, s12 _ _ e4] at hx; cases hx
        have lm : ∀ b ∈ mm S m, b ≠ l := fun b hb z => by
          simp only [List.mem_cons, List.not_mem_nil, or_false] at hb
          rw [← z] at hl'
          by_cases q : b = m.lset
          · rw [q, upd_same] at hl'; cases hl'
          · rw [upd_ne q] at hl'
            rcases hb with q1 | q1 | q1 | q1
            · rw [q1, k3 _ _ e1] at hl'; cases hl'
            · exact q q1
            · rw [q1, k3 _ _ e3] at hl'; cases hl'
            · rw [q1, k3 _ _ e4] at hl'; cases hl'
        have fr : ∀ b o, H3 b = some o → b ∉ mm S m → (upd (upd H3 m.lset (.lst (as.map V.ref ++ [.ref x]))) l (.lst [.int (((as.map V.ref ++ [V.ref x]).length : Int) - 1)])) b = some o := fun b o e q => by
          have q1 : b ≠ m.lset := fun z => q (by simp [z])
          have q2 : b ≠ l := fun z => by rw [← z, upd_ne q1, e] at hl'; cases hl'
          rw [upd_ne q2, upd_ne q1]
          exact e
        have sh : Same (hid H (mx S m)) (hid (upd (upd H3 m.lset (.lst (as.map V.ref ++ [.ref x]))) l (.lst [.int (((as.map V.ref ++ [V.ref x]).length : Int) - 1)])) (mx S m)) := same_hid fun b o e q => fr b o (k3 b o e) (mx_mm q)
        have eln : ((as.map V.ref ++ [V.ref x]).length : Int) - 1 = (s.settings.length : Int) := by
          rw [List.length_append, List.length_map, List.length_singleton, las]
          omega
        refine k _ l ?_ ?_ ?_ ?_
        · refine ⟨w.setting (by omega) _, ndm.move fun b o e q => fr b o (k3 b o e) q, lr, lp, as ++ [x], ps, ts, ?_, ?_, ?_, ?_, sh _ _ e5, sh _ _ e6, ?_, e8, Paired.mapP e9 fun _ _ z => z.same sh, fun i a q => ?_⟩
          · rw [upd_ne (lm S (by simp)), upd_ne nS]; exact k3 _ _ e1
          · rw [upd_ne (lm m.lset (by simp)), upd_same, List.map_append]; rfl
          · rw [upd_ne (lm m.lpl (by simp)), upd_ne (fun z => by simp [z] at ndm1)]; exact k3 _ _ e3
          · rw [upd_ne (lm m.ltc (by simp)), upd_ne (fun z => by simp [z] at ndm1)]; exact k3 _ _ e4
          · refine paired_snoc (Paired.mapP e7 fun _ _ z => z.ext (Ext.of sh)) ⟨dx, hid_at (fr x _ ?_ (mx_mm xm)) xm⟩
            rw [hx3]
            unfold fSet
            have a1 : V.int n = vi n.toNat := by show V.int n = V.int (n.toNat : Int); congr 1; omega
            have a2 : orMinus (if d = -1 then none else some d.toNat) = d := by
              by_cases z : d = -1
              · rw [if_pos z, z]; rfl
              · rw [if_neg z]
                show (d.toNat : Int) = d
                omega
            rw [a1, a2]
          · exact PlatAt.ext (Ext.of sh) (by rw [known_eq_set]; exact e10 i a q)
        · rw [upd_same]
          show some (HO.lst [V.int (((as.map V.ref ++ [V.ref x]).length : Int) - 1)]) = _
          rw [eln]
          rfl
        · cases q : H l with
          | none => rfl
          | some o =>
            have h5 := k3 _ _ q
            by_cases z : l = m.lset
            · rw [z, upd_same] at hl'; cases hl'
            · rw [upd_ne z, h5] at hl'; cases hl'
        · exact fun b o e q => fr b o (k3 b o e) q
    · rw [if_neg hl]
      have ea : addSetting s n d = (s, no FULL) := by
        unfold addSetting
        rw [if_neg good, if_pos (by omega)]
      rw [ea] at k
      refine iteT ⟨_, rfl, (by show 1 ≤ sizeLine; decide), fun l hl' => ?_⟩
      exact k _ l ((st.same s12).same (same_upd hl')) upd_same (s12.free hl') fun b o e _ => (Same.upd s12 hl') b o e
  · have bad : n < 1 ∨ 16 < n ∨ d < -1 ∨ n ≤ d := by
      by_cases z : n < 1 ∨ 16 < n ∨ d < -1 ∨ n ≤ d
      · exact z
      · rw [if_neg z] at hn; exact absurd rfl hn
    rw [if_pos bad]
    have ea : addSetting s n d = (s, no LIMIT) := by
      unfold addSetting
      rw [if_pos bad]
    rw [ea] at k
    refine ⟨_, rfl, _, rfl, iteT ⟨_, rfl, (by show 1 ≤ sizeLine; decide), fun l hl' => ?_⟩⟩
    exact k _ l ((st.same s1).same (same_upd hl')) upd_same (s1.free hl') fun b o e _ => (Same.upd s1 hl') b o e
end
end TC
end
section
set_option linter.all false
set_option maxRecDepth 100000
set_option Elab.async false
set_option maxHeartbeats 2000000
namespace TC
open PySem PySem.Spec PyProof.Rows L2 Vabldf
theorem paired1 {α β : Type} {F : α → β → Prop} {as : List α} {b : β} (h : Paired F as [b]) : ∃ a, as = [a] ∧ F a b := by
  cases h with
  | cons r t => cases t; exact ⟨_, rfl, r⟩
theorem paired2 {α β : Type} {F : α → β → Prop} {as : List α} {b b' : β} (h : Paired F as [b, b']) : ∃ a a', as = [a, a'] ∧ F a b ∧ F a' b' := by
  cases h with
  | cons r t =>
    obtain ⟨a', rfl, r'⟩ := paired1 t
    exact ⟨_, _, rfl, r, r'⟩
theorem inherited_cong {s s' : State} (h : s'.platforms = s.platforms) (k : Nat) : ∀ (f p : Nat), inherited s' f p k = inherited s f p k
  | 0, _ => rfl
  | f + 1, p => by
    unfold inherited
    rw [h]
    cases e : s.platforms[p]? with
    | none => rfl
    | some x =>
      dsimp only
      cases ofPairs x.own k with
      | some v => rfl
      | none =>
        dsimp only
        cases x.parent with
        | none => rfl
        | some q => exact inherited_cong h k f q
theorem known_cong {s s' : State} (h : s'.platforms = s.platforms) (i : Nat) : known s' i = known s i := by
  funext k
  exact inherited_cong h k _ _
theorem ne_pl : ¬ ("ranking" : Str) = "places" := by decide +kernel
theorem put_ranking (m : Mem) (lr lp x : Addr) : putF "ranking" (.ref x) (fStk m lr lp) = fStk m x lp := by
  have n3 : ¬ ("settings" : Str) = "ranking" := by decide +kernel
  have n6 : ¬ ("platforms" : Str) = "ranking" := by decide +kernel
  have n8 : ¬ ("toolchains" : Str) = "ranking" := by decide +kernel
  unfold fStk
  simp only [putF, if_neg n3, if_neg n6, if_neg n8, if_true]
theorem put_places (m : Mem) (lr lp x : Addr) : putF "places" (.ref x) (fStk m lr lp) = fStk m lr x := by
  have n3 : ¬ ("settings" : Str) = "places" := by decide +kernel
  have n6 : ¬ ("platforms" : Str) = "places" := by decide +kernel
  have n8 : ¬ ("toolchains" : Str) = "places" := by decide +kernel
  have n9 : ¬ ("ranking" : Str) = "places" := by decide +kernel
  unfold fStk
  simp only [putF, if_neg n3, if_neg n6, if_neg n8, if_neg n9, if_true]
theorem iv_nats {r : List Int} (h : ∀ n ∈ r, 0 ≤ n) : iv r = nats (r.map Int.toNat) := by
  unfold iv nats
  rw [List.map_map]
  refine List.map_congr_left fun n hn => ?_
  show V.int n = V.int ((n.toNat : Nat) : Int)
  have := h n hn
  congr 1
  omega
theorem code_ok {α : Type} {e : Except Int α} {x : α} (h : e = .ok x) : code e = 0 := by rw [h]; rfl
theorem bne_code (r : Int) : (r != 0) = decide (r ≠ 0) := by
  by_cases h : r = 0
  · subst h; rfl
  · rw [decide_eq_true h]
    simpa using h
/-- of the refusals none is 0 -/
theorem listOf_code {k : Int} {n : Nat} {l : List Int} (hk : k ≠ 0) : (∃ m, listOf (below k n) l = .ok m) ∨ ∃ e, listOf (below k n) l = .error e ∧ e ≠ 0 := by
  rw [listOf_below]
  split
  · exact .inr ⟨_, rfl, by decide⟩
  · split
    · split
      · exact .inl ⟨_, rfl⟩
      · exact .inr ⟨_, rfl, by decide⟩
    · exact .inr ⟨_, rfl, hk⟩
theorem below_code {k : Int} {n : Nat} {z : Int} (hk : k ≠ 0) : (below k n z = .ok z.toNat ∧ 0 ≤ z ∧ z < (n : Int)) ∨ (below k n z = .error k ∧ k ≠ 0 ∧ ¬ (0 ≤ z ∧ z < (n : Int))) := by
  unfold below
  by_cases h : 0 ≤ z ∧ z < (n : Int)
  · rw [if_pos h]; exact .inl ⟨rfl, h⟩
  · rw [if_neg h]; exact .inr ⟨rfl, hk, h⟩
section
variable {P : Program} {w : World} {K : PySem.W.Frag} {mg : Str → Option Value} {base : Heap} {c : Cl}
/-! ### 4. rank -/
theorem ok_set_ranking (T : Txt K mg c) : Fn P w K mg base 4 "set_ranking" ["stock", "numbers", "rows"] (spAct K c 3) := by
  have nd := sc_set_ranking.nd
  refine fn_mk T.f_set_ranking sc_set_ranking (fun _ _ _ _ _ _ us hl => match us, hl with | [_, _, _], _ => rfl) (fun vs H Q E h => spAct_len h) fun f cdv A outer s0 H vs Q E hr h => ?_
  obtain ⟨S, m, s, nums, rs, ⟨st, an, ar, ras, rfl, h1, h2, h3⟩, hc, k⟩ := h
  obtain ⟨r, rfl, rfl⟩ := shape3 hc
  obtain ⟨ra, rfl, hrow⟩ := paired1 h3
  have es : VabldfNeutral.step s [[3], r] = ((Vabldf.step s (.rank r)).1, VabldfNeutral.encode (Vabldf.step s (.rank r)).2) := rfl
  rw [es] at k
  refine ⟨_, (pss_cons (pset 3 nd (pe_fn (ok_look_toolchains T) hr (pa_cons (pv 0) (pa_cons (pe_ix ix_list (pv 2) pe_int (fun _ _ => rfl)) pa_nil))))
      (pss_cons (ps_if (pt_truth (pv 3) (fun _ => rfl)) (pss_one (ps_ret (pe_lst (pa_cons (pv 3) pa_nil)))) pss_nil)
      (pss_cons (ps_fld (pv 0) (pe_ix ix_list (pv 2) pe_int (fun _ _ => rfl)) rfl)
      (pss_one (ps_ret (pe_lst (pa_cons pe_int pa_nil))))))), ?_⟩
  refine ⟨_, rfl, _, rfl, ar, _, _, _, rfl, rfl, SqL.of h2, rfl, _, ⟨S, s, ra, r, rfl, st.view, hrow.sq, hrow.2, rfl⟩, fun H1 s1 => ⟨_, rfl, _, rfl, ?_⟩⟩
  rcases listOf_code (k := CHAIN) (n := s.chains.length) (l := r) (by decide) with ⟨q, hq⟩ | ⟨e, hq, he⟩
  · have hq' : listOf (chainOf s) r = .ok q := hq
    have ea : Vabldf.step s (.rank r) = ({ s with ranking := q }, told 0 []) := by
      show (match listOf (chainOf s) r with | .error k => (s, no k) | .ok m => ({ s with ranking := m }, told 0 [])) = _
      rw [hq']
    rw [ea] at k
    rw [code_ok hq']
    have st1 := st.same s1
    obtain ⟨w, ndm, lr, lp, as, ps, ts, e1, e2, e3, e4, e5, e6, e7, e8, e9, e10⟩ := st1
    refine iteF ⟨_, rfl, ar, _, _, _, rfl, rfl, SqL.of (s1 _ _ h2), rfl, _, rfl, S, c.ck, m.dS, _, rfl, e1, T.k_Stock, T.n_Stock_ranking, (by show 5 < 1000; decide), (by show 1 ≤ sizeLine; decide), fun l hl => ?_⟩
    obtain ⟨q1, q2, q3, q4, q5, q6⟩ := listOf_ok (k := CHAIN) (c := s.chains.length) hq
    have ndm1 := ndm.1
    have nS : ∀ b, b ∉ mm S m → b ≠ S := fun b hb z => hb (by simp [z])
    rw [put_ranking] at hl ⊢
    have fr : ∀ b o, H1 b = some o → b ≠ S → (upd (upd H1 S (.ins c.ck m.dS (fStk m ra lp))) l (.lst [.int 0])) b = some o := fun b o e hb => by
      have q : b ≠ l := fun z => by rw [← z, upd_ne hb, e] at hl; cases hl
      rw [upd_ne q, upd_ne hb]
      exact e
    have sh : Same (hid H1 (mx S m)) (hid (upd (upd H1 S (.ins c.ck m.dS (fStk m ra lp))) l (.lst [.int 0])) (mx S m)) := same_hid fun b o e q => fr b o e (nS b (mx_mm q))
    have Sl : S ≠ l := fun z => by rw [← z, upd_same] at hl; cases hl
    refine k _ l ?_ upd_same ?_ ?_
    · refine ⟨w.ranked hq', ndm.move fun b o e q => fr b o e (nS b q), ra, lp, as, ps, ts, ?_, fr _ _ e2 ?_, fr _ _ e3 ?_, fr _ _ e4 ?_, ?_, sh _ _ e6, Paired.mapP e7 fun _ _ z => z.ext (Ext.of sh), e8, Paired.mapP e9 fun _ _ z => z.same sh, fun i a qi => PlatAt.ext (Ext.of sh) (by show PlatAt _ a (known { s with ranking := q } i) _; rw [known_cong (s := s) (s' := { s with ranking := q }) rfl]; exact e10 i a qi)⟩
      · rw [upd_ne Sl, upd_same]
      · exact fun z => by simp [z] at ndm1
      · exact fun z => by simp [z] at ndm1
      · exact fun z => by simp [z] at ndm1
      · show hid _ _ ra = some (.lst (nats q))
        rw [q1, ← iv_nats fun n hn => (q3 n hn).1]
        exact sh _ _ ((hrow.same s1).1)
    · cases z : H l with
      | none => rfl
      | some o =>
        have := s1 _ _ z
        rw [upd_ne (Ne.symm Sl), this] at hl
        cases hl
    · exact fun b o e q => fr b o (s1 _ _ e) (nS b q)
  · have hq' : listOf (chainOf s) r = .error e := hq
    have ea : Vabldf.step s (.rank r) = (s, no e) := by
      show (match listOf (chainOf s) r with | .error k => (s, no k) | .ok m => ({ s with ranking := m }, told 0 [])) = _
      rw [hq']
    rw [ea] at k
    have ec : code (listOf (chainOf s) r) = e := by rw [hq']; rfl
    rw [ec, bne_code, decide_eq_true he]
    refine iteT ⟨_, rfl, (by show 1 ≤ sizeLine; decide), fun l hl' => ?_⟩
    exact k _ l ((st.same s1).same (same_upd hl')) upd_same (s1.free hl') fun b o e _ => (Same.upd s1 hl') b o e
/-! ### 5. places -/
theorem ok_set_places (T : Txt K mg c) : Fn P w K mg base 4 "set_places" ["stock", "numbers", "rows"] (spAct K c 4) := by
  have nd := sc_set_places.nd
  refine fn_mk T.f_set_places sc_set_places (fun _ _ _ _ _ _ us hl => match us, hl with | [_, _, _], _ => rfl) (fun vs H Q E h => spAct_len h) fun f cdv A outer s0 H vs Q E hr h => ?_
  obtain ⟨S, m, s, nums, rs, ⟨st, an, ar, ras, rfl, h1, h2, h3⟩, hc, k⟩ := h
  obtain ⟨r, rfl, rfl⟩ := shape4 hc
  obtain ⟨ra, rfl, hrow⟩ := paired1 h3
  have es : VabldfNeutral.step s [[4], r] = ((Vabldf.step s (.places r)).1, VabldfNeutral.encode (Vabldf.step s (.places r)).2) := rfl
  rw [es] at k
  refine ⟨_, (pss_cons (pset 3 nd (pe_fn (ok_look_platforms T) hr (pa_cons (pv 0) (pa_cons (pe_ix ix_list (pv 2) pe_int (fun _ _ => rfl)) pa_nil))))
      (pss_cons (ps_if (pt_truth (pv 3) (fun _ => rfl)) (pss_one (ps_ret (pe_lst (pa_cons (pv 3) pa_nil)))) pss_nil)
      (pss_cons (ps_fld (pv 0) (pe_ix ix_list (pv 2) pe_int (fun _ _ => rfl)) rfl)
      (pss_one (ps_ret (pe_lst (pa_cons pe_int pa_nil))))))), ?_⟩
  refine ⟨_, rfl, _, rfl, ar, _, _, _, rfl, rfl, SqL.of h2, rfl, _, ⟨S, s, ra, r, rfl, st.view, hrow.sq, hrow.2, rfl⟩, fun H1 s1 => ⟨_, rfl, _, rfl, ?_⟩⟩
  rcases listOf_code (k := PLATFORM) (n := s.platforms.length) (l := r) (by decide) with ⟨q, hq⟩ | ⟨e, hq, he⟩
  · have hq' : listOf (platformOf s) r = .ok q := hq
    have ea : Vabldf.step s (.places r) = ({ s with places := q }, told 0 []) := by
      show (match listOf (platformOf s) r with | .error k => (s, no k) | .ok m => ({ s with places := m }, told 0 [])) = _
      rw [hq']
    rw [ea] at k
    rw [code_ok hq']
    have st1 := st.same s1
    obtain ⟨w, ndm, lr, lp, as, ps, ts, e1, e2, e3, e4, e5, e6, e7, e8, e9, e10⟩ := st1
    refine iteF ⟨_, rfl, ar, _, _, _, rfl, rfl, SqL.of (s1 _ _ h2), rfl, _, rfl, S, c.ck, m.dS, _, rfl, e1, T.k_Stock, T.n_Stock_places, (by show 5 < 1000; decide), (by show 1 ≤ sizeLine; decide), fun l hl => ?_⟩
    obtain ⟨q1, q2, q3, q4, q5, q6⟩ := listOf_ok (k := PLATFORM) (c := s.platforms.length) hq
    have ndm1 := ndm.1
    have nS : ∀ b, b ∉ mm S m → b ≠ S := fun b hb z => hb (by simp [z])
    rw [put_places] at hl ⊢
    have fr : ∀ b o, H1 b = some o → b ≠ S → (upd (upd H1 S (.ins c.ck m.dS (fStk m lr ra))) l (.lst [.int 0])) b = some o := fun b o e hb => by
      have q : b ≠ l := fun z => by rw [← z, upd_ne hb, e] at hl; cases hl
      rw [upd_ne q, upd_ne hb]
      exact e
    have sh : Same (hid H1 (mx S m)) (hid (upd (upd H1 S (.ins c.ck m.dS (fStk m lr ra))) l (.lst [.int 0])) (mx S m)) := same_hid fun b o e q => fr b o e (nS b (mx_mm q))
    have Sl : S ≠ l := fun z => by rw [← z, upd_same] at hl; cases hl
    refine k _ l ?_ upd_same ?_ ?_
    · refine ⟨w.placed hq', ndm.move fun b o e q => fr b o e (nS b q), lr, ra, as, ps, ts, ?_, fr _ _ e2 ?_, fr _ _ e3 ?_, fr _ _ e4 ?_, sh _ _ e5, ?_, Paired.mapP e7 fun _ _ z => z.ext (Ext.of sh), e8, Paired.mapP e9 fun _ _ z => z.same sh, fun i a qi => PlatAt.ext (Ext.of sh) (by show PlatAt _ a (known { s with places := q } i) _; rw [known_cong (s := s) (s' := { s with places := q }) rfl]; exact e10 i a qi)⟩
      · rw [upd_ne Sl, upd_same]
      · exact fun z => by simp [z] at ndm1
      · exact fun z => by simp [z] at ndm1
      · exact fun z => by simp [z] at ndm1
      · show hid _ _ ra = some (.lst (nats q))
        rw [q1, ← iv_nats fun n hn => (q3 n hn).1]
        exact sh _ _ ((hrow.same s1).1)
    · cases z : H l with
      | none => rfl
      | some o =>
        have := s1 _ _ z
        rw [upd_ne (Ne.symm Sl), this] at hl
        cases hl
    · exact fun b o e q => fr b o (s1 _ _ e) (nS b q)
  · have hq' : listOf (platformOf s) r = .error e := hq
    have ea : Vabldf.step s (.places r) = (s, no e) := by
      show (match listOf (platformOf s) r with | .error k => (s, no k) | .ok m => ({ s with places := m }, told 0 [])) = _
      rw [hq']
    rw [ea] at k
    have ec : code (listOf (platformOf s) r) = e := by rw [hq']; rfl
    rw [ec, bne_code, decide_eq_true he]
    refine iteT ⟨_, rfl, (by show 1 ≤ sizeLine; decide), fun l hl' => ?_⟩
    exact k _ l ((st.same s1).same (same_upd hl')) upd_same (s1.free hl') fun b o e _ => (Same.upd s1 hl') b o e
/-! ### 6. value -/
theorem ok_tell_value (T : Txt K mg c) : Fn P w K mg base 3 "tell_value" ["stock", "numbers", "rows"] (spAct K c 5) := by
  have nd := sc_tell_value.nd
  refine fn_mk T.f_tell_value sc_tell_value (fun _ _ _ _ _ _ us hl => match us, hl with | [_, _, _], _ => rfl) (fun vs H Q E h => spAct_len h) fun f cdv A outer s0 H vs Q E hr h => ?_
  obtain ⟨S, m, s, nums, rs, ⟨st, an, ar, ras, rfl, h1, h2, h3⟩, hc, k⟩ := h
  obtain ⟨p, x, rfl, rfl⟩ := shape5 hc
  have es : VabldfNeutral.step s [[5, p, x]] = (s, VabldfNeutral.encode (with2 (platformOf s p) (settingOf s x) fun a b => found (valueOf s a b))) := rfl
  rw [es] at k
  refine ⟨_, (pss_cons (pset 3 nd (pe_orI (pe_fn (ok_look_platform T) hr (pa_cons (pv 0) (pa_cons (pe_ix ix_list (pv 1) pe_int (fun _ _ => rfl)) pa_nil))) (pe_one (pe_fn (ok_look_setting T) hr (pa_cons (pv 0) (pa_cons (pe_ix ix_list (pv 1) pe_int (fun _ _ => rfl)) pa_nil))))))
      (pss_cons (ps_if (pt_truth (pv 3) (fun _ => rfl)) (pss_one (ps_ret (pe_lst (pa_cons (pv 3) pa_nil)))) pss_nil)
      (pss_cons (pset 4 nd (pe_fn (ok_value_of T) hr (pa_cons (pv 0) (pa_cons (pe_ix ix_list (pv 1) pe_int (fun _ _ => rfl)) (pa_cons (pe_ix ix_list (pv 1) pe_int (fun _ _ => rfl)) pa_nil)))))
      (pss_one (ps_ret (pe_ifExp (pt_cmpR op_eq (pv 4) (pe_gint T.g_NO_VALUE) (nomark _)) (pe_lst (pa_cons pe_int pa_nil)) (pe_lst (pa_cons pe_int (pa_cons (pv 4) pa_nil))))))))), ?_⟩
  refine ⟨_, rfl, _, rfl, an, _, _, _, rfl, rfl, SqL.of h1, rfl, _, ⟨S, s, p, rfl, st.view, rfl⟩, fun H1 s1 => ⟨_, rfl, fun h0 => ?_, fun hn => ?_⟩⟩
  · rcases below_code (k := PLATFORM) (n := s.platforms.length) (z := p) (by decide) with ⟨hp, p1, p2⟩ | ⟨hp, p1, p2⟩
    · have hp' : platformOf s p = .ok p.toNat := hp
      rw [hp'] at k
      refine ⟨_, rfl, _, rfl, an, _, _, _, rfl, rfl, SqL.of (s1 _ _ h1), rfl, _, ⟨S, s, x, rfl, st.view.same s1, rfl⟩, fun H2 s2 => ⟨_, rfl, _, rfl, ?_⟩⟩
      have s12 := s1.trans s2
      rcases below_code (k := SETTING) (n := s.settings.length) (z := x) (by decide) with ⟨hx, x1, x2⟩ | ⟨hx, x1, x2⟩
      · have hx' : settingOf s x = .ok x.toNat := hx
        rw [hx'] at k
        rw [code_ok hx']
        have ep : V.int p = vi p.toNat := by show V.int p = V.int ((p.toNat : Nat) : Int); congr 1; omega
        have ex : V.int x = vi x.toNat := by show V.int x = V.int ((x.toNat : Nat) : Int); congr 1; omega
        refine iteF ⟨_, rfl, _, rfl, an, _, _, _, rfl, rfl, SqL.of (s12 _ _ h1), rfl, _, rfl, an, _, _, _, rfl, rfl, SqL.of (s12 _ _ h1), rfl, _, ⟨S, s, p.toNat, x.toNat, by rw [← ep, ← ex], st.view.same s12, by omega, by omega, rfl⟩, fun H3 s3 => ⟨_, rfl, rfl, _, rfl, ?_⟩⟩
        have s13 := s12.trans s3
        cases hv : valueOf s p.toNat x.toNat with
        | none =>
          have kk : ∀ (H' : Hp) (l : Addr), Stk c H' S m s → H' l = some (.lst (iv [0])) → H l = none → (∀ b o, H b = some o → b ∉ mm S m → H' b = some o) → Q (.ref l) H' := by
            simpa [with2, hv, found, told, VabldfNeutral.encode] using k
          refine iteT ⟨(by show 1 ≤ sizeLine; decide), fun l hl' => ?_⟩
          exact kk _ l ((st.same s13).same (same_upd hl')) upd_same (s13.free hl') fun b o e _ => (Same.upd s13 hl') b o e
        | some v =>
          have kk : ∀ (H' : Hp) (l : Addr), Stk c H' S m s → H' l = some (.lst (iv [1, num v])) → H l = none → (∀ b o, H b = some o → b ∉ mm S m → H' b = some o) → Q (.ref l) H' := by
            simpa [with2, hv, found, told, VabldfNeutral.encode] using k
          have en : decide (V.int (orMinus (some v)) = V.int (-1)) = false := decide_eq_false (fun z => by
            injection z with z
            have z' : (v : Int) = -1 := z
            omega)
          rw [en]
          refine iteF ⟨_, rfl, (by show 2 ≤ sizeLine; decide), fun l hl' => ?_⟩
          exact kk _ l ((st.same s13).same (same_upd hl')) upd_same (s13.free hl') fun b o e _ => (Same.upd s13 hl') b o e
      · have hx' : settingOf s x = .error SETTING := hx
        rw [hx'] at k
        have ec : code (settingOf s x) = SETTING := by rw [hx']; rfl
        rw [ec]
        refine iteT ⟨_, rfl, (by show 1 ≤ sizeLine; decide), fun l hl' => ?_⟩
        exact k _ l ((st.same s12).same (same_upd hl')) upd_same (s12.free hl') fun b o e _ => (Same.upd s12 hl') b o e
    · have hp' : platformOf s p = .error PLATFORM := hp
      rw [hp'] at h0
      exact absurd h0 (by decide)
  · rcases below_code (k := PLATFORM) (n := s.platforms.length) (z := p) (by decide) with ⟨hp, p1, p2⟩ | ⟨hp, p1, p2⟩
    · have hp' : platformOf s p = .ok p.toNat := hp
      rw [hp'] at hn
      exact absurd rfl hn
    · have hp' : platformOf s p = .error PLATFORM := hp
      rw [hp'] at k
      have ec : code (platformOf s p) = PLATFORM := by rw [hp']; rfl
      rw [ec]
      refine ⟨_, rfl, _, rfl, iteT ⟨_, rfl, (by show 1 ≤ sizeLine; decide), fun l hl' => ?_⟩⟩
      exact k _ l ((st.same s1).same (same_upd hl')) upd_same (s1.free hl') fun b o e _ => (Same.upd s1 hl') b o e
end
end TC
end
section
set_option linter.all false
set_option maxRecDepth 100000
set_option Elab.async false
set_option maxHeartbeats 2000000
namespace TC
open PySem PySem.Spec PyProof.Rows L2 Vabldf
/-! ### one of the growing lists gets a new item, the answer is laid -/
theorem grow {H H3 : Hp} {M : List Addr} {L l : Addr} {o1 o2 oL : HO} (k3 : ∀ b o, H b = some o → H3 b = some o) (hL : H L = some oL) (LM : L ∈ M) (hl : (upd H3 L o1) l = none) :
    (∀ b o, H3 b = some o → b ≠ L → (upd (upd H3 L o1) l o2) b = some o) ∧ (upd (upd H3 L o1) l o2) L = some o1 ∧ H l = none ∧ Same (hid H M) (hid (upd (upd H3 L o1) l o2) M) := by
  have nl : L ≠ l := fun z => by rw [← z, upd_same] at hl; cases hl
  have fr : ∀ b o, H3 b = some o → b ≠ L → (upd (upd H3 L o1) l o2) b = some o := fun b o e q => by
    have q2 : b ≠ l := fun z => by rw [← z, upd_ne q, e] at hl; cases hl
    rw [upd_ne q2, upd_ne q]
    exact e
  refine ⟨fr, by rw [upd_ne nl, upd_same], ?_, same_hid fun b o e q => fr b o (k3 b o e) fun z => q (z ▸ LM)⟩
  cases q : H l with
  | none => rfl
  | some o =>
    rw [upd_ne (Ne.symm nl), k3 _ _ q] at hl
    cases hl
theorem not_mm {c : Cl} {H : Hp} {S : Addr} {m : Mem} {s : State} (st : Stk c H S m s) {x : Addr} (hx : H x = none) : x ∉ mx S m := fun z => by
  obtain ⟨w, ndm, lr, lp, as, ps, ts, e1, e2, e3, e4, _⟩ := st
  rcases List.mem_append.mp z with z | z
  rotate_left
  · obtain ⟨_, o, q⟩ := ndm.2 x z
    rw [q] at hx
    cases hx
  simp only [List.mem_cons, List.not_mem_nil, or_false] at z
  rcases z with z | z | z | z
  · rw [z, e1] at hx; cases hx
  · rw [z, e2] at hx; cases hx
  · rw [z, e3] at hx; cases hx
  · rw [z, e4] at hx; cases hx
theorem nd_set {H : Hp} {S : Addr} {m : Mem} (h' : Nd H S m) : S ≠ m.lset ∧ S ≠ m.lpl ∧ S ≠ m.ltc ∧ m.lset ≠ m.lpl ∧ m.lset ≠ m.ltc ∧ m.lpl ≠ m.ltc := by
  have h := h'.1
  simp only [List.nodup_cons, List.mem_cons, List.not_mem_nil, or_false, not_or] at h
  exact ⟨h.1.1, h.1.2.1, h.1.2.2, h.2.1.1, h.2.1.2, h.2.2.1⟩
/-! ### a platform's table -/
theorem merge_val (own : List (Int × Int)) : ∀ (kvs : List (Key × V)) (k : Nat), (own.map (·.1)).Nodup → (∀ x ∈ own, 0 ≤ x.1 ∧ 0 ≤ x.2) →
    valV (mergeK kvs (own.map fun x => (Sum.inl x.1, V.int x.2))) (Sum.inl (k : Int)) = match ofPairs (own.map natPair) k with | some v => some (vi v) | none => valV kvs (Sum.inl (k : Int)) := by
  induction own with
  | nil => intro kvs k _ _; rfl
  | cons x r ih =>
    intro kvs k hn h0
    rw [List.map_cons, List.nodup_cons] at hn
    obtain ⟨h1, h2⟩ := h0 x List.mem_cons_self
    have ih' := ih (putK kvs (Sum.inl x.1) (V.int x.2)) k hn.2 fun y hy => h0 y (List.mem_cons_of_mem _ hy)
    show valV (mergeK (putK kvs (Sum.inl x.1) (V.int x.2)) (r.map fun x => (Sum.inl x.1, V.int x.2))) (Sum.inl (k : Int)) = _
    rw [ih']
    show (match ofPairs (r.map natPair) k with | some v => some (vi v) | none => valV (putK kvs (Sum.inl x.1) (V.int x.2)) (Sum.inl (k : Int))) = match ofPairs (natPair x :: r.map natPair) k with | some v => some (vi v) | none => valV kvs (Sum.inl (k : Int))
    rw [valV_put]
    by_cases hk : x.1.toNat = k
    · have e1 : ofPairs (natPair x :: r.map natPair) k = some x.2.toNat := by
        unfold ofPairs
        rw [List.find?_cons]
        have : ((natPair x).1 == k) = true := by simp [natPair, hk]
        rw [this]
        rfl
      have e2 : ofPairs (r.map natPair) k = none := by
        unfold ofPairs
        have : (r.map natPair).find? (fun x => x.1 == k) = none := by
          rw [List.find?_eq_none]
          intro y hy q
          obtain ⟨z, hz, rfl⟩ := List.mem_map.mp hy
          have q' : z.1.toNat = k := by simpa [natPair] using q
          have hz0 := (h0 z (List.mem_cons_of_mem _ hz)).1
          have : z.1 = x.1 := by omega
          exact hn.1 (List.mem_map.mpr ⟨z, hz, this⟩)
        rw [this]
        rfl
      rw [e1, e2]
      dsimp only
      rw [if_pos (show (Sum.inl (k : Int) : Key) = Sum.inl x.1 by congr 1; omega)]
      show some (V.int x.2) = some (V.int ((x.2.toNat : Nat) : Int))
      congr 2
      omega
    · have e1 : ofPairs (natPair x :: r.map natPair) k = ofPairs (r.map natPair) k := by
        unfold ofPairs
        rw [List.find?_cons]
        have : ((natPair x).1 == k) = false := by simp [natPair, hk]
        rw [this]
      rw [e1, if_neg (show ¬ (Sum.inl (k : Int) : Key) = Sum.inl x.1 from fun z => by
        injection z with z
        omega)]
theorem own_twice {s : State} {ns : List Int} (h : ∀ x ∈ pairsUp ns, pairCode s x = 0) : twice (((pairsUp ns).map natPair).map fun x => x.1) = true ↔ ¬ ((pairsUp ns).map (·.1)).Nodup := by
  have e : ((pairsUp ns).map natPair).map (fun x => x.1) = ((pairsUp ns).map (·.1)).map Int.toNat := by
    rw [List.map_map, List.map_map]
    rfl
  rw [e, twice_iff, nodup_toNat]
  intro n hn
  obtain ⟨x, hx, rfl⟩ := List.mem_map.mp hn
  obtain ⟨_, _, h1, _⟩ := pairCode_ok (h x hx)
  exact h1
theorem pairsOf_code (s : State) (ns : List Int) : (∃ m, pairsOf s ns = .ok m) ∨ ∃ e, pairsOf s ns = .error e ∧ e ≠ 0 := by
  rw [pairsOf_eq]
  split
  · exact .inr ⟨_, rfl, by decide⟩
  · split
    · exact .inl ⟨_, rfl⟩
    · rename_i h
      exact .inr ⟨_, rfl, h⟩
/-- the object with one platform more -/
theorem Stk.platform {c : Cl} {H H3 : Hp} {S : Addr} {m : Mem} {s : State} (st : Stk c H S m s) (k3 : ∀ b o, H b = some o → H3 b = some o) {D l : Addr} (hD : H D = none) {kvs : List (Key × V)} (eD : H3 D = some (.dK kvs)) {x : Platform}
    (hp : ∀ q, x.parent = some q → q < s.platforms.length) (ho : PairsOk s x.own) (hol : x.own.length ≤ 32) (hlen : kvs.length ≤ 32 * (s.platforms.length + 1)) (hsz : s.platforms.length < 16)
    (hval : ∀ k : Nat, valV kvs (Sum.inl (k : Int)) = (match ofPairs x.own k with | some v => some v | none => match x.parent with | some q => known s q k | none => none).map vi)
    {ps : List Addr} (e3 : H m.lpl = some (.lst (ps.map V.ref))) {v : V} (hl : (upd H3 m.lpl (.lst (ps.map V.ref ++ [.ref D]))) l = none) :
    Stk c (upd (upd H3 m.lpl (.lst (ps.map V.ref ++ [.ref D]))) l (.lst [v])) S m { s with platforms := s.platforms ++ [x] } ∧ H l = none ∧ ∀ b o, H b = some o → b ∉ mm S m → (upd (upd H3 m.lpl (.lst (ps.map V.ref ++ [.ref D]))) l (.lst [v])) b = some o := by
  obtain ⟨fr, eL, hln, sh⟩ := grow (M := mx S m) (o2 := .lst [v]) k3 e3 (by simp) hl
  have st' := st
  obtain ⟨w, ndm, lr, lp, as, ps', ts, e1, e2, e3', e4, e5, e6, e7, e8, e9, e10⟩ := st'
  obtain ⟨n1, n2, n3, n4, n5, n6⟩ := nd_set ndm
  have eps : ps' = ps := by
    rw [e3] at e3'
    have h := (Option.some.inj e3')
    injection h with h
    exact (List.map_inj_right (f := V.ref) (fun a b q => by injection q)).mp h.symm
  subst eps
  have Dm := not_mm st hD
  refine ⟨⟨w.platform hsz hp ho hol, ndm.move fun b o e q => fr b o (k3 b o e) fun z => q (by simp [z]), lr, lp, as, ps' ++ [D], ts, fr _ _ (k3 _ _ e1) n2, fr _ _ (k3 _ _ e2) n4, ?_, fr _ _ (k3 _ _ e4) (Ne.symm n6), sh _ _ e5, sh _ _ e6, Paired.mapP e7 fun _ _ z => z.ext (Ext.of sh), ?_, Paired.mapP e9 fun _ _ z => z.same sh, fun i a q => ?_⟩, hln, fun b o e q => fr b o (k3 b o e) fun z => q (by simp [z])⟩
  · rw [eL, List.map_append]; rfl
  · show (ps' ++ [D]).length = (s.platforms ++ [x]).length
    rw [List.length_append, List.length_append, e8]
    rfl
  · rcases get_snoc q with z | ⟨z1, z2⟩
    · have hi : i < s.platforms.length := by rw [← e8]; exact (List.getElem?_eq_some_iff.mp z).1
      have ek : known { s with platforms := s.platforms ++ [x] } i = known s i := by
        funext k
        exact (known_new w hp k).1 i hi
      rw [ek]
      exact (e10 i a z).ext (Ext.of sh)
    · subst z2
      rw [z1, e8]
      refine ⟨kvs, .inl (hid_at (fr a _ eD fun z => Dm (by simp [z])) Dm), fun k => ?_, hlen⟩
      rw [hval k, (known_new w hp k).2]
      all_goals rfl
/-- the object with one toolchain more -/
theorem Stk.chain {c : Cl} {H H3 : Hp} {S : Addr} {m : Mem} {s : State} (st : Stk c H S m s) (k3 : ∀ b o, H b = some o → H3 b = some o) {x l : Addr} {ch : Chain} (hx : H x = none)
    (hch : ∀ H' : Hp, (∀ b o, H3 b = some o → b ∉ mx S m → H' b = some o) → ChainAt c.ct H' x ch)
    (h1 : PairsOk s ch.first) (h2 : PairsOk s ch.second) (h3 : ch.first.length ≤ 32) (h4 : ch.second.length ≤ 32) (h5 : ch.kind < 32) (hsz : s.chains.length < 32)
    {ts : List Addr} (e4 : H m.ltc = some (.lst (ts.map V.ref))) {v : V} (hl : (upd H3 m.ltc (.lst (ts.map V.ref ++ [.ref x]))) l = none) :
    Stk c (upd (upd H3 m.ltc (.lst (ts.map V.ref ++ [.ref x]))) l (.lst [v])) S m { s with chains := s.chains ++ [ch] } ∧ H l = none ∧ ∀ b o, H b = some o → b ∉ mm S m → (upd (upd H3 m.ltc (.lst (ts.map V.ref ++ [.ref x]))) l (.lst [v])) b = some o := by
  obtain ⟨fr, eL, hln, sh⟩ := grow (M := mx S m) (o2 := .lst [v]) k3 e4 (by simp) hl
  have st' := st
  obtain ⟨w, ndm, lr, lp, as, ps, ts', e1, e2, e3, e4', e5, e6, e7, e8, e9, e10⟩ := st'
  obtain ⟨n1, n2, n3, n4, n5, n6⟩ := nd_set ndm
  have eps : ts' = ts := by
    rw [e4] at e4'
    have h := (Option.some.inj e4')
    injection h with h
    exact (List.map_inj_right (f := V.ref) (fun a b q => by injection q)).mp h.symm
  subst eps
  refine ⟨⟨w.chain hsz h1 h2 h3 h4 h5, ndm.move fun b o e q => fr b o (k3 b o e) fun z => q (by simp [z]), lr, lp, as, ps, ts' ++ [x], fr _ _ (k3 _ _ e1) n3, fr _ _ (k3 _ _ e2) n5, fr _ _ (k3 _ _ e3) n6, ?_, sh _ _ e5, sh _ _ e6, Paired.mapP e7 fun _ _ z => z.ext (Ext.of sh), e8, ?_, fun i a q => ?_⟩, hln, fun b o e q => fr b o (k3 b o e) fun z => q (by simp [z])⟩
  · rw [eL, List.map_append]; rfl
  · exact paired_snoc (Paired.mapP e9 fun _ _ z => z.same sh) (hch _ fun b o e q => hid_at (fr b o e fun z => q (by simp [z])) q)
  · exact PlatAt.ext (Ext.of sh) (by rw [known_cong (s := s) (s' := { s with chains := s.chains ++ [ch] }) rfl]; exact e10 i a q)
end TC
end
section
set_option linter.all false
set_option maxRecDepth 100000
set_option Elab.async false
set_option maxHeartbeats 2000000
namespace TC
open PySem PySem.Spec PyProof.Rows L2 Vabldf
theorem ite_new {b : Bool} {A B : Prop} {H : Hp} {R : Addr → Prop} (hB : b = false → (∀ D, H D = none → R D) → B) (hA : b = true → (∀ D, H D = none → R D) → A) (h : ∀ D, H D = none → R D) : if b = true then A else B := by
  cases b with
  | true => exact iteT (hA rfl h)
  | false => exact iteF (hB rfl h)
theorem code_nz {α : Type} {e : Except Int α} {k : Int} (h : e = .error k) : code e = k := by rw [h]; rfl
theorem bne_nz {k : Int} (h : k ≠ 0) : (k != 0) = true := by rw [bne_code, decide_eq_true h]
def ownKV (r : List Int) : List (Key × V) := (pairsUp r).map fun x => (Sum.inl x.1, V.int x.2)
theorem ownKV_len (r : List Int) : (ownKV r).length = (pairsUp r).length := by unfold ownKV; rw [List.length_map]
theorem paired_mapR {α β γ : Type} {F : α → γ → Prop} {f : β → γ} : ∀ {as : List α} {bs : List β}, Paired (fun a b => F a (f b)) as bs → Paired F as (bs.map f)
  | _, _, .nil => .nil
  | _, _, .cons r t => .cons r (paired_mapR t)
section
variable {P : Program} {w : World} {K : PySem.W.Frag} {mg : Str → Option Value} {base : Heap} {c : Cl}
/-! ### 2. platform -/
theorem ok_add_platform (T : Txt K mg c) : Fn P w K mg base 5 "add_platform" ["stock", "numbers", "rows"] (spAct K c 1) := by
  have nd := sc_add_platform.nd
  refine fn_mk T.f_add_platform sc_add_platform (fun _ _ _ _ _ _ us hl => match us, hl with | [_, _, _], _ => rfl) (fun vs H Q E h => spAct_len h) fun f cdv A outer s0 H vs Q E hr h => ?_
  obtain ⟨S, m, s, nums, rs, ⟨st, an, ar, ras, rfl, h1, h2, h3⟩, hc, k⟩ := h
  obtain ⟨p, r, rfl, rfl⟩ := shape1 hc
  obtain ⟨ra, rfl, hrow⟩ := paired1 h3
  have es : VabldfNeutral.step s [[1, p], r] = ((addPlatform s p r).1, VabldfNeutral.encode (addPlatform s p r).2) := rfl
  rw [es] at k
  refine ⟨_, (pss_cons (pset 3 nd (pe_ix ix_list (pv 1) pe_int (fun _ _ => rfl)))
      (pss_cons (pset 4 nd (pe_ix ix_list (pv 2) pe_int (fun _ _ => rfl)))
      (pss_cons (pset 5 nd (pe_orI (pe_fn (ok_look_parent T) hr (pa_cons (pv 0) (pa_cons (pv 3) pa_nil))) (pe_orI (pe_fn (ok_look_own T) hr (pa_cons (pv 0) (pa_cons (pv 4) pa_nil))) (pe_one (pe_fn (ok_look_room T) hr (pa_cons (pe_fld (pv 0) rfl) (pa_cons (pe_gint T.g_MOST_PLATFORMS) pa_nil)))))))
      (pss_cons (ps_if (pt_truth (pv 5) (fun _ => rfl)) (pss_one (ps_ret (pe_lst (pa_cons (pv 5) pa_nil)))) pss_nil)
      (pss_cons (pset 6 nd (pe_ifExp (pt_cmpR op_eq (pv 3) (pe_un un_neg pe_int) (nomark _)) pe_dnewK (pe_callTy call_dictD rfl T.b_dict bt_dict (pa_cons (pe_ix ix_list (pe_fld (pv 0) rfl) (pv 3) (fun _ _ => rfl)) pa_nil))))
      (pss_cons (ps_expr (pe_bm PySem.F.plainAttrs_dict PySem.F.slot_dict_update PySem.F.type_dict_update (mt_update rfl) (pv 6) (pa_cons (pe_fn (ok_pairs_of T) hr (pa_cons (pv 4) pa_nil)) pa_nil)))
      (pss_cons (ps_expr (pe_bm PySem.F.plainAttrs_list PySem.F.slot_list_append PySem.F.type_list_append mt_append (pe_fld (pv 0) rfl) (pa_cons (pv 6) pa_nil)))
      (pss_one (ps_ret (pe_lst (pa_cons (pe_op op_sub (pe_callB call_len_seq rfl T.b_len PySem.boot_len (pa_cons (pe_fld (pv 0) rfl) pa_nil)) pe_int) pa_nil))))))))))), ?_⟩
  have st' := st
  obtain ⟨w, ndm, lr, lp, as, ps, ts, e1, e2, e3, e4, e5, e6, e7, e8, e9, e10⟩ := st'
  refine ⟨_, rfl, an, _, _, _, rfl, rfl, SqL.of h1, rfl, _, rfl, ar, _, _, _, rfl, rfl, SqL.of h2, rfl, _, rfl, _, rfl, _, ⟨S, s, p, rfl, st.view, rfl⟩, fun H1 s1 => ⟨_, rfl, fun h0 => ?_, fun hn => ?_⟩⟩
  · have hpar : ¬ (p ≠ -1 ∧ (p < 0 ∨ (s.platforms.length : Int) ≤ p)) := fun z => by
      rw [if_neg z.1] at h0
      rcases below_code (k := PLATFORM) (n := s.platforms.length) (z := p) (by decide) with ⟨hp, p1, p2⟩ | ⟨hp, p1, p2⟩
      · omega
      · have hp' : platformOf s p = .error PLATFORM := hp
        rw [hp'] at h0
        exact absurd h0 (by decide)
    refine ⟨_, rfl, _, rfl, _, ⟨S, s, ra, r, rfl, st.view.same s1, (hrow.same s1).sq, hrow.2, rfl⟩, fun H2 s2 => ⟨_, rfl, fun h0' => ?_, fun hn' => ?_⟩⟩
    · have s12 := s1.trans s2
      refine ⟨_, rfl, S, c.ck, m.dS, _, _, rfl, s12 _ _ e1, T.k_Stock, T.n_Stock_platforms, lk_platforms m lr lp, _, ⟨m.lpl, _, 16, rfl, SqL.of (s12 _ _ e3), rfl⟩, fun H3 s3 => ⟨_, rfl, _, rfl, ?_⟩⟩
      have s13 := s12.trans s3
      unfold ownCode at h0'
      rcases pairsOf_code s r with ⟨own, hown⟩ | ⟨e, he, hne⟩
      · rw [code_ok hown, if_pos rfl] at h0'
        have hnd : ((pairsUp r).map (·.1)).Nodup := by
          by_cases z : ((pairsUp r).map (·.1)).Nodup
          · exact z
          · rw [if_neg z] at h0'; exact absurd h0' (by decide)
        obtain ⟨o1, o2, o3, o4, o5, o6⟩ := pairsOf_ok hown
        have htw : ¬ twice (own.map fun x => x.1) = true := fun z => by
          rw [o1] at z
          exact (own_twice o4).mp z hnd
        rw [List.length_map, e8]
        by_cases hl : (s.platforms.length : Int) < 16
        · rw [if_pos hl]
          have ea : addPlatform s p r = ({ s with platforms := s.platforms ++ [{ parent := if p = -1 then none else some p.toNat, own := own }] }, told (num s.platforms.length) []) := by
            unfold addPlatform
            rw [if_neg hpar, hown]
            show (if twice (own.map fun x => x.1) = true then (s, no TWICE) else if 16 ≤ s.platforms.length then (s, no FULL) else _) = _
            rw [if_neg htw, if_neg (by omega)]
          rw [ea] at k
          obtain ⟨kvs0, hz1, hz2, hlen0, hval0⟩ : ∃ kvs0 : List (Key × V), (p = -1 → kvs0 = []) ∧ (p ≠ -1 → ∃ pa, ps[p.toNat]? = some pa ∧ Rd H3 pa (.dK kvs0)) ∧ kvs0.length ≤ 32 * s.platforms.length ∧
              ∀ k : Nat, valV kvs0 (Sum.inl (k : Int)) = (match (if p = -1 then none else some p.toNat : Option Nat) with | some q => known s q k | none => none).map vi := by
            by_cases hp1 : p = -1
            · refine ⟨[], fun _ => rfl, fun z => absurd hp1 z, Nat.zero_le _, fun k => ?_⟩
              rw [if_pos hp1]
              rfl
            · have hlt : p.toNat < ps.length := by rw [e8]; omega
              obtain ⟨kvs, q1, q2, q3⟩ := e10 p.toNat ps[p.toNat] (List.getElem?_eq_getElem hlt)
              refine ⟨kvs, fun z => absurd z hp1, fun _ => ⟨_, List.getElem?_eq_getElem hlt, ?_⟩, ?_, fun k => ?_⟩
              · exact (Ext.of ((hid_same H (mx S m)).trans s13)).rdK q1
              · rw [e8] at hlt; omega
              · rw [if_neg hp1]
                exact q2 k
          obtain ⟨pa, hpa⟩ : ∃ pa : Addr, p ≠ -1 → (ps[p.toNat]? = some pa ∧ Rd H3 pa (.dK kvs0)) := by
            by_cases hp1 : p = -1
            · exact ⟨0, fun z => absurd hp1 z⟩
            · obtain ⟨pa, q⟩ := hz2 hp1
              exact ⟨pa, fun _ => q⟩
          have hne : decide (V.int p = V.int (-1)) = false → p ≠ -1 := fun z q => by rw [q] at z; exact absurd z (by decide)
          have heq : decide (V.int p = V.int (-1)) = true → p = -1 := fun z => by have := of_decide_eq_true z; injection this
          have i2 : p ≠ -1 → (ps.map V.ref)[p.toNat]? = some (.ref pa) := fun z => by rw [List.getElem?_map, (hpa z).1]; rfl
          have hp0 : p ≠ -1 → p = (p.toNat : Int) := fun z => by omega
          have hS3 := s13 _ _ e1
          have hL3 := s13 _ _ e3
          refine iteF ⟨_, rfl, _, rfl, rfl, _, rfl, ite_new (H := H3) (fun hb f => ⟨_, rfl, S, c.ck, m.dS, _, _, rfl, hS3, T.k_Stock, T.n_Stock_platforms, lk_platforms m lr lp, _, rfl, m.lpl, _, _, _, rfl, rfl, SqL.of hL3, at_of (j := p.toNat) (hp0 (hne hb)) (i2 (hne hb)), pa, kvs0, rfl, (hpa (hne hb)).2, f⟩)
            (fun hb f => by have q := hz1 (heq hb); subst q; exact f) (fun D hD => ?_)⟩
          have sD := same_upd (o := .dK kvs0) hD
          have s1D := s13.trans sD
          refine ⟨_, rfl, .inr (.inr (.inl ⟨rfl, .inl ⟨_, upd_same⟩⟩)), _, rfl, ra, r, rfl, ((hrow.same s13).same sD).sq, fun H4 l4 qs sm4 hl4 e41 e42 => ?_⟩
          have D4 : H4 D = some (.dK kvs0) := sm4 _ _ upd_same
          have s14 := s1D.trans sm4
          have hDH : H D = none := s13.free hD
          have lpr : (pairsUp r).length ≤ 32 := by rw [pairsUp_length]; omega
          refine ⟨D, l4, qs, kvs0, ownKV r, rfl, rfl, D4, SqL.of e41, paired_mapR (F := fun (p : Addr) (kv : Key × V) => SqT K H4 p [kV kv.1, kv.2]) (f := fun x : Int × Int => ((Sum.inl x.1, V.int x.2) : Key × V)) (Paired.mapP e42 fun a b z => SqT.of (show H4 a = some (.tup [.int b.1, .int b.2]) from z)), ?_, ?_⟩
          · rw [ownKV_len, sizeLine_eq]
            omega
          have k5 : ∀ b o, H b = some o → upd H4 D (.dK (mergeK kvs0 (ownKV r))) b = some o := fun b o e => by
            rw [upd_ne (ne_of_none e hDH)]
            exact s14 _ _ e
          refine ⟨_, rfl, S, c.ck, m.dS, _, _, rfl, k5 _ _ e1, T.k_Stock, T.n_Stock_platforms, lk_platforms m lr lp, .inl ⟨rfl, _, SqL.of (k5 _ _ e3)⟩, _, rfl, m.lpl, ps.map V.ref, _, rfl, rfl, k5 _ _ e3, ?_, ?_⟩
          · rw [List.length_map, e8, sizeLine_eq]; omega
          obtain ⟨n1, n2, n3, n4, n5, n6⟩ := nd_set ndm
          refine ⟨_, rfl, S, c.ck, m.dS, _, _, rfl, (by rw [upd_ne n2]; exact k5 _ _ e1), T.k_Stock, T.n_Stock_platforms, lk_platforms m lr lp, m.lpl, _, rfl, .inl (SqL.of upd_same), _, _, rfl, rfl, (by show 1 ≤ sizeLine; decide), fun l hl' => ?_⟩
          have hpos : ∀ x ∈ pairsUp r, 0 ≤ x.1 ∧ 0 ≤ x.2 := fun x hx => by
            obtain ⟨_, _, q1, _, q2, _⟩ := pairCode_ok (o4 x hx)
            exact ⟨q1, q2⟩
          have hq1 : ∀ q, (if p = -1 then none else some p.toNat : Option Nat) = some q → q < s.platforms.length := fun q hq => by
            by_cases hp1 : p = -1
            · rw [if_pos hp1] at hq; cases hq
            · rw [if_neg hp1] at hq
              injection hq with hq
              omega
          have hq2 : (mergeK kvs0 (ownKV r)).length ≤ 32 * (s.platforms.length + 1) := by
            have q1 := length_mergeK (ownKV r) kvs0
            rw [ownKV_len] at q1
            omega
          have hq3 : ∀ kk : Nat, valV (mergeK kvs0 (ownKV r)) (Sum.inl (kk : Int)) = (match ofPairs own kk with | some v => some v | none => match (if p = -1 then none else some p.toNat : Option Nat) with | some q => known s q kk | none => none).map vi := fun kk => by
            unfold ownKV
            rw [merge_val (pairsUp r) kvs0 kk hnd hpos, ← o1, hval0 kk]
            cases ofPairs own kk with
            | some v => rfl
            | none => rfl
          obtain ⟨g1, g2, g3⟩ := Stk.platform (v := .int (((ps.map V.ref ++ [V.ref D]).length : Int) - 1)) st k5 hDH upd_same (x := { parent := if p = -1 then none else some p.toNat, own := own }) hq1 o5 o6 hq2 (by omega) hq3 e3 hl'
          have eln : ((ps.map V.ref ++ [V.ref D]).length : Int) - 1 = (s.platforms.length : Int) := by
            rw [List.length_append, List.length_map, List.length_singleton, e8]
            omega
          refine k _ l g1 ?_ g2 g3
          rw [upd_same]
          show some (HO.lst [V.int (((ps.map V.ref ++ [V.ref D]).length : Int) - 1)]) = _
          rw [eln]
          rfl
        · rw [if_neg hl]
          have ea : addPlatform s p r = (s, no FULL) := by
            unfold addPlatform
            rw [if_neg hpar, hown]
            show (if twice (own.map fun x => x.1) = true then (s, no TWICE) else if 16 ≤ s.platforms.length then (s, no FULL) else _) = _
            rw [if_neg htw, if_pos (by omega)]
          rw [ea] at k
          refine iteT ⟨_, rfl, (by show 1 ≤ sizeLine; decide), fun l hl' => ?_⟩
          exact k _ l ((st.same s13).same (same_upd hl')) upd_same (s13.free hl') fun b o e _ => (Same.upd s13 hl') b o e
      · rw [code_nz he, if_neg hne] at h0'
        exact absurd h0' hne
    · have s12 := s1.trans s2
      have hna : addPlatform s p r = (s, no (ownCode s r)) := by
        unfold addPlatform
        rw [if_neg hpar]
        unfold ownCode
        rcases pairsOf_code s r with ⟨own, hown⟩ | ⟨e, he, hne⟩
        · obtain ⟨o1, o2, o3, o4, o5, o6⟩ := pairsOf_ok hown
          have hnn : ¬ ((pairsUp r).map (·.1)).Nodup := fun z => by
            unfold ownCode at hn'
            rw [code_ok hown, if_pos rfl, if_pos z] at hn'
            exact hn' rfl
          rw [code_ok hown, if_pos rfl, if_neg hnn, hown]
          show (if twice (own.map fun x => x.1) = true then (s, no TWICE) else _) = _
          rw [if_pos (by rw [o1]; exact (own_twice o4).mpr hnn)]
          rfl
        · rw [code_nz he, if_neg hne, he]
      rw [hna] at k
      refine ⟨_, rfl, _, rfl, ?_⟩
      rw [bne_nz hn']
      refine iteT ⟨_, rfl, (by show 1 ≤ sizeLine; decide), fun l hl' => ?_⟩
      exact k _ l ((st.same s12).same (same_upd hl')) upd_same (s12.free hl') fun b o e _ => (Same.upd s12 hl') b o e
  · have hp1 : p ≠ -1 := fun z => by rw [if_pos z] at hn; exact hn rfl
    rw [if_neg hp1] at hn ⊢
    rcases below_code (k := PLATFORM) (n := s.platforms.length) (z := p) (by decide) with ⟨hp, p1, p2⟩ | ⟨hp, p1, p2⟩
    · have hp' : platformOf s p = .ok p.toNat := hp
      rw [hp'] at hn
      exact absurd rfl hn
    · have hp' : platformOf s p = .error PLATFORM := hp
      have ea : addPlatform s p r = (s, no PLATFORM) := by
        unfold addPlatform
        rw [if_pos ⟨hp1, by omega⟩]
      rw [ea] at k
      rw [code_nz hp']
      refine ⟨_, rfl, _, rfl, iteT ⟨_, rfl, (by show 1 ≤ sizeLine; decide), fun l hl' => ?_⟩⟩
      exact k _ l ((st.same s1).same (same_upd hl')) upd_same (s1.free hl') fun b o e _ => (Same.upd s1 hl') b o e
end
end TC
end
section
set_option linter.all false
set_option maxRecDepth 100000
set_option Elab.async false
set_option maxHeartbeats 2000000
namespace TC
open PySem PySem.Spec PyProof.Rows L2 Vabldf
theorem int_nat_pairs {l : List (Int × Int)} (h : ∀ x ∈ l, 0 ≤ x.1 ∧ 0 ≤ x.2) : l = (l.map natPair).map intPair := by
  rw [List.map_map]
  refine (List.map_id l).symm.trans (List.map_congr_left fun x hx => ?_)
  obtain ⟨h1, h2⟩ := h x hx
  show x = ((x.1.toNat : Int), (x.2.toNat : Int))
  obtain ⟨a, b⟩ := x
  simp only at h1 h2
  have e1 : ((a.toNat : Nat) : Int) = a := by omega
  have e2 : ((b.toNat : Nat) : Int) = b := by omega
  rw [e1, e2]
theorem vi_toNat {n : Int} (h : 0 ≤ n) : V.int n = vi n.toNat := by
  show V.int n = V.int ((n.toNat : Nat) : Int)
  congr 1
  omega
section
variable {P : Program} {w : World} {K : PySem.W.Frag} {mg : Str → Option Value} {base : Heap} {c : Cl}
/-! ### 3. toolchain -/
theorem ok_add_toolchain (T : Txt K mg c) : Fn P w K mg base 4 "add_toolchain" ["stock", "numbers", "rows"] (spAct K c 2) := by
  have nd := sc_add_toolchain.nd
  refine fn_mk T.f_add_toolchain sc_add_toolchain (fun _ _ _ _ _ _ us hl => match us, hl with | [_, _, _], _ => rfl) (fun vs H Q E h => spAct_len h) fun f cdv A outer s0 H vs Q E hr h => ?_
  obtain ⟨S, m, s, nums, rs, ⟨st, an, ar, ras, rfl, h1, h2, h3⟩, hc, k⟩ := h
  obtain ⟨z, r1, r2, rfl, rfl⟩ := shape2 hc
  obtain ⟨ra, rb, rfl, hrow1, hrow2⟩ := paired2 h3
  have es : VabldfNeutral.step s [[2, z], r1, r2] = ((addChain s z r1 r2).1, VabldfNeutral.encode (addChain s z r1 r2).2) := rfl
  rw [es] at k
  refine ⟨_, (pss_cons (pset 3 nd (pe_ix ix_list (pv 1) pe_int (fun _ _ => rfl)))
      (pss_cons (pset 4 nd (pe_orI (pe_fn (ok_look_kind T) hr (pa_cons (pv 3) pa_nil)) (pe_orI (pe_fn (ok_look_pairs T) hr (pa_cons (pv 0) (pa_cons (pe_ix ix_list (pv 2) pe_int (fun _ _ => rfl)) pa_nil))) (pe_one (pe_fn (ok_look_pairs T) hr (pa_cons (pv 0) (pa_cons (pe_ix ix_list (pv 2) pe_int (fun _ _ => rfl)) pa_nil)))))))
      (pss_cons (pset 4 nd (pe_orI (pv 4) (pe_one (pe_fn (ok_look_room T) hr (pa_cons (pe_fld (pv 0) rfl) (pa_cons (pe_gint T.g_MOST_TOOLCHAINS) pa_nil))))))
      (pss_cons (ps_if (pt_truth (pv 4) (fun _ => rfl)) (pss_one (ps_ret (pe_lst (pa_cons (pv 4) pa_nil)))) pss_nil)
      (pss_cons (ps_expr (pe_bm PySem.F.plainAttrs_list PySem.F.slot_list_append PySem.F.type_list_append mt_append (pe_fld (pv 0) rfl) (pa_cons (pe_mk (mk_Toolchain T) hr (pa_cons (pv 3) (pa_cons (pe_fn (ok_need_of T) hr (pa_cons (pe_ix ix_list (pv 2) pe_int (fun _ _ => rfl)) pa_nil)) (pa_cons (pe_fn (ok_need_of T) hr (pa_cons (pe_ix ix_list (pv 2) pe_int (fun _ _ => rfl)) pa_nil)) pa_nil)))) pa_nil)))
      (pss_one (ps_ret (pe_lst (pa_cons (pe_op op_sub (pe_callB call_len_seq rfl T.b_len PySem.boot_len (pa_cons (pe_fld (pv 0) rfl) pa_nil)) pe_int) pa_nil))))))))), ?_⟩
  have st' := st
  obtain ⟨w, ndm, lr, lp, as, ps, ts, e1, e2, e3, e4, e5, e6, e7, e8, e9, e10⟩ := st'
  have lts : ts.length = s.chains.length := Paired.length e9
  refine ⟨_, rfl, an, _, _, _, rfl, rfl, SqL.of h1, rfl, _, rfl, _, ⟨z, rfl, rfl⟩, fun H1 s1 => ⟨_, rfl, fun h0 => ?_, fun hn => ?_⟩⟩
  · rcases below_code (k := KIND) (n := 32) (z := z) (by decide) with ⟨hk, k1, k2⟩ | ⟨hk, k1, k2⟩
    · have hk' : kindOf z = .ok z.toNat := hk
      refine ⟨_, rfl, _, rfl, ar, _, _, _, rfl, rfl, SqL.of (s1 _ _ h2), rfl, _, ⟨S, s, ra, r1, rfl, st.view.same s1, (hrow1.same s1).sq, hrow1.2, rfl⟩, fun H2 s2 => ⟨_, rfl, fun h0' => ?_, fun hn' => ?_⟩⟩
      · have s12 := s1.trans s2
        rcases pairsOf_code s r1 with ⟨p1, hp1⟩ | ⟨e, he, hne⟩
        · refine ⟨_, rfl, _, rfl, ar, _, _, _, rfl, rfl, SqL.of (s12 _ _ h2), rfl, _, ⟨S, s, rb, r2, rfl, st.view.same s12, (hrow2.same s12).sq, hrow2.2, rfl⟩, fun H3 s3 => ⟨_, rfl, _, rfl, fun h0'' => ?_, fun hn'' => ?_⟩⟩
          · have s13 := s12.trans s3
            rcases pairsOf_code s r2 with ⟨p2, hp2⟩ | ⟨e, he, hne⟩
            · refine ⟨_, rfl, S, c.ck, m.dS, _, _, rfl, s13 _ _ e1, T.k_Stock, T.n_Stock_toolchains, lk_toolchains m lr lp, _, ⟨m.ltc, _, 32, rfl, SqL.of (s13 _ _ e4), rfl⟩, fun H4 s4 => ⟨_, rfl, _, rfl, ?_⟩⟩
              have s14 := s13.trans s4
              rw [List.length_map, lts]
              by_cases hl : (s.chains.length : Int) < 32
              · rw [if_pos hl]
                have ea : addChain s z r1 r2 = ({ s with chains := s.chains ++ [{ kind := z.toNat, first := p1, second := p2 }] }, told (num s.chains.length) []) := by
                  unfold addChain
                  rw [hk']
                  dsimp only
                  rw [hp1]
                  dsimp only
                  rw [hp2]
                  dsimp only
                  rw [if_neg (by omega)]
                rw [ea] at k
                obtain ⟨a1, a2, a3, a4, a5, a6⟩ := pairsOf_ok hp1
                obtain ⟨b1, b2, b3, b4, b5, b6⟩ := pairsOf_ok hp2
                have i1 : pairsUp r1 = p1.map intPair := by
                  rw [a1]
                  refine int_nat_pairs fun x hx => ?_
                  obtain ⟨_, _, q1, _, q2, _⟩ := pairCode_ok (a4 x hx)
                  exact ⟨q1, q2⟩
                have i2 : pairsUp r2 = p2.map intPair := by
                  rw [b1]
                  refine int_nat_pairs fun x hx => ?_
                  obtain ⟨_, _, q1, _, q2, _⟩ := pairCode_ok (b4 x hx)
                  exact ⟨q1, q2⟩
                have hS4 := s14 _ _ e1
                have hL4 := s14 _ _ e4
                refine iteF ⟨_, rfl, S, c.ck, m.dS, _, _, rfl, hS4, T.k_Stock, T.n_Stock_toolchains, lk_toolchains m lr lp, .inl ⟨rfl, _, SqL.of hL4⟩, _, rfl, _, rfl, ar, _, _, _, rfl, rfl, SqL.of (s14 _ _ h2), rfl, ra, r1, p1, rfl, (hrow1.same s14).sq, i1, by omega, fun H5 d1 s5 hd1 n1 => ?_⟩
                have s15 := s14.trans s5
                refine ⟨_, rfl, ar, _, _, _, rfl, rfl, SqL.of (s15 _ _ h2), rfl, rb, r2, p2, rfl, (hrow2.same s15).sq, i2, by omega, fun H6 d2 s6 hd2 n2 => ?_⟩
                have s16 := s15.trans s6
                refine fun x dx hx hdx hne => ⟨x, dx, _, _, _, rfl, upd_same, fun H7 hx7 kp => ⟨rfl, m.ltc, ts.map V.ref, _, rfl, rfl, ?_, ?_, ?_⟩⟩
                all_goals have s67 : Same H6 H7 := Same.made hx hdx kp
                · exact s67 _ _ (s16 _ _ e4)
                · rw [List.length_map, lts, sizeLine_eq]; omega
                · have s17 := s16.trans s67
                  obtain ⟨m1, m2, m3, m4, m5, m6⟩ := nd_set ndm
                  refine ⟨_, rfl, S, c.ck, m.dS, _, _, rfl, (by rw [upd_ne m3]; exact s17 _ _ e1), T.k_Stock, T.n_Stock_toolchains, lk_toolchains m lr lp, m.ltc, _, rfl, .inl (SqL.of upd_same), _, _, rfl, rfl, (by show 1 ≤ sizeLine; decide), fun l hl' => ?_⟩
                  have xH : H x = none := s16.free hx
                  have nm : ∀ b, H b = none → b ∉ mx S m := fun b hb => not_mm st hb
                  have hch : ∀ H' : Hp, (∀ b o, H7 b = some o → b ∉ mx S m → H' b = some o) → ChainAt c.ct H' x { kind := z.toNat, first := p1, second := p2 } := fun H' fr => by
                    refine ⟨dx, d1, d2, ?_, n1.same fun b o q => ?_, n2.same fun b o q => ?_⟩
                    · refine fr x _ ?_ (nm x xH)
                      rw [hx7, vi_toNat k1]
                      rfl
                    · obtain ⟨q1, q2⟩ := newp_of q
                      exact fr b o ((s6.trans s67) _ _ q2) (nm b (s14.free q1))
                    · obtain ⟨q1, q2⟩ := newp_of q
                      exact fr b o (s67 _ _ q2) (nm b (s15.free q1))
                  obtain ⟨g1, g2, g3⟩ := Stk.chain (v := .int (((ts.map V.ref ++ [V.ref x]).length : Int) - 1)) st s17 xH hch a5 b5 a6 b6 (by show z.toNat < 32; omega) (by omega) e4 hl'
                  have eln : ((ts.map V.ref ++ [V.ref x]).length : Int) - 1 = (s.chains.length : Int) := by
                    rw [List.length_append, List.length_map, List.length_singleton, lts]
                    omega
                  refine k _ l g1 ?_ g2 g3
                  rw [upd_same]
                  show some (HO.lst [V.int (((ts.map V.ref ++ [V.ref x]).length : Int) - 1)]) = _
                  rw [eln]
                  rfl
              · rw [if_neg hl]
                have ea : addChain s z r1 r2 = (s, no FULL) := by
                  unfold addChain
                  rw [hk']
                  dsimp only
                  rw [hp1]
                  dsimp only
                  rw [hp2]
                  dsimp only
                  rw [if_pos (by omega)]
                rw [ea] at k
                refine iteT ⟨_, rfl, (by show 1 ≤ sizeLine; decide), fun l hl' => ?_⟩
                exact k _ l ((st.same s14).same (same_upd hl')) upd_same (s14.free hl') fun b o e _ => (Same.upd s14 hl') b o e
            · rw [code_nz he] at h0''
              exact absurd h0'' hne
          · have s13 := s12.trans s3
            rcases pairsOf_code s r2 with ⟨p2, hp2⟩ | ⟨e, he, hne⟩
            · rw [code_ok hp2] at hn''
              exact absurd rfl hn''
            · have ea : addChain s z r1 r2 = (s, no e) := by
                unfold addChain
                rw [hk']
                dsimp only
                rw [hp1]
                dsimp only
                rw [he]
              rw [ea] at k
              rw [code_nz he]
              refine ⟨_, rfl, _, rfl, ?_⟩
              rw [bne_nz hne]
              refine iteT ⟨_, rfl, (by show 1 ≤ sizeLine; decide), fun l hl' => ?_⟩
              exact k _ l ((st.same s13).same (same_upd hl')) upd_same (s13.free hl') fun b o e _ => (Same.upd s13 hl') b o e
        · rw [code_nz he] at h0'
          exact absurd h0' hne
      · have s12 := s1.trans s2
        rcases pairsOf_code s r1 with ⟨p1, hp1⟩ | ⟨e, he, hne⟩
        · rw [code_ok hp1] at hn'
          exact absurd rfl hn'
        · have ea : addChain s z r1 r2 = (s, no e) := by
            unfold addChain
            rw [hk']
            dsimp only
            rw [he]
          rw [ea] at k
          rw [code_nz he]
          refine ⟨_, rfl, _, rfl, fun q => absurd q hne, fun _ => ⟨_, rfl, _, rfl, ?_⟩⟩
          rw [bne_nz hne]
          refine iteT ⟨_, rfl, (by show 1 ≤ sizeLine; decide), fun l hl' => ?_⟩
          exact k _ l ((st.same s12).same (same_upd hl')) upd_same (s12.free hl') fun b o e _ => (Same.upd s12 hl') b o e
    · have hk' : kindOf z = .error KIND := hk
      rw [hk'] at h0
      exact absurd h0 (by decide)
  · rcases below_code (k := KIND) (n := 32) (z := z) (by decide) with ⟨hk, k1, k2⟩ | ⟨hk, k1, k2⟩
    · have hk' : kindOf z = .ok z.toNat := hk
      rw [hk'] at hn
      exact absurd rfl hn
    · have hk' : kindOf z = .error KIND := hk
      have ea : addChain s z r1 r2 = (s, no KIND) := by
        unfold addChain
        rw [hk']
      rw [ea] at k
      rw [code_nz hk']
      refine ⟨_, rfl, _, rfl, fun q => absurd q (by decide), fun _ => ⟨_, rfl, _, rfl, iteT ⟨_, rfl, (by show 1 ≤ sizeLine; decide), fun l hl' => ?_⟩⟩⟩
      exact k _ l ((st.same s1).same (same_upd hl')) upd_same (s1.free hl') fun b o e _ => (Same.upd s1 hl') b o e
end
end TC
end
section
set_option linter.all false
set_option maxRecDepth 100000
set_option Elab.async false
set_option maxHeartbeats 2000000
namespace TC
open PySem PySem.Spec PyProof.Rows L2 Vabldf
theorem none_some (k : Nat) : (!decide (optV (some k) = V.non)) = true := rfl
theorem shape7 {nums : List Int} {rs : List (List Int)} (h : (VabldfNeutral.callOf ((7 :: nums) :: rs)).isSome = true) : ∃ t p g, nums = [t, p, g] ∧ rs = [] := by
  match nums, rs, h with
  | [n, d, e], [], _ => exact ⟨n, d, e, rfl, rfl⟩
theorem shape8 {nums : List Int} {rs : List (List Int)} (h : (VabldfNeutral.callOf ((8 :: nums) :: rs)).isSome = true) : ∃ n a b, nums = [n] ∧ rs = [a, b] := by
  match nums, rs, h with
  | [n], [a, b], _ => exact ⟨n, a, b, rfl, rfl⟩
theorem shape9 {nums : List Int} {rs : List (List Int)} (h : (VabldfNeutral.callOf ((9 :: nums) :: rs)).isSome = true) : ∃ n r, nums = [n] ∧ rs = [r] := by
  match nums, rs, h with
  | [n], [r], _ => exact ⟨n, r, rfl, rfl⟩
theorem shape10 {nums : List Int} {rs : List (List Int)} (h : (VabldfNeutral.callOf ((10 :: nums) :: rs)).isSome = true) : ∃ r, nums = [] ∧ rs = [r] := by
  match nums, rs, h with
  | [], [r], _ => exact ⟨r, rfl, rfl⟩
theorem shape11 {nums : List Int} {rs : List (List Int)} (h : (VabldfNeutral.callOf ((11 :: nums) :: rs)).isSome = true) : ∃ p k, nums = [p, k] ∧ rs = [] := by
  match nums, rs, h with
  | [n, d], [], _ => exact ⟨n, d, rfl, rfl⟩
theorem shape12 {nums : List Int} {rs : List (List Int)} (h : (VabldfNeutral.callOf ((12 :: nums) :: rs)).isSome = true) : ∃ r, nums = [] ∧ rs = [r] := by
  match nums, rs, h with
  | [], [r], _ => exact ⟨r, rfl, rfl⟩
/-- a number that is looked at: accepted, or the refusal -/
theorem code_cases {k : Int} {n : Nat} {z : Int} (hk : k ≠ 0) : (code (below k n z) = 0 → below k n z = .ok z.toNat ∧ 0 ≤ z ∧ z.toNat < n) ∧ (code (below k n z) ≠ 0 → below k n z = .error k ∧ code (below k n z) = k) := by
  rcases below_code (k := k) (n := n) (z := z) hk with ⟨h, h1, h2⟩ | ⟨h, h1, h2⟩
  · exact ⟨fun _ => ⟨h, h1, by omega⟩, fun q => absurd (code_ok h) q⟩
  · exact ⟨fun q => absurd ((code_nz h).symm.trans q) hk, fun _ => ⟨h, code_nz h⟩⟩
section
variable {P : Program} {w : World} {K : PySem.W.Frag} {mg : Str → Option Value} {base : Heap} {c : Cl}
/-! ### 7. fits -/
theorem ok_tell_fit (T : Txt K mg c) : Fn P w K mg base 3 "tell_fit" ["stock", "numbers", "rows"] (spAct K c 6) := by
  have nd := sc_tell_fit.nd
  refine fn_mk T.f_tell_fit sc_tell_fit (fun _ _ _ _ _ _ us hl => match us, hl with | [_, _, _], _ => rfl) (fun vs H Q E h => spAct_len h) fun f cdv A outer s0 H vs Q E hr h => ?_
  obtain ⟨S, m, s, nums, rs, ⟨st, an, ar, ras, rfl, h1, h2, h3⟩, hc, k⟩ := h
  obtain ⟨t, e, g, rfl, rfl⟩ := shape6 hc
  have es : VabldfNeutral.step s [[6, t, e, g]] = (s, VabldfNeutral.encode (with3 (chainOf s t) (platformOf s e) (platformOf s g) (fitsAnswer s))) := rfl
  rw [es] at k
  refine ⟨_, (pss_cons (pset 3 nd (pe_ix ix_list (pv 1) pe_int (fun _ _ => rfl)))
      (pss_cons (pset 4 nd (pe_ix ix_list (pv 1) pe_int (fun _ _ => rfl)))
      (pss_cons (pset 5 nd (pe_orI (pe_fn (ok_look_toolchain T) hr (pa_cons (pv 0) (pa_cons (pe_ix ix_list (pv 1) pe_int (fun _ _ => rfl)) pa_nil))) (pe_orI (pe_fn (ok_look_platform T) hr (pa_cons (pv 0) (pa_cons (pv 3) pa_nil))) (pe_one (pe_fn (ok_look_platform T) hr (pa_cons (pv 0) (pa_cons (pv 4) pa_nil)))))))
      (pss_cons (ps_if (pt_truth (pv 5) (fun _ => rfl)) (pss_one (ps_ret (pe_lst (pa_cons (pv 5) pa_nil)))) pss_nil)
      (pss_cons (pset 6 nd (pe_ix ix_list (pe_fld (pv 0) rfl) (pe_ix ix_list (pv 1) pe_int (fun _ _ => rfl)) (fun _ _ => rfl)))
      (pss_cons (pset 7 nd (pe_fn (ok_unmet_setting T) hr (pa_cons (pv 0) (pa_cons (pv 3) (pa_cons (pe_fld (pv 6) rfl) pa_nil)))))
      (pss_cons (ps_if (pt_cmpR op_notN (pv 7) pe_non (nomark _)) (pss_one (ps_ret (pe_lst (pa_cons pe_int (pa_cons (pv 7) pa_nil))))) pss_nil)
      (pss_cons (pset 7 nd (pe_fn (ok_unmet_setting T) hr (pa_cons (pv 0) (pa_cons (pv 4) (pa_cons (pe_fld (pv 6) rfl) pa_nil)))))
      (pss_cons (ps_if (pt_cmpR op_notN (pv 7) pe_non (nomark _)) (pss_one (ps_ret (pe_lst (pa_cons pe_int (pa_cons (pv 7) pa_nil))))) pss_nil)
      (pss_one (ps_ret (pe_lst (pa_cons pe_int pa_nil))))))))))))), ?_⟩
  have st' := st
  obtain ⟨w, ndm, lr, lp, as, ps, ts, e1, e2, e3, e4, e5, e6, e7, e8, e9, e10⟩ := st'
  obtain ⟨ct1, ct2⟩ := code_cases (k := CHAIN) (n := s.chains.length) (z := t) (by decide)
  obtain ⟨ce1, ce2⟩ := code_cases (k := PLATFORM) (n := s.platforms.length) (z := e) (by decide)
  obtain ⟨cg1, cg2⟩ := code_cases (k := PLATFORM) (n := s.platforms.length) (z := g) (by decide)
  refine ⟨_, rfl, an, _, _, _, rfl, rfl, SqL.of h1, rfl, _, rfl, an, _, _, _, rfl, rfl, SqL.of h1, rfl, _, rfl, _, rfl, an, _, _, _, rfl, rfl, SqL.of h1, rfl, _, ⟨S, s, t, rfl, st.view, rfl⟩, fun H1 s1 => ⟨_, rfl, fun h0 => ?_, fun hn => ?_⟩⟩
  · obtain ⟨t1, t2, t3⟩ := ct1 h0
    refine ⟨_, rfl, _, rfl, _, ⟨S, s, e, rfl, st.view.same s1, rfl⟩, fun H2 s2 => ⟨_, rfl, fun h0' => ?_, fun hn' => ?_⟩⟩
    · obtain ⟨p1, p2, p3⟩ := ce1 h0'
      have s12 := s1.trans s2
      refine ⟨_, rfl, _, rfl, _, ⟨S, s, g, rfl, st.view.same s12, rfl⟩, fun H3 s3 => ⟨_, rfl, _, rfl, ?_⟩⟩
      have s13 := s12.trans s3
      by_cases hg : code (platformOf s g) = 0
      · obtain ⟨q1, q2, q3⟩ := cg1 hg
        rw [hg]
        obtain ⟨ch, hch⟩ : ∃ x, s.chains[t.toNat]? = some x := ⟨_, List.getElem?_eq_getElem t3⟩
        obtain ⟨ta, hta, dx, d1, d2, hT, n1, n2⟩ := Paired.to e9 hch
        obtain ⟨w1, w2, w3, w4, w5⟩ := w.needs _ _ hch
        have i2 : (ts.map V.ref)[t.toNat]? = some (.ref ta) := by rw [List.getElem?_map, hta]; rfl
        have ht0 : t = (t.toNat : Int) := by omega
        have hid3 := (hid_same H (mx S m)).trans s13
        have hS3 := s13 _ _ e1
        have hL3 := s13 _ _ e4
        have ek : with3 (chainOf s t) (platformOf s e) (platformOf s g) (fitsAnswer s) = match unmet s ch.first e.toNat with | some k => told 1 [num k] | none => match unmet s ch.second g.toNat with | some k => told 2 [num k] | none => told 0 [] := by
          have t1' : chainOf s t = .ok t.toNat := t1
          have p1' : platformOf s e = .ok e.toNat := p1
          have q1' : platformOf s g = .ok g.toNat := q1
          rw [t1', p1', q1']
          show fitsAnswer s t.toNat e.toNat g.toNat = _
          unfold fitsAnswer
          rw [hch]
          rfl
        rw [ek] at k
        refine iteF ⟨_, rfl, S, c.ck, m.dS, _, _, rfl, hS3, T.k_Stock, T.n_Stock_toolchains, lk_toolchains m lr lp, _, rfl, an, _, _, _, rfl, rfl, SqL.of (s13 _ _ h1), rfl, m.ltc, _, _, _, rfl, rfl, SqL.of hL3, at_of (j := t.toNat) ht0 i2,
          _, rfl, _, rfl, _, rfl, ta, c.ct, dx, _, _, rfl, hid3 _ _ hT, T.k_Toolchain, T.n_Toolchain_first, lk_first _ _ _, _, ⟨S, s, e.toNat, d1, ch.first, by rw [← vi_toNat p2], st.view.same s13, p3, n1.same hid3, w1, rfl⟩, fun H4 s4 => ⟨_, rfl, rfl, _, rfl, ?_⟩⟩
        have s14 := s13.trans s4
        cases hu : unmet s ch.first e.toNat with
        | some kk =>
          rw [hu] at k
          rw [none_some]
          refine iteT ⟨_, rfl, (by show 2 ≤ sizeLine; decide), fun l hl' => ?_⟩
          exact k _ l ((st.same s14).same (same_upd hl')) upd_same (s14.free hl') fun b o e _ => (Same.upd s14 hl') b o e
        | none =>
          rw [hu] at k
          have hid4 := hid3.trans s4
          refine iteF ⟨_, rfl, _, rfl, _, rfl, ta, c.ct, dx, _, _, rfl, hid4 _ _ hT, T.k_Toolchain, T.n_Toolchain_second, lk_second _ _ _, _, ⟨S, s, g.toNat, d2, ch.second, by rw [← vi_toNat q2], st.view.same s14, q3, n2.same hid4, w2, rfl⟩, fun H5 s5 => ⟨_, rfl, rfl, _, rfl, ?_⟩⟩
          have s15 := s14.trans s5
          cases hu2 : unmet s ch.second g.toNat with
          | some kk =>
            rw [hu2] at k
            rw [none_some]
            refine iteT ⟨_, rfl, (by show 2 ≤ sizeLine; decide), fun l hl' => ?_⟩
            exact k _ l ((st.same s15).same (same_upd hl')) upd_same (s15.free hl') fun b o e _ => (Same.upd s15 hl') b o e
          | none =>
            rw [hu2] at k
            refine iteF ⟨(by show 1 ≤ sizeLine; decide), fun l hl' => ?_⟩
            exact k _ l ((st.same s15).same (same_upd hl')) upd_same (s15.free hl') fun b o e _ => (Same.upd s15 hl') b o e
      · obtain ⟨q1, q2⟩ := cg2 hg
        have ek : with3 (chainOf s t) (platformOf s e) (platformOf s g) (fitsAnswer s) = no PLATFORM := by
          have t1' : chainOf s t = .ok t.toNat := t1
          have p1' : platformOf s e = .ok e.toNat := p1
          have q1' : platformOf s g = .error PLATFORM := q1
          rw [t1', p1', q1']
          rfl
        rw [ek] at k
        rw [show code (platformOf s g) = PLATFORM from q2]
        refine iteT ⟨_, rfl, (by show 1 ≤ sizeLine; decide), fun l hl' => ?_⟩
        exact k _ l ((st.same s13).same (same_upd hl')) upd_same (s13.free hl') fun b o e _ => (Same.upd s13 hl') b o e
    · obtain ⟨p1, p2⟩ := ce2 hn'
      have s12 := s1.trans s2
      have ek : with3 (chainOf s t) (platformOf s e) (platformOf s g) (fitsAnswer s) = no PLATFORM := by
        have t1' : chainOf s t = .ok t.toNat := t1
        have p1' : platformOf s e = .error PLATFORM := p1
        rw [t1', p1']
        rfl
      rw [ek] at k
      rw [show code (platformOf s e) = PLATFORM from p2]
      refine ⟨_, rfl, _, rfl, iteT ⟨_, rfl, (by show 1 ≤ sizeLine; decide), fun l hl' => ?_⟩⟩
      exact k _ l ((st.same s12).same (same_upd hl')) upd_same (s12.free hl') fun b o e _ => (Same.upd s12 hl') b o e
  · obtain ⟨t1, t2⟩ := ct2 hn
    have ek : with3 (chainOf s t) (platformOf s e) (platformOf s g) (fitsAnswer s) = no CHAIN := by
      have t1' : chainOf s t = .error CHAIN := t1
      rw [t1']
      rfl
    rw [ek] at k
    rw [show code (chainOf s t) = CHAIN from t2]
    refine ⟨_, rfl, _, rfl, iteT ⟨_, rfl, (by show 1 ≤ sizeLine; decide), fun l hl' => ?_⟩⟩
    exact k _ l ((st.same s1).same (same_upd hl')) upd_same (s1.free hl') fun b o e _ => (Same.upd s1 hl') b o e
end
end TC
end
section
set_option linter.all false
set_option maxRecDepth 100000
set_option Elab.async false
set_option maxHeartbeats 2000000
namespace L2
open PySem PySem.Spec PyProof.Rows
theorem psetLc {X : Cx} (i : Nat) {y : Str} {py : Pos} {elt tg iter : Expr} {ifs : List Expr} {scope : Scope} {own : List (Str × Nat)} {pos spos : Pos} {wi : TI} {g : TG} {tt : TT} {te : TE} (hc : X.calm = true) (hN : X.N.Nodup) (hi : PI X tg iter wi) (ok : BlkOk X.N X.env.scope scope own)
    (hg : ∀ (s : Shared) (H : Hp) (C : Addr) (cl : List (Str × Addr)) (fp : List Addr), PG (X.blk s H scope (compEnvC scope cl C X.env) fp) tg g) (ht : ∀ (s : Shared) (H : Hp) (C : Addr) (cl : List (Str × Addr)) (fp : List Addr), PTs (X.blk s H scope (compEnvC scope cl C X.env) fp) ifs tt)
    (he : ∀ (s : Shared) (H : Hp) (C : Addr) (cl : List (Str × Addr)) (fp : List Addr), PE (X.blk s H scope (compEnvC scope cl C X.env) fp) elt te) (hy : X.N[i]? = some y := by rfl) (hyl : X.env.scope.names.lookup y = some .local := by rfl) (hk : X.env.scope.kind = .function := by rfl)
    (hl : (py.line == pos.line) = true := by rfl) (ha : (scope.names.any fun (n, k) => n == y && (k == .local || k == .cell)) = false := by rfl) (hs : ∀ x, foldedSetIterable iter X.env x = pure x := by intro _; rfl) :
    PS X (.Assign [.Name y py] (.ListComp elt [⟨tg, iter, ifs, 0⟩] scope pos) spos) (tAsg (tLc wi g tt te (own.map (·.2))) (gName i)) :=
  ps_setLc hc hN hy hyl (sw_true hk hyl hl ha) hi ok hg ht he hs
def tTru (K : PySem.W.Frag) (ta : TE) : TT := fun σ H Q => ta σ H fun x H' => ∃ k, TruV K x H' k ∧ Q k H'
theorem pt_truthN {X : Cx} {K : PySem.W.Frag} {a : Expr} {ta : TE} (hK : X.K = K) (ha : PE X a ta) (he : ∀ whole, isTrue a X.env whole = (do let v ← whole; standAt a.pos; holding [v] (truthy v))) : PT X a (tTru K ta) := pt_truthK hK ha he
end L2
namespace TC
open PySem PySem.Spec PyProof.Rows L2 Vabldf
theorem same_iff (a b : Option Nat) : sameValue a b = decide (V.int (orMinus a) = V.int (orMinus b)) := by
  cases a with
  | none =>
    cases b with
    | none => rfl
    | some y => exact (decide_eq_false (fun z => by
        injection z with z
        have z' : (-1 : Int) = (y : Int) := z
        omega)).symm
  | some x =>
    cases b with
    | none => exact (decide_eq_false (fun z => by
        injection z with z
        have z' : (x : Int) = -1 := z
        omega)).symm
    | some y =>
      show (x == y) = decide (V.int (x : Int) = V.int (y : Int))
      by_cases h : x = y
      · subst h; simp
      · rw [decide_eq_false (fun z => by injection z with z; omega)]
        simpa using h
section
variable {P : Program} {w : World} {K : PySem.W.Frag} {mg : Str → Option Value} {base : Heap} {c : Cl}
def spSame (c : Cl) : Sp := spP fun vs H v => ∃ S s, ∃ p q : Nat, vs = [.ref S, vi p, vi q] ∧ View c H S s ∧ p < s.platforms.length ∧ q < s.platforms.length ∧ v = .bl (alikeAt s p q)
theorem ok_same_values (T : Txt K mg c) : Fn P w K mg base 2 "same_values" ["stock", "platform", "other"] (spSame c) := by
  have nd := sc_same_values.nd
  refine fn_mk T.f_same_values sc_same_values (fun _ _ _ _ _ _ us hl => match us, hl with | [_, _, _], _ => rfl) (fun vs H Q E h => ?_) fun f cdv A outer s H vs Q E hr h => ?_
  · obtain ⟨_, ⟨S, s, p, q, rfl, _⟩, _⟩ := h
    rfl
  · obtain ⟨_, ⟨S, s, p, q, rfl, Vw, hp, hq, rfl⟩, k⟩ := h
    refine ⟨_, (pss_cons (ps_for PassesOwn.never rfl (pi_range1 rfl T.b_range (pa_cons (pe_callB call_len_seq rfl T.b_len PySem.boot_len (pa_cons (pe_fld (pv 0) rfl) pa_nil)) pa_nil)) (pgn 3 nd)
      (pss_one (ps_if (pt_cmpR op_ne (pe_fn (ok_value_of T) hr (pa_cons (pv 0) (pa_cons (pv 1) (pa_cons (pv 3) pa_nil)))) (pe_fn (ok_value_of T) hr (pa_cons (pv 0) (pa_cons (pv 2) (pa_cons (pv 3) pa_nil)))) (nomark _)) (pss_one (ps_ret pe_bl)) pss_nil)))
      (pss_one (ps_ret pe_bl))), ?_⟩
    have V' := Vw
    obtain ⟨w, m, lr, lp, as, ps, ts, e1, e2, e3, e4, e5, e6, e7, e8, e9, e10⟩ := V'
    have las : as.length = s.settings.length := Paired.length e7
    have hs16 := w.nset
    refine ⟨_, rfl, S, c.ck, m.dS, _, _, rfl, e1, T.k_Stock, T.n_Stock_settings, lk_settings m lr lp, m.lset, _, rfl, .inl (SqL.of e2), _, rfl, ?_, ?_, ?_⟩
    · rw [List.length_map]; omega
    · rw [List.length_map]; omega
    rw [List.length_map, las, Int.toNat_natCast]
    refine for_range (n := s.settings.length) (fun i σ H' => ∃ v3, σ = [some (.ref S), some (vi p), some (vi q), v3] ∧ Same H H' ∧ ∀ j, j < i → sameValue (valueOf s p j) (valueOf s q j) = true) ⟨none, rfl, Same.refl _, fun j hj => absurd hj (Nat.not_lt_zero _)⟩ ?_ ?_
    · rintro i σ H' hi ⟨v3, rfl, sm, al⟩
      refine ⟨_, rfl, _, rfl, _, rfl, _, ⟨S, s, p, i, by rw [Int.zero_add], Vw.same sm, hp, hi, rfl⟩, fun H2 s2 => ⟨_, rfl, _, rfl, _, rfl, _, ⟨S, s, q, i, by rw [Int.zero_add], (Vw.same sm).same s2, hq, hi, rfl⟩, fun H3 s3 => ⟨rfl, _, rfl, ?_⟩⟩⟩
      rw [← same_iff]
      cases hv : sameValue (valueOf s p i) (valueOf s q i) with
      | true =>
        refine iteF ⟨_, rfl, (sm.trans s2).trans s3, fun j hj => ?_⟩
        rcases Nat.lt_succ_iff_lt_or_eq.mp hj with z | z
        · exact al j z
        · rw [z]; exact hv
      | false =>
        refine iteT ?_
        have ef : alikeAt s p q = false := by
          unfold alikeAt
          rw [List.all_eq_false]
          exact ⟨i, List.mem_range.mpr hi, by rw [hv]; decide⟩
        rw [ef] at k
        exact k H3 ((sm.trans s2).trans s3)
    · rintro σ H' ⟨v3, rfl, sm, al⟩
      have ef : alikeAt s p q = true := by
        unfold alikeAt
        rw [List.all_eq_true]
        exact fun j hj => al j (List.mem_range.mp hj)
      rw [ef] at k
      exact k H' sm
end
end TC
end
section
set_option linter.all false
set_option maxRecDepth 100000
set_option Elab.async false
set_option maxHeartbeats 2000000
namespace TC
open PySem PySem.Spec PyProof.Rows L2 Vabldf
theorem filter_snoc {α : Type} (f : α → Bool) (l : List α) (x : α) : (l ++ [x]).filter f = l.filter f ++ if f x = true then [x] else [] := by
  rw [List.filter_append]
  cases h : f x <;> simp [h]
theorem get_nats {ns : List Nat} {i : Nat} {y : V} (h : (nats ns)[i]? = some y) : ∃ z, ns[i]? = some z ∧ y = vi z := by
  unfold nats at h
  rw [List.getElem?_map] at h
  cases e : ns[i]? with
  | none => rw [e] at h; cases h
  | some z => rw [e] at h; exact ⟨z, rfl, (Option.some.inj h).symm⟩
theorem nats_len (l : List Nat) : (nats l).length = l.length := by unfold nats; rw [List.length_map]
theorem nats_snoc (l : List Nat) (n : Nat) : nats (l ++ [n]) = nats l ++ [vi n] := by unfold nats; rw [List.map_append]; rfl
theorem refs_snoc (l : List Addr) (n : Addr) : (l ++ [n]).map V.ref = l.map V.ref ++ [.ref n] := by rw [List.map_append]; rfl
theorem take_le {α : Type} (l : List α) (i : Nat) : (l.take i).length ≤ l.length := by rw [List.length_take]; exact Nat.min_le_right _ _
def PairN (H : Hp) (q : Addr) (x : Nat × Nat) : Prop := H q = some (.tup [vi x.1, vi x.2])
/-- a list of pairs -/
def EndsAt (H : Hp) (l : Addr) (es : List (Nat × Nat)) : Prop := ∃ qs : List Addr, H l = some (.lst (qs.map V.ref)) ∧ Paired (PairN H) qs es
theorem EndsAt.same {H H' : Hp} {l : Addr} {es : List (Nat × Nat)} (x : Same H H') (h : EndsAt H l es) : EndsAt H' l es := let ⟨qs, e, p⟩ := h; ⟨qs, x _ _ e, Paired.mapP p fun _ _ z => x _ _ z⟩
theorem paired_app {α β : Type} {F : α → β → Prop} : ∀ {as as' : List α} {bs bs' : List β}, Paired F as bs → Paired F as' bs' → Paired F (as ++ as') (bs ++ bs')
  | _, _, _, _, .nil, h => h
  | _, _, _, _, .cons r t, h => .cons r (paired_app t h)
section
variable {P : Program} {w : World} {K : PySem.W.Frag} {mg : Str → Option Value} {base : Heap} {c : Cl}
def spEnds (K : PySem.W.Frag) (c : Cl) : Sp := fun vs H Q _ => ∃ S s a ch pl ps tl ts, vs = [.ref S, .ref a, .ref pl, .ref tl] ∧ View c H S s ∧ ChainAt c.ct H a ch ∧ PairsOk s ch.first ∧ PairsOk s ch.second ∧ SqL K H pl (nats ps) ∧ SqL K H tl (nats ts) ∧
  (∀ p ∈ ps, p < s.platforms.length) ∧ (∀ t ∈ ts, t < s.platforms.length) ∧ ps.length ≤ 64 ∧ ts.length ≤ 64 ∧ ∀ (H' : Hp) (l : Addr), Same H H' → H l = none → EndsAt H' l (ends s ch ps ts) → Q (.ref l) H'
theorem ok_fitting_ends (T : Txt K mg c) : Fn P w K mg base 4 "fitting_ends" ["stock", "toolchain", "places", "targets"] (spEnds K c) := by
  have nd := sc_fitting_ends.nd
  refine fn_mk T.f_fitting_ends sc_fitting_ends (fun _ _ _ _ _ _ us hl => match us, hl with | [_, _, _, _], _ => rfl) (fun vs H Q E h => ?_) fun f cdv A outer s0 H vs Q E hr h => ?_
  · obtain ⟨S, s, a, ch, pl, ps, tl, ts, rfl, _⟩ := h
    rfl
  obtain ⟨S, s, a, ch, pl, ps, tl, ts, rfl, Vw, hch, w1, w2, hpl, htl, hps, hts, lps, lts, k⟩ := h
  refine ⟨_, (pss_cons (psetLc 4 (own := [("target", 7)]) rfl nd (pi_list (pv 3)) (blkOk_by (N := ["stock", "toolchain", "places", "targets", "fitting_targets", "ends", "place", "target"]) (sc := defScope s_fitting_ends) (by decide +kernel)) (fun s H C cl fp => by exact (pgn 7 nd)) (fun s H C cl fp => by exact (pts_one (pt_truthN (K := K) rfl (pe_fn (ok_meets T) hr (pa_cons (pv 0) (pa_cons (pv 7) (pa_cons (pe_fldK (K := K) rfl (pv 1) rfl) pa_nil)))) (fun _ => rfl)))) (fun s H C cl fp => by exact (pv 7)))
      (pss_cons (pset 5 nd (pe_lst pa_nil))
      (pss_cons (ps_for PassesOwn.never rfl (pi_list (pv 2)) (pgn 6 nd)
      (pss_one (ps_if (pt_truth (pe_fn (ok_meets T) hr (pa_cons (pv 0) (pa_cons (pv 6) (pa_cons (pe_fld (pv 1) rfl) pa_nil)))) (fun _ => rfl)) (pss_one (ps_expr (pe_bm PySem.F.plainAttrs_list PySem.F.slot_list_extend PySem.F.type_list_extend mt_extend (pv 5) (pa_cons (pe_lc (own := [("target", 7)]) rfl nd (pi_list (pv 4)) (blkOk_by (N := ["stock", "toolchain", "places", "targets", "fitting_targets", "ends", "place", "target"]) (sc := defScope s_fitting_ends) (by decide +kernel)) (fun s H C cl fp => by exact (pgn 7 nd)) (fun s H C cl fp => by exact pts_nil) (fun s H C cl fp => by exact (pe_tup (pa_cons (pv 6) (pa_cons (pv 7) pa_nil))))) pa_nil)))) pss_nil)))
      (pss_one (ps_ret (pv 5)))))), ?_⟩
  obtain ⟨dx, d1, d2, hA, n1, n2⟩ := hch
  refine ⟨_, rfl, tl, rfl, ⟨_, htl⟩, fun D hD => lc_list (K := K) (a := tl) (xs := nats ts) (fun i H' => H' D = some (.lst (nats ((ts.take i).filter (meets s ch.second)))) ∧ Same H H') ⟨upd_same, same_upd hD⟩ (fun i H' _ ⟨_, s3⟩ => s3.seq htl) ?_ ?_⟩
  · rintro i y H' hi ⟨hD', s3⟩
    obtain ⟨t, ht, rfl⟩ := get_nats hi
    refine ⟨rfl, _, rfl, _, rfl, _, rfl, a, c.ct, dx, _, _, rfl, s3 _ _ hA, T.k_Toolchain, T.n_Toolchain_second, lk_second _ _ _, _, ⟨S, s, t, d2, ch.second, rfl, Vw.same s3, hts t (List.mem_of_getElem? ht), n2.same s3, w2, rfl⟩, fun H2 s2 => ⟨_, rfl, ?_⟩⟩
    have e5 : (ts.take (i + 1)).filter (meets s ch.second) = (ts.take i).filter (meets s ch.second) ++ if meets s ch.second t = true then [t] else [] := by
      rw [take_snoc ht, filter_snoc]
    cases hm : meets s ch.second t with
    | true =>
      rw [hm] at e5
      refine iteT ⟨_, rfl, _, s2 _ _ hD', ?_, ?_, ?_⟩
      · have q1 := List.length_filter_le (meets s ch.second) (ts.take i)
        have q2 := take_le ts i
        rw [nats_len, sizeLine_eq]
        omega
      · rw [upd_same, e5, if_pos rfl, nats_snoc]
      · exact fun b o e => by
          rw [upd_ne (fun z => by rw [z, hD] at e; cases e)]
          exact s2 _ _ (s3 b o e)
    | false =>
      rw [hm] at e5
      refine iteF ⟨?_, s3.trans s2⟩
      rw [e5, if_neg (by decide), List.append_nil]
      exact s2 _ _ hD'
  · rintro H1 ⟨hD1, s1⟩
    rw [nats_len, List.take_length] at hD1
    refine ⟨Nat.zero_le _, fun L hL => ?_⟩
    have sL := same_upd (o := .lst []) hL
    have s1L := s1.trans sL
    have HL : H L = none := s1.free hL
    have DL : D ≠ L := ne_of_none hD1 hL
    refine ⟨_, rfl, pl, rfl, ⟨_, s1L.seq hpl⟩, for_list (K := K) (a := pl) (xs := nats ps) (fun i σ H' => ∃ v6, σ = [some (.ref S), some (.ref a), some (.ref pl), some (.ref tl), some (.ref D), some (.ref L), v6, none] ∧
      (∀ b o, H1 b = some o → H' b = some o) ∧ EndsAt H' L (ends s ch (ps.take i) ts)) ?_ ?_ ?_ ?_⟩
    · exact ⟨none, rfl, fun b o e => sL _ _ e, [], upd_same, .nil⟩
    · rintro i σ H' _ ⟨_, _, kp, _⟩
      exact (s1.trans kp).seq hpl
    · rintro i y σ H' hi ⟨v6, rfl, kp, qs, hqs, pqs⟩
      obtain ⟨p, hp, rfl⟩ := get_nats hi
      have sH : Same H H' := s1.trans kp
      refine ⟨_, rfl, _, rfl, _, rfl, a, c.ct, dx, _, _, rfl, sH _ _ hA, T.k_Toolchain, T.n_Toolchain_first, lk_first _ _ _, _, ⟨S, s, p, d1, ch.first, rfl, Vw.same sH, hps p (List.mem_of_getElem? hp), n1.same sH, w1, rfl⟩, fun H2 s2 => ⟨_, rfl, ?_⟩⟩
      have lqs : qs.length ≤ 64 * 64 := by
        have q1 := Paired.length pqs
        have q2 := ends_len s ch (ps.take i) ts
        have q3 := take_le ps i
        have q4 : (ps.take i).length * ts.length ≤ 64 * 64 := Nat.mul_le_mul (by omega) lts
        omega
      cases hm : meets s ch.first p with
      | true =>
        have kp2 : ∀ b o, H1 b = some o → H2 b = some o := fun b o e => s2 _ _ (kp b o e)
        refine iteT ⟨_, rfl, .inl ⟨rfl, _, SqL.of (s2 _ _ hqs)⟩, _, rfl, D, rfl, ⟨_, SqL.of (kp2 _ _ hD1)⟩, fun D2 hD2 => lc_list (K := K) (a := D) (xs := nats (ts.filter (meets s ch.second)))
          (fun j H'' => Same H2 H'' ∧ EndsAt H'' D2 (((ts.filter (meets s ch.second)).take j).map fun t => (p, t))) ⟨same_upd hD2, [], upd_same, .nil⟩ (fun j H'' _ ⟨s4, _⟩ => SqL.of (s4 _ _ (kp2 _ _ hD1))) ?_ ?_⟩
        · rintro j y H'' hj ⟨s4, qs2, hqs2, pqs2⟩
          obtain ⟨t, ht, rfl⟩ := get_nats hj
          refine ⟨rfl, ?_⟩
          simp only [tYes, if_true]
          refine ⟨_, rfl, _, rfl, (by show 2 ≤ sizeLine; decide), fun q hq => ⟨_, (same_upd hq) _ _ hqs2, ?_, ?_, ?_⟩⟩
          · have q1 := Paired.length pqs2
            rw [List.length_map] at q1
            have q2 := take_le (ts.filter (meets s ch.second)) j
            have q3 := List.length_filter_le (meets s ch.second) ts
            rw [List.length_map, sizeLine_eq]
            omega
          · exact fun b o e => by
              rw [upd_ne (fun z => by rw [z, hD2] at e; cases e), upd_ne (fun z => by rw [z] at e; rw [s4 _ _ e] at hq; cases hq)]
              exact s4 _ _ e
          · refine ⟨qs2 ++ [q], by rw [upd_same, refs_snoc], ?_⟩
            rw [take_snoc ht, List.map_append]
            have nq : ∀ b o, H'' b = some o → b ≠ D2 → upd (upd H'' q (.tup [vi p, vi t])) D2 (.lst (qs2.map V.ref ++ [.ref q])) b = some o := fun b o e z => by
              rw [upd_ne z]
              exact (same_upd hq) _ _ e
            have qD : q ≠ D2 := fun z => by rw [z, hqs2] at hq; cases hq
            refine paired_app (Paired.mapP pqs2 fun x y z => nq _ _ z fun e => ?_) (.cons ?_ .nil)
            · unfold PairN at z
              rw [e, hqs2] at z
              cases z
            · show upd (upd H'' q (.tup [vi p, vi t])) D2 (.lst (qs2.map V.ref ++ [.ref q])) q = _
              rw [upd_ne qD, upd_same]
        · rintro H3 ⟨s4, qs2, hqs2, pqs2⟩
          rw [nats_len, List.take_length] at pqs2
          refine ⟨L, D2, _, _, rfl, rfl, s4 _ _ (s2 _ _ hqs), hqs2, ?_, ?_⟩
          · have q1 := Paired.length pqs2
            rw [List.length_map] at q1
            have q3 := List.length_filter_le (meets s ch.second) ts
            rw [List.length_map, List.length_map, sizeLine_eq]
            omega
          · have nL : ∀ b o, H3 b = some o → b ≠ L → upd H3 L (.lst (qs.map V.ref ++ qs2.map V.ref)) b = some o := fun b o e z => by
              rw [upd_ne z]
              exact e
            have hL3 := s4 _ _ (s2 _ _ hqs)
            have pN : ∀ q x, PairN H3 q x → PairN (upd H3 L (.lst (qs.map V.ref ++ qs2.map V.ref))) q x := fun q x z => nL _ _ z fun e => by
              unfold PairN at z
              rw [e, hL3] at z
              cases z
            refine ⟨_, rfl, fun b o e => nL _ _ (s4 _ _ (kp2 b o e)) (fun z => by rw [z, hL] at e; cases e), qs ++ qs2, by rw [upd_same, List.map_append], ?_⟩
            rw [take_snoc hp, ends_snoc, hm, if_pos rfl]
            exact paired_app (Paired.mapP pqs fun _ _ z => pN _ _ (s4 _ _ (s2 _ _ z))) (Paired.mapP pqs2 fun _ _ z => pN _ _ z)
      | false =>
        refine iteF ⟨_, rfl, fun b o e => s2 _ _ (kp b o e), ?_⟩
        rw [take_snoc hp, ends_snoc, hm, if_neg (by decide), List.append_nil]
        exact EndsAt.same s2 ⟨qs, hqs, pqs⟩
    · rintro σ H' ⟨v6, rfl, kp, he⟩
      rw [nats_len, List.take_length] at he
      exact ⟨_, rfl, k H' L (s1.trans kp) HL he⟩
end
end TC
end
section
set_option linter.all false
set_option maxRecDepth 100000
set_option Elab.async false
set_option maxHeartbeats 2000000
namespace TC
open PySem PySem.Spec PyProof.Rows L2 Vabldf
theorem in_nats (k : Nat) (l : List Nat) : inV (vi k) (nats l) = l.contains k := orMinus_in (some k) l
section
variable {P : Program} {w : World} {K : PySem.W.Frag} {mg : Str → Option Value} {base : Heap} {c : Cl}
def spTab (K : PySem.W.Frag) (c : Cl) : Sp := fun vs H Q _ => ∃ S s ka ks pa ps ta ts, vs = [.ref S, .ref ka, .ref pa, .ref ta] ∧ Full c H S s ∧ SqL K H ka (nats ks) ∧ SqL K H pa (nats ps) ∧ SqL K H ta (nats ts) ∧
  (∀ p ∈ ps, p < s.platforms.length) ∧ (∀ t ∈ ts, t < s.platforms.length) ∧ ps.length ≤ 64 ∧ ts.length ≤ 64 ∧ ∀ (H' : Hp) (d : Addr), Same H H' → H d = none → H' d = some (.dT (tabOf s ks ps ts s.ranking)) → Q (.ref d) H'
theorem ok_chosen_toolchains (T : Txt K mg c) : Fn P w K mg base 5 "chosen_toolchains" ["stock", "kinds", "places", "targets"] (spTab K c) := by
  have nd := sc_chosen_toolchains.nd
  refine fn_mk T.f_chosen_toolchains sc_chosen_toolchains (fun _ _ _ _ _ _ us hl => match us, hl with | [_, _, _, _], _ => rfl) (fun vs H Q E h => ?_) fun f cdv A outer s0 H vs Q E hr h => ?_
  · obtain ⟨S, s, ka, ks, pa, ps, ta, ts, rfl, _⟩ := h
    rfl
  obtain ⟨S, s, ka, ks, pa, ps, ta, ts, rfl, Fu, hka, hpa, hta, hps, hts, lps, lts, k⟩ := h
  refine ⟨_, (pss_cons (pset 4 nd pe_dnewT)
      (pss_cons (ps_for PassesOwn.never rfl (pi_list (pe_fld (pv 0) rfl)) (pgn 5 nd)
      (pss_cons (pset 6 nd (pe_ix ix_list (pe_fld (pv 0) rfl) (pv 5) (fun _ _ => rfl)))
      (pss_one (ps_if (pt_cmpR op_in_seq (pe_fld (pv 6) rfl) (pv 1) (by with_unfolding_all rfl)) (pss_one (ps_for PassesOwn.never rfl (pi_list (pe_fn (ok_fitting_ends T) hr (pa_cons (pv 0) (pa_cons (pv 6) (pa_cons (pv 2) (pa_cons (pv 3) pa_nil)))))) (pg_tup rfl (pgs_cons (pgn 7 nd) (pgs_cons (pgn 8 nd) pgs_nil)))
      (pss_one (ps_expr (pe_bm PySem.F.plainAttrs_dict PySem.F.slot_dict_setdefault PySem.F.type_dict_setdefault (mt_setdefaultT (hu_of hr)) (pv 4) (pa_cons (pe_tup (pa_cons (pe_fld (pv 6) rfl) (pa_cons (pv 7) (pa_cons (pv 8) pa_nil)))) (pa_cons (pv 5) pa_nil))))))) pss_nil))))
      (pss_one (ps_ret (pv 4))))), ?_⟩
  have F' := Fu
  obtain ⟨w, m, lr, lp, as, pls, tcs, e1, e2, e3, e4, e5, e6, e7, e8, e9, e10⟩ := F'
  intro D hD
  have sD := same_upd (o := .dT []) hD
  refine ⟨_, rfl, S, c.ck, m.dS, _, _, rfl, sD _ _ e1, T.k_Stock, T.n_Stock_ranking, lk_ranking m lr lp, lr, rfl, ⟨_, SqL.of (sD _ _ e5)⟩, for_list (K := K) (a := lr) (xs := nats s.ranking)
    (fun i σ H' => ∃ v5 v6 v7 v8, σ = [some (.ref S), some (.ref ka), some (.ref pa), some (.ref ta), some (.ref D), v5, v6, v7, v8] ∧ Same H H' ∧ H' D = some (.dT (tabOf s ks ps ts (s.ranking.take i)))) ?_ ?_ ?_ ?_⟩
  · exact ⟨none, none, none, none, rfl, sD, upd_same⟩
  · rintro i σ H' _ ⟨_, _, _, _, _, sm, _⟩
    exact SqL.of (sm _ _ e5)
  · rintro i y σ H' hi ⟨v5, v6, v7, v8, rfl, sm, hD'⟩
    obtain ⟨n, hn, rfl⟩ := get_nats hi
    have hnl := w.rank n (List.mem_of_getElem? hn)
    obtain ⟨ch, hch⟩ : ∃ x, s.chains[n]? = some x := ⟨_, List.getElem?_eq_getElem hnl⟩
    obtain ⟨a, ha, hca⟩ := Paired.to e9 hch
    obtain ⟨dx, d1, d2, hA, n1, n2⟩ := id hca
    obtain ⟨w1, w2, w3, w4, w5⟩ := w.needs _ _ hch
    have i2 : (tcs.map V.ref)[n]? = some (.ref a) := by rw [List.getElem?_map, ha]; rfl
    have lD : (tabOf s ks ps ts (s.ranking.take i)).length ≤ 64 * (64 * 64) := by
      refine Nat.le_trans (tab_len s ks ps ts _) (Nat.mul_le_mul ?_ (Nat.mul_le_mul lps lts))
      exact Nat.le_trans (take_le _ _) w.rlen
    refine ⟨_, rfl, S, c.ck, m.dS, _, _, rfl, sm _ _ e1, T.k_Stock, T.n_Stock_toolchains, lk_toolchains m lr lp, _, rfl, m.ltc, _, _, _, rfl, rfl, SqL.of (sm _ _ e4), atI_nat i2,
      _, rfl, a, c.ct, dx, _, _, rfl, sm _ _ hA, T.k_Toolchain, T.n_Toolchain_kind, lk_kind _ _ _, _, rfl, ka, _, rfl, .inl (sm.seq hka), rfl, flat_nats _, _, rfl, ?_⟩
    rw [if_neg (show ¬ false = true by decide), in_nats]
    cases hk : ks.contains ch.kind with
    | true =>
      have eT : tabOf s ks ps ts (s.ranking.take (i + 1)) = putEnds ch.kind n (ends s ch ps ts) (tabOf s ks ps ts (s.ranking.take i)) := by
        rw [take_snoc hn, tabOf_snoc]
        unfold stepT
        rw [hch]
        dsimp only
        rw [if_pos hk]
      refine iteT ⟨_, rfl, _, rfl, _, rfl, _, rfl, S, s, a, ch, pa, ps, ta, ts, rfl, Fu.view.same sm, hca.same sm, w1, w2, sm.seq hpa, sm.seq hta, hps, hts, lps, lts, fun H2 l s2 hl he => ?_⟩
      obtain ⟨qs, hqs, pqs⟩ := he
      have s12 := sm.trans s2
      have lqs := Paired.length pqs
      have le := ends_len s ch ps ts
      have le2 : ps.length * ts.length ≤ 64 * 64 := Nat.mul_le_mul lps lts
      refine ⟨l, rfl, ⟨_, SqL.of hqs⟩, for_list (K := K) (a := l) (xs := qs.map V.ref)
        (fun j σ H'' => ∃ v7 v8, σ = [some (.ref S), some (.ref ka), some (.ref pa), some (.ref ta), some (.ref D), some (vi n), some (.ref a), v7, v8] ∧ (∀ b o, H2 b = some o → b ≠ D → H'' b = some o) ∧
          H'' D = some (.dT (putEnds ch.kind n ((ends s ch ps ts).take j) (tabOf s ks ps ts (s.ranking.take i))))) ?_ ?_ ?_ ?_⟩
      · exact ⟨_, _, rfl, fun b o e _ => e, s2 _ _ hD'⟩
      · rintro j σ H'' _ ⟨_, _, _, kp, _⟩
        refine SqL.of (kp l _ hqs fun z => ?_)
        rw [z, hD'] at hl
        cases hl
      · rintro j y σ H'' hj ⟨v7', v8', rfl, kp, hD''⟩
        obtain ⟨q, hq, rfl⟩ := get_refs hj
        obtain ⟨x, hx, hpx⟩ := Paired.at pqs hq
        have hDH : ∀ b o, H b = some o → b ≠ D := fun b o e => ne_of_none e hD
        have kH : ∀ b o, H b = some o → H'' b = some o := fun b o e => kp b o (s12 _ _ e) (hDH b o e)
        have hq'' : H'' q = some (.tup [vi x.1, vi x.2]) := kp q _ hpx fun z => by
          unfold PairN at hpx
          rw [z, s2 _ _ hD'] at hpx
          cases hpx
        have lE : (putEnds ch.kind n ((ends s ch ps ts).take j) (tabOf s ks ps ts (s.ranking.take i))).length < sizeLine := by
          have q1 := putEnds_len ch.kind n ((ends s ch ps ts).take j) (tabOf s ks ps ts (s.ranking.take i))
          have q2 := take_le (ends s ch ps ts) j
          rw [sizeLine_eq]
          omega
        refine ⟨q, _, rfl, SqT.of hq'', rfl, _, _, rfl, _, _, rfl, rfl, _, rfl, .inr (.inr (.inl ⟨rfl, .inr ⟨_, hD''⟩⟩)), _, rfl, a, c.ct, dx, _, _, rfl, kH _ _ hA, T.k_Toolchain, T.n_Toolchain_kind, lk_kind _ _ _, _, rfl, _, rfl, (by show 3 ≤ sizeLine; decide), fun q3 hq3 => ?_⟩
        have sq := same_upd (o := .tup [vi ch.kind, vi x.1, vi x.2]) hq3
        have nD : D ≠ q3 := ne_of_none hD'' hq3
        have eP : (ends s ch ps ts).take (j + 1) = (ends s ch ps ts).take j ++ [x] := take_snoc hx
        refine ⟨_, rfl, D, _, key3 ch.kind x.1 x.2, q3, vi n, rfl, rfl, sq _ _ hD'', upd_same, lE, fun v hv => ?_, fun hv => ?_⟩
        · refine ⟨_, _, rfl, fun b o e z => sq _ _ (kp b o e z), ?_⟩
          rw [eP, putEnds_snoc, setD_some hv]
          exact sq _ _ hD''
        · refine ⟨_, _, rfl, fun b o e z => by rw [upd_ne z]; exact sq _ _ (kp b o e z), ?_⟩
          rw [eP, putEnds_snoc, setD_none hv, upd_same]
      · rintro σ H'' ⟨v7', v8', rfl, kp, hD''⟩
        rw [List.length_map, lqs, List.take_length, ← eT] at hD''
        exact ⟨_, _, _, _, rfl, fun b o e => kp b o (s12 _ _ e) (ne_of_none e hD), hD''⟩
    | false =>
      have eT : tabOf s ks ps ts (s.ranking.take (i + 1)) = tabOf s ks ps ts (s.ranking.take i) := by
        rw [take_snoc hn, tabOf_snoc]
        unfold stepT
        rw [hch]
        dsimp only
        rw [hk, if_neg (by decide)]
      refine iteF ⟨_, _, _, _, rfl, sm, ?_⟩
      rw [eT]
      exact hD'
  · rintro σ H' ⟨v5, v6, v7, v8, rfl, sm, hD'⟩
    rw [nats_len, List.take_length] at hD'
    exact ⟨_, rfl, k H' D sm hD hD'⟩
/-! ### what the table tells -/
def TabAt (H : Hp) (d : Addr) (g : Nat → Nat → Nat → Option Nat) : Prop := ∃ D, H d = some (.dT D) ∧ ∀ k p t, valV D (key3 k p t) = (g k p t).map vi
theorem TabAt.same {H H' : Hp} {d : Addr} {g : Nat → Nat → Nat → Option Nat} (x : Same H H') (h : TabAt H d g) : TabAt H' d g := let ⟨D, e, q⟩ := h; ⟨D, x _ _ e, q⟩
/-- the first of the kinds that is lacking -/
def lack (g : Nat → Nat → Nat → Option Nat) (ks : List Nat) (p t : Nat) : Option Nat := ks.find? fun k => (g k p t).isNone
def spLack (K : PySem.W.Frag) : Sp := spP fun vs H v => ∃ d g ka ks, ∃ p t : Nat, vs = [.ref d, .ref ka, vi p, vi t] ∧ TabAt H d g ∧ SqL K H ka (nats ks) ∧ v = .int (orMinus (lack g ks p t))
theorem ok_lacking_kind (T : Txt K mg c) : Fn P w K mg base 1 "lacking_kind" ["chosen", "kinds", "place", "target"] (spLack K) := by
  have nd := sc_lacking_kind.nd
  refine fn_mk T.f_lacking_kind sc_lacking_kind (fun _ _ _ _ _ _ us hl => match us, hl with | [_, _, _, _], _ => rfl) (fun vs H Q E h => ?_) fun f cdv A outer s0 H vs Q E hr h => ?_
  · obtain ⟨_, ⟨d, g, ka, ks, p, t, rfl, _⟩, _⟩ := h
    rfl
  obtain ⟨_, ⟨d, g, ka, ks, p, t, rfl, ⟨D, hD, hv⟩, hka, rfl⟩, k⟩ := h
  refine ⟨_, (pss_cons (ps_for PassesOwn.never rfl (pi_list (pv 1)) (pgn 4 nd)
      (pss_one (ps_if (pt_cmp (pc_dnotin (hu_of hr) (pe_tup (pa_cons (pv 4) (pa_cons (pv 2) (pa_cons (pv 3) pa_nil)))) (pv 0))) (pss_one (ps_ret (pv 4))) pss_nil)))
      (pss_one (ps_ret (pe_gint T.g_NO_KIND)))), ?_⟩
  refine ⟨_, rfl, ka, rfl, ⟨_, hka⟩, for_list (K := K) (a := ka) (xs := nats ks) (fun i σ H' => ∃ v4, σ = [some (.ref d), some (.ref ka), some (vi p), some (vi t), v4] ∧ Same H H' ∧ ∀ x ∈ ks.take i, (g x p t).isNone = false)
    ⟨none, rfl, Same.refl _, by simp⟩ (fun i σ H' _ ⟨_, _, sm, _⟩ => sm.seq hka) ?_ ?_⟩
  · rintro i y σ H' hi ⟨v4, rfl, sm, al⟩
    obtain ⟨x, hx, rfl⟩ := get_nats hi
    refine ⟨_, rfl, _, rfl, _, rfl, (by show 3 ≤ sizeLine; decide), fun q3 hq3 => ?_⟩
    have sq := same_upd (o := .tup [vi x, vi p, vi t]) hq3
    refine ⟨_, rfl, d, _, rfl, DGet.t (k := key3 x p t) (sq _ _ (sm _ _ hD)) upd_same, _, rfl, ?_⟩
    rw [hv]
    cases hg : g x p t with
    | some n =>
      refine iteF ⟨_, rfl, sm.trans sq, fun z hz => ?_⟩
      rw [take_snoc hx] at hz
      rcases List.mem_append.mp hz with q | q
      · exact al z q
      · rw [List.mem_singleton.mp q, hg]; rfl
    | none =>
      refine iteT ⟨_, rfl, ?_⟩
      have ef : lack g ks p t = some x := by
        unfold lack
        rw [List.find?_eq_some_iff_append]
        refine ⟨by rw [hg]; rfl, ks.take i, ks.drop (i + 1), ?_, fun e he => by rw [al e he]; rfl⟩
        have h1 : ks.drop i = x :: ks.drop (i + 1) := by
          obtain ⟨h2, h3⟩ := List.getElem?_eq_some_iff.mp hx
          rw [← h3]
          exact List.drop_eq_getElem_cons h2
        rw [← h1, List.take_append_drop]
      rw [ef] at k
      exact k _ (sm.trans sq)
  · rintro σ H' ⟨v4, rfl, sm, al⟩
    rw [nats_len, List.take_length] at al
    have ef : lack g ks p t = none := by
      unfold lack
      rw [List.find?_eq_none]
      intro e he
      rw [al e he]
      decide
    rw [ef] at k
    exact k H' sm
end
end TC
end
section
set_option linter.all false
set_option maxRecDepth 100000
set_option Elab.async false
set_option maxHeartbeats 2000000
namespace TC
open PySem PySem.Spec PyProof.Rows L2 Vabldf
theorem om_none (o : Option Nat) : decide (V.int (orMinus o) = V.int (-1)) = o.isNone := by
  cases o with
  | none => rfl
  | some n => exact decide_eq_false (fun z => by
      injection z with z
      have z' : (n : Int) = -1 := z
      omega)
theorem om_getD (o : Option Nat) : (o.map vi).getD (.int (-1)) = .int (orMinus o) := by cases o <;> rfl
theorem iv_snoc (l : List Int) (n : Int) : iv (l ++ [n]) = iv l ++ [.int n] := by unfold iv; rw [List.map_append]; rfl
theorem iv_len (l : List Int) : (iv l).length = l.length := by unfold iv; rw [List.length_map]
theorem find_at {α : Type} {f : α → Bool} {l : List α} {i : Nat} {x : α} (hx : l[i]? = some x) (h1 : f x = true) (h0 : ∀ y ∈ l.take i, f y = false) : l.find? f = some x := by
  rw [List.find?_eq_some_iff_append]
  refine ⟨h1, l.take i, l.drop (i + 1), ?_, fun e he => by rw [h0 e he]; rfl⟩
  have h1 : l.drop i = x :: l.drop (i + 1) := by
    obtain ⟨h2, h3⟩ := List.getElem?_eq_some_iff.mp hx
    rw [← h3]
    exact List.drop_eq_getElem_cons h2
  rw [← h1, List.take_append_drop]
section
variable {P : Program} {w : World} {K : PySem.W.Frag} {mg : Str → Option Value} {base : Heap} {c : Cl}
def spFor (K : PySem.W.Frag) : Sp := fun vs H Q _ => ∃ d g ka ks, ∃ p t : Nat, vs = [.ref d, .ref ka, vi p, vi t] ∧ TabAt H d g ∧ SqL K H ka (nats ks) ∧ ks.length ≤ 1000 ∧ ∀ (H' : Hp) (l : Addr), Same H H' → H l = none → H' l = some (.lst (iv (ks.map fun k => orMinus (g k p t)))) → Q (.ref l) H'
theorem ok_chosen_for (T : Txt K mg c) : Fn P w K mg base 1 "chosen_for" ["chosen", "kinds", "place", "target"] (spFor K) := by
  have nd := sc_chosen_for.nd
  refine fn_mk T.f_chosen_for sc_chosen_for (fun _ _ _ _ _ _ us hl => match us, hl with | [_, _, _, _], _ => rfl) (fun vs H Q E h => ?_) fun f cdv A outer s0 H vs Q E hr h => ?_
  · obtain ⟨d, g, ka, ks, p, t, rfl, _⟩ := h
    rfl
  obtain ⟨d, g, ka, ks, p, t, rfl, ⟨D, hD, hv⟩, hka, lks, k⟩ := h
  refine ⟨_, (pss_one (ps_ret (pe_lc (own := [("kind", 4)]) rfl nd (pi_list (pv 1)) (blkOk_by (N := ["chosen", "kinds", "place", "target", "kind"]) (sc := defScope s_chosen_for) (by decide +kernel)) (fun s H C cl fp => by exact (pgn 4 nd)) (fun s H C cl fp => by exact pts_nil) (fun s H C cl fp => by exact (pe_dget2 (hu_of hr) (pv 0) (pe_tup (pa_cons (pv 4) (pa_cons (pv 2) (pa_cons (pv 3) pa_nil)))) (pe_gint T.g_NO_TOOLCHAIN) ⟨rfl, rfl, rfl, rfl⟩))))), ?_⟩
  refine ⟨_, rfl, ka, rfl, ⟨_, hka⟩, fun L hL => lc_list (K := K) (a := ka) (xs := nats ks) (fun i H' => H' L = some (.lst (iv ((ks.take i).map fun k => orMinus (g k p t)))) ∧ Same H H') ⟨upd_same, same_upd hL⟩ (fun i H' _ ⟨_, s3⟩ => s3.seq hka) ?_ ?_⟩
  · rintro i y H' hi ⟨hL', s3⟩
    obtain ⟨x, hx, rfl⟩ := get_nats hi
    refine ⟨rfl, ?_⟩
    simp only [tYes, if_true]
    refine ⟨_, rfl, d, rfl, .inr ⟨_, .inl (s3 _ _ hD)⟩, _, rfl, _, rfl, _, rfl, (by show 3 ≤ sizeLine; decide), fun q3 hq3 => ?_⟩
    have sq := same_upd (o := .tup [vi x, vi p, vi t]) hq3
    refine ⟨_, DGet.t (k := key3 x p t) (sq _ _ (s3 _ _ hD)) upd_same, _, sq _ _ hL', ?_, ?_, ?_⟩
    · have q2 := take_le ks i
      rw [iv_len, List.length_map, sizeLine_eq]
      omega
    · rw [upd_same, hv, om_getD, take_snoc hx, List.map_append, List.map_singleton, iv_snoc]
    · exact fun b o e => by
        rw [upd_ne (fun z => by rw [z, hL] at e; cases e)]
        exact sq _ _ (s3 b o e)
  · rintro H' ⟨hL', s3⟩
    rw [nats_len, List.take_length] at hL'
    exact k H' L s3 hL hL'
/-! ### the first place that is served -/
def spServed (K : PySem.W.Frag) (c : Cl) : Sp := spP fun vs H v => ∃ S s d g ka ks, ∃ t : Nat, vs = [.ref S, .ref d, .ref ka, vi t] ∧ View c H S s ∧ TabAt H d g ∧ SqL K H ka (nats ks) ∧ v = optV (s.places.find? fun p => (lack g ks p t).isNone)
theorem ok_served_place (T : Txt K mg c) : Fn P w K mg base 2 "served_place" ["stock", "chosen", "kinds", "target"] (spServed K c) := by
  have nd := sc_served_place.nd
  refine fn_mk T.f_served_place sc_served_place (fun _ _ _ _ _ _ us hl => match us, hl with | [_, _, _, _], _ => rfl) (fun vs H Q E h => ?_) fun f cdv A outer s0 H vs Q E hr h => ?_
  · obtain ⟨_, ⟨S, s, d, g, ka, ks, t, rfl, _⟩, _⟩ := h
    rfl
  obtain ⟨_, ⟨S, s, d, g, ka, ks, t, rfl, Vw, tab, hka, rfl⟩, k⟩ := h
  refine ⟨_, (pss_cons (ps_for PassesOwn.never rfl (pi_list (pe_fld (pv 0) rfl)) (pgn 4 nd)
      (pss_one (ps_if (pt_cmpR op_eq (pe_fn (ok_lacking_kind T) hr (pa_cons (pv 1) (pa_cons (pv 2) (pa_cons (pv 4) (pa_cons (pv 3) pa_nil))))) (pe_gint T.g_NO_KIND) (nomark _)) (pss_one (ps_ret (pv 4))) pss_nil)))
      (pss_one (ps_ret pe_non))), ?_⟩
  have V' := Vw
  obtain ⟨w, m, lr, lp, as, pls, tcs, e1, e2, e3, e4, e5, e6, e7, e8, e9, e10⟩ := V'
  refine ⟨_, rfl, S, c.ck, m.dS, _, _, rfl, e1, T.k_Stock, T.n_Stock_places, lk_places m lr lp, lp, rfl, ⟨_, SqL.of e6⟩, for_list (K := K) (a := lp) (xs := nats s.places)
    (fun i σ H' => ∃ v4, σ = [some (.ref S), some (.ref d), some (.ref ka), some (vi t), v4] ∧ Same H H' ∧ ∀ p ∈ s.places.take i, (lack g ks p t).isNone = false) ⟨none, rfl, Same.refl _, by simp⟩ (fun i σ H' _ ⟨_, _, sm, _⟩ => SqL.of (sm _ _ e6)) ?_ ?_⟩
  · rintro i y σ H' hi ⟨v4, rfl, sm, al⟩
    obtain ⟨p, hp, rfl⟩ := get_nats hi
    refine ⟨_, rfl, _, rfl, _, rfl, _, rfl, _, ⟨d, g, ka, ks, p, t, rfl, tab.same sm, sm.seq hka, rfl⟩, fun H2 s2 => ⟨rfl, _, rfl, ?_⟩⟩
    rw [om_none]
    cases hl : (lack g ks p t).isNone with
    | true =>
      refine iteT ⟨_, rfl, ?_⟩
      rw [find_at hp hl al] at k
      exact k H2 (sm.trans s2)
    | false =>
      refine iteF ⟨_, rfl, sm.trans s2, fun z hz => ?_⟩
      rw [take_snoc hp] at hz
      rcases List.mem_append.mp hz with q | q
      · exact al z q
      · rw [List.mem_singleton.mp q]; exact hl
  · rintro σ H' ⟨v4, rfl, sm, al⟩
    rw [nats_len, List.take_length] at al
    have ef : (s.places.find? fun p => (lack g ks p t).isNone) = none := by
      rw [List.find?_eq_none]
      intro e he
      rw [al e he]
      decide
    rw [ef] at k
    exact k H' sm
/-! ### over all places and all platforms -/
def spAny (K : PySem.W.Frag) (c : Cl) : Sp := fun vs H Q _ => ∃ S s ka ks, vs = [.ref S, .ref ka] ∧ Full c H S s ∧ SqL K H ka (nats ks) ∧ ∀ (H' : Hp) (d : Addr), Same H H' → H d = none → H' d = some (.dT (tabOf s ks s.places (allPlatforms s) s.ranking)) → Q (.ref d) H'
theorem ok_chosen_anywhere (T : Txt K mg c) : Fn P w K mg base 6 "chosen_anywhere" ["stock", "kinds"] (spAny K c) := by
  have nd := sc_chosen_anywhere.nd
  refine fn_mk T.f_chosen_anywhere sc_chosen_anywhere (fun _ _ _ _ _ _ us hl => match us, hl with | [_, _], _ => rfl) (fun vs H Q E h => ?_) fun f cdv A outer s0 H vs Q E hr h => ?_
  · obtain ⟨S, s, ka, ks, rfl, _⟩ := h
    rfl
  obtain ⟨S, s, ka, ks, rfl, Fu, hka, k⟩ := h
  refine ⟨_, (pss_one (ps_ret (pe_fn (ok_chosen_toolchains T) hr (pa_cons (pv 0) (pa_cons (pv 1) (pa_cons (pe_fld (pv 0) rfl) (pa_cons (pe_listrange rfl T.b_range T.b_list (pa_cons (pe_callB call_len_seq rfl T.b_len PySem.boot_len (pa_cons (pe_fld (pv 0) rfl) pa_nil)) pa_nil)) pa_nil))))))), ?_⟩
  have F' := Fu
  obtain ⟨w, m, lr, lp, as, pls, tcs, e1, e2, e3, e4, e5, e6, e7, e8, e9, e10⟩ := F'
  have h16 := w.npl
  refine ⟨_, rfl, _, rfl, _, rfl, S, c.ck, m.dS, _, _, rfl, e1, T.k_Stock, T.n_Stock_places, lk_places m lr lp, _, rfl, S, c.ck, m.dS, _, _, rfl, e1, T.k_Stock, T.n_Stock_platforms, lk_platforms m lr lp, m.lpl, _, rfl, .inl (SqL.of e3), s.platforms.length, ?_, by omega, fun l hl => ?_⟩
  · rw [List.length_map, e8]
  have sl := same_upd (o := .lst (nats (allPlatforms s))) hl
  refine ⟨S, s, ka, ks, lp, s.places, l, allPlatforms s, rfl, Fu.same sl, sl.seq hka, SqL.of (sl _ _ e6), SqL.of upd_same, w.plc, fun t ht => List.mem_range.mp ht, w.plen, ?_, fun H' d s1 hd hd1 => k H' d (sl.trans s1) (sl.free hd) hd1⟩
  unfold allPlatforms
  rw [List.length_range]
  omega
def svBy (s : State) (ks : List Nat) (t : Nat) : Option Nat := s.places.find? fun p => (lack (among s ks s.places (allPlatforms s)) ks p t).isNone
def spSvT (K : PySem.W.Frag) (c : Cl) : Sp := fun vs H Q _ => ∃ S s ka ks, vs = [.ref S, .ref ka] ∧ Full c H S s ∧ SqL K H ka (nats ks) ∧ ∀ (H' : Hp) (l : Addr), Same H H' → H l = none → H' l = some (.lst (nats ((allPlatforms s).filter fun t => (svBy s ks t).isSome))) → Q (.ref l) H'
theorem range_take {i n : Nat} (h : i < n) : (List.range n)[i]? = some i := by rw [List.getElem?_range h]
theorem opt_some (o : Option Nat) : (!decide (optV o = V.non)) = o.isSome := by cases o <;> rfl
theorem ok_served_targets (T : Txt K mg c) : Fn P w K mg base 7 "served_targets" ["stock", "kinds"] (spSvT K c) := by
  have nd := sc_served_targets.nd
  refine fn_mk T.f_served_targets sc_served_targets (fun _ _ _ _ _ _ us hl => match us, hl with | [_, _], _ => rfl) (fun vs H Q E h => ?_) fun f cdv A outer s0 H vs Q E hr h => ?_
  · obtain ⟨S, s, ka, ks, rfl, _⟩ := h
    rfl
  obtain ⟨S, s, ka, ks, rfl, Fu, hka, k⟩ := h
  refine ⟨_, (pss_cons (pset 2 nd (pe_fn (ok_chosen_anywhere T) hr (pa_cons (pv 0) (pa_cons (pv 1) pa_nil))))
      (pss_cons (pset 3 nd (pe_callB call_len_seq rfl T.b_len PySem.boot_len (pa_cons (pe_fld (pv 0) rfl) pa_nil)))
      (pss_one (ps_ret (pe_lc (own := [("target", 4)]) rfl nd (pi_range1 rfl T.b_range (pa_cons (pv 3) pa_nil)) (blkOk_by (N := ["stock", "kinds", "chosen", "platforms", "target"]) (sc := defScope s_served_targets) (by decide +kernel)) (fun s H C cl fp => by exact (pgn 4 nd)) (fun s H C cl fp => by exact (pts_one (pt_cmpR op_notN (pe_fn (ok_served_place T) hr (pa_cons (pv 0) (pa_cons (pv 2) (pa_cons (pv 1) (pa_cons (pv 4) pa_nil))))) pe_non (nomark _)))) (fun s H C cl fp => by exact (pv 4))))))), ?_⟩
  refine ⟨_, rfl, _, rfl, S, s, ka, ks, rfl, Fu, hka, fun H1 d s1 hd hd1 => ?_⟩
  have F1 := Fu.same s1
  have F' := F1
  obtain ⟨w, m, lr, lp, as, pls, tcs, e1, e2, e3, e4, e5, e6, e7, e8, e9, e10⟩ := F'
  have h16 := w.npl
  have tab : TabAt H1 d (among s ks s.places (allPlatforms s)) := ⟨_, hd1, fun k p t => tab_val s ks s.places (allPlatforms s) k p t⟩
  refine ⟨_, rfl, S, c.ck, m.dS, _, _, rfl, e1, T.k_Stock, T.n_Stock_platforms, lk_platforms m lr lp, m.lpl, _, rfl, .inl (SqL.of e3), _, rfl, _, rfl, ?_, ?_, fun L hL => ?_⟩
  · rw [List.length_map]; omega
  · rw [List.length_map]; omega
  rw [List.length_map, e8, Int.toNat_natCast]
  refine lc_range (n := s.platforms.length) (fun i H' => H' L = some (.lst (nats (((allPlatforms s).take i).filter fun t => (svBy s ks t).isSome))) ∧ Same H1 H') ⟨upd_same, same_upd hL⟩ ?_ ?_
  · rintro i H' hi ⟨hL', s3⟩
    refine ⟨rfl, _, rfl, _, rfl, _, rfl, _, rfl, _, ⟨S, s, d, _, ka, ks, i, by rw [Int.zero_add], F1.view.same s3, tab.same s3, (s1.trans s3).seq hka, rfl⟩, fun H2 s2 => ⟨rfl, _, rfl, ?_⟩⟩
    have e5' : ((allPlatforms s).take (i + 1)).filter (fun t => (svBy s ks t).isSome) = ((allPlatforms s).take i).filter (fun t => (svBy s ks t).isSome) ++ if (svBy s ks i).isSome = true then [i] else [] := by
      rw [take_snoc (show (allPlatforms s)[i]? = some i from range_take hi), filter_snoc]
    show if (!decide (optV (svBy s ks i) = V.non)) = true then _ else _
    rw [opt_some]
    cases hm : (svBy s ks i).isSome with
    | true =>
      rw [hm] at e5'
      refine iteT ⟨_, rfl, _, s2 _ _ hL', ?_, ?_, ?_⟩
      · have q1 := List.length_filter_le (fun t => (svBy s ks t).isSome) ((allPlatforms s).take i)
        have q2 := take_le (allPlatforms s) i
        have q3 : (allPlatforms s).length = s.platforms.length := List.length_range
        rw [nats_len, sizeLine_eq]
        omega
      · rw [upd_same, e5', if_pos rfl, nats_snoc, Int.zero_add]
      · exact fun b o e => by
          rw [upd_ne (fun z => by rw [z, hL] at e; cases e)]
          exact s2 _ _ (s3 b o e)
    | false =>
      rw [hm] at e5'
      refine iteF ⟨?_, s3.trans s2⟩
      rw [e5', if_neg (by decide), List.append_nil]
      exact s2 _ _ hL'
  · rintro H' ⟨hL', s3⟩
    have el : (allPlatforms s).take s.platforms.length = allPlatforms s := by
      have q3 : (allPlatforms s).length = s.platforms.length := List.length_range
      rw [← q3, List.take_length]
    rw [el] at hL'
    exact k H' L (s1.trans s3) (s1.free hL) hL'
end
end TC
end
section
set_option linter.all false
set_option maxRecDepth 100000
set_option Elab.async false
set_option maxHeartbeats 2000000
namespace TC
open PySem PySem.Spec PyProof.Rows L2 Vabldf
/-- a walk over a locked dict's values, its keys tuples -/
theorem for_valsT {d : Addr} {o : Obj} {es : List (List Key × V)} {g : TG} {tb : TS} {D : Ends} {σ : L2.St} {H : Hp} (Pv : Nat → L2.St → Hp → Prop) (h0 : Pv 0 σ H) (hl : ∀ i σ H, i ≤ es.length → Pv i σ H → H d = some (.frz o (.dT es)))
    (hs : ∀ i k v σ H, es[i]? = some (k, v) → Pv i σ H → g v σ H fun σ2 H2 => tb { D with nx := Pv (i + 1), ct := Pv (i + 1), bk := D.nx } σ2 H2) (hd : ∀ σ H, Pv es.length σ H → D.nx σ H) :
    ∃ W : Nat → Nat → L2.St → Hp → Prop, (∃ m, W 0 m σ H) ∧ ∀ i m σ H, W i m σ H →
      ((Itdt d o es).stop i H ∧ D.nx σ H) ∨ ((Itdt d o es).go i H ∧ ∃ N : L2.St → Hp → Prop, (∀ σ' H', N σ' H' → ∃ m', m' < m ∧ W (i + 1) m' σ' H') ∧ ∀ x H', (Itdt d o es).yld i H x H' → g x σ H' fun σ2 H2 => tb { D with nx := N, ct := N, bk := D.nx } σ2 H2) := by
  refine ⟨fun i m σ H => m = es.length - i ∧ i ≤ es.length ∧ Pv i σ H, ⟨es.length, by simp, Nat.zero_le _, h0⟩, ?_⟩
  rintro i m σ H ⟨rfl, hi, p⟩
  have q := hl i σ H hi p
  by_cases hlt : i < es.length
  · refine .inr ⟨⟨q, hlt⟩, Pv (i + 1), fun σ' H' p' => ⟨es.length - (i + 1), by omega, rfl, hlt, p'⟩, fun x H' y => ?_⟩
    obtain ⟨e1, k, e2⟩ := y
    subst e1
    exact hs i k x σ _ e2 p
  · have e : i = es.length := by omega
    subst e
    exact .inl ⟨⟨q, Nat.le_refl _⟩, hd σ H p⟩
theorem idle_math (s : State) (w : WF s) (ks : List Nat) (D : List (List Key × V)) (hD : D = tabOf s ks s.places (allPlatforms s) s.ranking) (kvs : List (Key × V))
    (hb : ∀ n : Nat, (valV kvs (Sum.inl (n : Int))).isSome = D.any fun e => decide (e.2 = vi n)) :
    ((s.ranking.filter (kindIn s ks)).filter fun n : Nat => !(valV kvs (Sum.inl (n : Int))).isSome) = s.ranking.filter fun t => kindIn s ks t && !usedAt s t := by
  rw [List.filter_filter]
  refine List.filter_congr fun t ht => ?_
  rw [Bool.and_comm]
  cases hk : kindIn s ks t with
  | false => rfl
  | true =>
    show (!(valV kvs (Sum.inl (t : Int))).isSome) = !usedAt s t
    congr 1
    rw [hb t]
    have hlt := w.rank t ht
    obtain ⟨ch, hch⟩ : ∃ x, s.chains[t]? = some x := ⟨_, List.getElem?_eq_getElem hlt⟩
    have hm : ch.kind ∈ ks := by
      unfold kindIn at hk
      rw [hch] at hk
      exact List.contains_iff_mem.mp hk
    rw [Bool.eq_iff_iff, used_iff s hch hm, List.any_eq_true, hD]
    constructor
    · rintro ⟨e, h1, h2⟩
      exact ⟨e, h1, of_decide_eq_true h2⟩
    · rintro ⟨e, h1, h2⟩
      exact ⟨e, h1, decide_eq_true h2⟩
section
variable {P : Program} {w : World} {K : PySem.W.Frag} {mg : Str → Option Value} {base : Heap} {c : Cl}
def spIdle (K : PySem.W.Frag) (c : Cl) : Sp := fun vs H Q _ => ∃ S s ka ks, vs = [.ref S, .ref ka] ∧ Full c H S s ∧ SqL K H ka (nats ks) ∧ ∀ (H' : Hp) (l : Addr), Same H H' → H l = none → H' l = some (.lst (nats (s.ranking.filter fun t => kindIn s ks t && !usedAt s t))) → Q (.ref l) H'
theorem ok_idle_toolchains (T : Txt K mg c) : Fn P w K mg base 7 "idle_toolchains" ["stock", "kinds"] (spIdle K c) := by
  have nd := sc_idle_toolchains.nd
  refine fn_mk T.f_idle_toolchains sc_idle_toolchains (fun _ _ _ _ _ _ us hl => match us, hl with | [_, _], _ => rfl) (fun vs H Q E h => ?_) fun f cdv A outer s0 H vs Q E hr h => ?_
  · obtain ⟨S, s, ka, ks, rfl, _⟩ := h
    rfl
  obtain ⟨S, s, ka, ks, rfl, Fu, hka, k⟩ := h
  refine ⟨_, (pss_cons (pset 2 nd (pe_fn (ok_chosen_anywhere T) hr (pa_cons (pv 0) (pa_cons (pv 1) pa_nil))))
      (pss_cons (pset 3 nd pe_dnewK)
      (pss_cons (ps_lock (ps_for PassesOwn.never rfl (pi_valuesT (pv 2)) (pgn 5 nd)
      (pss_one (ps_dput (hu_of hr) (pv 3) (pv 5) pe_bl rfl))))
      (pss_cons (psetLc 4 (own := [("number", 5)]) rfl nd (pi_list (pe_fld (pv 0) rfl)) (blkOk_by (N := ["stock", "kinds", "chosen", "busy", "ranked", "number"]) (sc := defScope s_idle_toolchains) (by decide +kernel)) (fun s H C cl fp => by exact (pgn 5 nd)) (fun s H C cl fp => by exact (pts_one (pt_cmpR (op_in_seqK (K := K) rfl) (pe_fldK (K := K) rfl (pe_ix (ix_listK (K := K) rfl) (pe_fldK (K := K) rfl (pv 0) rfl) (pv 5) (fun _ _ => rfl)) rfl) (pv 1) (by with_unfolding_all rfl)))) (fun s H C cl fp => by exact (pv 5)))
      (pss_one (ps_ret (pe_lc (own := [("number", 5)]) rfl nd (pi_list (pv 4)) (blkOk_by (N := ["stock", "kinds", "chosen", "busy", "ranked", "number"]) (sc := defScope s_idle_toolchains) (by decide +kernel)) (fun s H C cl fp => by exact (pgn 5 nd)) (fun s H C cl fp => by exact (pts_one (pt_cmp (pc_dnotin (hu_of hr) (pv 5) (pv 3))))) (fun s H C cl fp => by exact (pv 5))))))))), ?_⟩
  refine ⟨_, rfl, _, rfl, S, s, ka, ks, rfl, Fu, hka, fun H1 d s1 hd hd1 => fun B hB => ?_⟩
  have F1 := Fu.same s1
  have F' := F1
  obtain ⟨w, m, lr, lp, as, pls, tcs, e1, e2, e3, e4, e5, e6, e7, e8, e9, e10⟩ := F'
  obtain ⟨D, eD⟩ : ∃ D, D = tabOf s ks s.places (allPlatforms s) s.ranking := ⟨_, rfl⟩
  rw [← eD] at hd1
  have okD : DOk D := by rw [eD]; exact tab_ok _ _ _ _ _
  have lD : D.length ≤ 64 * (64 * 64) := by
    rw [eD]
    refine Nat.le_trans (tab_len s ks _ _ _) (Nat.mul_le_mul w.rlen (Nat.mul_le_mul w.plen ?_))
    have q3 : (allPlatforms s).length = s.platforms.length := List.length_range
    have := w.npl
    omega
  have sB := same_upd (o := .dK []) hB
  have nB : ∀ b o, H1 b = some o → b ≠ B := fun b o e => ne_of_none e hB
  refine ⟨d, .dT D, sB _ _ hd1, True.intro, fun od => ⟨_, rfl, d, od, D, rfl, upd_same, for_valsT
    (fun i σ H' => ∃ v5, σ = [some (.ref S), some (.ref ka), some (.ref d), some (.ref B), none, v5] ∧ (∀ b o, H1 b = some o → b ≠ d → H' b = some o) ∧ H' d = some (.frz od (.dT D)) ∧
      ∃ kvs, H' B = some (.dK kvs) ∧ kvs.length ≤ i ∧ ∀ n : Nat, (valV kvs (Sum.inl (n : Int))).isSome = (D.take i).any fun e => decide (e.2 = vi n)) ?_ (fun i σ H' _ ⟨_, _, _, q, _⟩ => q) ?_ ?_⟩⟩
  · refine ⟨none, rfl, fun b o e z => by rw [upd_ne z]; exact sB _ _ e, upd_same, [], ?_, Nat.le_refl _, fun n => by simp [valV]⟩
    rw [upd_ne (Ne.symm (nB d _ hd1)), upd_same]
  · rintro i kk v σ H' hi ⟨v5, rfl, kp, hd', kvs, hB', lk, hb⟩
    obtain ⟨kx, px, tx, n, hn⟩ := okD.form _ (List.mem_of_getElem? hi)
    injection hn with hn1 hn2
    subst hn2
    have hil := (List.getElem?_eq_some_iff.mp hi).1
    have hBd : B ≠ d := fun z => by rw [z] at hB; rw [hB] at hd1; cases hd1
    refine ⟨_, rfl, _, rfl, B, _, rfl, DPut.k (k := Sum.inl (n : Int)) hB' (by rw [sizeLine_eq]; omega), _, rfl, fun b o e z => by rw [upd_ne (nB b o e)]; exact kp b o e z, by rw [upd_ne (Ne.symm hBd)]; exact hd', _, upd_same, ?_, fun n' => ?_⟩
    · have := length_putK kvs (Sum.inl (n : Int)) (V.bl true)
      omega
    · rw [valV_put, take_snoc hi, List.any_append, ← hb n']
      by_cases h : (Sum.inl (n' : Int) : Key) = Sum.inl (n : Int)
      · rw [if_pos h]
        injection h with h
        have h' : n' = n := by omega
        subst h'
        simp
      · rw [if_neg h]
        have : ¬ (vi n = vi n') := fun z => h (by
          have z' : V.int (n : Int) = V.int (n' : Int) := z
          injection z' with z'
          rw [z'])
        simp [this]
  · rintro σ H' ⟨v5, rfl, kp, hd', kvs, hB', lk, hb⟩
    rw [List.take_length] at hb
    refine ⟨hd', ?_⟩
    have hBd : B ≠ d := fun z => by rw [z] at hB; rw [hB] at hd1; cases hd1
    have s2 : Same H1 (upd H' d (.dT D)) := fun b o e => by
      by_cases z : b = d
      · subst z
        rw [upd_same, ← e, hd1]
      · rw [upd_ne z]
        exact kp b o e z
    have hB2 : upd H' d (.dT D) B = some (.dK kvs) := by rw [upd_ne hBd]; exact hB'
    have s12 := s1.trans s2
    refine ⟨_, rfl, S, c.ck, m.dS, _, _, rfl, s2 _ _ e1, T.k_Stock, T.n_Stock_ranking, lk_ranking m lr lp, lr, rfl, ⟨_, SqL.of (s2 _ _ e5)⟩, fun L hL => lc_list (K := K) (a := lr) (xs := nats s.ranking)
      (fun i H'' => H'' L = some (.lst (nats ((s.ranking.take i).filter (kindIn s ks)))) ∧ Same (upd H' d (.dT D)) H'') ⟨upd_same, same_upd hL⟩ (fun i H'' _ ⟨_, s3⟩ => SqL.of (s3 _ _ (s2 _ _ e5))) ?_ ?_⟩
    · rintro i y H'' hi ⟨hL', s3⟩
      obtain ⟨n, hn, rfl⟩ := get_nats hi
      have hnl := w.rank n (List.mem_of_getElem? hn)
      obtain ⟨ch, hch⟩ : ∃ x, s.chains[n]? = some x := ⟨_, List.getElem?_eq_getElem hnl⟩
      obtain ⟨a, ha, dx, d1, d2, hA, n1, n2⟩ := Paired.to e9 hch
      have i2 : (tcs.map V.ref)[n]? = some (.ref a) := by rw [List.getElem?_map, ha]; rfl
      have s23 := s2.trans s3
      refine ⟨rfl, _, rfl, S, c.ck, m.dS, _, _, rfl, s23 _ _ e1, T.k_Stock, T.n_Stock_toolchains, lk_toolchains m lr lp, _, rfl, m.ltc, _, _, _, rfl, rfl, SqL.of (s23 _ _ e4), atI_nat i2,
        a, c.ct, dx, _, _, rfl, s23 _ _ hA, T.k_Toolchain, T.n_Toolchain_kind, lk_kind _ _ _, _, rfl, ka, _, rfl, .inl ((s1.trans s23).seq hka), rfl, flat_nats _, _, rfl, ?_⟩
      rw [if_neg (show ¬ false = true by decide), in_nats]
      have ek : kindIn s ks n = ks.contains ch.kind := by unfold kindIn; rw [hch]
      rw [← ek]
      have e5' : (s.ranking.take (i + 1)).filter (kindIn s ks) = (s.ranking.take i).filter (kindIn s ks) ++ if kindIn s ks n = true then [n] else [] := by
        rw [take_snoc hn, filter_snoc]
      cases hm : kindIn s ks n with
      | true =>
        rw [hm] at e5'
        refine iteT ⟨_, rfl, _, hL', ?_, ?_, ?_⟩
        · have q1 := List.length_filter_le (kindIn s ks) (s.ranking.take i)
          have q2 := take_le s.ranking i
          have q3 := w.rlen
          rw [nats_len, sizeLine_eq]
          omega
        · rw [upd_same, e5', if_pos rfl, nats_snoc]
        · exact fun b o e => by
            rw [upd_ne (fun z => by rw [z, hL] at e; cases e)]
            exact s3 b o e
      | false =>
        rw [hm] at e5'
        refine iteF ⟨?_, s3⟩
        rw [e5', if_neg (by decide), List.append_nil]
        exact hL'
    · rintro H3 ⟨hL3, s3⟩
      rw [nats_len, List.take_length] at hL3
      have s23 := s2.trans s3
      have hB3 := s3 _ _ hB2
      refine ⟨_, rfl, L, rfl, ⟨_, SqL.of hL3⟩, fun R hR => lc_list (K := K) (a := L) (xs := nats (s.ranking.filter (kindIn s ks)))
        (fun i H'' => H'' R = some (.lst (nats (((s.ranking.filter (kindIn s ks)).take i).filter fun n : Nat => !(valV kvs (Sum.inl (n : Int))).isSome))) ∧ Same H3 H'') ⟨upd_same, same_upd hR⟩ (fun i H'' _ ⟨_, s4⟩ => SqL.of (s4 _ _ hL3)) ?_ ?_⟩
      · rintro i y H'' hi ⟨hR', s4⟩
        obtain ⟨n, hn, rfl⟩ := get_nats hi
        refine ⟨rfl, _, rfl, _, rfl, B, _, rfl, DGet.k (k := Sum.inl (n : Int)) (s4 _ _ hB3), _, rfl, ?_⟩
        have e5' : ((s.ranking.filter (kindIn s ks)).take (i + 1)).filter (fun n : Nat => !(valV kvs (Sum.inl (n : Int))).isSome) = ((s.ranking.filter (kindIn s ks)).take i).filter (fun n : Nat => !(valV kvs (Sum.inl (n : Int))).isSome) ++ if (!(valV kvs (Sum.inl (n : Int))).isSome) = true then [n] else [] := by
          rw [take_snoc hn, filter_snoc]
        cases hm : (valV kvs (Sum.inl (n : Int))).isSome with
        | false =>
          rw [hm] at e5'
          refine iteT ⟨_, rfl, _, hR', ?_, ?_, ?_⟩
          · have q1 := List.length_filter_le (fun n : Nat => !(valV kvs (Sum.inl (n : Int))).isSome) ((s.ranking.filter (kindIn s ks)).take i)
            have q2 := take_le (s.ranking.filter (kindIn s ks)) i
            have q3 := List.length_filter_le (kindIn s ks) s.ranking
            have q4 := w.rlen
            rw [nats_len, sizeLine_eq]
            omega
          · rw [upd_same, e5', if_pos (show (!false) = true from rfl), nats_snoc]
          · exact fun b o e => by
              rw [upd_ne (fun z => by rw [z, hR] at e; cases e)]
              exact s4 b o e
        | true =>
          rw [hm] at e5'
          refine iteF ⟨?_, s4⟩
          rw [e5', if_neg (by decide), List.append_nil]
          exact hR'
      · rintro H4 ⟨hR4, s4⟩
        rw [nats_len, List.take_length, idle_math s w ks D eD kvs hb] at hR4
        exact k H4 R ((s1.trans s23).trans s4) ((s1.trans s23).free hR) hR4
end
end TC
end
section
set_option linter.all false
set_option maxRecDepth 100000
set_option Elab.async false
set_option maxHeartbeats 2000000
namespace TC
open PySem PySem.Spec PyProof.Rows L2 Vabldf
/-! ### the table and the document's words -/
theorem among_eq {s : State} {ks ps ts : List Nat} {k p t : Nat} (h1 : k ∈ ks) (h2 : p ∈ ps) (h3 : t ∈ ts) : among s ks ps ts k p t = chosen s k p t := by
  unfold among
  rw [if_pos ⟨h1, h2, h3⟩]
theorem lack_eq {s : State} {ks ps ts ks' : List Nat} {p t : Nat} (h1 : ∀ k ∈ ks', k ∈ ks) (h2 : p ∈ ps) (h3 : t ∈ ts) : lack (among s ks ps ts) ks' p t = ks'.find? fun k => (chosen s k p t).isNone := by
  unfold lack
  exact find_congr' fun k hk => by rw [among_eq (h1 k hk) h2 h3]
theorem find_none_all (s : State) (p t : Nat) : ∀ ks : List Nat, (ks.find? fun k => (chosen s k p t).isNone).isNone = ks.all fun k => (chosen s k p t).isSome
  | [] => rfl
  | k :: r => by
    rw [List.find?_cons, List.all_cons]
    cases h : chosen s k p t with
    | none => rfl
    | some n => exact find_none_all s p t r
theorem place_eq {s : State} {ks ts ks' : List Nat} {t : Nat} (h1 : ∀ k ∈ ks', k ∈ ks) (h3 : t ∈ ts) : (s.places.find? fun p => (lack (among s ks s.places ts) ks' p t).isNone) = placeFor s ks' t := by
  unfold placeFor
  refine find_congr' fun p hp => ?_
  rw [lack_eq h1 hp h3, find_none_all]
  rfl
theorem nats_num (l : List Nat) : nats l = iv (l.map num) := by
  unfold nats iv
  rw [List.map_map]
  rfl
theorem kinds_code (r : List Int) : (∃ q, listOf kindOf r = .ok q ∧ q = r.map Int.toNat ∧ iv r = nats q ∧ r.length ≤ 64 ∧ q.length = r.length) ∨ ∃ e, listOf kindOf r = .error e ∧ e ≠ 0 := by
  rcases listOf_code (k := KIND) (n := 32) (l := r) (by decide) with ⟨q, hq⟩ | ⟨e, hq, he⟩
  · obtain ⟨q1, q2, q3, q4, q5, q6⟩ := listOf_ok (k := KIND) (c := 32) hq
    refine .inl ⟨q, hq, q1, ?_, q2, ?_⟩
    · rw [q1, ← iv_nats fun n hn => (q3 n hn).1]
    · rw [q1, List.length_map]
  · exact .inr ⟨e, hq, he⟩
section
variable {P : Program} {w : World} {K : PySem.W.Frag} {mg : Str → Option Value} {base : Heap} {c : Cl}
/-! ### 13. idle -/
theorem ok_tell_idle (T : Txt K mg c) : Fn P w K mg base 8 "tell_idle" ["stock", "numbers", "rows"] (spAct K c 12) := by
  have nd := sc_tell_idle.nd
  refine fn_mk T.f_tell_idle sc_tell_idle (fun _ _ _ _ _ _ us hl => match us, hl with | [_, _, _], _ => rfl) (fun vs H Q E h => spAct_len h) fun f cdv A outer s0 H vs Q E hr h => ?_
  obtain ⟨S, m, s, nums, rs, ⟨st, an, ar, ras, rfl, h1, h2, h3⟩, hc, k⟩ := h
  obtain ⟨r, rfl, rfl⟩ := shape12 hc
  obtain ⟨ra, rfl, hrow⟩ := paired1 h3
  have es : VabldfNeutral.step s [[12], r] = (s, VabldfNeutral.encode (withList (listOf kindOf r) fun l => told 0 ((s.ranking.filter fun t => kindIn s l t && !usedAt s t).map num))) := rfl
  rw [es] at k
  refine ⟨_, (pss_cons (pset 3 nd (pe_fn (ok_look_kinds T) hr (pa_cons (pe_ix ix_list (pv 2) pe_int (fun _ _ => rfl)) pa_nil)))
      (pss_cons (ps_if (pt_truth (pv 3) (fun _ => rfl)) (pss_one (ps_ret (pe_lst (pa_cons (pv 3) pa_nil)))) pss_nil)
      (pss_one (ps_ret (pe_op op_cat (pe_lst (pa_cons pe_int pa_nil)) (pe_fn (ok_idle_toolchains T) hr (pa_cons (pv 0) (pa_cons (pe_ix ix_list (pv 2) pe_int (fun _ _ => rfl)) pa_nil)))))))), ?_⟩
  refine ⟨_, rfl, ar, _, _, _, rfl, rfl, SqL.of h2, rfl, _, ⟨ra, r, rfl, hrow.sq, hrow.2, rfl⟩, fun H1 s1 => ⟨_, rfl, _, rfl, ?_⟩⟩
  rcases kinds_code r with ⟨q, hq, q1, q2, q3, q4⟩ | ⟨e, hq, he⟩
  · rw [hq] at k
    rw [code_ok hq]
    refine iteF ⟨(by show 1 ≤ sizeLine; decide), fun l0 hl0 => ?_⟩
    have s0' := same_upd (o := .lst [.int 0]) hl0
    have s10 := s1.trans s0'
    refine ⟨_, rfl, _, rfl, ar, _, _, _, rfl, rfl, SqL.of (s10 _ _ h2), rfl, S, s, ra, q, rfl, st.full.same s10, (by rw [← q2]; exact (hrow.same s10).sq), fun H2 l s2 hl hl2 => ?_⟩
    have s12 := s10.trans s2
    refine ⟨l0, l, _, _, rfl, rfl, s2 _ _ upd_same, hl2, ?_, fun p hp => ?_⟩
    · have q5 := List.length_filter_le (fun t => kindIn s q t && !usedAt s t) s.ranking
      have q6 := st.wf.rlen
      rw [nats_len, sizeLine_eq]
      show 1 + _ ≤ _
      omega
    · refine k _ p ((st.same s12).same (same_upd hp)) ?_ (s12.free hp) fun b o e _ => (Same.upd s12 hp) b o e
      rw [upd_same, nats_num]
      rfl
  · rw [hq] at k
    rw [code_nz hq, bne_nz he]
    refine iteT ⟨_, rfl, (by show 1 ≤ sizeLine; decide), fun l hl' => ?_⟩
    exact k _ l ((st.same s1).same (same_upd hl')) upd_same (s1.free hl') fun b o e _ => (Same.upd s1 hl') b o e
/-! ### 11. served -/
theorem ok_tell_served (T : Txt K mg c) : Fn P w K mg base 8 "tell_served" ["stock", "numbers", "rows"] (spAct K c 10) := by
  have nd := sc_tell_served.nd
  refine fn_mk T.f_tell_served sc_tell_served (fun _ _ _ _ _ _ us hl => match us, hl with | [_, _, _], _ => rfl) (fun vs H Q E h => spAct_len h) fun f cdv A outer s0 H vs Q E hr h => ?_
  obtain ⟨S, m, s, nums, rs, ⟨st, an, ar, ras, rfl, h1, h2, h3⟩, hc, k⟩ := h
  obtain ⟨r, rfl, rfl⟩ := shape10 hc
  obtain ⟨ra, rfl, hrow⟩ := paired1 h3
  have es : VabldfNeutral.step s [[10], r] = (s, VabldfNeutral.encode (withList (listOf kindOf r) fun l => told 0 (((allPlatforms s).filter fun p => (placeFor s l p).isSome).map num))) := rfl
  rw [es] at k
  refine ⟨_, (pss_cons (pset 3 nd (pe_fn (ok_look_kinds T) hr (pa_cons (pe_ix ix_list (pv 2) pe_int (fun _ _ => rfl)) pa_nil)))
      (pss_cons (ps_if (pt_truth (pv 3) (fun _ => rfl)) (pss_one (ps_ret (pe_lst (pa_cons (pv 3) pa_nil)))) pss_nil)
      (pss_one (ps_ret (pe_op op_cat (pe_lst (pa_cons pe_int pa_nil)) (pe_fn (ok_served_targets T) hr (pa_cons (pv 0) (pa_cons (pe_ix ix_list (pv 2) pe_int (fun _ _ => rfl)) pa_nil)))))))), ?_⟩
  refine ⟨_, rfl, ar, _, _, _, rfl, rfl, SqL.of h2, rfl, _, ⟨ra, r, rfl, hrow.sq, hrow.2, rfl⟩, fun H1 s1 => ⟨_, rfl, _, rfl, ?_⟩⟩
  rcases kinds_code r with ⟨q, hq, q1, q2, q3, q4⟩ | ⟨e, hq, he⟩
  · rw [hq] at k
    rw [code_ok hq]
    refine iteF ⟨(by show 1 ≤ sizeLine; decide), fun l0 hl0 => ?_⟩
    have s0' := same_upd (o := .lst [.int 0]) hl0
    have s10 := s1.trans s0'
    refine ⟨_, rfl, _, rfl, ar, _, _, _, rfl, rfl, SqL.of (s10 _ _ h2), rfl, S, s, ra, q, rfl, st.full.same s10, (by rw [← q2]; exact (hrow.same s10).sq), fun H2 l s2 hl hl2 => ?_⟩
    have s12 := s10.trans s2
    have ef : ((allPlatforms s).filter fun t => (svBy s q t).isSome) = (allPlatforms s).filter fun p => (placeFor s q p).isSome := List.filter_congr fun t ht => by
      show (svBy s q t).isSome = _
      unfold svBy
      rw [place_eq (fun k hk => hk) ht]
    rw [ef] at hl2
    refine ⟨l0, l, _, _, rfl, rfl, s2 _ _ upd_same, hl2, ?_, fun p hp => ?_⟩
    · have q5 := List.length_filter_le (fun p => (placeFor s q p).isSome) (allPlatforms s)
      have q6 := st.wf.npl
      have q7 : (allPlatforms s).length = s.platforms.length := List.length_range
      rw [nats_len, sizeLine_eq]
      show 1 + _ ≤ _
      omega
    · refine k _ p ((st.same s12).same (same_upd hp)) ?_ (s12.free hp) fun b o e _ => (Same.upd s12 hp) b o e
      rw [upd_same, nats_num]
      rfl
  · rw [hq] at k
    rw [code_nz hq, bne_nz he]
    refine iteT ⟨_, rfl, (by show 1 ≤ sizeLine; decide), fun l hl' => ?_⟩
    exact k _ l ((st.same s1).same (same_upd hl')) upd_same (s1.free hl') fun b o e _ => (Same.upd s1 hl') b o e
/-! ### 12. alike -/
theorem ok_tell_alike (T : Txt K mg c) : Fn P w K mg base 3 "tell_alike" ["stock", "numbers", "rows"] (spAct K c 11) := by
  have nd := sc_tell_alike.nd
  refine fn_mk T.f_tell_alike sc_tell_alike (fun _ _ _ _ _ _ us hl => match us, hl with | [_, _, _], _ => rfl) (fun vs H Q E h => spAct_len h) fun f cdv A outer s0 H vs Q E hr h => ?_
  obtain ⟨S, m, s, nums, rs, ⟨st, an, ar, ras, rfl, h1, h2, h3⟩, hc, k⟩ := h
  obtain ⟨p, x, rfl, rfl⟩ := shape11 hc
  have es : VabldfNeutral.step s [[11, p, x]] = (s, VabldfNeutral.encode (with2 (platformOf s p) (platformOf s x) fun a b => told (if alikeAt s a b then 1 else 0) [])) := rfl
  rw [es] at k
  refine ⟨_, (pss_cons (pset 3 nd (pe_orI (pe_fn (ok_look_platform T) hr (pa_cons (pv 0) (pa_cons (pe_ix ix_list (pv 1) pe_int (fun _ _ => rfl)) pa_nil))) (pe_one (pe_fn (ok_look_platform T) hr (pa_cons (pv 0) (pa_cons (pe_ix ix_list (pv 1) pe_int (fun _ _ => rfl)) pa_nil))))))
      (pss_cons (ps_if (pt_truth (pv 3) (fun _ => rfl)) (pss_one (ps_ret (pe_lst (pa_cons (pv 3) pa_nil)))) pss_nil)
      (pss_one (ps_ret (pe_lst (pa_cons (pe_ifExp (pt_truth (pe_fn (ok_same_values T) hr (pa_cons (pv 0) (pa_cons (pe_ix ix_list (pv 1) pe_int (fun _ _ => rfl)) (pa_cons (pe_ix ix_list (pv 1) pe_int (fun _ _ => rfl)) pa_nil)))) (fun _ => rfl)) pe_int pe_int) pa_nil)))))), ?_⟩
  obtain ⟨cp1, cp2⟩ := code_cases (k := PLATFORM) (n := s.platforms.length) (z := p) (by decide)
  obtain ⟨cx1, cx2⟩ := code_cases (k := PLATFORM) (n := s.platforms.length) (z := x) (by decide)
  refine ⟨_, rfl, _, rfl, an, _, _, _, rfl, rfl, SqL.of h1, rfl, _, ⟨S, s, p, rfl, st.view, rfl⟩, fun H1 s1 => ⟨_, rfl, fun h0 => ?_, fun hn => ?_⟩⟩
  · obtain ⟨p1, p2, p3⟩ := cp1 h0
    have p1' : platformOf s p = .ok p.toNat := p1
    rw [p1'] at k
    refine ⟨_, rfl, _, rfl, an, _, _, _, rfl, rfl, SqL.of (s1 _ _ h1), rfl, _, ⟨S, s, x, rfl, st.view.same s1, rfl⟩, fun H2 s2 => ⟨_, rfl, _, rfl, ?_⟩⟩
    have s12 := s1.trans s2
    by_cases hx : code (platformOf s x) = 0
    · obtain ⟨x1, x2, x3⟩ := cx1 hx
      have x1' : platformOf s x = .ok x.toNat := x1
      rw [x1'] at k
      rw [hx]
      refine iteF ⟨_, rfl, _, rfl, an, _, _, _, rfl, rfl, SqL.of (s12 _ _ h1), rfl, _, rfl, an, _, _, _, rfl, rfl, SqL.of (s12 _ _ h1), rfl, _, ⟨S, s, p.toNat, x.toNat, by rw [← vi_toNat p2, ← vi_toNat x2], st.view.same s12, p3, x3, rfl⟩, fun H3 s3 => ⟨_, rfl, ?_⟩⟩
      have s13 := s12.trans s3
      cases ha : alikeAt s p.toNat x.toNat with
      | true =>
        have kk : ∀ (H' : Hp) (l : Addr), Stk c H' S m s → H' l = some (.lst (iv [1])) → H l = none → (∀ b o, H b = some o → b ∉ mm S m → H' b = some o) → Q (.ref l) H' := by
          simpa [with2, ha, told, VabldfNeutral.encode] using k
        refine iteT ⟨(by show 1 ≤ sizeLine; decide), fun l hl' => ?_⟩
        exact kk _ l ((st.same s13).same (same_upd hl')) upd_same (s13.free hl') fun b o e _ => (Same.upd s13 hl') b o e
      | false =>
        have kk : ∀ (H' : Hp) (l : Addr), Stk c H' S m s → H' l = some (.lst (iv [0])) → H l = none → (∀ b o, H b = some o → b ∉ mm S m → H' b = some o) → Q (.ref l) H' := by
          simpa [with2, ha, told, VabldfNeutral.encode] using k
        refine iteF ⟨(by show 1 ≤ sizeLine; decide), fun l hl' => ?_⟩
        exact kk _ l ((st.same s13).same (same_upd hl')) upd_same (s13.free hl') fun b o e _ => (Same.upd s13 hl') b o e
    · obtain ⟨x1, x2⟩ := cx2 hx
      have x1' : platformOf s x = .error PLATFORM := x1
      rw [x1'] at k
      rw [show code (platformOf s x) = PLATFORM from x2]
      refine iteT ⟨_, rfl, (by show 1 ≤ sizeLine; decide), fun l hl' => ?_⟩
      exact k _ l ((st.same s12).same (same_upd hl')) upd_same (s12.free hl') fun b o e _ => (Same.upd s12 hl') b o e
  · obtain ⟨p1, p2⟩ := cp2 hn
    have p1' : platformOf s p = .error PLATFORM := p1
    rw [p1'] at k
    rw [show code (platformOf s p) = PLATFORM from p2]
    refine ⟨_, rfl, _, rfl, iteT ⟨_, rfl, (by show 1 ≤ sizeLine; decide), fun l hl' => ?_⟩⟩
    exact k _ l ((st.same s1).same (same_upd hl')) upd_same (s1.free hl') fun b o e _ => (Same.upd s1 hl') b o e
end
end TC
end
section
set_option linter.all false
set_option maxRecDepth 100000
set_option Elab.async false
set_option maxHeartbeats 2000000
namespace TC
open PySem PySem.Spec PyProof.Rows L2 Vabldf
theorem nat1 {n : Int} (h : 0 ≤ n) : [V.int n] = nats [n.toNat] := by rw [vi_toNat h]; rfl
theorem key3_tup {k p t : Int} (h1 : 0 ≤ k) (h2 : 0 ≤ p) (h3 : 0 ≤ t) : HO.tup [V.int k, V.int p, V.int t] = HO.tup ((key3 k.toNat p.toNat t.toNat).map kV) := by
  rw [vi_toNat h1, vi_toNat h2, vi_toNat h3]
  rfl
theorem found_enc (o : Option Nat) : VabldfNeutral.encode (found o) = match o with | some n => [1, num n] | none => [0] := by cases o <;> rfl
section
variable {P : Program} {w : World} {K : PySem.W.Frag} {mg : Str → Option Value} {base : Heap} {c : Cl}
/-! ### 8. choose -/
theorem ok_tell_choice (T : Txt K mg c) : Fn P w K mg base 6 "tell_choice" ["stock", "numbers", "rows"] (spAct K c 7) := by
  have nd := sc_tell_choice.nd
  refine fn_mk T.f_tell_choice sc_tell_choice (fun _ _ _ _ _ _ us hl => match us, hl with | [_, _, _], _ => rfl) (fun vs H Q E h => spAct_len h) fun f cdv A outer s0 H vs Q E hr h => ?_
  obtain ⟨S, m, s, nums, rs, ⟨st, an, ar, ras, rfl, h1, h2, h3⟩, hc, k⟩ := h
  obtain ⟨z, e, g, rfl, rfl⟩ := shape7 hc
  have es : VabldfNeutral.step s [[7, z, e, g]] = (s, VabldfNeutral.encode (with3 (kindOf z) (platformOf s e) (platformOf s g) fun x y z => found (chosen s x y z))) := rfl
  rw [es] at k
  refine ⟨_, (pss_cons (pset 3 nd (pe_ix ix_list (pv 1) pe_int (fun _ _ => rfl)))
      (pss_cons (pset 4 nd (pe_ix ix_list (pv 1) pe_int (fun _ _ => rfl)))
      (pss_cons (pset 5 nd (pe_ix ix_list (pv 1) pe_int (fun _ _ => rfl)))
      (pss_cons (pset 6 nd (pe_orI (pe_fn (ok_look_kind T) hr (pa_cons (pv 3) pa_nil)) (pe_orI (pe_fn (ok_look_platform T) hr (pa_cons (pv 0) (pa_cons (pv 4) pa_nil))) (pe_one (pe_fn (ok_look_platform T) hr (pa_cons (pv 0) (pa_cons (pv 5) pa_nil)))))))
      (pss_cons (ps_if (pt_truth (pv 6) (fun _ => rfl)) (pss_one (ps_ret (pe_lst (pa_cons (pv 6) pa_nil)))) pss_nil)
      (pss_cons (pset 7 nd (pe_fn (ok_chosen_toolchains T) hr (pa_cons (pv 0) (pa_cons (pe_lst (pa_cons (pv 3) pa_nil)) (pa_cons (pe_lst (pa_cons (pv 4) pa_nil)) (pa_cons (pe_lst (pa_cons (pv 5) pa_nil)) pa_nil))))))
      (pss_cons (pset 8 nd (pe_dget1 (hu_of hr) (pv 7) (pe_tup (pa_cons (pv 3) (pa_cons (pv 4) (pa_cons (pv 5) pa_nil)))) ⟨rfl, rfl, rfl, rfl⟩))
      (pss_one (ps_ret (pe_ifExp (pt_cmpR op_isN (pv 8) pe_non (nomark _)) (pe_lst (pa_cons pe_int pa_nil)) (pe_lst (pa_cons pe_int (pa_cons (pv 8) pa_nil))))))))))))), ?_⟩
  obtain ⟨ct1, ct2⟩ := code_cases (k := KIND) (n := 32) (z := z) (by decide)
  obtain ⟨ce1, ce2⟩ := code_cases (k := PLATFORM) (n := s.platforms.length) (z := e) (by decide)
  obtain ⟨cg1, cg2⟩ := code_cases (k := PLATFORM) (n := s.platforms.length) (z := g) (by decide)
  refine ⟨_, rfl, an, _, _, _, rfl, rfl, SqL.of h1, rfl, _, rfl, an, _, _, _, rfl, rfl, SqL.of h1, rfl, _, rfl, an, _, _, _, rfl, rfl, SqL.of h1, rfl, _, rfl, _, ⟨z, rfl, rfl⟩, fun H1 s1 => ⟨_, rfl, fun h0 => ?_, fun hn => ?_⟩⟩
  · obtain ⟨t1, t2, t3⟩ := ct1 h0
    have t1' : kindOf z = .ok z.toNat := t1
    rw [t1'] at k
    refine ⟨_, rfl, _, rfl, _, ⟨S, s, e, rfl, st.view.same s1, rfl⟩, fun H2 s2 => ⟨_, rfl, fun h0' => ?_, fun hn' => ?_⟩⟩
    · obtain ⟨p1, p2, p3⟩ := ce1 h0'
      have p1' : platformOf s e = .ok e.toNat := p1
      rw [p1'] at k
      have s12 := s1.trans s2
      refine ⟨_, rfl, _, rfl, _, ⟨S, s, g, rfl, st.view.same s12, rfl⟩, fun H3 s3 => ⟨_, rfl, _, rfl, ?_⟩⟩
      have s13 := s12.trans s3
      by_cases hg : code (platformOf s g) = 0
      · obtain ⟨q1, q2, q3⟩ := cg1 hg
        have q1' : platformOf s g = .ok g.toNat := q1
        rw [q1'] at k
        rw [hg]
        have k' : ∀ (H' : Hp) (l : Addr), Stk c H' S m s → H' l = some (.lst (iv (VabldfNeutral.encode (found (chosen s z.toNat e.toNat g.toNat))))) → H l = none → (∀ b o, H b = some o → b ∉ mm S m → H' b = some o) → Q (.ref l) H' := k
        rw [found_enc] at k'
        refine iteF ⟨_, rfl, _, rfl, (by show 1 ≤ sizeLine; decide), fun l1 hl1 => ⟨_, rfl, (by show 1 ≤ sizeLine; decide), fun l2 hl2 => ⟨_, rfl, (by show 1 ≤ sizeLine; decide), fun l3 hl3 => ?_⟩⟩⟩
        have sa := same_upd (o := .lst [.int z]) hl1
        have sb := same_upd (o := .lst [.int e]) hl2
        have sc := same_upd (o := .lst [.int g]) hl3
        have s16 := ((s13.trans sa).trans sb).trans sc
        refine ⟨S, s, l1, [z.toNat], l2, [e.toNat], l3, [g.toNat], rfl, st.full.same s16, SqL.of ?_, SqL.of ?_, SqL.of ?_, ?_, ?_, (by show 1 ≤ 64; decide), (by show 1 ≤ 64; decide), fun H4 d s4 hd hd4 => ?_⟩
        · rw [← nat1 t2]
          exact sc _ _ (sb _ _ upd_same)
        · rw [← nat1 p2]
          exact sc _ _ upd_same
        · rw [← nat1 q2]
          exact upd_same
        · intro p hp
          rw [List.mem_singleton.mp hp]
          exact p3
        · intro p hp
          rw [List.mem_singleton.mp hp]
          exact q3
        have s17 := s16.trans s4
        refine ⟨_, rfl, d, rfl, .inr ⟨_, .inl hd4⟩, _, rfl, _, rfl, _, rfl, (by show 3 ≤ sizeLine; decide), fun q3' hq3 => ?_⟩
        have sq := same_upd (o := .tup [.int z, .int e, .int g]) hq3
        have s18 := s17.trans sq
        refine ⟨_, DGet.t (k := key3 z.toNat e.toNat g.toNat) (sq _ _ hd4) (by rw [upd_same, key3_tup t2 p2 q2]), ?_⟩
        rw [tab_val, among_eq (List.mem_singleton.mpr rfl) (List.mem_singleton.mpr rfl) (List.mem_singleton.mpr rfl)]
        refine ⟨_, rfl, rfl, _, rfl, ?_⟩
        cases hv : chosen s z.toNat e.toNat g.toNat with
        | none =>
          rw [hv] at k'
          refine iteT ⟨(by show 1 ≤ sizeLine; decide), fun l hl' => ?_⟩
          exact k' _ l ((st.same s18).same (same_upd hl')) upd_same (s18.free hl') fun b o e _ => (Same.upd s18 hl') b o e
        | some n =>
          rw [hv] at k'
          refine iteF ⟨_, rfl, (by show 2 ≤ sizeLine; decide), fun l hl' => ?_⟩
          exact k' _ l ((st.same s18).same (same_upd hl')) upd_same (s18.free hl') fun b o e _ => (Same.upd s18 hl') b o e
      · obtain ⟨q1, q2⟩ := cg2 hg
        have q1' : platformOf s g = .error PLATFORM := q1
        rw [q1'] at k
        rw [show code (platformOf s g) = PLATFORM from q2]
        refine iteT ⟨_, rfl, (by show 1 ≤ sizeLine; decide), fun l hl' => ?_⟩
        exact k _ l ((st.same s13).same (same_upd hl')) upd_same (s13.free hl') fun b o e _ => (Same.upd s13 hl') b o e
    · obtain ⟨p1, p2⟩ := ce2 hn'
      have p1' : platformOf s e = .error PLATFORM := p1
      rw [p1'] at k
      have s12 := s1.trans s2
      rw [show code (platformOf s e) = PLATFORM from p2]
      refine ⟨_, rfl, _, rfl, iteT ⟨_, rfl, (by show 1 ≤ sizeLine; decide), fun l hl' => ?_⟩⟩
      exact k _ l ((st.same s12).same (same_upd hl')) upd_same (s12.free hl') fun b o e _ => (Same.upd s12 hl') b o e
  · obtain ⟨t1, t2⟩ := ct2 hn
    have t1' : kindOf z = .error KIND := t1
    rw [t1'] at k
    rw [show code (kindOf z) = KIND from t2]
    refine ⟨_, rfl, _, rfl, iteT ⟨_, rfl, (by show 1 ≤ sizeLine; decide), fun l hl' => ?_⟩⟩
    exact k _ l ((st.same s1).same (same_upd hl')) upd_same (s1.free hl') fun b o e _ => (Same.upd s1 hl') b o e
/-! ### 10. why -/
def whyAt (s : State) (t : Nat) (q : List Nat) (e : Nat) : List Int := [num e, orMinus (q.find? fun k => (chosen s k e t).isNone)]
theorem why_len (s : State) (t : Nat) (q : List Nat) : ∀ l : List Nat, (l.flatMap (whyAt s t q)).length = 2 * l.length
  | [] => rfl
  | a :: r => by
    rw [List.flatMap_cons, List.length_append, why_len s t q r, List.length_cons]
    show 2 + _ = _
    omega
theorem ok_tell_why (T : Txt K mg c) : Fn P w K mg base 6 "tell_why" ["stock", "numbers", "rows"] (spAct K c 9) := by
  have nd := sc_tell_why.nd
  refine fn_mk T.f_tell_why sc_tell_why (fun _ _ _ _ _ _ us hl => match us, hl with | [_, _, _], _ => rfl) (fun vs H Q E h => spAct_len h) fun f cdv A outer s0 H vs Q E hr h => ?_
  obtain ⟨S, m, s, nums, rs, ⟨st, an, ar, ras, rfl, h1, h2, h3⟩, hc, k⟩ := h
  obtain ⟨g, r, rfl, rfl⟩ := shape9 hc
  obtain ⟨ra, rfl, hrow⟩ := paired1 h3
  have es : VabldfNeutral.step s [[9, g], r] = (s, VabldfNeutral.encode (withNum (platformOf s g) fun t => withList (listOf kindOf r) (lacking s t))) := rfl
  rw [es] at k
  refine ⟨_, (pss_cons (pset 3 nd (pe_ix ix_list (pv 1) pe_int (fun _ _ => rfl)))
      (pss_cons (pset 4 nd (pe_ix ix_list (pv 2) pe_int (fun _ _ => rfl)))
      (pss_cons (pset 5 nd (pe_orI (pe_fn (ok_look_platform T) hr (pa_cons (pv 0) (pa_cons (pv 3) pa_nil))) (pe_one (pe_fn (ok_look_kinds T) hr (pa_cons (pv 4) pa_nil)))))
      (pss_cons (ps_if (pt_truth (pv 5) (fun _ => rfl)) (pss_one (ps_ret (pe_lst (pa_cons (pv 5) pa_nil)))) pss_nil)
      (pss_cons (pset 6 nd (pe_fn (ok_chosen_toolchains T) hr (pa_cons (pv 0) (pa_cons (pv 4) (pa_cons (pe_fld (pv 0) rfl) (pa_cons (pe_lst (pa_cons (pv 3) pa_nil)) pa_nil))))))
      (pss_cons (pset 7 nd (pe_lst (pa_cons pe_int pa_nil)))
      (pss_cons (ps_for PassesOwn.never rfl (pi_list (pe_fld (pv 0) rfl)) (pgn 8 nd)
      (pss_one (ps_expr (pe_bm PySem.F.plainAttrs_list PySem.F.slot_list_extend PySem.F.type_list_extend mt_extend (pv 7) (pa_cons (pe_lst (pa_cons (pv 8) (pa_cons (pe_fn (ok_lacking_kind T) hr (pa_cons (pv 6) (pa_cons (pv 4) (pa_cons (pv 8) (pa_cons (pv 3) pa_nil))))) pa_nil))) pa_nil)))))
      (pss_one (ps_ret (pv 7)))))))))), ?_⟩
  obtain ⟨cg1, cg2⟩ := code_cases (k := PLATFORM) (n := s.platforms.length) (z := g) (by decide)
  refine ⟨_, rfl, an, _, _, _, rfl, rfl, SqL.of h1, rfl, _, rfl, ar, _, _, _, rfl, rfl, SqL.of h2, rfl, _, rfl, _, rfl, _, ⟨S, s, g, rfl, st.view, rfl⟩, fun H1 s1 => ⟨_, rfl, fun h0 => ?_, fun hn => ?_⟩⟩
  · obtain ⟨g1, g2, g3⟩ := cg1 h0
    have g1' : platformOf s g = .ok g.toNat := g1
    rw [g1'] at k
    refine ⟨_, rfl, _, ⟨ra, r, rfl, (hrow.same s1).sq, hrow.2, rfl⟩, fun H2 s2 => ⟨_, rfl, _, rfl, ?_⟩⟩
    have s12 := s1.trans s2
    rcases kinds_code r with ⟨q, hq, q1, q2, q3, q4⟩ | ⟨e, hq, he⟩
    · rw [hq] at k
      rw [code_ok hq]
      have st2 := st.same s12
      obtain ⟨w, ndm, lr, lp, as, ps, ts, e1, e2, e3, e4, e5, e6, e7, e8, e9, e10⟩ := id st2
      have k' : ∀ (H' : Hp) (l : Addr), Stk c H' S m s → H' l = some (.lst (iv (0 :: s.places.flatMap (whyAt s g.toNat q)))) → H l = none → (∀ b o, H b = some o → b ∉ mm S m → H' b = some o) → Q (.ref l) H' := k
      have hlp : H2 lp = some (.lst (nats s.places)) := (hid_of e6).1
      refine iteF ⟨_, rfl, _, rfl, _, rfl, S, c.ck, m.dS, _, _, rfl, e1, T.k_Stock, T.n_Stock_places, lk_places m lr lp, _, rfl, (by show 1 ≤ sizeLine; decide), fun l3 hl3 => ?_⟩
      have sa := same_upd (o := .lst [.int g]) hl3
      have s13 := s12.trans sa
      refine ⟨S, s, ra, q, lp, s.places, l3, [g.toNat], rfl, st.full.same s13, by rw [← q2]; exact (hrow.same s13).sq, SqL.of (sa _ _ hlp), SqL.of (by rw [← nat1 g2]; exact upd_same), w.plc, ?_, w.plen, (by show 1 ≤ 64; decide), fun H4 d s4 hd hd4 => ?_⟩
      · intro p hp
        rw [List.mem_singleton.mp hp]
        exact g3
      have s14 := s13.trans s4
      have sa4 := sa.trans s4
      have tab : TabAt H4 d (among s q s.places [g.toNat]) := ⟨_, hd4, fun k p t => tab_val s q s.places [g.toNat] k p t⟩
      refine ⟨(by show 1 ≤ sizeLine; decide), fun L hL => ?_⟩
      have sL := same_upd (o := .lst [.int 0]) hL
      refine ⟨_, rfl, S, c.ck, m.dS, _, _, rfl, sL _ _ (sa4 _ _ e1), T.k_Stock, T.n_Stock_places, lk_places m lr lp, lp, rfl, ⟨_, SqL.of (sL _ _ (sa4 _ _ hlp))⟩, for_list (K := K) (a := lp) (xs := nats s.places)
        (fun i σ H' => ∃ v8, σ = [some (.ref S), some (.ref an), some (.ref ar), some (.int g), some (.ref ra), some (.int 0), some (.ref d), some (.ref L), v8] ∧ Same H4 H' ∧ H' L = some (.lst (iv (0 :: (s.places.take i).flatMap (whyAt s g.toNat q))))) ?_ ?_ ?_ ?_⟩
      · exact ⟨none, rfl, sL, upd_same⟩
      · rintro i σ H' _ ⟨_, _, sm, _⟩
        exact SqL.of (sm _ _ (sa4 _ _ hlp))
      · rintro i y σ H' hi ⟨v8, rfl, sm, hL'⟩
        obtain ⟨p, hp, rfl⟩ := get_nats hi
        have hpm := List.mem_of_getElem? hp
        refine ⟨_, rfl, .inl ⟨rfl, _, SqL.of hL'⟩, _, rfl, _, rfl, _, rfl, _, rfl, _, rfl, _, ⟨d, _, ra, q, p, g.toNat, by rw [← vi_toNat g2], tab.same sm, by rw [← q2]; exact ((hrow.same s14).same sm).sq, rfl⟩, fun H5 s5 => ⟨(by show 2 ≤ sizeLine; decide), fun l5 hl5 => ?_⟩⟩
        rw [lack_eq (fun k hk => hk) hpm (List.mem_singleton.mpr rfl)]
        have s55 := same_upd (o := .lst [vi p, .int (orMinus (q.find? fun k => (chosen s k p g.toNat).isNone))]) hl5
        have hL5 := s55 _ _ (s5 _ _ hL')
        refine ⟨L, l5, _, _, rfl, rfl, hL5, upd_same, ?_, _, rfl, fun b o e => ?_, ?_⟩
        · have q5 := take_le s.places i
          have q6 := w.plen
          rw [iv_len, List.length_cons, why_len, sizeLine_eq]
          show _ + 2 ≤ _
          omega
        · rw [upd_ne (fun z => by rw [z, hL] at e; cases e)]
          exact s55 _ _ (s5 _ _ (sm _ _ e))
        · rw [upd_same, take_snoc hp, List.flatMap_append, List.flatMap_singleton]
          show some (HO.lst (iv (0 :: _) ++ iv (whyAt s g.toNat q p))) = some (HO.lst (iv (0 :: (_ ++ whyAt s g.toNat q p))))
          rw [← List.cons_append]
          unfold iv
          rw [List.map_append]
      · rintro σ H' ⟨v8, rfl, sm, hL'⟩
        rw [nats_len, List.take_length] at hL'
        have s1' := s14.trans sm
        exact ⟨_, rfl, k' H' L (st.same s1') hL' (s14.free hL) fun b o e _ => s1' b o e⟩
    · rw [hq] at k
      rw [code_nz hq, bne_nz he]
      refine iteT ⟨_, rfl, (by show 1 ≤ sizeLine; decide), fun l hl' => ?_⟩
      exact k _ l ((st.same s12).same (same_upd hl')) upd_same (s12.free hl') fun b o e _ => (Same.upd s12 hl') b o e
  · obtain ⟨g1, g2⟩ := cg2 hn
    have g1' : platformOf s g = .error PLATFORM := g1
    rw [g1'] at k
    rw [show code (platformOf s g) = PLATFORM from g2]
    refine ⟨_, rfl, _, rfl, iteT ⟨_, rfl, (by show 1 ≤ sizeLine; decide), fun l hl' => ?_⟩⟩
    exact k _ l ((st.same s1).same (same_upd hl')) upd_same (s1.free hl') fun b o e _ => (Same.upd s1 hl') b o e
end
end TC
end
section
set_option linter.all false
set_option maxRecDepth 100000
set_option Elab.async false
set_option maxHeartbeats 2000000
namespace TC
open PySem PySem.Spec PyProof.Rows L2 Vabldf
theorem nats_app (a b : List Nat) : nats (a ++ b) = nats a ++ nats b := by unfold nats; rw [List.map_append]
theorem opt_isN (o : Option Nat) : decide (optV o = V.non) = o.isNone := by cases o <;> rfl
section
variable {P : Program} {w : World} {K : PySem.W.Frag} {mg : Str → Option Value} {base : Heap} {c : Cl}
/-! ### 9. resolve -/
theorem ok_tell_resolve (T : Txt K mg c) : Fn P w K mg base 6 "tell_resolve" ["stock", "numbers", "rows"] (spAct K c 8) := by
  have nd := sc_tell_resolve.nd
  refine fn_mk T.f_tell_resolve sc_tell_resolve (fun _ _ _ _ _ _ us hl => match us, hl with | [_, _, _], _ => rfl) (fun vs H Q E h => spAct_len h) fun f cdv A outer s0 H vs Q E hr h => ?_
  obtain ⟨S, m, s, nums, rs, ⟨st, an, ar, ras, rfl, h1, h2, h3⟩, hc, k⟩ := h
  obtain ⟨g, r, r2, rfl, rfl⟩ := shape8 hc
  obtain ⟨ra, rb, rfl, hrow, hrow2⟩ := paired2 h3
  have es : VabldfNeutral.step s [[8, g], r, r2] = (s, VabldfNeutral.encode (withNum (platformOf s g) fun t => withList (listOf kindOf r) fun l => withList (listOf kindOf r2) fun m => resolved s t l m)) := rfl
  rw [es] at k
  refine ⟨_, (pss_cons (pset 3 nd (pe_ix ix_list (pv 1) pe_int (fun _ _ => rfl)))
      (pss_cons (pset 4 nd (pe_ix ix_list (pv 2) pe_int (fun _ _ => rfl)))
      (pss_cons (pset 5 nd (pe_ix ix_list (pv 2) pe_int (fun _ _ => rfl)))
      (pss_cons (pset 6 nd (pe_orI (pe_fn (ok_look_platform T) hr (pa_cons (pv 0) (pa_cons (pv 3) pa_nil))) (pe_orI (pe_fn (ok_look_kinds T) hr (pa_cons (pv 4) pa_nil)) (pe_one (pe_fn (ok_look_kinds T) hr (pa_cons (pv 5) pa_nil))))))
      (pss_cons (ps_if (pt_truth (pv 6) (fun _ => rfl)) (pss_one (ps_ret (pe_lst (pa_cons (pv 6) pa_nil)))) pss_nil)
      (pss_cons (pset 7 nd (pe_fn (ok_chosen_toolchains T) hr (pa_cons (pv 0) (pa_cons (pe_op op_cat (pv 4) (pv 5)) (pa_cons (pe_fld (pv 0) rfl) (pa_cons (pe_lst (pa_cons (pv 3) pa_nil)) pa_nil))))))
      (pss_cons (pset 8 nd (pe_fn (ok_served_place T) hr (pa_cons (pv 0) (pa_cons (pv 7) (pa_cons (pv 4) (pa_cons (pv 3) pa_nil))))))
      (pss_cons (ps_if (pt_cmpR op_isN (pv 8) pe_non (nomark _)) (pss_one (ps_ret (pe_lst (pa_cons (pe_gint T.g_NONE) pa_nil)))) pss_nil)
      (pss_one (ps_ret (pe_op op_cat (pe_lst (pa_cons (pv 8) pa_nil)) (pe_fn (ok_chosen_for T) hr (pa_cons (pv 7) (pa_cons (pe_op op_cat (pv 4) (pv 5)) (pa_cons (pv 8) (pa_cons (pv 3) pa_nil)))))))))))))))), ?_⟩
  obtain ⟨cg1, cg2⟩ := code_cases (k := PLATFORM) (n := s.platforms.length) (z := g) (by decide)
  refine ⟨_, rfl, an, _, _, _, rfl, rfl, SqL.of h1, rfl, _, rfl, ar, _, _, _, rfl, rfl, SqL.of h2, rfl, _, rfl, ar, _, _, _, rfl, rfl, SqL.of h2, rfl, _, rfl, _, rfl, _, ⟨S, s, g, rfl, st.view, rfl⟩, fun H1 s1 => ⟨_, rfl, fun h0 => ?_, fun hn => ?_⟩⟩
  · obtain ⟨g1, g2, g3⟩ := cg1 h0
    have g1' : platformOf s g = .ok g.toNat := g1
    rw [g1'] at k
    refine ⟨_, rfl, _, ⟨ra, r, rfl, (hrow.same s1).sq, hrow.2, rfl⟩, fun H2 s2 => ⟨_, rfl, fun h0' => ?_, fun hn' => ?_⟩⟩
    · have s12 := s1.trans s2
      rcases kinds_code r with ⟨q, hq, q1, q2, q3, q4⟩ | ⟨e, hq, he⟩
      · rw [hq] at k
        refine ⟨_, rfl, _, ⟨rb, r2, rfl, (hrow2.same s12).sq, hrow2.2, rfl⟩, fun H3 s3 => ⟨_, rfl, _, rfl, ?_⟩⟩
        have s13 := s12.trans s3
        rcases kinds_code r2 with ⟨u, hu, u1, u2, u3, u4⟩ | ⟨e, hu, he⟩
        · rw [hu] at k
          rw [code_ok hu]
          have k' : ∀ (H' : Hp) (l : Addr), Stk c H' S m s → H' l = some (.lst (iv (VabldfNeutral.encode (resolved s g.toNat q u)))) → H l = none → (∀ b o, H b = some o → b ∉ mm S m → H' b = some o) → Q (.ref l) H' := k
          have st3 := st.same s13
          obtain ⟨w, ndm, lr, lp, as, ps, ts, e1, e2, e3, e4, e5, e6, e7, e8, e9, e10⟩ := id st3
          have hlp : H3 lp = some (.lst (nats s.places)) := (hid_of e6).1
          have hra : H3 ra = some (.lst (nats q)) := by rw [← q2]; exact (hid_of (hrow.same s13).1).1
          have hrb : H3 rb = some (.lst (nats u)) := by rw [← u2]; exact (hid_of (hrow2.same s13).1).1
          have lqu : (nats q).length + (nats u).length ≤ sizeLine := by rw [nats_len, nats_len, sizeLine_eq]; omega
          refine iteF ⟨_, rfl, _, rfl, _, rfl, ra, rb, _, _, rfl, rfl, hra, hrb, lqu, fun l1 hl1 => ?_⟩
          have sa := same_upd (o := .lst (nats q ++ nats u)) hl1
          refine ⟨_, rfl, S, c.ck, m.dS, _, _, rfl, sa _ _ e1, T.k_Stock, T.n_Stock_places, lk_places m lr lp, _, rfl, (by show 1 ≤ sizeLine; decide), fun l3 hl3 => ?_⟩
          have sb := same_upd (o := .lst [.int g]) hl3
          have sab := sa.trans sb
          have s15 := s13.trans sab
          refine ⟨S, s, l1, q ++ u, lp, s.places, l3, [g.toNat], rfl, st.full.same s15, SqL.of (by rw [nats_app]; exact sb _ _ upd_same), SqL.of (sab _ _ hlp), SqL.of (by rw [← nat1 g2]; exact upd_same), w.plc, ?_, w.plen, (by show 1 ≤ 64; decide), fun H4 d s4 hd hd4 => ?_⟩
          · intro p hp
            rw [List.mem_singleton.mp hp]
            exact g3
          have s16 := s15.trans s4
          have s34 := sab.trans s4
          have tab : TabAt H4 d (among s (q ++ u) s.places [g.toNat]) := ⟨_, hd4, fun k p t => tab_val s (q ++ u) s.places [g.toNat] k p t⟩
          refine ⟨_, rfl, _, rfl, _, rfl, _, rfl, _, ⟨S, s, d, _, ra, q, g.toNat, by rw [← vi_toNat g2], st.view.same s16, tab, SqL.of (s34 _ _ hra), rfl⟩, fun H5 s5 => ⟨_, rfl, rfl, _, rfl, ?_⟩⟩
          have s17 := s16.trans s5
          rw [place_eq (fun k hk => List.mem_append_left _ hk) (List.mem_singleton.mpr rfl), opt_isN]
          cases hpl : placeFor s q g.toNat with
          | none =>
            have er : VabldfNeutral.encode (resolved s g.toNat q u) = [NONE] := by
              unfold resolved
              rw [hpl]
              rfl
            rw [er] at k'
            refine iteT ⟨(by show 1 ≤ sizeLine; decide), fun l hl' => ?_⟩
            exact k' _ l ((st.same s17).same (same_upd hl')) upd_same (s17.free hl') fun b o e _ => (Same.upd s17 hl') b o e
          | some e =>
            have er : VabldfNeutral.encode (resolved s g.toNat q u) = num e :: (q ++ u).map fun k => orMinus (chosen s k e g.toNat) := by
              unfold resolved
              rw [hpl]
              rfl
            rw [er] at k'
            have hem : e ∈ s.places := List.mem_of_find?_eq_some hpl
            refine iteF ⟨_, rfl, (by show 1 ≤ sizeLine; decide), fun l0 hl0 => ?_⟩
            have sc := same_upd (o := .lst [vi e]) hl0
            have s35 := (s34.trans s5).trans sc
            have s18 := s17.trans sc
            refine ⟨_, rfl, _, rfl, _, rfl, ra, rb, _, _, rfl, rfl, s35 _ _ hra, s35 _ _ hrb, lqu, fun l6 hl6 => ?_⟩
            have sd := same_upd (o := .lst (nats q ++ nats u)) hl6
            have s19 := s18.trans sd
            refine ⟨_, rfl, _, rfl, d, _, l6, q ++ u, e, g.toNat, by rw [← vi_toNat g2]; rfl, tab.same ((s5.trans sc).trans sd), SqL.of (by rw [nats_app]; exact upd_same), by rw [List.length_append]; omega, fun H7 l7 s7 hl7 hl77 => ?_⟩
            have s1a := s19.trans s7
            have em : ((q ++ u).map fun k => orMinus (among s (q ++ u) s.places [g.toNat] k e g.toNat)) = (q ++ u).map fun k => orMinus (chosen s k e g.toNat) := List.map_congr_left fun k hk => by
              rw [among_eq hk hem (List.mem_singleton.mpr rfl)]
            rw [em] at hl77
            refine ⟨l0, l7, _, _, rfl, rfl, s7 _ _ (sd _ _ upd_same), hl77, ?_, fun p hp => ?_⟩
            · rw [iv_len, List.length_map, List.length_append, sizeLine_eq]
              show 1 + _ ≤ _
              omega
            · refine k' _ p ((st.same s1a).same (same_upd hp)) ?_ (s1a.free hp) fun b o e _ => (Same.upd s1a hp) b o e
              rw [upd_same]
              rfl
        · rw [hu] at k
          rw [code_nz hu, bne_nz he]
          refine iteT ⟨_, rfl, (by show 1 ≤ sizeLine; decide), fun l hl' => ?_⟩
          exact k _ l ((st.same s13).same (same_upd hl')) upd_same (s13.free hl') fun b o e _ => (Same.upd s13 hl') b o e
      · rw [code_nz hq] at h0'
        exact absurd h0' he
    · have s12 := s1.trans s2
      rcases kinds_code r with ⟨q, hq, q1, q2, q3, q4⟩ | ⟨e, hq, he⟩
      · rw [code_ok hq] at hn'
        exact absurd rfl hn'
      · rw [hq] at k
        rw [code_nz hq]
        refine ⟨_, rfl, _, rfl, ?_⟩
        rw [bne_nz he]
        refine iteT ⟨_, rfl, (by show 1 ≤ sizeLine; decide), fun l hl' => ?_⟩
        exact k _ l ((st.same s12).same (same_upd hl')) upd_same (s12.free hl') fun b o e _ => (Same.upd s12 hl') b o e
  · obtain ⟨g1, g2⟩ := cg2 hn
    have g1' : platformOf s g = .error PLATFORM := g1
    rw [g1'] at k
    rw [show code (platformOf s g) = PLATFORM from g2]
    refine ⟨_, rfl, _, rfl, iteT ⟨_, rfl, (by show 1 ≤ sizeLine; decide), fun l hl' => ?_⟩⟩
    exact k _ l ((st.same s1).same (same_upd hl')) upd_same (s1.free hl') fun b o e _ => (Same.upd s1 hl') b o e
end
end TC
end
section
set_option linter.all false
set_option maxRecDepth 100000
set_option Elab.async false
set_option maxHeartbeats 2000000
namespace TC
open PySem PySem.Spec PyProof.Rows L2 Vabldf
/-! ### parts of the list of calls -/
theorem iv_app (a b : List Int) : iv (a ++ b) = iv a ++ iv b := by unfold iv; rw [List.map_append]
theorem cut_mid (u v z : List Int) {lo hi : Int} (h1 : lo = (u.length : Int)) (h2 : hi = ((u.length + v.length : Nat) : Int)) : cutV (iv (u ++ (v ++ z))) (some lo) (some hi) = iv v := by
  unfold cutV
  rw [h1, h2, HT.sIx_nat, HT.sIx_nat]
  have hl : (iv (u ++ (v ++ z))).length = u.length + (v.length + z.length) := by rw [iv_len, List.length_append, List.length_append]
  rw [hl, Nat.min_eq_left (by omega), Nat.min_eq_left (by omega), iv_app, iv_app]
  have e1 : (iv u ++ (iv v ++ iv z)).drop u.length = iv v ++ iv z := by
    have := List.drop_left (l₁ := iv u) (l₂ := iv v ++ iv z)
    rw [iv_len] at this
    exact this
  have e2 : (iv v ++ iv z).take v.length = iv v := by
    have := List.take_left (l₁ := iv v) (l₂ := iv z)
    rw [iv_len] at this
    exact this
  rw [e1, show u.length + v.length - u.length = v.length by omega, e2]
theorem get_mid (u : List Int) (n : Int) (z : List Int) {i : Int} (h : i = (u.length : Int)) : atI (iv (u ++ n :: z)) i = some (.int n) := by
  refine at_of (j := u.length) h ?_
  rw [iv_app, List.getElem?_append_right (by rw [iv_len]; exact Nat.le_refl _), iv_len, Nat.sub_self]
  rfl
theorem cut_row (B x z : List Int) : cutV (iv (B ++ ((x.length : Int) :: (x ++ z)))) (some ((B.length : Int) + 1)) (some ((B.length : Int) + 1 + (x.length : Int))) = iv x := by
  have e : B ++ ((x.length : Int) :: (x ++ z)) = (B ++ [(x.length : Int)]) ++ (x ++ z) := by rw [List.append_assoc]; rfl
  rw [e]
  refine cut_mid _ _ _ ?_ ?_
  · rw [List.length_append, List.length_singleton]; omega
  · rw [List.length_append, List.length_singleton]; omega
theorem putRows_app (a : List (List Int)) (x : List Int) : PyFlat.putRows (a ++ [x]) = PyFlat.putRows a ++ PyFlat.putRow x := by
  induction a with
  | nil =>
    show PyFlat.putRow x ++ [] = [] ++ PyFlat.putRow x
    simp
  | cons y r ih =>
    show PyFlat.putRow y ++ PyFlat.putRows (r ++ [x]) = (PyFlat.putRow y ++ PyFlat.putRows r) ++ PyFlat.putRow x
    rw [ih, List.append_assoc]
theorem putRows_app2 (a b : List (List Int)) : PyFlat.putRows (a ++ b) = PyFlat.putRows a ++ PyFlat.putRows b := by
  induction a with
  | nil => rfl
  | cons y r ih =>
    show PyFlat.putRow y ++ PyFlat.putRows (r ++ b) = (PyFlat.putRow y ++ PyFlat.putRows r) ++ PyFlat.putRows b
    rw [ih, List.append_assoc]
theorem paired_mem {α β : Type} {F G : α → β → Prop} : ∀ {as : List α} {bs : List β}, Paired F as bs → (∀ a ∈ as, ∀ b, F a b → G a b) → Paired G as bs
  | _, _, .nil, _ => .nil
  | _, _, .cons r t, f => .cons (f _ List.mem_cons_self _ r) (paired_mem t fun a ha b z => f a (List.mem_cons_of_mem _ ha) b z)
def slotI (σ : L2.St) (i : Nat) : Nat := match σ[i]? with
  | some (some (.int z)) => z.toNat
  | _ => 0
section
variable {P : Program} {w : World} {K : PySem.W.Frag} {mg : Str → Option Value} {base : Heap} {c : Cl}
def NewRow (H H' : Hp) (a : Addr) (r : List Int) : Prop := H a = none ∧ H' a = some (.lst (iv r))
def spRows (K : PySem.W.Frag) : Sp := fun vs H Q _ => ∃ cl pre xs post, vs = [.ref cl, .int ((pre : List Int).length : Int), .int ((xs : List (List Int)).length : Int)] ∧ SqL K H cl (iv (pre ++ (PyFlat.putRows xs ++ post))) ∧ xs.length ≤ 10 ∧
  ∀ (H' : Hp) (l : Addr) (ras : List Addr), Same H H' → H l = none → H' l = some (.lst (ras.map V.ref)) → Paired (NewRow H H') ras xs → Q (.ref l) H'
theorem ok_rows_from (T : Txt K mg c) : Fn P w K mg base 1 "rows_from" ["calls", "start", "row_count"] (spRows K) := by
  have nd := sc_rows_from.nd
  refine fn_mk T.f_rows_from sc_rows_from (fun _ _ _ _ _ _ us hl => match us, hl with | [_, _, _], _ => rfl) (fun vs H Q E h => ?_) fun f cdv A outer s0 H vs Q E hr h => ?_
  · obtain ⟨cl, pre, xs, post, rfl, _⟩ := h
    rfl
  obtain ⟨cl, pre, xs, post, rfl, hcl, hxs, k⟩ := h
  refine ⟨_, (pss_cons (pset 3 nd (pe_lst pa_nil))
      (pss_cons (pset 4 nd (pv 1))
      (pss_cons (ps_while PassesOwn.never (pt_cmpR op_lt (pe_callB call_len_seq rfl T.b_len PySem.boot_len (pa_cons (pv 3) pa_nil)) (pv 2) (nomark _))
      (pss_cons (pset 5 nd (pe_op op_add (pe_op op_add (pv 4) pe_int) (pe_ix ix_list (pv 0) (pv 4) (fun _ _ => rfl))))
      (pss_cons (ps_expr (pe_bm PySem.F.plainAttrs_list PySem.F.slot_list_append PySem.F.type_list_append mt_append (pv 3) (pa_cons (pe_slice sl_list (pv 0) (po_some (pe_op op_add (pv 4) pe_int)) (po_some (pv 5))) pa_nil)))
      (pss_one (pset 4 nd (pv 5))))))
      (pss_one (ps_ret (pv 3)))))), ?_⟩
  refine ⟨Nat.zero_le _, fun L hL => ?_⟩
  have sL := same_upd (o := .lst []) hL
  refine ⟨_, rfl, ?_⟩
  refine while_by (fun σ H' => ∃ done todo ras v5, xs = done ++ todo ∧ σ = [some (.ref cl), some (.int (pre.length : Int)), some (.int (xs.length : Int)), some (.ref L), some (.int ((pre ++ PyFlat.putRows done).length : Int)), v5] ∧ Same H H' ∧
      H' L = some (.lst ((ras : List Addr).map V.ref)) ∧ L ∉ ras ∧ Paired (NewRow H H') ras done) (fun σ _ => (pre ++ PyFlat.putRows xs).length - slotI σ 4) ?_ ?_ ?_
  · exact ⟨[], xs, [], none, rfl, by simp [PyFlat.putRows, L2.start], sL, upd_same, by simp, .nil⟩
  · rintro σ H' ⟨done, todo, ras, v5, hdt, rfl, sm, hL', hnl, hp⟩
    have hlen : ras.length = done.length := Paired.length hp
    refine ⟨_, rfl, L, _, rfl, .inl (SqL.of hL'), _, rfl, _, _, rfl, rfl, _, rfl, ?_⟩
    rw [List.length_map, hlen]
    cases todo with
    | nil =>
      rw [List.append_nil] at hdt
      subst hdt
      rw [decide_eq_false (Int.lt_irrefl _)]
      refine iteF ⟨_, rfl, k H' L ras sm hL hL' hp⟩
    | cons x rest =>
      have hlt : ((done.length : Nat) : Int) < ((xs.length : Nat) : Int) := by
        rw [hdt, List.length_append, List.length_cons]
        omega
      rw [decide_eq_true hlt]
      have ens : pre ++ (PyFlat.putRows xs ++ post) = (pre ++ PyFlat.putRows done) ++ ((x.length : Int) :: (x ++ (PyFlat.putRows rest ++ post))) := by
        rw [hdt, putRows_app2]
        show pre ++ ((PyFlat.putRows done ++ (PyFlat.putRow x ++ PyFlat.putRows rest)) ++ post) = _
        simp [PyFlat.putRow, List.append_assoc]
      refine iteT ⟨_, rfl, _, _, rfl, rfl, _, rfl, _, rfl, cl, _, _, _, rfl, rfl, sm.seq hcl, by rw [ens]; exact get_mid _ _ _ rfl, _, _, rfl, rfl, ?_⟩
      refine ⟨_, rfl, .inl ⟨rfl, _, SqL.of hL'⟩, _, rfl, _, rfl, _, _, rfl, rfl, _, rfl, _, rfl, _, rfl, cl, _, rfl, sm.seq hcl, fun p hp' => ?_⟩
      have ecut : cutV (iv (pre ++ (PyFlat.putRows xs ++ post))) (some (((pre ++ PyFlat.putRows done).length : Int) + 1)) (some (((pre ++ PyFlat.putRows done).length : Int) + 1 + (x.length : Int))) = iv x := by
        rw [ens]
        exact cut_row _ _ _
      rw [ecut]
      have sp := same_upd (o := .lst (iv x)) hp'
      have Lp : L ≠ p := ne_of_none hL' hp'
      have Hp0 : H p = none := sm.free hp'
      have e4 : ((pre ++ PyFlat.putRows (done ++ [x])).length : Int) = ((pre ++ PyFlat.putRows done).length : Int) + 1 + (x.length : Int) := by
        rw [putRows_app, ← List.append_assoc, List.length_append]
        show (((pre ++ PyFlat.putRows done).length + (x.length + 1) : Nat) : Int) = _
        omega
      have e6 : (pre ++ PyFlat.putRows done).length + 1 + x.length ≤ (pre ++ PyFlat.putRows xs).length := by
        have e7 : PyFlat.putRows xs = PyFlat.putRows done ++ (PyFlat.putRow x ++ PyFlat.putRows rest) := by rw [hdt, putRows_app2]; rfl
        have e8 : (PyFlat.putRow x).length = x.length + 1 := rfl
        rw [e7]
        simp only [List.length_append, e8]
        omega
      have fr : ∀ b o, H' b = some o → b ≠ L → upd (upd H' p (.lst (iv x))) L (.lst (ras.map V.ref ++ [.ref p])) b = some o := fun b o e z => by
        rw [upd_ne z]
        exact sp _ _ e
      refine ⟨L, _, _, rfl, rfl, sp _ _ hL', ?_, _, rfl, ⟨done ++ [x], rest, ras ++ [p], some (.int (((pre ++ PyFlat.putRows done).length : Int) + 1 + (x.length : Int))), ?_, ?_, ?_, ?_, ?_, ?_⟩, ?_⟩
      · rw [List.length_map, hlen, sizeLine_eq]
        omega
      · rw [hdt, List.append_assoc]
        rfl
      · rw [e4]
        rfl
      · exact fun b o e => fr b o (sm _ _ e) (ne_of_none e hL)
      · rw [upd_same, refs_snoc]
      · intro q
        rcases List.mem_append.mp q with q | q
        · exact hnl q
        · exact Lp (List.mem_singleton.mp q)
      · refine paired_app (paired_mem hp fun a ha r z => ⟨z.1, fr _ _ z.2 fun q => hnl (q ▸ ha)⟩) (.cons ⟨Hp0, ?_⟩ .nil)
        rw [upd_ne (Ne.symm Lp), upd_same]
      · show (pre ++ PyFlat.putRows xs).length - (((pre ++ PyFlat.putRows done).length : Int) + 1 + (x.length : Int)).toNat < (pre ++ PyFlat.putRows xs).length - ((pre ++ PyFlat.putRows done).length : Int).toNat
        omega
  · rintro σ H' Q1 Q2 f ⟨v, e1, p, ys, e2, e3, v2, e4, i, j, e5, e6, k, e7, q⟩
    exact ⟨v, e1, p, ys, e2, e3, v2, e4, i, j, e5, e6, k, e7, f _ _ q⟩
end
end TC
end
section
set_option linter.all false
set_option maxRecDepth 100000
set_option maxHeartbeats 2000000
namespace TC
open Vabldf
theorem whole_id (c : List (List Int)) : PyVabldf.whole c = c := by
  unfold PyVabldf.whole
  split <;> rfl
theorem request {l : List Int} (h : PyVabldf.answers_asked l = true) : ∃ cs, l = PyFlat.put cs ∧ (∀ c ∈ cs, PyFlat.okCall PyVabldf.shape c) ∧ (∀ c ∈ cs, VabldfNeutral.asked1 c = true) ∧ cs.length ≤ 400 ∧
    PyVabldf.answers l = PyFlat.told (PyFlat.played VabldfNeutral.step VabldfNeutral.start cs) := by
  unfold PyVabldf.answers_asked at h
  unfold PyVabldf.answers
  have hc : PyVabldf.calls l = PyFlat.calls PyVabldf.shape l.length l := by
    unfold PyVabldf.calls
    cases PyFlat.calls PyVabldf.shape l.length l with
    | none => rfl
    | some cs =>
      show some (cs.map PyVabldf.whole) = some cs
      rw [show PyVabldf.whole = id from funext whole_id, List.map_id]
  rw [hc] at h ⊢
  cases e : PyFlat.calls PyVabldf.shape l.length l with
  | none => rw [e] at h; cases h
  | some cs =>
    rw [e] at h
    dsimp only at h
    rw [Bool.and_eq_true] at h
    obtain ⟨h1, h2⟩ := h
    unfold VabldfNeutral.asked at h2
    rw [Bool.and_eq_true] at h2
    obtain ⟨p1, p2⟩ := PyFlat.put_calls _ _ _ e
    exact ⟨cs, p1, p2, fun c hc => List.all_eq_true.mp h2.1 c hc, of_decide_eq_true h1, rfl⟩
theorem and3 {a b : Bool} (h : (a && b) = true) : a = true ∧ b = true := by rwa [Bool.and_eq_true] at h
theorem asked1_ok {c : List (List Int)} (h : VabldfNeutral.asked1 c = true) : (VabldfNeutral.callOf c).isSome = true ∧ ∀ r ∈ c.drop 1, r.length ≤ 100 := by
  unfold VabldfNeutral.asked1 at h
  split at h
  · exact ⟨rfl, by simp⟩
  · exact ⟨rfl, by simpa using (and3 (and3 h).2).2⟩
  · refine ⟨rfl, ?_⟩
    have q1 := (and3 (and3 (and3 h).2).1).2
    have q2 := (and3 (and3 (and3 h).2).2).2
    have q1' := of_decide_eq_true q1
    have q2' := of_decide_eq_true q2
    intro r hr
    simp at hr
    rcases hr with rfl | rfl
    · exact q1'
    · exact q2'
  · exact ⟨rfl, by simpa using (and3 h).2⟩
  · exact ⟨rfl, by simpa using (and3 h).2⟩
  · exact ⟨rfl, by simp⟩
  · exact ⟨rfl, by simp⟩
  · exact ⟨rfl, by simp⟩
  · refine ⟨rfl, ?_⟩
    have q1 := (and3 (and3 (and3 h).2).1).2
    have q2 := (and3 (and3 (and3 h).2).2).2
    have q1' := of_decide_eq_true q1
    have q2' := of_decide_eq_true q2
    intro r hr
    simp at hr
    rcases hr with rfl | rfl
    · exact q1'
    · exact q2'
  · exact ⟨rfl, by simpa using (and3 (and3 h).2).2⟩
  · exact ⟨rfl, by simpa using (and3 h).2⟩
  · exact ⟨rfl, by simp⟩
  · exact ⟨rfl, by simpa using (and3 h).2⟩
  · cases h
/-! ### how many numbers are answered -/
def alen (a : Answer) : Nat := a.numbers.length
theorem al_with2 {a b : Except Int Nat} {f : Nat → Nat → Answer} {n : Nat} (h : ∀ x y, alen (f x y) ≤ n) : alen (with2 a b f) ≤ n := by
  unfold with2
  split
  · exact Nat.zero_le _
  · split
    · exact Nat.zero_le _
    · exact h _ _
theorem al_with3 {a b c : Except Int Nat} {f : Nat → Nat → Nat → Answer} {n : Nat} (h : ∀ x y z, alen (f x y z) ≤ n) : alen (with3 a b c f) ≤ n := by
  unfold with3
  split
  · exact Nat.zero_le _
  · exact al_with2 fun x y => h _ x y
theorem al_list {f : Int → Except Int Nat} {l : List Int} {g : List Nat → Answer} {n : Nat} (h : ∀ m, listOf f l = .ok m → alen (g m) ≤ n) : alen (withList (listOf f l) g) ≤ n := by
  unfold withList
  split
  · exact Nat.zero_le _
  · rename_i m e
    exact h m e
theorem al_num {a : Except Int Nat} {f : Nat → Answer} {n : Nat} (h : ∀ x, alen (f x) ≤ n) : alen (withNum a f) ≤ n := by
  unfold withNum
  split
  · exact Nat.zero_le _
  · exact h _
theorem al_found (o : Option Nat) : alen (found o) ≤ 1 := by
  cases o with
  | none => exact Nat.zero_le _
  | some n => exact Nat.le_refl _
theorem kinds_len {l : List Int} {m : List Nat} (h : listOf kindOf l = .ok m) : m.length ≤ 64 := by
  obtain ⟨e, h1, _⟩ := listOf_ok (k := KIND) (c := 32) (l := l) (m := m) h
  rw [e, List.length_map]
  exact h1
theorem al_step {s : State} (w : WF s) (c : Call) : alen (Vabldf.step s c).2 ≤ 128 := by
  cases c with
  | setting n d =>
    show alen (addSetting s n d).2 ≤ 128
    unfold addSetting
    split
    · exact Nat.zero_le _
    · split <;> exact Nat.zero_le _
  | platform p own =>
    show alen (addPlatform s p own).2 ≤ 128
    unfold addPlatform
    split
    · exact Nat.zero_le _
    · split
      · exact Nat.zero_le _
      · split
        · exact Nat.zero_le _
        · split <;> exact Nat.zero_le _
  | toolchain k a b =>
    show alen (addChain s k a b).2 ≤ 128
    unfold addChain
    split
    · exact Nat.zero_le _
    · split
      · exact Nat.zero_le _
      · split
        · exact Nat.zero_le _
        · split <;> exact Nat.zero_le _
  | rank l =>
    show alen (match listOf (chainOf s) l with | .error k => (s, no k) | .ok m => ({ s with ranking := m }, told 0 [])).2 ≤ 128
    split <;> exact Nat.zero_le _
  | places l =>
    show alen (match listOf (platformOf s) l with | .error k => (s, no k) | .ok m => ({ s with places := m }, told 0 [])).2 ≤ 128
    split <;> exact Nat.zero_le _
  | value p k => exact al_with2 fun x y => Nat.le_trans (al_found _) (by decide)
  | fits t e g =>
    refine al_with3 fun x y z => ?_
    unfold fitsAnswer
    split
    · exact Nat.zero_le _
    · split
      · exact (by decide : 1 ≤ 128)
      · split
        · exact (by decide : 1 ≤ 128)
        · exact Nat.zero_le _
  | choose k e g => exact al_with3 fun x y z => Nat.le_trans (al_found _) (by decide)
  | resolve g ks ws =>
    refine al_num fun t => al_list fun l hl => al_list fun m hm => ?_
    unfold resolved
    split
    · exact Nat.zero_le _
    · show ((l ++ m).map _).length ≤ 128
      have h1 := kinds_len hl
      have h2 := kinds_len hm
      rw [List.length_map, List.length_append]
      omega
  | why g ks =>
    refine al_num fun t => al_list fun l hl => ?_
    unfold lacking
    show (s.places.flatMap _).length ≤ 128
    have go : ∀ (f : Nat → List Int), (∀ e, (f e).length = 2) → ∀ l : List Nat, (l.flatMap f).length = 2 * l.length := by
      intro f hf l
      induction l with
      | nil => rfl
      | cons a r ih => rw [List.flatMap_cons, List.length_append, hf, ih, List.length_cons]; omega
    rw [go _ (fun e => rfl)]
    have := w.plen
    omega
  | served ks =>
    refine al_list fun l hl => ?_
    show (((allPlatforms s).filter _).map num).length ≤ 128
    rw [List.length_map]
    have h1 := List.length_filter_le (fun p => (placeFor s l p).isSome) (allPlatforms s)
    have h2 : (allPlatforms s).length = s.platforms.length := List.length_range
    have := w.npl
    omega
  | alike p q => exact al_with2 fun x y => Nat.zero_le _
  | idle ks =>
    refine al_list fun l hl => ?_
    show ((s.ranking.filter _).map num).length ≤ 128
    rw [List.length_map]
    have h1 := List.length_filter_le (fun t => kindIn s l t && !usedAt s t) s.ranking
    have := w.rlen
    omega
theorem step_len {s : State} (w : WF s) {c : List (List Int)} (h : (VabldfNeutral.callOf c).isSome = true) : (VabldfNeutral.step s c).2.length ≤ 129 := by
  unfold VabldfNeutral.step
  cases e : VabldfNeutral.callOf c with
  | none => rw [e] at h; cases h
  | some k =>
    show (VabldfNeutral.encode (Vabldf.step s k).2).length ≤ 129
    unfold VabldfNeutral.encode
    rw [List.length_cons]
    have := al_step w k
    unfold alen at this
    omega
end TC
end
section
set_option linter.all false
set_option maxRecDepth 100000
set_option Elab.async false
set_option maxHeartbeats 4000000
namespace TC
open PySem PySem.Spec PyProof.Rows L2 Vabldf
/-! ### the list of answers beside the object -/
theorem Stk.beside {c : Cl} {H : Hp} {S : Addr} {m : Mem} {s : State} (st : Stk c H S m s) (hm : m.ext = []) {L : Addr} {o : HO} (hL : H L = none) : Stk c (upd H L o) S { m with ext := [L] } s := by
  have hmm := not_mm st hL
  have sL := same_upd (o := o) hL
  obtain ⟨w, ndm, lr, lp, as, ps, ts, e1, e2, e3, e4, e5, e6, e7, e8, e9, e10⟩ := st
  have h : Same (hid H (mx S m)) (hid (upd H L o) (mx S { m with ext := [L] })) := fun b u q => by
    obtain ⟨q1, q2⟩ := hid_of q
    refine hid_at (sL _ _ q1) fun z => ?_
    rcases List.mem_append.mp z with z | z
    · exact q2 (List.mem_append_left _ z)
    · rw [List.mem_singleton.mp z, hL] at q1
      cases q1
  refine ⟨w, ⟨ndm.1, fun b hb => ?_⟩, lr, lp, as, ps, ts, sL _ _ e1, sL _ _ e2, sL _ _ e3, sL _ _ e4, h _ _ e5, h _ _ e6, Paired.mapP e7 fun _ _ z => z.ext (Ext.of h), e8, Paired.mapP e9 fun _ _ z => z.same h, fun i a q => (e10 i a q).ext (Ext.of h)⟩
  have hb' : b = L := List.mem_singleton.mp hb
  subst hb'
  exact ⟨mx_mm (S := S) (m := m) hmm, o, upd_same⟩
theorem Stk.other {c : Cl} {H : Hp} {S : Addr} {m : Mem} {s : State} (st : Stk c H S m s) {L : Addr} {o : HO} (hL : L ∈ m.ext) : Stk c (upd H L o) S m s := by
  obtain ⟨w, ndm, lr, lp, as, ps, ts, e1, e2, e3, e4, e5, e6, e7, e8, e9, e10⟩ := st
  have nL := (ndm.2 L hL).1
  have fr : ∀ b u, H b = some u → b ≠ L → upd H L o b = some u := fun b u e z => by rw [upd_ne z]; exact e
  have h : Same (hid H (mx S m)) (hid (upd H L o) (mx S m)) := same_hid fun b u e q => fr b u e fun z => q (List.mem_append_right _ (z ▸ hL))
  have n1 : ∀ b ∈ mm S m, b ≠ L := fun b hb z => nL (z ▸ hb)
  refine ⟨w, ⟨ndm.1, fun b hb => ⟨(ndm.2 b hb).1, ?_⟩⟩, lr, lp, as, ps, ts, fr _ _ e1 (n1 _ (by simp)), fr _ _ e2 (n1 _ (by simp)), fr _ _ e3 (n1 _ (by simp)), fr _ _ e4 (n1 _ (by simp)), h _ _ e5, h _ _ e6, Paired.mapP e7 fun _ _ z => z.ext (Ext.of h), e8, Paired.mapP e9 fun _ _ z => z.same h, fun i a q => (e10 i a q).ext (Ext.of h)⟩
  obtain ⟨u, e⟩ := (ndm.2 b hb).2
  by_cases z : b = L
  · exact ⟨o, by rw [z, upd_same]⟩
  · exact ⟨u, fr _ _ e z⟩
theorem Stk.new {c : Cl} {H : Hp} {S : Addr} {m : Mem} {lr lp : Addr} (hm : m.ext = []) (h1 : H S = some (.ins c.ck m.dS (fStk m lr lp))) (h2 : ∀ l ∈ [m.lset, m.lpl, m.ltc, lr, lp], H l = some (.lst [])) (hn : [S, m.lset, m.lpl, m.ltc].Nodup)
    (hr : lr ∉ [S, m.lset, m.lpl, m.ltc]) (hp : lp ∉ [S, m.lset, m.lpl, m.ltc]) : Stk c H S m VabldfNeutral.start := by
  have ex : mx S m = mm S m := by show mm S m ++ m.ext = mm S m; rw [hm, List.append_nil]
  refine ⟨WF.start, ⟨hn, fun b hb => by rw [hm] at hb; cases hb⟩, lr, lp, [], [], [], h1, h2 _ (by simp), h2 _ (by simp), h2 _ (by simp), hid_at (h2 _ (by simp)) (by rw [ex]; exact hr), hid_at (h2 _ (by simp)) (by rw [ex]; exact hp), .nil, rfl, .nil, fun i a q => by simp at q⟩
theorem putRows_len : ∀ xs : List (List Int), ((PyFlat.putRows xs).length : Int) = (xs.length : Int) + ((xs.map fun r => (r.length : Int)).sum)
  | [] => rfl
  | x :: r => by
    show ((PyFlat.putRow x ++ PyFlat.putRows r).length : Int) = _
    rw [List.length_append]
    have ih := putRows_len r
    rw [List.map_cons, List.sum_cons, List.length_cons]
    have e : (PyFlat.putRow x).length = x.length + 1 := rfl
    omega
theorem put_app (a b : List (List (List Int))) : PyFlat.put (a ++ b) = PyFlat.put a ++ PyFlat.put b := by
  induction a with
  | nil => rfl
  | cons y r ih =>
    show PyFlat.put1 y ++ PyFlat.put (r ++ b) = (PyFlat.put1 y ++ PyFlat.put r) ++ PyFlat.put b
    rw [ih, List.append_assoc]
theorem cons_mid (u : List Int) (p : Int) (v : List Int) : u ++ p :: v = (u ++ [p]) ++ v := by rw [List.append_assoc]; rfl
theorem ite_le {c : Prop} [Decidable c] {a b : Option (Nat × Nat)} (ha : ∀ n k, a = some (n, k) → k ≤ 2) (hb : ∀ n k, b = some (n, k) → k ≤ 2) : ∀ n k, (if c then a else b) = some (n, k) → k ≤ 2 := fun n k h => by
  by_cases z : c
  · rw [if_pos z] at h; exact ha n k h
  · rw [if_neg z] at h; exact hb n k h
theorem some_le {x y : Nat} (h : y ≤ 2) : ∀ n k, some (x, y) = some (n, k) → k ≤ 2 := fun n k e => by
  injection e with e
  injection e with e1 e2
  omega
theorem shape_le {p : Int} {n k : Nat} (h : PyVabldf.shape p = some (n, k)) : k ≤ 2 := by
  unfold PyVabldf.shape at h
  exact ite_le (some_le (by decide)) (ite_le (some_le (by decide)) (ite_le (some_le (by decide)) (ite_le (some_le (by decide)) (ite_le (some_le (by decide)) (ite_le (some_le (by decide)) (ite_le (some_le (by decide)) (ite_le (some_le (by decide)) (ite_le (some_le (by decide)) (ite_le (some_le (by decide)) (ite_le (some_le (by decide)) (ite_le (some_le (by decide)) (ite_le (some_le (by decide)) (fun n k e => by cases e))))))))))))) n k h
theorem paired_mem2 {α β : Type} {F G : α → β → Prop} : ∀ {as : List α} {bs : List β}, Paired F as bs → (∀ a, ∀ b ∈ bs, F a b → G a b) → Paired G as bs
  | _, _, .nil, _ => .nil
  | _, _, .cons r t, f => .cons (f _ _ List.mem_cons_self r) (paired_mem2 t fun a b hb z => f a b (List.mem_cons_of_mem _ hb) z)
theorem sum_snoc' : ∀ (l : List Int) (z : Int), (l ++ [z]).sum = l.sum + z
  | [], z => by simp
  | a :: l, z => by
    rw [List.cons_append, List.sum_cons, List.sum_cons, sum_snoc' l z]
    omega
section
variable {P : Program} {w : World} {K : PySem.W.Frag} {mg : Str → Option Value} {base : Heap} {c : Cl}
def CallsOk (P : Program) (w : World) (K : PySem.W.Frag) (mg : Str → Option Value) (base : Heap) (c : Cl) : Prop := ∃ dC kvs, mg "CALLS" = some (.ref dC) ∧ ModD P w K dC kvs ∧ ∀ (p : Int) (n k : Nat), PyVabldf.shape p = some (n, k) →
  ∃ t f, valV kvs (Sum.inl p) = some (.ref t) ∧ (∀ H : Hp, SqT K H t [vi n, vi k, .ref f]) ∧ PySem.W.keepIn K (.ref f) = true ∧ ∃ fd ps, FnOk P w K mg base CX0 8 f fd ps (spAct K c p) ∧ Binds K fd ps []
def spAns (K : PySem.W.Frag) : Sp := fun vs H Q _ => ∃ cl cs, vs = [.ref cl] ∧ SqL K H cl (iv (PyFlat.put cs)) ∧ (∀ x ∈ cs, PyFlat.okCall PyVabldf.shape x) ∧ (∀ x ∈ cs, VabldfNeutral.asked1 x = true) ∧ cs.length ≤ 400 ∧
  ∀ (H' : Hp) (l : Addr), H' l = some (.lst (iv (PyFlat.told (PyFlat.played VabldfNeutral.step VabldfNeutral.start cs)))) → Q (.ref l) H'
theorem ok_answers (T : Txt K mg c) (C : CallsOk P w K mg base c) {f : Addr} {fd0 : FuncData} (F : Fun K "answers" "answers" s_answers f fd0) : FnOk P w K mg base CX0 9 f fd0 ["calls"] (spAns K) := by
  have nd := sc_answers.nd
  refine F.ok sc_answers (fun vs H Q E h => ?_) fun cdv A outer s0 H vs Q E hr h => ?_
  · obtain ⟨cl, cs, rfl, _⟩ := h
    rfl
  obtain ⟨cl, cs, rfl, hcl, hok, hask, h400, k⟩ := h
  obtain ⟨dC, kvs, hG, hM, hC⟩ := C
  refine ⟨_, (pss_cons (pset 1 nd (pe_mk0 (mk_Stock T) hr))
      (pss_cons (pset 2 nd (pe_lst pa_nil))
      (pss_cons (pset 3 nd pe_int)
      (pss_cons (ps_while PassesOwn.never (pt_cmpR op_lt (pv 3) (pe_callB call_len_seq rfl T.b_len PySem.boot_len (pa_cons (pv 0) pa_nil)) (nomark _))
      (pss_cons (pset 4 nd (pe_mdget hM (pe_glob (v := V.ref dC) rfl hG rfl) (pe_ix ix_list (pv 0) (pv 3) (fun _ _ => rfl)) (fun _ _ => rfl)))
      (pss_cons (pset 5 nd (pe_op op_add (pe_op op_add (pv 3) pe_int) (pe_ix ix_tup (pv 4) pe_int (fun _ _ => rfl))))
      (pss_cons (pset 6 nd (pe_slice sl_list (pv 0) (po_some (pe_op op_add (pv 3) pe_int)) (po_some (pv 5))))
      (pss_cons (pset 7 nd (pe_fn (ok_rows_from T) hr (pa_cons (pv 0) (pa_cons (pv 5) (pa_cons (pe_ix ix_tup (pv 4) pe_int (fun _ _ => rfl)) pa_nil)))))
      (pss_cons (pset 3 nd (pe_op op_add (pe_op op_add (pv 5) (pe_callB call_len_seq rfl T.b_len PySem.boot_len (pa_cons (pv 7) pa_nil))) (pe_callB (cr_sum rfl) rfl T.b_sum bt_sum (pa_cons (pe_lc (own := [("row", 10)]) rfl nd (pi_list (pv 7)) (blkOk_by (N := ["calls", "stock", "told", "at", "form", "start", "numbers", "rows", "act", "answer", "row"]) (sc := defScope s_answers) (by decide +kernel)) (fun s H C cl fp => by exact (pgn 10 nd)) (fun s H C cl fp => by exact pts_nil) (fun s H C cl fp => by exact (pe_callB (call_len_seqK (K := K) rfl) rfl T.b_len PySem.boot_len (pa_cons (pv 10) pa_nil)))) pa_nil))))
      (pss_cons (pset 8 nd (pe_ix ix_tup (pv 4) pe_int (fun _ _ => rfl)))
      (pss_cons (pset 9 nd (pe_fnV 8 hr (pa_cons (pv 1) (pa_cons (pv 6) (pa_cons (pv 7) pa_nil)))))
      (pss_cons (ps_expr (pe_bm PySem.F.plainAttrs_list PySem.F.slot_list_append PySem.F.type_list_append mt_append (pv 2) (pa_cons (pe_callB call_len_seq rfl T.b_len PySem.boot_len (pa_cons (pv 9) pa_nil)) pa_nil)))
      (pss_one (ps_expr (pe_bm PySem.F.plainAttrs_list PySem.F.slot_list_extend PySem.F.type_list_extend mt_extend (pv 2) (pa_cons (pv 9) pa_nil)))))))))))))
      (pss_one (ps_ret (pv 2))))))), ?_⟩
  refine fun S dx hS hdx hne => ⟨S, dx, rfl, upd_same, fun H1 m lr lp em ex hS1 hls hnd hlr hlp kp => ⟨rfl, ?_⟩⟩
  have s1 : Same H H1 := Same.made hS hdx kp
  have em' : m.dS = dx := em
  have st1 : Stk c H1 S m VabldfNeutral.start := Stk.new ex (by rw [em']; exact hS1) (fun l hl => (hls l hl).2) hnd hlr hlp
  refine ⟨Nat.zero_le _, fun L hL => ?_⟩
  have sL := same_upd (o := .lst []) hL
  have st2 := st1.beside ex (o := .lst []) hL
  obtain ⟨m2, em2⟩ : ∃ m2, m2 = { m with ext := [L] } := ⟨_, rfl⟩
  rw [← em2] at st2
  have Lx : L ∈ m2.ext := by rw [em2]; exact List.mem_singleton.mpr rfl
  have hcl2 : SqL K (hid (upd H1 L (.lst [])) (mx S m2)) cl (iv (PyFlat.put cs)) := by
    have nH : ∀ b o, H b = some o → b ∉ mx S m2 := fun b o e z => by
      rw [em2] at z
      rcases List.mem_append.mp z with z | z
      · have z' : b ∈ [S, m.lset, m.lpl, m.ltc] := z
        simp only [List.mem_cons, List.not_mem_nil, or_false] at z'
        have nl : ∀ l ∈ [m.lset, m.lpl, m.ltc, lr, lp], b ≠ l := fun l hl q => by
          have h1 := (hls l hl).1
          rw [← q, upd_ne (ne_of_none e hS), upd_ne (ne_of_none e hdx), e] at h1
          cases h1
        rcases z' with q | q | q | q
        · rw [q, hS] at e
          cases e
        · exact nl _ (by simp) q
        · exact nl _ (by simp) q
        · exact nl _ (by simp) q
      · rw [List.mem_singleton.mp z] at e
        rw [s1 _ _ e] at hL
        cases hL
    exact Same.seq (fun b o e => hid_at (sL _ _ (s1 _ _ e)) (nH b o e)) hcl
  refine while_by (fun σ H' => ∃ done rest s acc, ∃ v4 v5 v6 v7 v8 v9 : Option V, cs = done ++ rest ∧ σ = [some (.ref cl), some (.ref S), some (.ref L), some (.int ((PyFlat.put done).length : Int)), v4, v5, v6, v7, v8, v9, none] ∧
      Stk c H' S m2 s ∧ H' L = some (.lst (iv acc)) ∧ SqL K (hid H' (mx S m2)) cl (iv (PyFlat.put cs)) ∧ acc.length + 130 * rest.length ≤ 52000 ∧
      PyFlat.told (PyFlat.played VabldfNeutral.step VabldfNeutral.start cs) = acc ++ PyFlat.told (PyFlat.played VabldfNeutral.step s rest)) (fun σ _ => (PyFlat.put cs).length - slotI σ 3) ?_ ?_ ?_
  · refine ⟨[], cs, VabldfNeutral.start, [], none, none, none, none, none, none, rfl, rfl, st2, upd_same, hcl2, ?_, rfl⟩
    show 0 + _ ≤ _
    omega
  · rintro σ H' ⟨done, rest, s, acc, v4, v5, v6, v7, v8, v9, hcs, rfl, st, hL', hcl', hacc, htold⟩
    have hsq : SqL K H' cl (iv (PyFlat.put cs)) := Same.seq (hid_same H' (mx S m2)) hcl'
    refine ⟨_, rfl, _, rfl, cl, _, rfl, .inl hsq, _, _, rfl, rfl, _, rfl, ?_⟩
    rw [iv_len]
    cases rest with
    | nil =>
      rw [List.append_nil] at hcs
      subst hcs
      rw [decide_eq_false (Int.lt_irrefl _)]
      refine iteF ⟨_, rfl, k H' L ?_⟩
      rw [htold]
      show H' L = some (.lst (iv (acc ++ [])))
      rw [List.append_nil]
      exact hL'
    | cons x rest =>
      have hx : x ∈ cs := by rw [hcs]; exact List.mem_append_right _ List.mem_cons_self
      obtain ⟨p, a, xs, rfl, hsh⟩ := hok x hx
      obtain ⟨hcall, hrows⟩ := asked1_ok (hask _ hx)
      have hput : PyFlat.put cs = PyFlat.put done ++ (p :: (a ++ (PyFlat.putRows xs ++ PyFlat.put rest))) := by
        rw [hcs, put_app]
        show PyFlat.put done ++ (((p :: a) ++ PyFlat.putRows xs) ++ PyFlat.put rest) = _
        simp [List.append_assoc]
      have hlen : ((PyFlat.put done).length : Int) < ((PyFlat.put cs).length : Int) := by
        rw [hput, List.length_append, List.length_cons]
        omega
      rw [decide_eq_true hlen]
      obtain ⟨t, fa, hval, hsqt, hkeep, fd, ps, hfn, hbd⟩ := hC p a.length xs.length hsh
      refine iteT ⟨_, rfl, _, rfl, cl, _, _, _, rfl, rfl, hsq, by rw [hput]; exact get_mid _ _ _ rfl, Sum.inl p, .ref t, rfl, rfl, hval, ?_⟩
      refine ⟨_, rfl, _, _, rfl, rfl, _, rfl, t, _, _, _, rfl, rfl, hsqt _, rfl, _, _, rfl, rfl, ?_⟩
      refine ⟨_, rfl, _, rfl, _, _, rfl, rfl, _, rfl, _, rfl, _, rfl, cl, _, rfl, hsq, fun an han => ?_⟩
      have ecut : cutV (iv (PyFlat.put cs)) (some (((PyFlat.put done).length : Int) + 1)) (some (((PyFlat.put done).length : Int) + 1 + (a.length : Int))) = iv a := by
        rw [hput, cons_mid]
        refine cut_mid _ _ _ ?_ ?_
        · rw [List.length_append, List.length_singleton]; omega
        · rw [List.length_append, List.length_singleton]; omega
      rw [ecut]
      have sa := same_upd (o := .lst (iv a)) han
      have s2k := shape_le hsh
      have e5 : ((PyFlat.put done ++ (p :: a)).length : Int) = ((PyFlat.put done).length : Int) + 1 + (a.length : Int) := by
        rw [List.length_append, List.length_cons]
        omega
      have hput2 : PyFlat.put cs = (PyFlat.put done ++ (p :: a)) ++ (PyFlat.putRows xs ++ PyFlat.put rest) := by
        rw [hput]
        simp [List.append_assoc]
      refine ⟨_, rfl, _, rfl, _, rfl, t, _, _, _, rfl, rfl, hsqt _, rfl, cl, PyFlat.put done ++ (p :: a), xs, PyFlat.put rest, by rw [e5], by rw [← hput2]; exact sa.seq hsq, by omega, fun H2 ar ras s2 har har2 pras => ?_⟩
      have hpl := Paired.length pras
      refine ⟨_, rfl, _, rfl, ar, _, rfl, .inl (SqL.of har2), _, _, rfl, rfl, _, rfl, ar, rfl, ⟨_, SqL.of har2⟩, fun D hD => lc_list (K := K) (a := ar) (xs := ras.map V.ref)
        (fun i H'' => H'' D = some (.lst (iv ((xs.take i).map fun r => (r.length : Int)))) ∧ Same H2 H'') ⟨upd_same, same_upd hD⟩ (fun i H'' _ ⟨_, s3⟩ => SqL.of (s3 _ _ har2)) ?_ ?_⟩
      · rintro i y H'' hi ⟨hD', s3⟩
        obtain ⟨q, hq, rfl⟩ := get_refs hi
        obtain ⟨r, hr', hrow⟩ := Paired.at pras hq
        refine ⟨rfl, ?_⟩
        simp only [tYes, if_true]
        refine ⟨_, rfl, q, _, rfl, .inl (SqL.of (s3 _ _ hrow.2)), _, hD', ?_, ?_, ?_⟩
        · have q2 := take_le xs i
          rw [iv_len, List.length_map, sizeLine_eq]
          omega
        · rw [upd_same, take_snoc hr', List.map_append, List.map_singleton, iv_snoc, iv_len]
        · exact fun b o e => by
            rw [upd_ne (fun z => by rw [z, hD] at e; cases e)]
            exact s3 b o e
      · rintro H3 ⟨hD3, s3⟩
        rw [List.length_map, hpl, List.take_length] at hD3
        have s13 := (sa.trans s2).trans s3
        refine ⟨D, _, rfl, SqL.of hD3, _, _, rfl, rfl, ?_⟩
        have st3 := st.same s13
        have hgiven : Given K c H3 [.ref S, .ref an, .ref ar] S m2 s a xs := by
          refine ⟨st3, an, ar, ras, rfl, s3 _ _ (s2 _ _ upd_same), s3 _ _ har2, paired_mem2 pras fun q r hr z => ⟨hid_at (s3 _ _ z.2) (not_mm st (sa.free z.1)), hrows r hr⟩⟩
        refine ⟨_, rfl, t, _, _, _, rfl, rfl, hsqt _, rfl, fa, rfl, hkeep, _, rfl, _, rfl, _, rfl, fd, ps, spAct K c p, hfn, hbd, S, m2, s, a, xs, hgiven, hcall, fun H4 l st4 hl hln fr4 => ?_⟩
        have nLm := (st.nd.2 L Lx).1
        have hL3 := s13 _ _ hL'
        have hL4 := fr4 _ _ hL3 nLm
        have nlL : l ≠ L := fun z => by rw [z, hL3] at hln; cases hln
        have hsl := step_len st.wf hcall
        refine ⟨_, rfl, .inl ⟨rfl, _, SqL.of hL4⟩, _, rfl, l, _, rfl, .inl (SqL.of hl), L, _, _, rfl, rfl, hL4, ?_, ?_⟩
        · rw [iv_len, sizeLine_eq]
          omega
        rw [iv_len]
        refine ⟨_, rfl, .inl ⟨rfl, _, SqL.of upd_same⟩, _, rfl, L, l, _, _, rfl, rfl, upd_same, by rw [upd_ne nlL]; exact hl, ?_, ?_⟩
        · rw [List.length_append, iv_len, iv_len, sizeLine_eq]
          show _ + 1 + _ ≤ _
          omega
        have hcs' : cs = (done ++ [(p :: a) :: xs]) ++ rest := by rw [hcs, List.append_assoc]; rfl
        have e9 : ((PyFlat.put (done ++ [(p :: a) :: xs])).length : Int) = ((PyFlat.put done).length : Int) + 1 + (a.length : Int) + ((ras.map V.ref).length : Int) + (xs.map fun r => (r.length : Int)).sum := by
          have q1 : PyFlat.put (done ++ [(p :: a) :: xs]) = (PyFlat.put done ++ (p :: a)) ++ PyFlat.putRows xs := by
            rw [put_app]
            show PyFlat.put done ++ (((p :: a) ++ PyFlat.putRows xs) ++ []) = _
            rw [List.append_nil, List.append_assoc]
          have q2 := putRows_len xs
          rw [q1, List.length_append, List.length_map, hpl]
          omega
        have e10 : (PyFlat.put (done ++ [(p :: a) :: xs])).length ≤ (PyFlat.put cs).length := by
          have q3 : (PyFlat.put cs).length = (PyFlat.put (done ++ [(p :: a) :: xs])).length + (PyFlat.put rest).length := by
            rw [← List.length_append, ← put_app, ← hcs']
          omega
        have e11 : (PyFlat.put done).length < (PyFlat.put (done ++ [(p :: a) :: xs])).length := by
          rw [put_app, List.length_append]
          show _ < _ + (((p :: a) ++ PyFlat.putRows xs) ++ []).length
          rw [List.append_nil, List.length_append, List.length_cons]
          omega
        refine ⟨⟨done ++ [(p :: a) :: xs], rest, _, acc ++ (((VabldfNeutral.step s ((p :: a) :: xs)).2.length : Int) :: (VabldfNeutral.step s ((p :: a) :: xs)).2), some (.ref t), some (.int (((PyFlat.put done).length : Int) + 1 + (a.length : Int))), some (.ref an), some (.ref ar), some (.ref fa), some (.ref l), hcs', ?_, (st4.other Lx).other Lx, ?_, ?_, ?_, ?_⟩, ?_⟩
        · rw [e9]
          rfl
        · rw [upd_same, List.append_assoc]
          show some (HO.lst (iv acc ++ iv (((VabldfNeutral.step s ((p :: a) :: xs)).2.length : Int) :: (VabldfNeutral.step s ((p :: a) :: xs)).2))) = _
          rw [iv_app]
        · refine Same.seq (same_hid fun b o e q => ?_) hcl'
          have hbL : b ≠ L := fun z => q (List.mem_append_right _ (z ▸ Lx))
          rw [upd_ne hbL, upd_ne hbL]
          exact fr4 _ _ (s13 _ _ e) (mx_mm q)
        · rw [List.length_append, List.length_cons]
          rw [List.length_cons] at hacc
          omega
        · rw [htold, List.append_assoc]
          rfl
        · show (PyFlat.put cs).length - (((PyFlat.put done).length : Int) + 1 + (a.length : Int) + ((ras.map V.ref).length : Int) + (xs.map fun r => (r.length : Int)).sum).toNat < (PyFlat.put cs).length - ((PyFlat.put done).length : Int).toNat
          rw [← e9]
          omega
  · rintro σ H' Q1 Q2 f ⟨v, e1, v2, e4, p, ys, e2, e3, i, j, e5, e6, k, e7, q⟩
    exact ⟨v, e1, v2, e4, p, ys, e2, e3, i, j, e5, e6, k, e7, f _ _ q⟩
end
end TC
end
section
set_option linter.all false
set_option maxRecDepth 100000
set_option Elab.async false
set_option maxHeartbeats 4000000
namespace TC
open PySem PySem.Spec PyProof.Rows L2 Vabldf
theorem mkF {K : PySem.W.Frag} {h : Heap} {mg : Str → Option Value} {x : Str} {st : Stmt} {f : Addr} {oc kV doc pm cdv ct : Value} {od an : Option Addr} {osl : Array (Option Value)} (X : K.In h) (G : h.Ns mainGlobals mg) (a : PySem.W.nsIn K mainGlobals x = some (some (.ref f)))
    (l : K.lookup f = some ⟨oc, od, .func (PySem.W.fnOf x x (defArgs st) (defBody st) (defScope st) .none kV doc pm an cdv ct), osl⟩) (q : PySem.W.codeIn K cdv x = true) (k : PySem.W.keepIn K (.ref f) = true) : ∃ f fd, Fun K x x st f fd ∧ mg x = some (.ref f) :=
  ⟨f, _, fun_mk l q k, PySem.W.mg_of X G a⟩
theorem mkI {K : PySem.W.Frag} {C : Addr} {qual : Str} {st : Stmt} {f : Addr} {oc kV doc pm cdv ct : Value} {od an : Option Addr} {osl : Array (Option Value)} (mk : PySem.W.makesIn K C = true) (a : PySem.W.findIn K (.ref C) "__init__" = some (some (.ref f))) (i : PySem.W.isFn K (.ref f) = true) (kc : PySem.W.keepIn K (.ref C) = true)
    (l : K.lookup f = some ⟨oc, od, .func (PySem.W.fnOf "__init__" qual (defArgs st) (defBody st) (defScope st) .none kV doc pm an cdv ct), osl⟩) (q : PySem.W.codeIn K cdv qual = true) (k : PySem.W.keepIn K (.ref f) = true) : ∃ f fd, Fun K "__init__" qual st f fd ∧ Mk K C f :=
  ⟨f, _, fun_mk l q k, ⟨mk, a, i, kc⟩⟩
theorem mkG {K : PySem.W.Frag} {h : Heap} {mg : Str → Option Value} {x : Str} {n : Int} {t : Tok} (X : K.In h) (G : h.Ns mainGlobals mg) (a : PySem.W.nsIn K mainGlobals x = some (some (.int n t))) : ∃ t, mg x = some (.int n t) := ⟨t, PySem.W.mg_of X G a⟩
theorem act_of {P : Program} {w : World} {K : PySem.W.Frag} {mg : Str → Option Value} {base : Heap} {k : Nat} {x : Str} {ps : List Str} {sp : Sp} {f : Addr} (F : Fn P w K mg base k x ps sp) (hm : mg x = some (.ref f)) (hk : k ≤ 8 := by decide) :
    PySem.W.keepIn K (.ref f) = true ∧ ∃ fd ps, FnOk P w K mg base CX0 8 f fd ps sp ∧ Binds K fd ps [] := by
  obtain ⟨f', fd, h1, h2, h3, h4⟩ := F
  have e := h2.symm.trans hm
  cases e
  exact ⟨h3, fd, ps, h1.mono hk, h4⟩
theorem tup_of {K : PySem.W.Frag} {t : Addr} {od : Option Addr} {n k : Nat} {u v : Tok} {f : Addr} {z : Nat} {sl : Array (Option Value)} (l : K.lookup t = some ⟨.type "tuple", od, .seq #[.int (n : Int) u, .int (k : Int) v, .ref f] z, sl⟩) : ∀ H : Hp, SqT K H t [vi n, vi k, .ref f] := fun H =>
  .inr ⟨_, _, z, l, rfl, rfl, by show 3 ≤ sizeLine; decide, .cons ⟨u, rfl⟩ (.cons ⟨v, rfl⟩ (.cons rfl .nil))⟩
theorem mkTxt {K : PySem.W.Frag} {mg : Str → Option Value} {A B D : Addr} (b_len : mg "len" = none)
    (b_zip : mg "zip" = none)
    (b_list : mg "list" = none)
    (b_set : mg "set" = none)
    (b_dict : mg "dict" = none)
    (b_sum : mg "sum" = none)
    (b_range : mg "range" = none)
    (g_NO_VALUE : ∃ t, mg "NO_VALUE" = some (.int (-1) t))
    (g_NO_KIND : ∃ t, mg "NO_KIND" = some (.int (-1) t))
    (g_NO_TOOLCHAIN : ∃ t, mg "NO_TOOLCHAIN" = some (.int (-1) t))
    (g_ACCEPTED : ∃ t, mg "ACCEPTED" = some (.int (0) t))
    (g_LIMIT : ∃ t, mg "LIMIT" = some (.int (-1) t))
    (g_SETTING : ∃ t, mg "SETTING" = some (.int (-2) t))
    (g_VALUE : ∃ t, mg "VALUE" = some (.int (-3) t))
    (g_PLATFORM : ∃ t, mg "PLATFORM" = some (.int (-4) t))
    (g_CHAIN : ∃ t, mg "CHAIN" = some (.int (-5) t))
    (g_KIND : ∃ t, mg "KIND" = some (.int (-6) t))
    (g_TWICE : ∃ t, mg "TWICE" = some (.int (-7) t))
    (g_NONE : ∃ t, mg "NONE" = some (.int (-8) t))
    (g_FULL : ∃ t, mg "FULL" = some (.int (-9) t))
    (g_MOST_VALUES : ∃ t, mg "MOST_VALUES" = some (.int (16) t))
    (g_MOST_KINDS : ∃ t, mg "MOST_KINDS" = some (.int (32) t))
    (g_LONGEST_ROW : ∃ t, mg "LONGEST_ROW" = some (.int (64) t))
    (g_MOST_SETTINGS : ∃ t, mg "MOST_SETTINGS" = some (.int (16) t))
    (g_MOST_PLATFORMS : ∃ t, mg "MOST_PLATFORMS" = some (.int (16) t))
    (g_MOST_TOOLCHAINS : ∃ t, mg "MOST_TOOLCHAINS" = some (.int (32) t))
    (f_pairs_of : ∃ f fd, Fun K "pairs_of" "pairs_of" s_pairs_of f fd ∧ mg "pairs_of" = some (.ref f))
    (f_need_of : ∃ f fd, Fun K "need_of" "need_of" s_need_of f fd ∧ mg "need_of" = some (.ref f))
    (f_value_of : ∃ f fd, Fun K "value_of" "value_of" s_value_of f fd ∧ mg "value_of" = some (.ref f))
    (f_same_values : ∃ f fd, Fun K "same_values" "same_values" s_same_values f fd ∧ mg "same_values" = some (.ref f))
    (f_unmet_setting : ∃ f fd, Fun K "unmet_setting" "unmet_setting" s_unmet_setting f fd ∧ mg "unmet_setting" = some (.ref f))
    (f_meets : ∃ f fd, Fun K "meets" "meets" s_meets f fd ∧ mg "meets" = some (.ref f))
    (f_fitting_ends : ∃ f fd, Fun K "fitting_ends" "fitting_ends" s_fitting_ends f fd ∧ mg "fitting_ends" = some (.ref f))
    (f_chosen_toolchains : ∃ f fd, Fun K "chosen_toolchains" "chosen_toolchains" s_chosen_toolchains f fd ∧ mg "chosen_toolchains" = some (.ref f))
    (f_chosen_for : ∃ f fd, Fun K "chosen_for" "chosen_for" s_chosen_for f fd ∧ mg "chosen_for" = some (.ref f))
    (f_lacking_kind : ∃ f fd, Fun K "lacking_kind" "lacking_kind" s_lacking_kind f fd ∧ mg "lacking_kind" = some (.ref f))
    (f_served_place : ∃ f fd, Fun K "served_place" "served_place" s_served_place f fd ∧ mg "served_place" = some (.ref f))
    (f_chosen_anywhere : ∃ f fd, Fun K "chosen_anywhere" "chosen_anywhere" s_chosen_anywhere f fd ∧ mg "chosen_anywhere" = some (.ref f))
    (f_served_targets : ∃ f fd, Fun K "served_targets" "served_targets" s_served_targets f fd ∧ mg "served_targets" = some (.ref f))
    (f_idle_toolchains : ∃ f fd, Fun K "idle_toolchains" "idle_toolchains" s_idle_toolchains f fd ∧ mg "idle_toolchains" = some (.ref f))
    (f_look_below : ∃ f fd, Fun K "look_below" "look_below" s_look_below f fd ∧ mg "look_below" = some (.ref f))
    (f_look_setting : ∃ f fd, Fun K "look_setting" "look_setting" s_look_setting f fd ∧ mg "look_setting" = some (.ref f))
    (f_look_platform : ∃ f fd, Fun K "look_platform" "look_platform" s_look_platform f fd ∧ mg "look_platform" = some (.ref f))
    (f_look_toolchain : ∃ f fd, Fun K "look_toolchain" "look_toolchain" s_look_toolchain f fd ∧ mg "look_toolchain" = some (.ref f))
    (f_look_kind : ∃ f fd, Fun K "look_kind" "look_kind" s_look_kind f fd ∧ mg "look_kind" = some (.ref f))
    (f_look_once : ∃ f fd, Fun K "look_once" "look_once" s_look_once f fd ∧ mg "look_once" = some (.ref f))
    (f_look_row : ∃ f fd, Fun K "look_row" "look_row" s_look_row f fd ∧ mg "look_row" = some (.ref f))
    (f_look_platforms : ∃ f fd, Fun K "look_platforms" "look_platforms" s_look_platforms f fd ∧ mg "look_platforms" = some (.ref f))
    (f_look_toolchains : ∃ f fd, Fun K "look_toolchains" "look_toolchains" s_look_toolchains f fd ∧ mg "look_toolchains" = some (.ref f))
    (f_look_kinds : ∃ f fd, Fun K "look_kinds" "look_kinds" s_look_kinds f fd ∧ mg "look_kinds" = some (.ref f))
    (f_look_pairs : ∃ f fd, Fun K "look_pairs" "look_pairs" s_look_pairs f fd ∧ mg "look_pairs" = some (.ref f))
    (f_look_own : ∃ f fd, Fun K "look_own" "look_own" s_look_own f fd ∧ mg "look_own" = some (.ref f))
    (f_look_parent : ∃ f fd, Fun K "look_parent" "look_parent" s_look_parent f fd ∧ mg "look_parent" = some (.ref f))
    (f_look_values : ∃ f fd, Fun K "look_values" "look_values" s_look_values f fd ∧ mg "look_values" = some (.ref f))
    (f_look_room : ∃ f fd, Fun K "look_room" "look_room" s_look_room f fd ∧ mg "look_room" = some (.ref f))
    (f_add_setting : ∃ f fd, Fun K "add_setting" "add_setting" s_add_setting f fd ∧ mg "add_setting" = some (.ref f))
    (f_add_platform : ∃ f fd, Fun K "add_platform" "add_platform" s_add_platform f fd ∧ mg "add_platform" = some (.ref f))
    (f_add_toolchain : ∃ f fd, Fun K "add_toolchain" "add_toolchain" s_add_toolchain f fd ∧ mg "add_toolchain" = some (.ref f))
    (f_set_ranking : ∃ f fd, Fun K "set_ranking" "set_ranking" s_set_ranking f fd ∧ mg "set_ranking" = some (.ref f))
    (f_set_places : ∃ f fd, Fun K "set_places" "set_places" s_set_places f fd ∧ mg "set_places" = some (.ref f))
    (f_tell_value : ∃ f fd, Fun K "tell_value" "tell_value" s_tell_value f fd ∧ mg "tell_value" = some (.ref f))
    (f_tell_fit : ∃ f fd, Fun K "tell_fit" "tell_fit" s_tell_fit f fd ∧ mg "tell_fit" = some (.ref f))
    (f_tell_choice : ∃ f fd, Fun K "tell_choice" "tell_choice" s_tell_choice f fd ∧ mg "tell_choice" = some (.ref f))
    (f_tell_resolve : ∃ f fd, Fun K "tell_resolve" "tell_resolve" s_tell_resolve f fd ∧ mg "tell_resolve" = some (.ref f))
    (f_tell_why : ∃ f fd, Fun K "tell_why" "tell_why" s_tell_why f fd ∧ mg "tell_why" = some (.ref f))
    (f_tell_served : ∃ f fd, Fun K "tell_served" "tell_served" s_tell_served f fd ∧ mg "tell_served" = some (.ref f))
    (f_tell_alike : ∃ f fd, Fun K "tell_alike" "tell_alike" s_tell_alike f fd ∧ mg "tell_alike" = some (.ref f))
    (f_tell_idle : ∃ f fd, Fun K "tell_idle" "tell_idle" s_tell_idle f fd ∧ mg "tell_idle" = some (.ref f))
    (f_rows_from : ∃ f fd, Fun K "rows_from" "rows_from" s_rows_from f fd ∧ mg "rows_from" = some (.ref f))
    (f_answers : ∃ f fd, Fun K "answers" "answers" s_answers f fd ∧ mg "answers" = some (.ref f))
    (pg_Setting : PySem.W.plainGet K A Str.empty = true)
    (hd_Setting : PySem.W.hasDictIn K A = true)
    (po_Setting : PySem.W.plainOver K A = true)
    (sa_Setting : PySem.W.findIn K (.ref A) "__setattr__" = some (some (.builtin "object.__setattr__")))
    (m_Setting : mg "Setting" = some (.ref A))
    (i_Setting : ∃ f fd, Fun K "__init__" "Setting.__init__" s_Setting_init f fd ∧ Mk K A f)
    (n_Setting_count : PySem.W.findIn K (.ref A) "count" = some none)
    (n_Setting_default : PySem.W.findIn K (.ref A) "default" = some none)
    (pg_Toolchain : PySem.W.plainGet K B Str.empty = true)
    (hd_Toolchain : PySem.W.hasDictIn K B = true)
    (po_Toolchain : PySem.W.plainOver K B = true)
    (sa_Toolchain : PySem.W.findIn K (.ref B) "__setattr__" = some (some (.builtin "object.__setattr__")))
    (m_Toolchain : mg "Toolchain" = some (.ref B))
    (i_Toolchain : ∃ f fd, Fun K "__init__" "Toolchain.__init__" s_Toolchain_init f fd ∧ Mk K B f)
    (n_Toolchain_kind : PySem.W.findIn K (.ref B) "kind" = some none)
    (n_Toolchain_first : PySem.W.findIn K (.ref B) "first" = some none)
    (n_Toolchain_second : PySem.W.findIn K (.ref B) "second" = some none)
    (pg_Stock : PySem.W.plainGet K D Str.empty = true)
    (hd_Stock : PySem.W.hasDictIn K D = true)
    (po_Stock : PySem.W.plainOver K D = true)
    (sa_Stock : PySem.W.findIn K (.ref D) "__setattr__" = some (some (.builtin "object.__setattr__")))
    (m_Stock : mg "Stock" = some (.ref D))
    (i_Stock : ∃ f fd, Fun K "__init__" "Stock.__init__" s_Stock_init f fd ∧ Mk K D f)
    (n_Stock_settings : PySem.W.findIn K (.ref D) "settings" = some none)
    (n_Stock_platforms : PySem.W.findIn K (.ref D) "platforms" = some none)
    (n_Stock_toolchains : PySem.W.findIn K (.ref D) "toolchains" = some none)
    (n_Stock_ranking : PySem.W.findIn K (.ref D) "ranking" = some none)
    (n_Stock_places : PySem.W.findIn K (.ref D) "places" = some none) : Txt K mg ⟨A, B, D⟩ := ⟨b_len, b_zip, b_list, b_set, b_dict, b_sum, b_range, g_NO_VALUE, g_NO_KIND, g_NO_TOOLCHAIN, g_ACCEPTED, g_LIMIT, g_SETTING, g_VALUE, g_PLATFORM, g_CHAIN, g_KIND, g_TWICE, g_NONE, g_FULL, g_MOST_VALUES, g_MOST_KINDS, g_LONGEST_ROW, g_MOST_SETTINGS, g_MOST_PLATFORMS, g_MOST_TOOLCHAINS, f_pairs_of, f_need_of, f_value_of, f_same_values, f_unmet_setting, f_meets, f_fitting_ends, f_chosen_toolchains, f_chosen_for, f_lacking_kind, f_served_place, f_chosen_anywhere, f_served_targets, f_idle_toolchains, f_look_below, f_look_setting, f_look_platform, f_look_toolchain, f_look_kind, f_look_once, f_look_row, f_look_platforms, f_look_toolchains, f_look_kinds, f_look_pairs, f_look_own, f_look_parent, f_look_values, f_look_room, f_add_setting, f_add_platform, f_add_toolchain, f_set_ranking, f_set_places, f_tell_value, f_tell_fit, f_tell_choice, f_tell_resolve, f_tell_why, f_tell_served, f_tell_alike, f_tell_idle, f_rows_from, f_answers, ⟨pg_Setting, hd_Setting, po_Setting, sa_Setting⟩, m_Setting, i_Setting, n_Setting_count, n_Setting_default, ⟨pg_Toolchain, hd_Toolchain, po_Toolchain, sa_Toolchain⟩, m_Toolchain, i_Toolchain, n_Toolchain_kind, n_Toolchain_first, n_Toolchain_second, ⟨pg_Stock, hd_Stock, po_Stock, sa_Stock⟩, m_Stock, i_Stock, n_Stock_settings, n_Stock_platforms, n_Stock_toolchains, n_Stock_ranking, n_Stock_places⟩
theorem callsD {P : Program} {w : World} {K : PySem.W.Frag} {dC a0 a1 a2 a3 a4 a5 a6 a7 a8 a9 a10 a11 a12 : Addr} {t0 t1 t2 t3 t4 t5 t6 t7 t8 t9 t10 t11 t12 : Tok} {ep : Nat} (l : K.lookup dC = some ⟨.type "dict", none, .dict #[⟨0, .int 0 t0, .ref a0⟩, ⟨1, .int 1 t1, .ref a1⟩, ⟨2, .int 2 t2, .ref a2⟩, ⟨3, .int 3 t3, .ref a3⟩, ⟨4, .int 4 t4, .ref a4⟩, ⟨5, .int 5 t5, .ref a5⟩, ⟨6, .int 6 t6, .ref a6⟩, ⟨7, .int 7 t7, .ref a7⟩, ⟨8, .int 8 t8, .ref a8⟩, ⟨9, .int 9 t9, .ref a9⟩, ⟨10, .int 10 t10, .ref a10⟩, ⟨11, .int 11 t11, .ref a11⟩, ⟨12, .int 12 t12, .ref a12⟩] ep, #[]⟩) : ModD P w K dC [(Sum.inl 0, V.ref a0), (Sum.inl 1, V.ref a1), (Sum.inl 2, V.ref a2), (Sum.inl 3, V.ref a3), (Sum.inl 4, V.ref a4), (Sum.inl 5, V.ref a5), (Sum.inl 6, V.ref a6), (Sum.inl 7, V.ref a7), (Sum.inl 8, V.ref a8), (Sum.inl 9, V.ref a9), (Sum.inl 10, V.ref a10), (Sum.inl 11, V.ref a11), (Sum.inl 12, V.ref a12)] := by
  refine ⟨_, [(Sum.inl 0, Value.ref a0), (Sum.inl 1, Value.ref a1), (Sum.inl 2, Value.ref a2), (Sum.inl 3, Value.ref a3), (Sum.inl 4, Value.ref a4), (Sum.inl 5, Value.ref a5), (Sum.inl 6, Value.ref a6), (Sum.inl 7, Value.ref a7), (Sum.inl 8, Value.ref a8), (Sum.inl 9, Value.ref a9), (Sum.inl 10, Value.ref a10), (Sum.inl 11, Value.ref a11), (Sum.inl 12, Value.ref a12)], l, ⟨_, ep, ⟨rfl, rfl, rfl⟩, rfl, fun e he => ?_, (.cons rfl rfl (.cons rfl rfl (.cons rfl rfl (.cons rfl rfl (.cons rfl rfl (.cons rfl rfl (.cons rfl rfl (.cons rfl rfl (.cons rfl rfl (.cons rfl rfl (.cons rfl rfl (.cons rfl rfl (.cons rfl rfl .nil))))))))))))), ?_⟩, (.cons ⟨rfl, rfl⟩ (.cons ⟨rfl, rfl⟩ (.cons ⟨rfl, rfl⟩ (.cons ⟨rfl, rfl⟩ (.cons ⟨rfl, rfl⟩ (.cons ⟨rfl, rfl⟩ (.cons ⟨rfl, rfl⟩ (.cons ⟨rfl, rfl⟩ (.cons ⟨rfl, rfl⟩ (.cons ⟨rfl, rfl⟩ (.cons ⟨rfl, rfl⟩ (.cons ⟨rfl, rfl⟩ (.cons ⟨rfl, rfl⟩ .nil)))))))))))))⟩
  · simp only [Array.mem_toArray, List.mem_cons, List.not_mem_nil, or_false] at he
    rcases he with rfl | rfl | rfl | rfl | rfl | rfl | rfl | rfl | rfl | rfl | rfl | rfl | rfl
    · exact ⟨Sum.inl 0, rfl, rfl⟩
    · exact ⟨Sum.inl 1, rfl, rfl⟩
    · exact ⟨Sum.inl 2, rfl, rfl⟩
    · exact ⟨Sum.inl 3, rfl, rfl⟩
    · exact ⟨Sum.inl 4, rfl, rfl⟩
    · exact ⟨Sum.inl 5, rfl, rfl⟩
    · exact ⟨Sum.inl 6, rfl, rfl⟩
    · exact ⟨Sum.inl 7, rfl, rfl⟩
    · exact ⟨Sum.inl 8, rfl, rfl⟩
    · exact ⟨Sum.inl 9, rfl, rfl⟩
    · exact ⟨Sum.inl 10, rfl, rfl⟩
    · exact ⟨Sum.inl 11, rfl, rfl⟩
    · exact ⟨Sum.inl 12, rfl, rfl⟩
  · show ([Sum.inl 0, Sum.inl 1, Sum.inl 2, Sum.inl 3, Sum.inl 4, Sum.inl 5, Sum.inl 6, Sum.inl 7, Sum.inl 8, Sum.inl 9, Sum.inl 10, Sum.inl 11, Sum.inl 12] : List Key).Nodup
    decide
theorem all_ok {P : Program} {w : World} {K : PySem.W.Frag} {mg : Str → Option Value} {fa : Addr} {c : Cl} (hfa : mg "answers" = some (.ref fa)) (T : Txt K mg c) {dC a0 a1 a2 a3 a4 a5 a6 a7 a8 a9 a10 a11 a12 f0 f1 f2 f3 f4 f5 f6 f7 f8 f9 f10 f11 f12 : Addr} {t0 t1 t2 t3 t4 t5 t6 t7 t8 t9 t10 t11 t12 : Tok} {ep : Nat} (hG : mg "CALLS" = some (.ref dC))
    (hM : K.lookup dC = some ⟨.type "dict", none, .dict #[⟨0, .int 0 t0, .ref a0⟩, ⟨1, .int 1 t1, .ref a1⟩, ⟨2, .int 2 t2, .ref a2⟩, ⟨3, .int 3 t3, .ref a3⟩, ⟨4, .int 4 t4, .ref a4⟩, ⟨5, .int 5 t5, .ref a5⟩, ⟨6, .int 6 t6, .ref a6⟩, ⟨7, .int 7 t7, .ref a7⟩, ⟨8, .int 8 t8, .ref a8⟩, ⟨9, .int 9 t9, .ref a9⟩, ⟨10, .int 10 t10, .ref a10⟩, ⟨11, .int 11 t11, .ref a11⟩, ⟨12, .int 12 t12, .ref a12⟩] ep, #[]⟩)
    {od0 : Option Addr} {u0 v0 : Tok} {z0 : Nat} {sl0 : Array (Option Value)} (l0 : K.lookup a0 = some ⟨.type "tuple", od0, .seq #[.int ((2 : Nat) : Int) u0, .int ((0 : Nat) : Int) v0, .ref f0] z0, sl0⟩) (m0 : mg "add_setting" = some (.ref f0))
    {od1 : Option Addr} {u1 v1 : Tok} {z1 : Nat} {sl1 : Array (Option Value)} (l1 : K.lookup a1 = some ⟨.type "tuple", od1, .seq #[.int ((1 : Nat) : Int) u1, .int ((1 : Nat) : Int) v1, .ref f1] z1, sl1⟩) (m1 : mg "add_platform" = some (.ref f1))
    {od2 : Option Addr} {u2 v2 : Tok} {z2 : Nat} {sl2 : Array (Option Value)} (l2 : K.lookup a2 = some ⟨.type "tuple", od2, .seq #[.int ((1 : Nat) : Int) u2, .int ((2 : Nat) : Int) v2, .ref f2] z2, sl2⟩) (m2 : mg "add_toolchain" = some (.ref f2))
    {od3 : Option Addr} {u3 v3 : Tok} {z3 : Nat} {sl3 : Array (Option Value)} (l3 : K.lookup a3 = some ⟨.type "tuple", od3, .seq #[.int ((0 : Nat) : Int) u3, .int ((1 : Nat) : Int) v3, .ref f3] z3, sl3⟩) (m3 : mg "set_ranking" = some (.ref f3))
    {od4 : Option Addr} {u4 v4 : Tok} {z4 : Nat} {sl4 : Array (Option Value)} (l4 : K.lookup a4 = some ⟨.type "tuple", od4, .seq #[.int ((0 : Nat) : Int) u4, .int ((1 : Nat) : Int) v4, .ref f4] z4, sl4⟩) (m4 : mg "set_places" = some (.ref f4))
    {od5 : Option Addr} {u5 v5 : Tok} {z5 : Nat} {sl5 : Array (Option Value)} (l5 : K.lookup a5 = some ⟨.type "tuple", od5, .seq #[.int ((2 : Nat) : Int) u5, .int ((0 : Nat) : Int) v5, .ref f5] z5, sl5⟩) (m5 : mg "tell_value" = some (.ref f5))
    {od6 : Option Addr} {u6 v6 : Tok} {z6 : Nat} {sl6 : Array (Option Value)} (l6 : K.lookup a6 = some ⟨.type "tuple", od6, .seq #[.int ((3 : Nat) : Int) u6, .int ((0 : Nat) : Int) v6, .ref f6] z6, sl6⟩) (m6 : mg "tell_fit" = some (.ref f6))
    {od7 : Option Addr} {u7 v7 : Tok} {z7 : Nat} {sl7 : Array (Option Value)} (l7 : K.lookup a7 = some ⟨.type "tuple", od7, .seq #[.int ((3 : Nat) : Int) u7, .int ((0 : Nat) : Int) v7, .ref f7] z7, sl7⟩) (m7 : mg "tell_choice" = some (.ref f7))
    {od8 : Option Addr} {u8 v8 : Tok} {z8 : Nat} {sl8 : Array (Option Value)} (l8 : K.lookup a8 = some ⟨.type "tuple", od8, .seq #[.int ((1 : Nat) : Int) u8, .int ((2 : Nat) : Int) v8, .ref f8] z8, sl8⟩) (m8 : mg "tell_resolve" = some (.ref f8))
    {od9 : Option Addr} {u9 v9 : Tok} {z9 : Nat} {sl9 : Array (Option Value)} (l9 : K.lookup a9 = some ⟨.type "tuple", od9, .seq #[.int ((1 : Nat) : Int) u9, .int ((1 : Nat) : Int) v9, .ref f9] z9, sl9⟩) (m9 : mg "tell_why" = some (.ref f9))
    {od10 : Option Addr} {u10 v10 : Tok} {z10 : Nat} {sl10 : Array (Option Value)} (l10 : K.lookup a10 = some ⟨.type "tuple", od10, .seq #[.int ((0 : Nat) : Int) u10, .int ((1 : Nat) : Int) v10, .ref f10] z10, sl10⟩) (m10 : mg "tell_served" = some (.ref f10))
    {od11 : Option Addr} {u11 v11 : Tok} {z11 : Nat} {sl11 : Array (Option Value)} (l11 : K.lookup a11 = some ⟨.type "tuple", od11, .seq #[.int ((2 : Nat) : Int) u11, .int ((0 : Nat) : Int) v11, .ref f11] z11, sl11⟩) (m11 : mg "tell_alike" = some (.ref f11))
    {od12 : Option Addr} {u12 v12 : Tok} {z12 : Nat} {sl12 : Array (Option Value)} (l12 : K.lookup a12 = some ⟨.type "tuple", od12, .seq #[.int ((0 : Nat) : Int) u12, .int ((1 : Nat) : Int) v12, .ref f12] z12, sl12⟩) (m12 : mg "tell_idle" = some (.ref f12))
    : ∃ fd : FuncData, (∀ (s : Shared) (us : List Value), us.length = (["calls"] : List Str).length → BindsTo s fd ⟨us, []⟩ ((["calls"] : List Str).zip us)) ∧ ∀ base : Heap, K.In base → base.Ns mainGlobals mg → FnOk P w K mg base CX0 9 fa fd ["calls"] (spAns K) := by
  obtain ⟨f, fd, F, hm⟩ := T.f_answers
  have e := hfa.symm.trans hm
  cases e
  refine ⟨fd, ?_, fun base _ _ => ok_answers T ⟨dC, _, hG, callsD hM, fun p n k hs => ?_⟩ F⟩
  · obtain ⟨oc, od, kV, doc, pm, an, cdv, ct, osl, rfl, lk, hcd⟩ := F.ex
    exact fun s us hu => match us, hu with | [_], _ => .of_eq rfl
  unfold PyVabldf.shape at hs
  by_cases h0 : p = 0
  · subst h0
    have hs' : some (2, 0) = some (n, k) := hs
    injection hs' with hs'
    injection hs' with h1 h2
    subst h1 h2
    exact ⟨a0, f0, rfl, tup_of l0, act_of (ok_add_setting T) m0⟩
  rw [if_neg h0] at hs
  by_cases h1 : p = 1
  · subst h1
    have hs' : some (1, 1) = some (n, k) := hs
    injection hs' with hs'
    injection hs' with h1 h2
    subst h1 h2
    exact ⟨a1, f1, rfl, tup_of l1, act_of (ok_add_platform T) m1⟩
  rw [if_neg h1] at hs
  by_cases h2 : p = 2
  · subst h2
    have hs' : some (1, 2) = some (n, k) := hs
    injection hs' with hs'
    injection hs' with h1 h2
    subst h1 h2
    exact ⟨a2, f2, rfl, tup_of l2, act_of (ok_add_toolchain T) m2⟩
  rw [if_neg h2] at hs
  by_cases h3 : p = 3
  · subst h3
    have hs' : some (0, 1) = some (n, k) := hs
    injection hs' with hs'
    injection hs' with h1 h2
    subst h1 h2
    exact ⟨a3, f3, rfl, tup_of l3, act_of (ok_set_ranking T) m3⟩
  rw [if_neg h3] at hs
  by_cases h4 : p = 4
  · subst h4
    have hs' : some (0, 1) = some (n, k) := hs
    injection hs' with hs'
    injection hs' with h1 h2
    subst h1 h2
    exact ⟨a4, f4, rfl, tup_of l4, act_of (ok_set_places T) m4⟩
  rw [if_neg h4] at hs
  by_cases h5 : p = 5
  · subst h5
    have hs' : some (2, 0) = some (n, k) := hs
    injection hs' with hs'
    injection hs' with h1 h2
    subst h1 h2
    exact ⟨a5, f5, rfl, tup_of l5, act_of (ok_tell_value T) m5⟩
  rw [if_neg h5] at hs
  by_cases h6 : p = 6
  · subst h6
    have hs' : some (3, 0) = some (n, k) := hs
    injection hs' with hs'
    injection hs' with h1 h2
    subst h1 h2
    exact ⟨a6, f6, rfl, tup_of l6, act_of (ok_tell_fit T) m6⟩
  rw [if_neg h6] at hs
  by_cases h7 : p = 7
  · subst h7
    have hs' : some (3, 0) = some (n, k) := hs
    injection hs' with hs'
    injection hs' with h1 h2
    subst h1 h2
    exact ⟨a7, f7, rfl, tup_of l7, act_of (ok_tell_choice T) m7⟩
  rw [if_neg h7] at hs
  by_cases h8 : p = 8
  · subst h8
    have hs' : some (1, 2) = some (n, k) := hs
    injection hs' with hs'
    injection hs' with h1 h2
    subst h1 h2
    exact ⟨a8, f8, rfl, tup_of l8, act_of (ok_tell_resolve T) m8⟩
  rw [if_neg h8] at hs
  by_cases h9 : p = 9
  · subst h9
    have hs' : some (1, 1) = some (n, k) := hs
    injection hs' with hs'
    injection hs' with h1 h2
    subst h1 h2
    exact ⟨a9, f9, rfl, tup_of l9, act_of (ok_tell_why T) m9⟩
  rw [if_neg h9] at hs
  by_cases h10 : p = 10
  · subst h10
    have hs' : some (0, 1) = some (n, k) := hs
    injection hs' with hs'
    injection hs' with h1 h2
    subst h1 h2
    exact ⟨a10, f10, rfl, tup_of l10, act_of (ok_tell_served T) m10⟩
  rw [if_neg h10] at hs
  by_cases h11 : p = 11
  · subst h11
    have hs' : some (2, 0) = some (n, k) := hs
    injection hs' with hs'
    injection hs' with h1 h2
    subst h1 h2
    exact ⟨a11, f11, rfl, tup_of l11, act_of (ok_tell_alike T) m11⟩
  rw [if_neg h11] at hs
  by_cases h12 : p = 12
  · subst h12
    have hs' : some (0, 1) = some (n, k) := hs
    injection hs' with hs'
    injection hs' with h1 h2
    subst h1 h2
    exact ⟨a12, f12, rfl, tup_of l12, act_of (ok_tell_idle T) m12⟩
  rw [if_neg h12] at hs
  cases hs
end TC
end
def PySem.W.Fast.tw3462959991886528544 : Nat := 0
def PySem.W.Fast.tw6911321266680271296 : Nat := 0
def PySem.W.Fast.tw13318303393276445761 : Nat := 0
def PySem.W.Fast.tw14634893381473023553 : Nat := 0
def PySem.W.Fast.tw433689973580131969 : Nat := 0
def PySem.W.Fast.tw10633745081311934850 : Nat := 0
def PySem.W.Fast.tw9736908837536467938 : Nat := 0
def PySem.W.Fast.tw13604549002938338371 : Nat := 0
def PySem.W.Fast.tw18325047297060604227 : Nat := 0
def PySem.W.Fast.tw13291255161897744803 : Nat := 0
def PySem.W.Fast.tw4968965215699481155 : Nat := 0
def PySem.W.Fast.tw14798306578059336804 : Nat := 0
def PySem.W.Fast.tw16113084430256837444 : Nat := 0
def PySem.W.Fast.tw4706434960055924133 : Nat := 0
def PySem.W.Fast.tw13011226401085548293 : Nat := 0
def PySem.W.Fast.tw17334290218466291653 : Nat := 0
def PySem.W.Fast.tw4341665155216923302 : Nat := 0
def PySem.W.Fast.tw11332782746629761830 : Nat := 0
def PySem.W.Fast.tw5162007487995134822 : Nat := 0
def PySem.W.Fast.tw3248469292886636454 : Nat := 0
def PySem.W.Fast.tw1352261187900653510 : Nat := 0
def PySem.W.Fast.tw13904938460797228006 : Nat := 0
def PySem.W.Fast.tw5712305770321069030 : Nat := 0
def PySem.W.Fast.tw9898972975923743815 : Nat := 0
def PySem.W.Fast.tw14816490994874344135 : Nat := 0
def PySem.W.Fast.tw10371968702549065415 : Nat := 0
def PySem.W.Fast.tw12950030147042200423 : Nat := 0
def PySem.W.Fast.tw12796029165233664903 : Nat := 0
def PySem.W.Fast.tw3347222717349053319 : Nat := 0
def PySem.W.Fast.tw4711981120989570696 : Nat := 0
def PySem.W.Fast.tw18428737801446981288 : Nat := 0
def PySem.W.Fast.tw6827330809819303145 : Nat := 0
def PySem.W.Fast.tw11850041847605379625 : Nat := 0
def PySem.W.Fast.tw18246987001945217258 : Nat := 0
def PySem.W.Fast.tw8793407467793467786 : Nat := 0
def PySem.W.Fast.tw3495239780483867883 : Nat := 0
def PySem.W.Fast.tw17991969310171268555 : Nat := 0
def PySem.W.Fast.tw8986897550553653995 : Nat := 0
def PySem.W.Fast.tw6291906590013311755 : Nat := 0
def PySem.W.Fast.tw14654684110232056076 : Nat := 0
def PySem.W.Fast.tw1270331672810412460 : Nat := 0
def PySem.W.Fast.tw17337821750601866732 : Nat := 0
def PySem.W.Fast.tw11666900876487598413 : Nat := 0
def PySem.W.Fast.tw8435594085700510189 : Nat := 0
def PySem.W.Fast.tw7221606307296964141 : Nat := 0
def PySem.W.Fast.tw4612604983772153613 : Nat := 0
def PySem.W.Fast.tw12519152181627980078 : Nat := 0
def PySem.W.Fast.tw11066662240825333038 : Nat := 0
def PySem.W.Fast.tw10159783737472379214 : Nat := 0
def PySem.W.Fast.tw10352160832174343566 : Nat := 0
def PySem.W.Fast.tw15129344548896376462 : Nat := 0
def PySem.W.Fast.tw15516214335821047470 : Nat := 0
def PySem.W.Fast.tw2441526902355736591 : Nat := 0
def PySem.W.Fast.tw2498256661010291087 : Nat := 0
def PySem.W.Fast.tw5035736754018444751 : Nat := 0
def PySem.W.Fast.tw18023522125208431599 : Nat := 0
def PySem.W.Fast.tw16624813466606403536 : Nat := 0
def PySem.W.Fast.tw2803221001796569137 : Nat := 0
def PySem.W.Fast.tw15144965904739579185 : Nat := 0
def PySem.W.Fast.tw6215887693250467761 : Nat := 0
def PySem.W.Fast.tw13065736482506175826 : Nat := 0
def PySem.W.Fast.tw2034966271930541618 : Nat := 0
def PySem.W.Fast.tw13235542303423825682 : Nat := 0
def PySem.W.Fast.tw14565327562359774066 : Nat := 0
def PySem.W.Fast.tw17130944768271634322 : Nat := 0
def PySem.W.Fast.tw16965885990100584595 : Nat := 0
def PySem.W.Fast.tw647332681540126067 : Nat := 0
def PySem.W.Fast.tw18248820123799457171 : Nat := 0
def PySem.W.Fast.tw8493121131356831155 : Nat := 0
def PySem.W.Fast.tw18328822813441833012 : Nat := 0
def PySem.W.Fast.tw15881892625785796884 : Nat := 0
def PySem.W.Fast.tw12758732242590583252 : Nat := 0
def PySem.W.Fast.tw15870501018990719508 : Nat := 0
def PySem.W.Fast.tw3866709394827355060 : Nat := 0
def PySem.W.Fast.tw6089825537473530934 : Nat := 0
def PySem.W.Fast.tw13277161980393204150 : Nat := 0
def PySem.W.Fast.tw15928090751259400950 : Nat := 0
def PySem.W.Fast.tw18179784933813021494 : Nat := 0
def PySem.W.Fast.tw1573526793256811350 : Nat := 0
def PySem.W.Fast.tw4701046350486536086 : Nat := 0
def PySem.W.Fast.tw18203968749047630167 : Nat := 0
def PySem.W.Fast.tw9949008497155196375 : Nat := 0
def PySem.W.Fast.tw13038946531509529143 : Nat := 0
def PySem.W.Fast.tw12267531075577959287 : Nat := 0
def PySem.W.Fast.tw8538980964074467384 : Nat := 0
def PySem.W.Fast.tw13623453119230106680 : Nat := 0
def PySem.W.Fast.tw7163556427284651128 : Nat := 0
def PySem.W.Fast.tw9478460240318914424 : Nat := 0
def PySem.W.Fast.tw15573577448786548761 : Nat := 0
def PySem.W.Fast.tw11483540169426091321 : Nat := 0
def PySem.W.Fast.tw7968884221184106841 : Nat := 0
def PySem.W.Fast.tw17991514120128605657 : Nat := 0
def PySem.W.Fast.tw3921929754198788633 : Nat := 0
def PySem.W.Fast.tw2913311691876387673 : Nat := 0
def PySem.W.Fast.tw15697299244647432057 : Nat := 0
def PySem.W.Fast.tw5796682807031835577 : Nat := 0
def PySem.W.Fast.tw10648489504835643353 : Nat := 0
def PySem.W.Fast.tw6039011545218856921 : Nat := 0
def PySem.W.Fast.tw144911355322619226 : Nat := 0
def PySem.W.Fast.tw6246403880473696122 : Nat := 0
def PySem.W.Fast.tw6088387010395715451 : Nat := 0
def PySem.W.Fast.tw18203616444732776604 : Nat := 0
def PySem.W.Fast.tw3019154256898876604 : Nat := 0
def PySem.W.Fast.tw3922969275082103997 : Nat := 0
def PySem.W.Fast.tw3598985954975158782 : Nat := 0
def PySem.W.Fast.tw16181947569611009598 : Nat := 0
def PySem.W.Fast.tw17785387640461688510 : Nat := 0
def PySem.W.Fast.tw6690499144227042302 : Nat := 0
def PySem.W.Fast.tw16066195741739729343 : Nat := 0
def PySem.W.Fast.tw5085497339466572703 : Nat := 0
def PySem.W.Fast.tw11219062289063713695 : Nat := 0
def PySem.W.Fast.tw9250016545208072920 : Nat := 0
open PySem PySem.W PyProof.Rows
set_option maxRecDepth 100000 in
set_option maxHeartbeats 0 in
theorem PySem.Challenge.cw_toolchoice_s01_answers_holds : PySem.Challenge.rw_toolchoice_s01_answers.Holds := by
  w_on; k_headS; (case hw => exact ⟨[.list [.int 5, .int 0, .int 0]], by decide +kernel, by decide +kernel⟩)
  k_fillS
  refine L2.walk_specK (r := PySem.Challenge.rw_toolchoice_s01_answers) (k := 9) (CX := L2.CX0) (ps := ["calls"]) (sp := TC.spAns) (by decide +kernel) rfl rfl ⟨rfl, by decide, by decide⟩ (fun w h Y => PySem.W.kIn_of Y) ?F ?S (fun _ _ _ _ z => z)
  case F =>
    intro w mg fa h Y KX G hmg
    refine' TC.all_ok hmg (TC.mkTxt (PySem.W.mg_none_of KX G ?b_len)
      (PySem.W.mg_none_of KX G ?b_zip)
      (PySem.W.mg_none_of KX G ?b_list)
      (PySem.W.mg_none_of KX G ?b_set)
      (PySem.W.mg_none_of KX G ?b_dict)
      (PySem.W.mg_none_of KX G ?b_sum)
      (PySem.W.mg_none_of KX G ?b_range)
      (TC.mkG KX G ?g_NO_VALUE)
      (TC.mkG KX G ?g_NO_KIND)
      (TC.mkG KX G ?g_NO_TOOLCHAIN)
      (TC.mkG KX G ?g_ACCEPTED)
      (TC.mkG KX G ?g_LIMIT)
      (TC.mkG KX G ?g_SETTING)
      (TC.mkG KX G ?g_VALUE)
      (TC.mkG KX G ?g_PLATFORM)
      (TC.mkG KX G ?g_CHAIN)
      (TC.mkG KX G ?g_KIND)
      (TC.mkG KX G ?g_TWICE)
      (TC.mkG KX G ?g_NONE)
      (TC.mkG KX G ?g_FULL)
      (TC.mkG KX G ?g_MOST_VALUES)
      (TC.mkG KX G ?g_MOST_KINDS)
      (TC.mkG KX G ?g_LONGEST_ROW)
      (TC.mkG KX G ?g_MOST_SETTINGS)
      (TC.mkG KX G ?g_MOST_PLATFORMS)
      (TC.mkG KX G ?g_MOST_TOOLCHAINS)
      (TC.mkF KX G ?fa_pairs_of ?fl_pairs_of ?fc_pairs_of ?fk_pairs_of)
      (TC.mkF KX G ?fa_need_of ?fl_need_of ?fc_need_of ?fk_need_of)
      (TC.mkF KX G ?fa_value_of ?fl_value_of ?fc_value_of ?fk_value_of)
      (TC.mkF KX G ?fa_same_values ?fl_same_values ?fc_same_values ?fk_same_values)
      (TC.mkF KX G ?fa_unmet_setting ?fl_unmet_setting ?fc_unmet_setting ?fk_unmet_setting)
      (TC.mkF KX G ?fa_meets ?fl_meets ?fc_meets ?fk_meets)
      (TC.mkF KX G ?fa_fitting_ends ?fl_fitting_ends ?fc_fitting_ends ?fk_fitting_ends)
      (TC.mkF KX G ?fa_chosen_toolchains ?fl_chosen_toolchains ?fc_chosen_toolchains ?fk_chosen_toolchains)
      (TC.mkF KX G ?fa_chosen_for ?fl_chosen_for ?fc_chosen_for ?fk_chosen_for)
      (TC.mkF KX G ?fa_lacking_kind ?fl_lacking_kind ?fc_lacking_kind ?fk_lacking_kind)
      (TC.mkF KX G ?fa_served_place ?fl_served_place ?fc_served_place ?fk_served_place)
      (TC.mkF KX G ?fa_chosen_anywhere ?fl_chosen_anywhere ?fc_chosen_anywhere ?fk_chosen_anywhere)
      (TC.mkF KX G ?fa_served_targets ?fl_served_targets ?fc_served_targets ?fk_served_targets)
      (TC.mkF KX G ?fa_idle_toolchains ?fl_idle_toolchains ?fc_idle_toolchains ?fk_idle_toolchains)
      (TC.mkF KX G ?fa_look_below ?fl_look_below ?fc_look_below ?fk_look_below)
      (TC.mkF KX G ?fa_look_setting ?fl_look_setting ?fc_look_setting ?fk_look_setting)
      (TC.mkF KX G ?fa_look_platform ?fl_look_platform ?fc_look_platform ?fk_look_platform)
      (TC.mkF KX G ?fa_look_toolchain ?fl_look_toolchain ?fc_look_toolchain ?fk_look_toolchain)
      (TC.mkF KX G ?fa_look_kind ?fl_look_kind ?fc_look_kind ?fk_look_kind)
      (TC.mkF KX G ?fa_look_once ?fl_look_once ?fc_look_once ?fk_look_once)
      (TC.mkF KX G ?fa_look_row ?fl_look_row ?fc_look_row ?fk_look_row)
      (TC.mkF KX G ?fa_look_platforms ?fl_look_platforms ?fc_look_platforms ?fk_look_platforms)
      (TC.mkF KX G ?fa_look_toolchains ?fl_look_toolchains ?fc_look_toolchains ?fk_look_toolchains)
      (TC.mkF KX G ?fa_look_kinds ?fl_look_kinds ?fc_look_kinds ?fk_look_kinds)
      (TC.mkF KX G ?fa_look_pairs ?fl_look_pairs ?fc_look_pairs ?fk_look_pairs)
      (TC.mkF KX G ?fa_look_own ?fl_look_own ?fc_look_own ?fk_look_own)
      (TC.mkF KX G ?fa_look_parent ?fl_look_parent ?fc_look_parent ?fk_look_parent)
      (TC.mkF KX G ?fa_look_values ?fl_look_values ?fc_look_values ?fk_look_values)
      (TC.mkF KX G ?fa_look_room ?fl_look_room ?fc_look_room ?fk_look_room)
      (TC.mkF KX G ?fa_add_setting ?fl_add_setting ?fc_add_setting ?fk_add_setting)
      (TC.mkF KX G ?fa_add_platform ?fl_add_platform ?fc_add_platform ?fk_add_platform)
      (TC.mkF KX G ?fa_add_toolchain ?fl_add_toolchain ?fc_add_toolchain ?fk_add_toolchain)
      (TC.mkF KX G ?fa_set_ranking ?fl_set_ranking ?fc_set_ranking ?fk_set_ranking)
      (TC.mkF KX G ?fa_set_places ?fl_set_places ?fc_set_places ?fk_set_places)
      (TC.mkF KX G ?fa_tell_value ?fl_tell_value ?fc_tell_value ?fk_tell_value)
      (TC.mkF KX G ?fa_tell_fit ?fl_tell_fit ?fc_tell_fit ?fk_tell_fit)
      (TC.mkF KX G ?fa_tell_choice ?fl_tell_choice ?fc_tell_choice ?fk_tell_choice)
      (TC.mkF KX G ?fa_tell_resolve ?fl_tell_resolve ?fc_tell_resolve ?fk_tell_resolve)
      (TC.mkF KX G ?fa_tell_why ?fl_tell_why ?fc_tell_why ?fk_tell_why)
      (TC.mkF KX G ?fa_tell_served ?fl_tell_served ?fc_tell_served ?fk_tell_served)
      (TC.mkF KX G ?fa_tell_alike ?fl_tell_alike ?fc_tell_alike ?fk_tell_alike)
      (TC.mkF KX G ?fa_tell_idle ?fl_tell_idle ?fc_tell_idle ?fk_tell_idle)
      (TC.mkF KX G ?fa_rows_from ?fl_rows_from ?fc_rows_from ?fk_rows_from)
      (TC.mkF KX G ?fa_answers ?fl_answers ?fc_answers ?fk_answers)
      ?pg_Setting ?hd_Setting ?po_Setting ?sa_Setting
      (PySem.W.mg_of KX G ?mc_Setting)
      (TC.mkI ?mk_Setting ?ia_Setting ?ii_Setting ?kc_Setting ?il_Setting ?ic_Setting ?ik_Setting)
      ?na_Setting_count
      ?na_Setting_default
      ?pg_Toolchain ?hd_Toolchain ?po_Toolchain ?sa_Toolchain
      (PySem.W.mg_of KX G ?mc_Toolchain)
      (TC.mkI ?mk_Toolchain ?ia_Toolchain ?ii_Toolchain ?kc_Toolchain ?il_Toolchain ?ic_Toolchain ?ik_Toolchain)
      ?na_Toolchain_kind
      ?na_Toolchain_first
      ?na_Toolchain_second
      ?pg_Stock ?hd_Stock ?po_Stock ?sa_Stock
      (PySem.W.mg_of KX G ?mc_Stock)
      (TC.mkI ?mk_Stock ?ia_Stock ?ii_Stock ?kc_Stock ?il_Stock ?ic_Stock ?ik_Stock)
      ?na_Stock_settings
      ?na_Stock_platforms
      ?na_Stock_toolchains
      ?na_Stock_ranking
      ?na_Stock_places)
      (PySem.W.mg_of KX G ?cG) ?cM ?l0 (PySem.W.mg_of KX G ?m0) ?l1 (PySem.W.mg_of KX G ?m1) ?l2 (PySem.W.mg_of KX G ?m2) ?l3 (PySem.W.mg_of KX G ?m3) ?l4 (PySem.W.mg_of KX G ?m4) ?l5 (PySem.W.mg_of KX G ?m5) ?l6 (PySem.W.mg_of KX G ?m6) ?l7 (PySem.W.mg_of KX G ?m7) ?l8 (PySem.W.mg_of KX G ?m8) ?l9 (PySem.W.mg_of KX G ?m9) ?l10 (PySem.W.mg_of KX G ?m10) ?l11 (PySem.W.mg_of KX G ?m11) ?l12 (PySem.W.mg_of KX G ?m12)
    (case mc_Setting => k_is); (case mc_Toolchain => k_is); (case mc_Stock => k_is); (case ia_Setting => k_is); (case ia_Toolchain => k_is); (case ia_Stock => k_is)
    (case fa_pairs_of => k_is); (case fa_need_of => k_is); (case fa_value_of => k_is); (case fa_same_values => k_is); (case fa_unmet_setting => k_is); (case fa_meets => k_is)
    (case fa_fitting_ends => k_is); (case fa_chosen_toolchains => k_is); (case fa_chosen_for => k_is); (case fa_lacking_kind => k_is); (case fa_served_place => k_is); (case fa_chosen_anywhere => k_is)
    (case fa_served_targets => k_is); (case fa_idle_toolchains => k_is); (case fa_look_below => k_is); (case fa_look_setting => k_is); (case fa_look_platform => k_is); (case fa_look_toolchain => k_is)
    (case fa_look_kind => k_is); (case fa_look_once => k_is); (case fa_look_row => k_is); (case fa_look_platforms => k_is); (case fa_look_toolchains => k_is); (case fa_look_kinds => k_is)
    (case fa_look_pairs => k_is); (case fa_look_own => k_is); (case fa_look_parent => k_is); (case fa_look_values => k_is); (case fa_look_room => k_is); (case fa_add_setting => k_is)
    (case fa_add_platform => k_is); (case fa_add_toolchain => k_is); (case fa_set_ranking => k_is); (case fa_set_places => k_is); (case fa_tell_value => k_is); (case fa_tell_fit => k_is)
    (case fa_tell_choice => k_is); (case fa_tell_resolve => k_is); (case fa_tell_why => k_is); (case fa_tell_served => k_is); (case fa_tell_alike => k_is); (case fa_tell_idle => k_is)
    (case fa_rows_from => k_is); (case fa_answers => k_is); (case cG => k_is); (case cM => k_is); (case m0 => k_is); (case l0 => k_is)
    (case m1 => k_is); (case l1 => k_is); (case m2 => k_is); (case l2 => k_is); (case m3 => k_is); (case l3 => k_is)
    (case m4 => k_is); (case l4 => k_is); (case m5 => k_is); (case l5 => k_is); (case m6 => k_is); (case l6 => k_is)
    (case m7 => k_is); (case l7 => k_is); (case m8 => k_is); (case l8 => k_is); (case m9 => k_is); (case l9 => k_is)
    (case m10 => k_is); (case l10 => k_is); (case m11 => k_is); (case l11 => k_is); (case m12 => k_is); (case l12 => k_is)
    (case b_len => k_is); (case b_zip => k_is); (case b_list => k_is); (case b_set => k_is); (case b_dict => k_is); (case b_sum => k_is)
    (case b_range => k_is); (case g_NO_VALUE => k_is); (case g_NO_KIND => k_is); (case g_NO_TOOLCHAIN => k_is); (case g_ACCEPTED => k_is); (case g_LIMIT => k_is)
    (case g_SETTING => k_is); (case g_VALUE => k_is); (case g_PLATFORM => k_is); (case g_CHAIN => k_is); (case g_KIND => k_is); (case g_TWICE => k_is)
    (case g_NONE => k_is); (case g_FULL => k_is); (case g_MOST_VALUES => k_is); (case g_MOST_KINDS => k_is); (case g_LONGEST_ROW => k_is); (case g_MOST_SETTINGS => k_is)
    (case g_MOST_PLATFORMS => k_is); (case g_MOST_TOOLCHAINS => k_is); (case fl_pairs_of => k_is); (case fc_pairs_of => k_is); (case fk_pairs_of => k_is); (case fl_need_of => k_is)
    (case fc_need_of => k_is); (case fk_need_of => k_is); (case fl_value_of => k_is); (case fc_value_of => k_is); (case fk_value_of => k_is); (case fl_same_values => k_is)
    (case fc_same_values => k_is); (case fk_same_values => k_is); (case fl_unmet_setting => k_is); (case fc_unmet_setting => k_is); (case fk_unmet_setting => k_is); (case fl_meets => k_is)
    (case fc_meets => k_is); (case fk_meets => k_is); (case fl_fitting_ends => k_is); (case fc_fitting_ends => k_is); (case fk_fitting_ends => k_is); (case fl_chosen_toolchains => k_is)
    (case fc_chosen_toolchains => k_is); (case fk_chosen_toolchains => k_is); (case fl_chosen_for => k_is); (case fc_chosen_for => k_is); (case fk_chosen_for => k_is); (case fl_lacking_kind => k_is)
    (case fc_lacking_kind => k_is); (case fk_lacking_kind => k_is); (case fl_served_place => k_is); (case fc_served_place => k_is); (case fk_served_place => k_is); (case fl_chosen_anywhere => k_is)
    (case fc_chosen_anywhere => k_is); (case fk_chosen_anywhere => k_is); (case fl_served_targets => k_is); (case fc_served_targets => k_is); (case fk_served_targets => k_is); (case fl_idle_toolchains => k_is)
    (case fc_idle_toolchains => k_is); (case fk_idle_toolchains => k_is); (case fl_look_below => k_is); (case fc_look_below => k_is); (case fk_look_below => k_is); (case fl_look_setting => k_is)
    (case fc_look_setting => k_is); (case fk_look_setting => k_is); (case fl_look_platform => k_is); (case fc_look_platform => k_is); (case fk_look_platform => k_is); (case fl_look_toolchain => k_is)
    (case fc_look_toolchain => k_is); (case fk_look_toolchain => k_is); (case fl_look_kind => k_is); (case fc_look_kind => k_is); (case fk_look_kind => k_is); (case fl_look_once => k_is)
    (case fc_look_once => k_is); (case fk_look_once => k_is); (case fl_look_row => k_is); (case fc_look_row => k_is); (case fk_look_row => k_is); (case fl_look_platforms => k_is)
    (case fc_look_platforms => k_is); (case fk_look_platforms => k_is); (case fl_look_toolchains => k_is); (case fc_look_toolchains => k_is); (case fk_look_toolchains => k_is); (case fl_look_kinds => k_is)
    (case fc_look_kinds => k_is); (case fk_look_kinds => k_is); (case fl_look_pairs => k_is); (case fc_look_pairs => k_is); (case fk_look_pairs => k_is); (case fl_look_own => k_is)
    (case fc_look_own => k_is); (case fk_look_own => k_is); (case fl_look_parent => k_is); (case fc_look_parent => k_is); (case fk_look_parent => k_is); (case fl_look_values => k_is)
    (case fc_look_values => k_is); (case fk_look_values => k_is); (case fl_look_room => k_is); (case fc_look_room => k_is); (case fk_look_room => k_is); (case fl_add_setting => k_is)
    (case fc_add_setting => k_is); (case fk_add_setting => k_is); (case fl_add_platform => k_is); (case fc_add_platform => k_is); (case fk_add_platform => k_is); (case fl_add_toolchain => k_is)
    (case fc_add_toolchain => k_is); (case fk_add_toolchain => k_is); (case fl_set_ranking => k_is); (case fc_set_ranking => k_is); (case fk_set_ranking => k_is); (case fl_set_places => k_is)
    (case fc_set_places => k_is); (case fk_set_places => k_is); (case fl_tell_value => k_is); (case fc_tell_value => k_is); (case fk_tell_value => k_is); (case fl_tell_fit => k_is)
    (case fc_tell_fit => k_is); (case fk_tell_fit => k_is); (case fl_tell_choice => k_is); (case fc_tell_choice => k_is); (case fk_tell_choice => k_is); (case fl_tell_resolve => k_is)
    (case fc_tell_resolve => k_is); (case fk_tell_resolve => k_is); (case fl_tell_why => k_is); (case fc_tell_why => k_is); (case fk_tell_why => k_is); (case fl_tell_served => k_is)
    (case fc_tell_served => k_is); (case fk_tell_served => k_is); (case fl_tell_alike => k_is); (case fc_tell_alike => k_is); (case fk_tell_alike => k_is); (case fl_tell_idle => k_is)
    (case fc_tell_idle => k_is); (case fk_tell_idle => k_is); (case fl_rows_from => k_is); (case fc_rows_from => k_is); (case fk_rows_from => k_is); (case fl_answers => k_is)
    (case fc_answers => k_is); (case fk_answers => k_is); (case pg_Setting => k_is); (case hd_Setting => k_is); (case po_Setting => k_is); (case sa_Setting => k_is)
    (case mk_Setting => k_is); (case ii_Setting => k_is); (case kc_Setting => k_is); (case il_Setting => k_is); (case ic_Setting => k_is); (case ik_Setting => k_is)
    (case na_Setting_count => k_is); (case na_Setting_default => k_is); (case pg_Toolchain => k_is); (case hd_Toolchain => k_is); (case po_Toolchain => k_is); (case sa_Toolchain => k_is)
    (case mk_Toolchain => k_is); (case ii_Toolchain => k_is); (case kc_Toolchain => k_is); (case il_Toolchain => k_is); (case ic_Toolchain => k_is); (case ik_Toolchain => k_is)
    (case na_Toolchain_kind => k_is); (case na_Toolchain_first => k_is); (case na_Toolchain_second => k_is); (case pg_Stock => k_is); (case hd_Stock => k_is); (case po_Stock => k_is)
    (case sa_Stock => k_is); (case mk_Stock => k_is); (case ii_Stock => k_is); (case kc_Stock => k_is); (case il_Stock => k_is); (case ic_Stock => k_is)
    (case ik_Stock => k_is); (case na_Stock_settings => k_is); (case na_Stock_platforms => k_is); (case na_Stock_toolchains => k_is); (case na_Stock_ranking => k_is); (case na_Stock_places => k_is)
  case S =>
    intro K H xs a hO hwi hask hx
    cases hx with
    | cons h1 h2 =>
      cases h2
      cases h1 with
      | lst hs ha =>
        have e := L2.ints_dw a.1 _ ha
        subst e
        obtain ⟨cs, q1, q2, q3, q4, q5⟩ := TC.request (l := a.1) hask
        refine ⟨_, cs, rfl, by rw [← q1]; exact hs, q2, q3, q4, fun H' p hp => ?_⟩
        rw [← q5] at hp
        exact .lst (L2.SqL.of hp) (L2.dw_ints _)
#print axioms PySem.Challenge.cw_toolchoice_s01_answers_holds
