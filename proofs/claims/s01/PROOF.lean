import PyProof.Rows.All
import Wide.All
import OpenK.AllK
import Wide.FinOn
import PyProof.EqAt
import PyProof.EqKinds
import PyProof.TupleCall
import Open.SpecLaws
import KE.OsGo
import HandS.ForSpec
import HandS.Comp
import HandS.Dict
import HandS.Iter
import HandS.Conv
import HandS.Codes
import HandS.TupAny
import HandS.TupLen
import HandS.Rev
import HandS.Deep
import HandS.CallLocal
import HandS.WordsDict
import HandS.Walk
import PyProof.EnumMake
import HandS.DictEq
import HandS.Style
import HandS.Strs
import KE.KDictCopyH
import KE.KDictSum
import HandS.Sort
import HandS.SortOrd
import HandS.SortRule
import KE.KSortTup
import HandS.NamedTupSort
import HandS.TupSets
import HandS.SetFor
import PySem.Challenge.RW_changestacks_s01_answers
set_option Elab.async false
set_option linter.all false
set_option maxRecDepth 100000
set_option maxHeartbeats 4000000
-- CsTexts
/-! Texts: rows of kept counts, the script, its hunks, step by step. -/
namespace Cs
open Vamrqa (Lines)
open Vamrqb (rowOver rows kept walk script Op closed hunksFrom hunks Hunk)

theorem rowOver_len (a : Nat) : ∀ (m : Lines) (old : List Nat), (rowOver a m old).length = m.length + 1
  | [], _ => rfl
  | b :: m, old => by
    show (rowOver a m (old.drop 1)).length + 1 = _
    rw [rowOver_len a m]; rfl
theorem rows_len : ∀ (l m : Lines), (rows l m).length = l.length + 1
  | [], _ => rfl
  | a :: l, m => by
    show (rows l m).length + 1 = _
    rw [rows_len l m]; rfl
theorem rows_each : ∀ (l m : Lines), ∀ r ∈ rows l m, r.length = m.length + 1
  | [], m, r, h => by
    have e : r = List.replicate (m.length + 1) 0 := List.mem_singleton.mp h
    rw [e, List.length_replicate]
  | a :: l, m, r, h => by
    rcases List.mem_cons.mp (show r ∈ rowOver a m ((rows l m).headD []) :: rows l m from h) with e | h
    · rw [e, rowOver_len]
    · exact rows_each l m r h
theorem rows_ne (l m : Lines) : rows l m ≠ [] := by
  intro e
  have := rows_len l m
  rw [e] at this
  cases this
theorem rows_cons (a : Nat) (l m : Lines) : rows (a :: l) m = rowOver a m ((rows l m).headD []) :: rows l m := rfl
theorem headD_map_drop (rs : List (List Nat)) : (rs.map fun r => r.drop 1).headD [] = (rs.headD []).drop 1 := by
  cases rs <;> rfl
theorem rows_mapDrop : ∀ (l : Lines) (b : Nat) (m : Lines), (rows l (b :: m)).map (fun r => r.drop 1) = rows l m
  | [], b, m => by
    show [List.drop 1 (List.replicate (m.length + 1 + 1) 0)] = [List.replicate (m.length + 1) 0]
    rfl
  | a :: l, b, m => by
    rw [rows_cons, rows_cons, List.map_cons, rows_mapDrop l b m]
    have e : (rowOver a (b :: m) ((rows l (b :: m)).headD [])).drop 1 = rowOver a m (((rows l (b :: m)).headD []).drop 1) := rfl
    rw [e, ← headD_map_drop, rows_mapDrop l b m]
theorem rows_drop : ∀ (i : Nat) (l m : Lines), i ≤ l.length → (rows l m).drop i = rows (l.drop i) m
  | 0, _, _, _ => rfl
  | i + 1, [], _, h => by simp at h
  | i + 1, a :: l, m, h => by
    rw [rows_cons, List.drop_succ_cons, List.drop_succ_cons]
    exact rows_drop i l m (by simpa using h)
theorem head_dropM : ∀ (j : Nat) (l m : Lines), j ≤ m.length → ((rows l m).headD []).drop j = (rows l (m.drop j)).headD []
  | 0, _, _, _ => rfl
  | j + 1, l, [], h => by simp at h
  | j + 1, l, b :: m, h => by
    rw [List.drop_succ_cons, ← head_dropM j l m (by simpa using h), ← rows_mapDrop l b m, headD_map_drop, List.drop_drop, Nat.add_comm]
theorem getD_drop {α : Type} (l : List α) (i j : Nat) (d : α) : (l.drop i).getD j d = l.getD (i + j) d := by
  rw [List.getD_eq_getElem?_getD, List.getD_eq_getElem?_getD, List.getElem?_drop]
theorem headD_getD {α : Type} (l : List α) (d : α) : l.headD d = l.getD 0 d := by cases l <;> rfl
/-- row i, column j of the counts is what the ends keep -/
theorem counts_at (l m : Lines) (i j : Nat) (hi : i ≤ l.length) (hj : j ≤ m.length) : ((rows l m).getD i []).getD j 0 = kept (l.drop i) (m.drop j) := by
  have e1 : (rows l m).getD i [] = (rows (l.drop i) m).headD [] := by
    rw [← rows_drop i l m hi, headD_getD, getD_drop]; rfl
  have e2 : ((rows (l.drop i) m).headD []).getD j 0 = (((rows (l.drop i) m).headD []).drop j).headD 0 := by
    rw [headD_getD (List.drop j _), getD_drop]; rfl
  rw [e1, e2, head_dropM j _ m hj]
  rfl
theorem kept_nil_left (m : Lines) : kept [] m = 0 := rfl
theorem kept_nil_right (l : Lines) : kept l [] = 0 := by
  cases l with
  | nil => rfl
  | cons a l => rfl

/-! the script -/
theorem walk_fuel : ∀ (f g : Nat) (l m : Lines) (rs : List (List Nat)), l.length + m.length < f → l.length + m.length < g → walk f l m rs = walk g l m rs
  | 0, _, _, _, _, h, _ => by omega
  | _, 0, _, _, _, _, h => by omega
  | f + 1, g + 1, [], m, rs, _, _ => rfl
  | f + 1, g + 1, a :: l, [], rs, _, _ => rfl
  | f + 1, g + 1, a :: x, b :: y, rs, h1, h2 => by
    have l1 : (a :: x).length = x.length + 1 := rfl
    have l2 : (b :: y).length = y.length + 1 := rfl
    rw [l1, l2] at h1 h2
    show (if a = b then Op.keep a :: walk f x y ((rs.drop 1).map fun r => r.drop 1)
      else if (rs.getD 1 []).getD 0 0 = (rs.getD 0 []).getD 0 0 then Op.gone a :: walk f x (b :: y) (rs.drop 1)
      else Op.come b :: walk f (a :: x) y (rs.map fun r => r.drop 1)) = (if a = b then Op.keep a :: walk g x y ((rs.drop 1).map fun r => r.drop 1)
      else if (rs.getD 1 []).getD 0 0 = (rs.getD 0 []).getD 0 0 then Op.gone a :: walk g x (b :: y) (rs.drop 1)
      else Op.come b :: walk g (a :: x) y (rs.map fun r => r.drop 1))
    rw [walk_fuel f g x y _ (by omega) (by omega), walk_fuel f g x (b :: y) _ (by rw [l2]; omega) (by rw [l2]; omega), walk_fuel f g (a :: x) y _ (by rw [l1]; omega) (by rw [l1]; omega)]
theorem script_nil_left (m : Lines) : script [] m = m.map Op.come := rfl
theorem script_nil_right (l : Lines) : script l [] = l.map Op.gone := by cases l <;> rfl
theorem walk_script {f : Nat} {l m : Lines} (h : l.length + m.length < f) : walk f l m (rows l m) = script l m := walk_fuel _ _ _ _ _ h (by omega)
theorem script_cons (a b : Nat) (x y : Lines) : script (a :: x) (b :: y) = if a = b then Op.keep a :: script x y
    else if kept x (b :: y) = kept (a :: x) (b :: y) then Op.gone a :: script x (b :: y) else Op.come b :: script (a :: x) y := by
  have l1 : (a :: x).length = x.length + 1 := rfl
  have l2 : (b :: y).length = y.length + 1 := rfl
  show (if a = b then Op.keep a :: walk ((a :: x).length + (b :: y).length) x y (((rows (a :: x) (b :: y)).drop 1).map fun r => r.drop 1)
      else if ((rows (a :: x) (b :: y)).getD 1 []).getD 0 0 = ((rows (a :: x) (b :: y)).getD 0 []).getD 0 0 then Op.gone a :: walk ((a :: x).length + (b :: y).length) x (b :: y) ((rows (a :: x) (b :: y)).drop 1)
      else Op.come b :: walk ((a :: x).length + (b :: y).length) (a :: x) y ((rows (a :: x) (b :: y)).map fun r => r.drop 1)) = _
  have e1 : (rows (a :: x) (b :: y)).drop 1 = rows x (b :: y) := rfl
  have k1 : ((rows (a :: x) (b :: y)).getD 1 []).getD 0 0 = kept x (b :: y) := counts_at (a :: x) (b :: y) 1 0 (by rw [l1]; omega) (by omega)
  have k2 : ((rows (a :: x) (b :: y)).getD 0 []).getD 0 0 = kept (a :: x) (b :: y) := counts_at (a :: x) (b :: y) 0 0 (by omega) (by omega)
  rw [k1, k2, e1, rows_mapDrop, rows_mapDrop, walk_script (by omega), walk_script (by omega), walk_script (by omega)]

/-! hunks without the place in the new text -/
abbrev Tri := Nat × Lines × Lines
def tri (h : Hunk) : Tri := (h.place, h.old, h.new)
def shut (i : Nat) (o n : Lines) : List Tri := if o.isEmpty && n.isEmpty then [] else [(i, o, n)]
def hf : Nat → Lines → Lines → List Op → List Tri
  | i, o, n, [] => shut i o n
  | i, o, n, Op.keep _ :: r => shut i o n ++ hf (i + o.length + 1) [] [] r
  | i, o, n, Op.gone a :: r => hf i (o ++ [a]) n r
  | i, o, n, Op.come a :: r => hf i o (n ++ [a]) r
theorem closed_tri (i j : Nat) (o n : Lines) : (closed i j o n).map tri = shut i o n := by
  unfold closed shut
  split <;> rfl
theorem hunksFrom_tri : ∀ (ops : List Op) (i j : Nat) (o n : Lines), (hunksFrom i j o n ops).map tri = hf i o n ops
  | [], i, j, o, n => closed_tri i j o n
  | Op.keep _ :: r, i, j, o, n => by
    show (closed i j o n ++ hunksFrom (i + o.length + 1) (j + n.length + 1) [] [] r).map tri = shut i o n ++ hf (i + o.length + 1) [] [] r
    rw [List.map_append, closed_tri, hunksFrom_tri r]
  | Op.gone a :: r, i, j, o, n => hunksFrom_tri r i j (o ++ [a]) n
  | Op.come a :: r, i, j, o, n => hunksFrom_tri r i j o (n ++ [a])
/-- the hunks as triples -/
def hks (l m : Lines) : List Tri := hf 0 [] [] (script l m)
theorem hks_eq (l m : Lines) : (hunks l m).map tri = hks l m := hunksFrom_tri _ _ _ _ _
/-- what is still to come from the places i, j on, with what has gone and come since the place p -/
def togo (l m : Lines) (p : Nat) (o n : Lines) (i j : Nat) : List Tri := hf p o n (script (l.drop i) (m.drop j))
def bal (l m : Lines) (i j : Nat) : Bool := decide (i < l.length) && (decide (j < m.length) && decide (l.getD i 0 = m.getD j 0))
theorem drop_at {l : Lines} {i : Nat} (h : i < l.length) : l.drop i = l.getD i 0 :: l.drop (i + 1) := by
  rw [List.drop_eq_getElem_cons h, List.getD_eq_getElem?_getD, List.getElem?_eq_getElem h]
  rfl
theorem bal_iff {l m : Lines} {i j : Nat} : bal l m i j = true ↔ i < l.length ∧ j < m.length ∧ l.getD i 0 = m.getD j 0 := by
  unfold bal
  rw [Bool.and_eq_true, Bool.and_eq_true, decide_eq_true_iff, decide_eq_true_iff, decide_eq_true_iff]
/-- both ends begin alike: the line is kept -/
theorem togo_keep {l m : Lines} {i j : Nat} (h : bal l m i j = true) (p : Nat) (o n : Lines) : togo l m p o n i j = shut p o n ++ togo l m (p + o.length + 1) [] [] (i + 1) (j + 1) := by
  obtain ⟨h1, h2, h3⟩ := bal_iff.mp h
  unfold togo
  rw [drop_at h1, drop_at h2, script_cons, if_pos h3]
  rfl
theorem togo_end {l m : Lines} {i j : Nat} (h1 : l.length ≤ i) (h2 : m.length ≤ j) (p : Nat) (o n : Lines) : togo l m p o n i j = shut p o n := by
  unfold togo
  rw [List.drop_eq_nil_of_le h1, List.drop_eq_nil_of_le h2]
  rfl
/-- the old line goes -/
theorem togo_gone {l m : Lines} {i j : Nat} (h1 : i < l.length) (hb : bal l m i j = false) (hk : kept (l.drop (i + 1)) (m.drop j) = kept (l.drop i) (m.drop j)) (p : Nat) (o n : Lines) :
    togo l m p o n i j = togo l m p (o ++ [l.getD i 0]) n (i + 1) j := by
  unfold togo
  by_cases h2 : j < m.length
  · have h3 : ¬ l.getD i 0 = m.getD j 0 := fun e => by
      rw [bal_iff.mpr ⟨h1, h2, e⟩] at hb; cases hb
    have e1 := drop_at h1
    have e2 := drop_at h2
    rw [e1, e2] at hk
    rw [e1, e2, script_cons, if_neg h3, if_pos hk]
    rfl
  · rw [List.drop_eq_nil_of_le (Nat.le_of_not_lt h2), script_nil_right, script_nil_right, drop_at h1]
    rfl
/-- the new line comes -/
theorem togo_come {l m : Lines} {i j : Nat} (h2 : j < m.length) (hb : bal l m i j = false) (hk : i < l.length → ¬ kept (l.drop (i + 1)) (m.drop j) = kept (l.drop i) (m.drop j)) (p : Nat) (o n : Lines) :
    togo l m p o n i j = togo l m p o (n ++ [m.getD j 0]) i (j + 1) := by
  unfold togo
  by_cases h1 : i < l.length
  · have h3 : ¬ l.getD i 0 = m.getD j 0 := fun e => by
      rw [bal_iff.mpr ⟨h1, h2, e⟩] at hb; cases hb
    have e1 := drop_at h1
    have e2 := drop_at h2
    have hk := hk h1
    rw [e1, e2] at hk
    rw [e1, e2, script_cons, if_neg h3, if_neg hk]
    rfl
  · rw [List.drop_eq_nil_of_le (Nat.le_of_not_lt h1), script_nil_left, script_nil_left, drop_at h2]
    rfl
/-- where nothing is left of the new text an old line can go always; where the count isn't kept there is a new line -/
theorem come_there {l m : Lines} {i j : Nat} (h1 : i < l.length) (hj : j ≤ m.length) (hk : ¬ kept (l.drop (i + 1)) (m.drop j) = kept (l.drop i) (m.drop j)) : j < m.length := by
  refine Nat.lt_of_le_of_ne hj fun e => hk ?_
  rw [e, List.drop_length, kept_nil_right, kept_nil_right]
theorem shut_one {p : Nat} {o n : Lines} (h : o ≠ [] ∨ n ≠ []) : shut p o n = [(p, o, n)] := by
  unfold shut
  refine if_neg fun q => ?_
  rw [Bool.and_eq_true, List.isEmpty_iff, List.isEmpty_iff] at q
  rcases h with h | h
  · exact h q.1
  · exact h q.2
theorem togo_keep0 {l m : Lines} {i j : Nat} (h : bal l m i j = true) (p : Nat) : togo l m p [] [] i j = togo l m (p + 1) [] [] (i + 1) (j + 1) := togo_keep h p [] []
/-- lines of a text from one place to another -/
def cutN (l : Lines) (i j : Nat) : Lines := (l.drop i).take (j - i)
theorem cutN_self (l : Lines) (i : Nat) : cutN l i i = [] := by
  unfold cutN
  rw [Nat.sub_self, List.take_zero]
theorem cutN_more {l : Lines} {i j : Nat} (h : i ≤ j) (hj : j < l.length) : cutN l i (j + 1) = cutN l i j ++ [l.getD j 0] := by
  unfold cutN
  have e : j + 1 - i = (j - i) + 1 := by omega
  rw [e, List.take_succ, List.getElem?_drop, List.getD_eq_getElem?_getD]
  have e2 : i + (j - i) = j := by omega
  rw [e2, List.getElem?_eq_getElem hj]
  rfl
theorem cutN_len {l : Lines} {i j : Nat} (h : j ≤ l.length) : (cutN l i j).length = j - i := by
  unfold cutN
  rw [List.length_take, List.length_drop]
  omega
/-! places rise -/
theorem hf_from : ∀ (ops : List Op) (i : Nat) (o n : Lines), ∀ h ∈ hf i o n ops, i ≤ h.1
  | [], i, o, n, h, hm => by
    unfold hf shut at hm
    split at hm
    · cases hm
    · rw [List.mem_singleton.mp hm]
      exact Nat.le_refl _
  | Op.keep _ :: r, i, o, n, h, hm => by
    rcases List.mem_append.mp (show h ∈ shut i o n ++ hf (i + o.length + 1) [] [] r from hm) with hm | hm
    · unfold shut at hm
      split at hm
      · cases hm
      · rw [List.mem_singleton.mp hm]
        exact Nat.le_refl _
    · have := hf_from r _ _ _ h hm
      omega
  | Op.gone a :: r, i, o, n, h, hm => hf_from r i (o ++ [a]) n h hm
  | Op.come a :: r, i, o, n, h, hm => hf_from r i o (n ++ [a]) h hm
theorem hf_rise : ∀ (ops : List Op) (i : Nat) (o n : Lines), (hf i o n ops).Pairwise fun g h => g.1 < h.1
  | [], i, o, n => by
    unfold hf shut
    split
    · exact List.Pairwise.nil
    · exact List.pairwise_singleton _ _
  | Op.keep _ :: r, i, o, n => by
    show (shut i o n ++ hf (i + o.length + 1) [] [] r).Pairwise _
    refine List.pairwise_append.mpr ⟨?_, hf_rise r _ _ _, fun g hg h hh => ?_⟩
    · unfold shut
      split
      · exact List.Pairwise.nil
      · exact List.pairwise_singleton _ _
    · have := hf_from r _ _ _ h hh
      unfold shut at hg
      split at hg
      · cases hg
      · rw [List.mem_singleton.mp hg]
        show i < h.1
        omega
  | Op.gone a :: r, i, o, n => hf_rise r i (o ++ [a]) n
  | Op.come a :: r, i, o, n => hf_rise r i o (n ++ [a])
theorem hks_rise (l m : Lines) : (hks l m).Pairwise fun g h => g.1 < h.1 := hf_rise _ _ _ _
/-- sizes: so many hunks at most, so many lines in each -/
theorem hf_size : ∀ (ops : List Op) (i : Nat) (o n : Lines), (hf i o n ops).length ≤ ops.length + 1
  | [], i, o, n => by
    unfold hf shut
    split <;> simp
  | Op.keep _ :: r, i, o, n => by
    show (shut i o n ++ hf (i + o.length + 1) [] [] r).length ≤ r.length + 1 + 1
    rw [List.length_append]
    have := hf_size r (i + o.length + 1) [] []
    have : (shut i o n).length ≤ 1 := by
      unfold shut
      split <;> simp
    omega
  | Op.gone a :: r, i, o, n => by
    have := hf_size r i (o ++ [a]) n
    show (hf i (o ++ [a]) n r).length ≤ r.length + 1 + 1
    omega
  | Op.come a :: r, i, o, n => by
    have := hf_size r i o (n ++ [a])
    show (hf i o (n ++ [a]) r).length ≤ r.length + 1 + 1
    omega
theorem walk_len : ∀ (f : Nat) (l m : Lines) (rs : List (List Nat)), (walk f l m rs).length ≤ l.length + m.length
  | 0, _, _, _ => Nat.zero_le _
  | f + 1, [], m, rs => by
    show (m.map Op.come).length ≤ _
    rw [List.length_map]
    show m.length ≤ 0 + m.length
    omega
  | f + 1, a :: l, [], rs => by
    show ((a :: l).map Op.gone).length ≤ _
    rw [List.length_map]
    show _ ≤ (a :: l).length + 0
    omega
  | f + 1, a :: x, b :: y, rs => by
    have l1 : (a :: x).length = x.length + 1 := rfl
    have l2 : (b :: y).length = y.length + 1 := rfl
    show (if a = b then Op.keep a :: walk f x y ((rs.drop 1).map fun r => r.drop 1)
      else if (rs.getD 1 []).getD 0 0 = (rs.getD 0 []).getD 0 0 then Op.gone a :: walk f x (b :: y) (rs.drop 1)
      else Op.come b :: walk f (a :: x) y (rs.map fun r => r.drop 1)).length ≤ _
    split
    · have := walk_len f x y ((rs.drop 1).map fun r => r.drop 1)
      rw [List.length_cons]; omega
    · split
      · have := walk_len f x (b :: y) (rs.drop 1)
        rw [List.length_cons]; omega
      · have := walk_len f (a :: x) y (rs.map fun r => r.drop 1)
        rw [List.length_cons]; omega
theorem hf_new : ∀ (ops : List Op) (i : Nat) (o n : Lines), ∀ h ∈ hf i o n ops, h.2.1.length ≤ o.length + ops.length ∧ h.2.2.length ≤ n.length + ops.length
  | [], i, o, n, h, hm => by
    unfold hf shut at hm
    split at hm
    · cases hm
    · rw [List.mem_singleton.mp hm]
      exact ⟨Nat.le_refl _, Nat.le_refl _⟩
  | Op.keep z :: r, i, o, n, h, hm => by
    have el : (Op.keep z :: r).length = r.length + 1 := rfl
    rcases List.mem_append.mp (show h ∈ shut i o n ++ hf (i + o.length + 1) [] [] r from hm) with hm | hm
    · unfold shut at hm
      split at hm
      · cases hm
      · rw [List.mem_singleton.mp hm]
        exact ⟨Nat.le_add_right _ _, Nat.le_add_right _ _⟩
    · have := hf_new r _ _ _ h hm
      have e0 : ([] : Lines).length = 0 := rfl
      rw [e0] at this
      omega
  | Op.gone a :: r, i, o, n, h, hm => by
    have := hf_new r i (o ++ [a]) n h hm
    rw [List.length_append] at this
    have e1 : [a].length = 1 := rfl
    have el : (Op.gone a :: r).length = r.length + 1 := rfl
    omega
  | Op.come a :: r, i, o, n, h, hm => by
    have := hf_new r i o (n ++ [a]) h hm
    rw [List.length_append] at this
    have e1 : [a].length = 1 := rfl
    have el : (Op.come a :: r).length = r.length + 1 := rfl
    omega
theorem script_len (l m : Lines) : (script l m).length ≤ l.length + m.length := walk_len (l.length + m.length + 1) l m (rows l m)
theorem hks_new {l m : Lines} {h : Tri} (hm : h ∈ hks l m) : h.2.1.length ≤ l.length + m.length ∧ h.2.2.length ≤ l.length + m.length := by
  have h1 := hf_new (script l m) 0 [] [] h hm
  have h2 := script_len l m
  have e0 : ([] : Lines).length = 0 := rfl
  rw [e0] at h1
  omega
theorem hks_len (l m : Lines) : (hks l m).length ≤ l.length + m.length + 1 := by
  have h1 := hf_size (script l m) 0 [] []
  have h2 := walk_len (l.length + m.length + 1) l m (rows l m)
  have e : script l m = walk (l.length + m.length + 1) l m (rows l m) := rfl
  rw [← e] at h2
  unfold hks
  omega
theorem take_more {α : Type} {l : List α} {i : Nat} {x : α} (h : l[i]? = some x) : l.take (i + 1) = l.take i ++ [x] := by
  rw [List.take_add_one, h]; rfl
end Cs
-- CsRegions
/-! Regions: spans in order, clusters, the texts put together. -/
namespace Cs
open Vamrqa (Lines)
open Vamrqc (Span spansOf putSpan allSpans Cluster clusters cut sideOf regionOf alike regionsFrom regions joined Region)

/-- two lists in strict order with the same members are one -/
theorem strict_ext {α : Type} {r : α → α → Prop} (asym : ∀ a b, r a b → ¬ r b a) : ∀ {xs ys : List α}, xs.Pairwise r → ys.Pairwise r → (∀ a, a ∈ xs ↔ a ∈ ys) → xs = ys
  | [], [], _, _, _ => rfl
  | [], y :: ys, _, _, h => by
    have := (h y).mpr (List.mem_cons_self ..)
    cases this
  | x :: xs, [], _, _, h => by
    have := (h x).mp (List.mem_cons_self ..)
    cases this
  | x :: xs, y :: ys, p, q, h => by
    have p1 := List.pairwise_cons.mp p
    have q1 := List.pairwise_cons.mp q
    have exy : x = y := by
      rcases List.mem_cons.mp ((h x).mp (List.mem_cons_self ..)) with e | e
      · exact e
      · rcases List.mem_cons.mp ((h y).mpr (List.mem_cons_self ..)) with e2 | e2
        · exact e2.symm
        · exact absurd (q1.1 x e) (asym x y (p1.1 y e2))
    subst exy
    have irr : ∀ a, ¬ r a a := fun a z => asym a a z z
    rw [strict_ext asym p1.2 q1.2 fun a => ⟨fun ha => by
        rcases List.mem_cons.mp ((h a).mp (List.mem_cons_of_mem _ ha)) with e | e
        · subst e; exact absurd (p1.1 a ha) (irr a)
        · exact e, fun ha => by
        rcases List.mem_cons.mp ((h a).mpr (List.mem_cons_of_mem _ ha)) with e | e
        · subst e; exact absurd (q1.1 a ha) (irr a)
        · exact e⟩]

/-! (1) spans in order -/
/-- a hunk with its side -/
abbrev Sid := Bool × Tri
def spn (x : Sid) : Span := ⟨x.1, x.2.1, x.2.1 + x.2.2.1.length, x.2.2.2⟩
def sids (b o t : Lines) : List Sid := (hks b o).map (fun h => (true, h)) ++ (hks b t).map (fun h => (false, h))
theorem spansOf_eq (s : Bool) (l m : Lines) : spansOf s l m = (hks l m).map fun h => spn (s, h) := by
  unfold spansOf
  rw [← hks_eq, List.map_map]
  rfl
theorem spans_eq (b o t : Lines) : spansOf true b o ++ spansOf false b t = (sids b o t).map spn := by
  unfold sids
  rw [spansOf_eq, spansOf_eq, List.map_append, List.map_map, List.map_map]
  rfl
/-- the order: by place, ours first -/
def skey (x : Sid) : Nat := 2 * x.2.1 + (if x.1 = true then 0 else 1)
def spkey (x : Span) : Nat := 2 * x.from_ + (if x.ours = true then 0 else 1)
theorem spkey_spn (x : Sid) : spkey (spn x) = skey x := rfl
theorem sids_keys (b o t : Lines) : ((sids b o t).map skey).Nodup := by
  unfold sids
  rw [List.map_append, List.map_map, List.map_map]
  refine List.nodup_append.mpr ⟨?_, ?_, fun a ha c hc e => ?_⟩
  · refine (List.pairwise_map.mpr ((hks_rise b o).imp fun {g h} z => ?_))
    show ¬ 2 * g.1 + 0 = 2 * h.1 + 0
    omega
  · refine (List.pairwise_map.mpr ((hks_rise b t).imp fun {g h} z => ?_))
    show ¬ 2 * g.1 + 1 = 2 * h.1 + 1
    omega
  · obtain ⟨g, _, e1⟩ := List.mem_map.mp ha
    obtain ⟨h, _, e2⟩ := List.mem_map.mp hc
    have e1' : 2 * g.1 + 0 = a := e1
    have e2' : 2 * h.1 + 1 = c := e2
    omega
theorem putSpan_perm (x : Span) : ∀ l : List Span, (putSpan x l).Perm (x :: l)
  | [] => List.Perm.refl _
  | y :: r => by
    unfold putSpan
    split
    · exact List.Perm.refl _
    · exact ((putSpan_perm x r).cons y).trans (List.Perm.swap x y r)
theorem putSpan_sorted (x : Span) : ∀ l : List Span, l.Pairwise (fun a b => spkey a ≤ spkey b) → (putSpan x l).Pairwise (fun a b => spkey a ≤ spkey b)
  | [], _ => List.pairwise_singleton _ _
  | y :: r, h => by
    have h1 := List.pairwise_cons.mp h
    unfold putSpan
    split
    · rename_i c
      have k : spkey x ≤ spkey y := by
        unfold spkey
        rcases c with c | ⟨c, d⟩
        · split <;> split <;> omega
        · rw [if_pos d]; omega
      refine List.pairwise_cons.mpr ⟨fun z hz => ?_, h⟩
      rcases List.mem_cons.mp hz with e | e
      · rw [e]; exact k
      · exact Nat.le_trans k (h1.1 z e)
    · rename_i c
      have k : spkey y ≤ spkey x := by
        unfold spkey
        have c1 : ¬ x.from_ < y.from_ := fun q => c (Or.inl q)
        by_cases e : x.from_ = y.from_
        · have d : ¬ x.ours = true := fun q => c (Or.inr ⟨e, q⟩)
          rw [if_neg d]
          split <;> omega
        · split <;> split <;> omega
      refine List.pairwise_cons.mpr ⟨fun z hz => ?_, putSpan_sorted x r h1.2⟩
      rcases List.mem_cons.mp ((putSpan_perm x r).mem_iff.mp hz) with e | e
      · rw [e]; exact k
      · exact h1.1 z e
theorem foldSpan_perm : ∀ l : List Span, (l.foldr putSpan []).Perm l
  | [] => List.Perm.refl _
  | x :: l => (putSpan_perm x _).trans ((foldSpan_perm l).cons x)
theorem foldSpan_sorted : ∀ l : List Span, (l.foldr putSpan []).Pairwise (fun a b => spkey a ≤ spkey b)
  | [] => List.Pairwise.nil
  | x :: l => putSpan_sorted x _ (foldSpan_sorted l)
theorem pair_lt {α : Type} {k : α → Nat} {l : List α} (h : l.Pairwise (fun a b => k a ≤ k b)) (n : (l.map k).Nodup) : l.Pairwise (fun a b => k a < k b) := by
  refine List.Pairwise.imp ?_ (List.Pairwise.and h (List.pairwise_map.mp n))
  intro a b ⟨h1, h2⟩
  have : k a ≠ k b := h2
  omega
/-- what's sorted of the sided hunks are the specification's spans in order -/
theorem sorted_spans {b o t : Lines} {ys : List Sid} (hp : ys.Perm (sids b o t)) (hs : ys.Pairwise (fun a b => skey a ≤ skey b)) : ys.map spn = allSpans b o t := by
  have nd := sids_keys b o t
  have k1 : (ys.map spn).Pairwise (fun a b => spkey a < spkey b) := by
    refine pair_lt (List.pairwise_map.mpr hs) ?_
    rw [List.map_map]
    exact ((hp.map skey).nodup_iff).mpr nd
  have pm := foldSpan_perm ((sids b o t).map spn)
  have k2 : (((sids b o t).map spn).foldr putSpan []).Pairwise (fun a b => spkey a < spkey b) := by
    refine pair_lt (foldSpan_sorted _) ?_
    refine ((pm.map spkey).nodup_iff).mpr ?_
    rw [List.map_map]
    exact nd
  unfold allSpans
  rw [spans_eq]
  refine strict_ext (fun a b h1 h2 => by omega) k1 k2 fun a => ?_
  rw [pm.mem_iff]
  exact (hp.map spn).mem_iff
theorem keys_inj {b o t : Lines} {x y : Sid} (hx : x ∈ sids b o t) (hy : y ∈ sids b o t) (h : skey x = skey y) : x = y := by
  have nd := sids_keys b o t
  generalize sids b o t = l at nd hx hy
  induction l with
  | nil => cases hx
  | cons z l ih =>
    rw [List.map_cons] at nd
    have n1 := List.nodup_cons.mp nd
    rcases List.mem_cons.mp hx with e1 | e1 <;> rcases List.mem_cons.mp hy with e2 | e2
    · rw [e1, e2]
    · exact absurd (List.mem_map.mpr ⟨y, e2, h.symm.trans (congrArg skey e1)⟩) n1.1
    · exact absurd (List.mem_map.mpr ⟨x, e1, h.trans (congrArg skey e2)⟩) n1.1
    · exact ih n1.2 e1 e2

/-! (2) clusters -/
structure Cl where
  place : Nat
  fin : Nat
  items : List Sid
def Cl.spec (c : Cl) : Cluster := ⟨c.place, c.fin, c.items.map spn⟩
def Cl.ours (c : Cl) : List Tri := (c.items.filter fun x => x.1).map (·.2)
def Cl.theirs (c : Cl) : List Tri := (c.items.filter fun x => !x.1).map (·.2)
def Cl.add (c : Cl) (x : Sid) : Cl := ⟨c.place, max c.fin (x.2.1 + x.2.2.1.length), c.items ++ [x]⟩
def Cl.fresh (p : Nat) : Cl := ⟨p, p, []⟩
def clStep (cs : List Cl) (x : Sid) : List Cl := match cs.getLast? with
  | none => cs ++ [(Cl.fresh x.2.1).add x]
  | some c => if c.fin < x.2.1 then cs ++ [(Cl.fresh x.2.1).add x] else cs.dropLast ++ [c.add x]
theorem Cl.add_ours_t (c : Cl) (h : Tri) : (c.add (true, h)).ours = c.ours ++ [h] := by
  unfold Cl.ours Cl.add
  rw [List.filter_append, List.map_append]; rfl
theorem Cl.add_ours_f (c : Cl) (h : Tri) : (c.add (false, h)).ours = c.ours := by
  unfold Cl.ours Cl.add
  rw [List.filter_append, List.map_append]
  show _ ++ [] = _
  rw [List.append_nil]
theorem Cl.add_theirs_f (c : Cl) (h : Tri) : (c.add (false, h)).theirs = c.theirs ++ [h] := by
  unfold Cl.theirs Cl.add
  rw [List.filter_append, List.map_append]; rfl
theorem Cl.add_theirs_t (c : Cl) (h : Tri) : (c.add (true, h)).theirs = c.theirs := by
  unfold Cl.theirs Cl.add
  rw [List.filter_append, List.map_append]
  show _ ++ [] = _
  rw [List.append_nil]
theorem fresh_spec (x : Sid) : ((Cl.fresh x.2.1).add x).spec = ⟨(spn x).from_, (spn x).to_, [spn x]⟩ := by
  show (⟨x.2.1, max x.2.1 (x.2.1 + x.2.2.1.length), [spn x]⟩ : Cluster) = ⟨x.2.1, x.2.1 + x.2.2.1.length, [spn x]⟩
  rw [Nat.max_eq_right (by omega)]
theorem add_spec (c : Cl) (x : Sid) : (c.add x).spec = ⟨c.spec.from_, Nat.max c.spec.to_ (spn x).to_, c.spec.spans ++ [spn x]⟩ := by
  show (⟨c.place, max c.fin (x.2.1 + x.2.2.1.length), (c.items ++ [x]).map spn⟩ : Cluster) = ⟨c.place, Nat.max c.fin (x.2.1 + x.2.2.1.length), c.items.map spn ++ [spn x]⟩
  rw [List.map_append]; rfl
theorem clusters_fold : ∀ (xs : List Sid) (cs : List Cl), clusters (xs.map spn) (cs.map Cl.spec).reverse = (xs.foldl clStep cs).map Cl.spec
  | [], cs => List.reverse_reverse _
  | x :: xs, cs => by
    rw [List.map_cons, List.foldl_cons, ← clusters_fold xs]
    rcases List.eq_nil_or_concat cs with e | ⟨ds, c, e⟩
    · subst e
      show clusters (xs.map spn) [⟨(spn x).from_, (spn x).to_, [spn x]⟩] = clusters (xs.map spn) [((Cl.fresh x.2.1).add x).spec]
      rw [fresh_spec]
    · rw [List.concat_eq_append] at e
      subst e
      have hl : (ds ++ [c]).getLast? = some c := by simp
      have hd : (ds ++ [c]).dropLast = ds := by simp
      unfold clStep
      rw [hl]
      show clusters (spn x :: xs.map spn) ((ds ++ [c]).map Cl.spec).reverse = clusters (xs.map spn) ((if c.fin < x.2.1 then ds ++ [c] ++ [(Cl.fresh x.2.1).add x] else (ds ++ [c]).dropLast ++ [c.add x]).map Cl.spec).reverse
      rw [hd, List.map_append, List.reverse_append]
      show (if (spn x).from_ ≤ c.spec.to_ then clusters (xs.map spn) (⟨c.spec.from_, Nat.max c.spec.to_ (spn x).to_, c.spec.spans ++ [spn x]⟩ :: (ds.map Cl.spec).reverse) else clusters (xs.map spn) (⟨(spn x).from_, (spn x).to_, [spn x]⟩ :: c.spec :: (ds.map Cl.spec).reverse)) = _
      by_cases k : c.fin < x.2.1
      · rw [if_neg (show ¬ (spn x).from_ ≤ c.spec.to_ from Nat.not_le.mpr k), if_pos k, List.map_append, List.map_append, List.reverse_append, List.reverse_append, ← fresh_spec]
        rfl
      · rw [if_pos (show (spn x).from_ ≤ c.spec.to_ from Nat.not_lt.mp k), if_neg k, List.map_append, List.reverse_append, ← add_spec]
        rfl
def cls (ys : List Sid) : List Cl := ys.foldl clStep []
theorem cls_spec {b o t : Lines} {ys : List Sid} (e : ys.map spn = allSpans b o t) : (cls ys).map Cl.spec = clusters (allSpans b o t) [] := by
  rw [← e]
  exact (clusters_fold ys []).symm

/-! (3) one side's text in a stretch -/
def stW (b : Lines) (fin : Nat) : Nat → List Tri → Lines
  | i, [] => cutN b i fin
  | i, h :: r => cutN b i h.1 ++ (h.2.2 ++ stW b fin (h.1 + h.2.1.length) r)
theorem cut_cutN (b : Lines) (i j : Nat) : cut b i j = cutN b i j := rfl
theorem sideOf_stW (b : Lines) (fin : Nat) (s : Bool) : ∀ (hs : List Tri) (i : Nat), sideOf b fin i (hs.map fun h => spn (s, h)) = stW b fin i hs
  | [], _ => rfl
  | h :: r, i => by
    show cut b i h.1 ++ (h.2.2 ++ sideOf b fin (h.1 + h.2.1.length) (r.map fun h => spn (s, h))) = _
    rw [sideOf_stW b fin s r]
    rfl
theorem filter_ours : ∀ (l : List Sid), (l.map spn).filter (fun x => x.ours) = ((l.filter fun x => x.1).map (·.2)).map fun h => spn (true, h)
  | [] => rfl
  | (true, h) :: l => by
    show spn (true, h) :: (l.map spn).filter (fun x => x.ours) = _
    rw [filter_ours l]
    rfl
  | (false, h) :: l => by
    show (l.map spn).filter (fun x => x.ours) = _
    rw [filter_ours l]
    rfl
theorem filter_theirs : ∀ (l : List Sid), (l.map spn).filter (fun x => !x.ours) = ((l.filter fun x => !x.1).map (·.2)).map fun h => spn (false, h)
  | [] => rfl
  | (false, h) :: l => by
    show spn (false, h) :: (l.map spn).filter (fun x => !x.ours) = _
    rw [filter_theirs l]
    rfl
  | (true, h) :: l => by
    show (l.map spn).filter (fun x => !x.ours) = _
    rw [filter_theirs l]
    rfl
theorem regionOf_eq (b : Lines) (c : Cl) : regionOf b c.spec = ⟨cutN b c.place c.fin, stW b c.fin c.place c.ours, stW b c.fin c.place c.theirs⟩ := by
  show (⟨cut b c.place c.fin, sideOf b c.fin c.place ((c.items.map spn).filter fun x => x.ours), sideOf b c.fin c.place ((c.items.map spn).filter fun x => !x.ours)⟩ : Region) = _
  rw [filter_ours, filter_theirs, sideOf_stW, sideOf_stW]
  rfl

/-! (4) what's settled -/
def isSet {α : Type} [DecidableEq α] (b o t : α) : Bool := decide (o = t) || (decide (t = b) || decide (o = b))
def setl {α : Type} [DecidableEq α] (b o t : α) : α := if o = b then t else o
theorem kind_set (r : Region) : (r.kind = 4) ↔ isSet r.base r.ours r.theirs = false := by
  unfold Region.kind isSet
  by_cases h1 : r.ours = r.theirs
  · rw [if_pos h1, decide_eq_true h1]
    split <;> simp
  · rw [if_neg h1, decide_eq_false h1]
    by_cases h2 : r.theirs = r.base
    · rw [if_pos h2, decide_eq_true h2]; simp
    · rw [if_neg h2, decide_eq_false h2]
      by_cases h3 : r.ours = r.base
      · rw [if_pos h3, decide_eq_true h3]; simp
      · rw [if_neg h3, decide_eq_false h3]; simp
theorem clean_set {r : Region} (h : isSet r.base r.ours r.theirs = true) : r.clean = some (setl r.base r.ours r.theirs) := by
  have h4 : ¬ r.kind = 4 := fun q => by
    rw [(kind_set r).mp q] at h; cases h
  unfold Region.clean
  rw [if_neg h4]
  unfold setl
  by_cases h1 : r.ours = r.theirs
  · have k : ¬ r.kind = 2 := by
      unfold Region.kind
      rw [if_pos h1]
      split <;> decide
    rw [if_neg k, h1]
    split <;> rfl
  · by_cases h2 : r.theirs = r.base
    · have k : ¬ r.kind = 2 := by
        unfold Region.kind
        rw [if_neg h1, if_pos h2]
        decide
      rw [if_neg k]
      by_cases h3 : r.ours = r.base
      · exact absurd (h3.trans h2.symm) h1
      · rw [if_neg h3]
    · by_cases h3 : r.ours = r.base
      · have k : r.kind = 2 := by
          unfold Region.kind
          rw [if_neg h1, if_neg h2, if_pos h3]
        rw [if_pos k, if_pos h3]
      · have k : r.kind = 4 := by
          unfold Region.kind
          rw [if_neg h1, if_neg h2, if_neg h3]
        exact absurd k h4
theorem clean_unset {r : Region} (h : isSet r.base r.ours r.theirs = false) : r.clean = none := by
  unfold Region.clean
  rw [if_pos ((kind_set r).mpr h)]
theorem alike_clean (l : Lines) : (alike l).clean = some l := by
  have h : isSet (alike l).base (alike l).ours (alike l).theirs = true := by
    show (decide (l = l) || _) = true
    rw [decide_eq_true rfl]; rfl
  rw [clean_set h]
  show some (if l = l then l else l) = some l
  rw [if_pos rfl]

/-! (5) the texts put together -/
structure Mg where
  conf : Nat
  text : Lines
  at_ : Nat
def cBase (b : Lines) (c : Cl) : Lines := cutN b c.place c.fin
def cOurs (b : Lines) (c : Cl) : Lines := stW b c.fin c.place c.ours
def cTheirs (b : Lines) (c : Cl) : Lines := stW b c.fin c.place c.theirs
def mgStep (b : Lines) (s : Mg) (c : Cl) : Mg :=
  if isSet (cBase b c) (cOurs b c) (cTheirs b c) = true then ⟨s.conf, (s.text ++ cutN b s.at_ c.place) ++ setl (cBase b c) (cOurs b c) (cTheirs b c), c.fin⟩
  else ⟨s.conf + 1, s.text ++ cutN b s.at_ c.place, c.fin⟩
def nConf (rs : List Region) : Nat := (rs.filter fun r => decide (r.kind = 4)).length
theorem nConf_cons (r : Region) (rs : List Region) : nConf (r :: rs) = (if r.kind = 4 then 1 else 0) + nConf rs := by
  unfold nConf
  rw [List.filter_cons]
  by_cases h : r.kind = 4
  · rw [if_pos (decide_eq_true h), if_pos h, List.length_cons]; omega
  · rw [if_neg (by rw [decide_eq_false h]; decide), if_neg h]; omega
theorem alike_kind (l : Lines) : ¬ (alike l).kind = 4 := fun h => by
  have := alike_clean l
  unfold Region.clean at this
  rw [if_pos h] at this
  cases this
theorem gap_conf (b : Lines) (i j : Nat) (rs : List Region) : nConf ((if i < j then [alike (cut b i j)] else []) ++ rs) = nConf rs := by
  by_cases h : i < j
  · rw [if_pos h]
    show nConf (alike (cut b i j) :: rs) = _
    rw [nConf_cons, if_neg (alike_kind _), Nat.zero_add]
  · rw [if_neg h]; rfl
theorem gap_joined (b : Lines) (i j : Nat) (rs : List Region) : joined ((if i < j then [alike (cut b i j)] else []) ++ rs) = (joined rs).map fun y => cutN b i j ++ y := by
  by_cases h : i < j
  · rw [if_pos h]
    show (match (alike (cut b i j)).clean, joined rs with
      | some x, some y => some (x ++ y)
      | _, _ => none) = _
    rw [alike_clean]
    cases joined rs <;> rfl
  · rw [if_neg h]
    have e : cutN b i j = [] := by
      unfold cutN
      rw [Nat.sub_eq_zero_of_le (Nat.not_lt.mp h), List.take_zero]
    rw [e, List.nil_append]
    cases joined rs <;> rfl
theorem mgStep_set {b : Lines} {s : Mg} {c : Cl} (h : isSet (cBase b c) (cOurs b c) (cTheirs b c) = true) :
    mgStep b s c = ⟨s.conf, (s.text ++ cutN b s.at_ c.place) ++ setl (cBase b c) (cOurs b c) (cTheirs b c), c.fin⟩ := if_pos h
theorem mgStep_unset {b : Lines} {s : Mg} {c : Cl} (h : ¬ isSet (cBase b c) (cOurs b c) (cTheirs b c) = true) :
    mgStep b s c = ⟨s.conf + 1, s.text ++ cutN b s.at_ c.place, c.fin⟩ := if_neg h
theorem fold_conf (b : Lines) : ∀ (cs : List Cl) (s : Mg), (cs.foldl (mgStep b) s).conf = s.conf + nConf (regionsFrom b s.at_ (cs.map Cl.spec))
  | [], s => by
    show s.conf = s.conf + nConf (if s.at_ < b.length then [alike (cut b s.at_ b.length)] else [])
    have := gap_conf b s.at_ b.length []
    rw [List.append_nil] at this
    rw [this]; rfl
  | c :: cs, s => by
    rw [List.foldl_cons, fold_conf b cs]
    show _ = s.conf + nConf ((if s.at_ < c.place then [alike (cut b s.at_ c.place)] else []) ++ (regionOf b c.spec :: regionsFrom b c.fin (cs.map Cl.spec)))
    rw [gap_conf, nConf_cons]
    have kd := kind_set (regionOf b c.spec)
    rw [regionOf_eq] at kd ⊢
    by_cases h : isSet (cBase b c) (cOurs b c) (cTheirs b c) = true
    · rw [mgStep_set h, if_neg fun q => by
        have := kd.mp q
        have h' : isSet (cutN b c.place c.fin) (stW b c.fin c.place c.ours) (stW b c.fin c.place c.theirs) = true := h
        rw [h'] at this
        cases this]
      show s.conf + nConf (regionsFrom b c.fin (cs.map Cl.spec)) = _
      omega
    · have h' : isSet (cBase b c) (cOurs b c) (cTheirs b c) = false := by simpa using h
      rw [mgStep_unset h, if_pos (kd.mpr h')]
      show s.conf + 1 + nConf (regionsFrom b c.fin (cs.map Cl.spec)) = _
      omega
theorem fold_text (b : Lines) : ∀ (cs : List Cl) (s : Mg), (cs.foldl (mgStep b) s).conf = s.conf →
    ∃ z, joined (regionsFrom b s.at_ (cs.map Cl.spec)) = some z ∧ s.text ++ z = (cs.foldl (mgStep b) s).text ++ b.drop (cs.foldl (mgStep b) s).at_
  | [], s, _ => by
    refine ⟨cutN b s.at_ b.length, ?_, ?_⟩
    · have := gap_joined b s.at_ b.length []
      rw [List.append_nil] at this
      show joined (if s.at_ < b.length then [alike (cut b s.at_ b.length)] else []) = _
      rw [this]
      show some (cutN b s.at_ b.length ++ []) = _
      rw [List.append_nil]
    · show s.text ++ cutN b s.at_ b.length = s.text ++ b.drop s.at_
      unfold cutN
      rw [List.take_of_length_le (by rw [List.length_drop]; omega)]
  | c :: cs, s, h => by
    rw [List.foldl_cons] at h ⊢
    have hc := fold_conf b cs (mgStep b s c)
    by_cases k : isSet (cBase b c) (cOurs b c) (cTheirs b c) = true
    · rw [mgStep_set k] at h hc ⊢
      obtain ⟨z, e1, e2⟩ := fold_text b cs _ h
      refine ⟨cutN b s.at_ c.place ++ (setl (cBase b c) (cOurs b c) (cTheirs b c) ++ z), ?_, ?_⟩
      · show joined ((if s.at_ < c.place then [alike (cut b s.at_ c.place)] else []) ++ (regionOf b c.spec :: regionsFrom b c.fin (cs.map Cl.spec))) = _
        rw [gap_joined]
        have e3 : joined (regionOf b c.spec :: regionsFrom b c.fin (cs.map Cl.spec)) = some (setl (cBase b c) (cOurs b c) (cTheirs b c) ++ z) := by
          show (match (regionOf b c.spec).clean, joined (regionsFrom b c.fin (cs.map Cl.spec)) with
            | some x, some y => some (x ++ y)
            | _, _ => none) = _
          have e1' : joined (regionsFrom b c.fin (cs.map Cl.spec)) = some z := e1
          rw [e1', regionOf_eq, clean_set k]
          rfl
        rw [e3]; rfl
      · rw [← e2]
        show _ = (s.text ++ cutN b s.at_ c.place) ++ setl (cBase b c) (cOurs b c) (cTheirs b c) ++ z
        rw [List.append_assoc, List.append_assoc]
    · rw [mgStep_unset k] at h hc
      rw [hc] at h
      have h' : s.conf + 1 + nConf (regionsFrom b c.fin (cs.map Cl.spec)) = s.conf := h
      omega
def mg (b : Lines) (ys : List Sid) : Mg := (cls ys).foldl (mgStep b) ⟨0, [], 0⟩
theorem joined_conf : ∀ rs : List Region, (joined rs = none ↔ 0 < nConf rs)
  | [] => by
    constructor
    · intro h
      cases h
    · intro h
      exact absurd h (Nat.lt_irrefl _)
  | r :: rs => by
    have ih := joined_conf rs
    rw [nConf_cons]
    show ((match r.clean, joined rs with
      | some x, some y => some (x ++ y)
      | _, _ => none) = none) ↔ _
    by_cases h : r.kind = 4
    · have e : r.clean = none := by
        unfold Region.clean
        rw [if_pos h]
      rw [e, if_pos h]
      constructor
      · intro _; omega
      · intro _
        rfl
    · have e : ∃ x, r.clean = some x := by
        unfold Region.clean
        rw [if_neg h]
        split
        · exact ⟨_, rfl⟩
        · exact ⟨_, rfl⟩
      obtain ⟨x, e⟩ := e
      rw [e, if_neg h, Nat.zero_add]
      cases q : joined rs with
      | none =>
        rw [q] at ih
        exact ⟨fun _ => ih.mp rfl, fun _ => rfl⟩
      | some y =>
        rw [q] at ih
        constructor
        · intro z; cases z
        · intro z
          exact absurd (ih.mpr z) (by intro w; cases w)
/-- **merge_texts**: how many regions are conflicts, and the text where none is -/
theorem mg_spec {b o t : Lines} {ys : List Sid} (e : ys.map spn = allSpans b o t) :
    (mg b ys).conf = nConf (regions b o t) ∧ ((mg b ys).conf = 0 → joined (regions b o t) = some ((mg b ys).text ++ b.drop (mg b ys).at_)) := by
  have hc := fold_conf b (cls ys) ⟨0, [], 0⟩
  rw [cls_spec e] at hc
  refine ⟨by rw [Nat.zero_add] at hc; exact hc, fun h => ?_⟩
  obtain ⟨z, e1, e2⟩ := fold_text b (cls ys) ⟨0, [], 0⟩ h
  rw [cls_spec e] at e1
  refine Eq.trans e1 (congrArg some ?_)
  exact e2
end Cs
-- CsTrees
/-! Paths and trees: the order, what stands at a path, putting and dropping, merging. -/
namespace Cs
open Vamrqa (Lines Path File Tree lessPath folderOf clash putPath)
open Vamrqc (fateOf Fate Merged)

/-! (1) the order of paths -/
theorem less_irr : ∀ p : Path, lessPath p p = false
  | [] => rfl
  | a :: p => by
    show (decide (a < a) || (decide (a = a) && lessPath p p)) = false
    rw [less_irr p, decide_eq_false (Nat.lt_irrefl a)]; simp
theorem less_cons (a b : Nat) (p q : Path) : lessPath (a :: p) (b :: q) = true ↔ a < b ∨ (a = b ∧ lessPath p q = true) := by
  show (decide (a < b) || (decide (a = b) && lessPath p q)) = true ↔ _
  rw [Bool.or_eq_true, Bool.and_eq_true, decide_eq_true_iff, decide_eq_true_iff]
theorem less_asym : ∀ p q : Path, lessPath p q = true → ¬ lessPath q p = true
  | [], [], h, _ => by cases h
  | [], _ :: _, _, h => by cases h
  | _ :: _, [], h, _ => by cases h
  | a :: p, b :: q, h, k => by
    rw [less_cons] at h k
    rcases h with h | ⟨h1, h2⟩ <;> rcases k with k | ⟨k1, k2⟩
    · omega
    · omega
    · omega
    · exact less_asym p q h2 k2
theorem less_tri : ∀ p q : Path, lessPath p q = true ∨ p = q ∨ lessPath q p = true
  | [], [] => .inr (.inl rfl)
  | [], _ :: _ => .inl rfl
  | _ :: _, [] => .inr (.inr rfl)
  | a :: p, b :: q => by
    rw [less_cons, less_cons]
    rcases Nat.lt_trichotomy a b with h | h | h
    · exact .inl (.inl h)
    · rcases less_tri p q with k | k | k
      · exact .inl (.inr ⟨h, k⟩)
      · exact .inr (.inl (by rw [h, k]))
      · exact .inr (.inr (.inr ⟨h.symm, k⟩))
    · exact .inr (.inr (.inl h))
theorem less_trans : ∀ p q r : Path, lessPath p q = true → lessPath q r = true → lessPath p r = true
  | [], [], _, h, _ => by cases h
  | [], _ :: _, [], _, h => by cases h
  | [], _ :: _, _ :: _, _, _ => rfl
  | _ :: _, [], _, h, _ => by cases h
  | _ :: _, _ :: _, [], _, h => by cases h
  | a :: p, b :: q, c :: r, h, k => by
    rw [less_cons] at h k ⊢
    rcases h with h | ⟨h1, h2⟩ <;> rcases k with k | ⟨k1, k2⟩
    · exact .inl (by omega)
    · exact .inl (by omega)
    · exact .inl (by omega)
    · exact .inr ⟨by omega, less_trans p q r h2 k2⟩
theorem less_ne {p q : Path} (h : lessPath p q = true) : p ≠ q := fun e => by
  rw [e, less_irr] at h; cases h
/-- paths in order -/
abbrev Ord (l : List Path) : Prop := l.Pairwise fun p q => lessPath p q = true
theorem putPath_mem (p : Path) : ∀ (l : List Path) (x : Path), x ∈ putPath p l ↔ x = p ∨ x ∈ l
  | [], x => by
    show x ∈ [p] ↔ _
    simp
  | q :: r, x => by
    unfold putPath
    split
    · rename_i e
      subst e
      simp
    · split
      · simp
      · rw [List.mem_cons, putPath_mem p r x, List.mem_cons]
        constructor
        · rintro (h | h | h)
          · exact .inr (.inl h)
          · exact .inl h
          · exact .inr (.inr h)
        · rintro (h | h | h)
          · exact .inr (.inl h)
          · exact .inl h
          · exact .inr (.inr h)
theorem putPath_ord (p : Path) : ∀ l : List Path, Ord l → Ord (putPath p l)
  | [], _ => List.pairwise_singleton _ _
  | q :: r, h => by
    have h1 := List.pairwise_cons.mp h
    unfold putPath
    split
    · exact h
    · rename_i ne
      split
      · rename_i k
        refine List.pairwise_cons.mpr ⟨fun z hz => ?_, h⟩
        rcases List.mem_cons.mp hz with e | e
        · rw [e]; exact k
        · exact less_trans _ _ _ k (h1.1 z e)
      · rename_i k
        have k2 : lessPath q p = true := by
          rcases less_tri p q with z | z | z
          · exact absurd z k
          · exact absurd z ne
          · exact z
        refine List.pairwise_cons.mpr ⟨fun z hz => ?_, putPath_ord p r h1.2⟩
        rcases (putPath_mem p r z).mp hz with e | e
        · rw [e]; exact k2
        · exact h1.1 z e
theorem foldPath_mem : ∀ (l : List Path) (x : Path), x ∈ l.foldr putPath [] ↔ x ∈ l
  | [], x => Iff.rfl
  | p :: l, x => by
    rw [List.foldr_cons, putPath_mem, foldPath_mem l x, List.mem_cons]
theorem foldPath_ord : ∀ l : List Path, Ord (l.foldr putPath [])
  | [] => List.Pairwise.nil
  | p :: l => putPath_ord p _ (foldPath_ord l)
/-- paths in order with the same members are one list -/
theorem ord_ext {l m : List Path} (h1 : Ord l) (h2 : Ord m) (h : ∀ p, p ∈ l ↔ p ∈ m) : l = m := strict_ext less_asym h1 h2 h
theorem ord_nodup {l : List Path} (h : Ord l) : l.Nodup := List.Pairwise.imp (fun {_ _} z => less_ne z) h
/-- sorted, and none twice: in order -/
theorem ord_of {l : List Path} (hs : l.Pairwise fun p q => lessPath q p = false) (nd : l.Nodup) : Ord l := by
  refine List.Pairwise.imp ?_ (List.Pairwise.and hs nd)
  intro p q ⟨h1, h2⟩
  rcases less_tri p q with z | z | z
  · exact z
  · exact absurd z h2
  · rw [h1] at z; cases z

/-! (2) trees -/
def OrdT (t : Tree) : Prop := t.Pairwise fun f g => lessPath f.path g.path = true
def paths (t : Tree) : List Path := t.map fun f => f.path
theorem ordT_paths {t : Tree} : OrdT t ↔ Ord (paths t) := (List.pairwise_map (f := fun f : File => f.path) (R := fun p q => lessPath p q = true)).symm
theorem ordT_nd {t : Tree} (h : OrdT t) : (paths t).Nodup := ord_nodup (ordT_paths.mp h)
theorem file_eta (f : File) : (⟨f.path, f.lines⟩ : File) = f := rfl
theorem get_nil (p : Path) : Tree.get [] p = none := rfl
theorem get_cons (f : File) (t : Tree) (p : Path) : Tree.get (f :: t) p = if f.path = p then some f.lines else Tree.get t p := by
  unfold Tree.get
  rw [List.find?_cons]
  by_cases h : f.path = p
  · rw [decide_eq_true h, if_pos h]; rfl
  · rw [decide_eq_false h, if_neg h]
theorem get_mem : ∀ {t : Tree} {p : Path} {l : Lines}, Tree.get t p = some l → (⟨p, l⟩ : File) ∈ t
  | [], _, _, h => by cases h
  | f :: t, p, l, h => by
    rw [get_cons] at h
    by_cases e : f.path = p
    · rw [if_pos e] at h
      have e2 : f.lines = l := Option.some.inj h
      subst e e2
      exact List.mem_cons_self ..
    · rw [if_neg e] at h
      exact List.mem_cons_of_mem _ (get_mem h)
theorem mem_get : ∀ {t : Tree} {f : File}, (paths t).Nodup → f ∈ t → Tree.get t f.path = some f.lines
  | [], _, _, h => by cases h
  | g :: t, f, nd, h => by
    rw [get_cons]
    have n1 := List.nodup_cons.mp (show (g.path :: paths t).Nodup from nd)
    rcases List.mem_cons.mp h with e | e
    · rw [e, if_pos rfl]
    · have : ¬ g.path = f.path := fun z => n1.1 (List.mem_map.mpr ⟨f, e, z.symm⟩)
      rw [if_neg this]
      exact mem_get n1.2 e
theorem get_none_iff {t : Tree} {p : Path} : Tree.get t p = none ↔ p ∉ paths t := by
  induction t with
  | nil => exact ⟨fun _ h => (by cases h), fun _ => rfl⟩
  | cons f t ih =>
    rw [get_cons]
    show _ ↔ p ∉ f.path :: paths t
    rw [List.mem_cons]
    by_cases e : f.path = p
    · rw [if_pos e]
      exact ⟨fun h => (by cases h), fun h => absurd (.inl e.symm) h⟩
    · rw [if_neg e, ih]
      exact ⟨fun h z => z.elim (fun q => e q.symm) h, fun h z => h (.inr z)⟩
theorem has_get (t : Tree) (p : Path) : Tree.has t p = (Tree.get t p).isSome := by
  induction t with
  | nil => rfl
  | cons f t ih =>
    rw [get_cons]
    show (decide (f.path = p) || Tree.has t p) = _
    rw [ih]
    by_cases e : f.path = p
    · rw [if_pos e, decide_eq_true e]; rfl
    · rw [if_neg e, decide_eq_false e]; rfl
theorem has_iff {t : Tree} {p : Path} : Tree.has t p = true ↔ p ∈ paths t := by
  rw [has_get]
  cases h : Tree.get t p with
  | none => exact ⟨fun z => (by cases z), fun z => absurd z (get_none_iff.mp h)⟩
  | some l => exact ⟨fun _ => List.mem_map.mpr ⟨_, get_mem h, rfl⟩, fun _ => rfl⟩
/-- a tree in order is told by what stands at each path -/
theorem tree_ext {t u : Tree} (ht : OrdT t) (hu : OrdT u) (h : ∀ f, f ∈ t ↔ f ∈ u) : t = u :=
  strict_ext (r := fun f g : File => lessPath f.path g.path = true) (fun a b => less_asym _ _) ht hu h
theorem get_perm {t u : Tree} (nd : (paths t).Nodup) (h : t.Perm u) (p : Path) : Tree.get t p = Tree.get u p := by
  have nu : (paths u).Nodup := ((h.map fun f : File => f.path).nodup_iff).mp nd
  cases e : Tree.get t p with
  | none =>
    have := get_none_iff.mp e
    refine (get_none_iff.mpr fun z => this ?_).symm
    exact ((h.map fun f : File => f.path).mem_iff).mpr z
  | some l => exact (mem_get nu (h.mem_iff.mp (get_mem e))).symm
theorem put_mem {t : Tree} (ht : OrdT t) (f : File) (g : File) : g ∈ Tree.put t f ↔ g = f ∨ (g ∈ t ∧ ¬ g.path = f.path) := by
  induction t with
  | nil =>
    show g ∈ [f] ↔ _
    simp
  | cons h r ih =>
    have h1 := List.pairwise_cons.mp ht
    unfold Tree.put
    by_cases e : f.path = h.path
    · rw [if_pos e, List.mem_cons, List.mem_cons]
      constructor
      · rintro (z | z)
        · exact .inl z
        · exact .inr ⟨.inr z, fun q => less_ne (h1.1 g z) (e.symm.trans q.symm)⟩
      · rintro (z | ⟨z | z, q⟩)
        · exact .inl z
        · rw [z] at q
          exact absurd e.symm q
        · exact .inr z
    · rw [if_neg e]
      by_cases k : lessPath f.path h.path = true
      · rw [if_pos k, List.mem_cons]
        constructor
        · rintro (z | z)
          · exact .inl z
          · refine .inr ⟨z, fun q => ?_⟩
            rcases List.mem_cons.mp z with w | w
            · rw [w] at q
              exact e q.symm
            · have := less_trans _ _ _ k (h1.1 g w)
              exact less_ne this q.symm
        · rintro (z | ⟨z, _⟩)
          · exact .inl z
          · exact .inr z
      · rw [if_neg k, List.mem_cons, ih h1.2, List.mem_cons]
        constructor
        · rintro (z | z | ⟨z, q⟩)
          · exact .inr ⟨.inl z, fun q => e (by rw [← z, q])⟩
          · exact .inl z
          · exact .inr ⟨.inr z, q⟩
        · rintro (z | ⟨z | z, q⟩)
          · exact .inr (.inl z)
          · exact .inl z
          · exact .inr (.inr ⟨z, q⟩)
theorem put_ord : ∀ {t : Tree} (ht : OrdT t) (f : File), OrdT (Tree.put t f)
  | [], _, _ => List.pairwise_singleton _ _
  | h :: r, ht, f => by
    have h1 := List.pairwise_cons.mp ht
    unfold Tree.put
    by_cases e : f.path = h.path
    · rw [if_pos e]
      refine List.pairwise_cons.mpr ⟨fun g hg => ?_, h1.2⟩
      rw [e]; exact h1.1 g hg
    · rw [if_neg e]
      by_cases k : lessPath f.path h.path = true
      · rw [if_pos k]
        refine List.pairwise_cons.mpr ⟨fun g hg => ?_, ht⟩
        rcases List.mem_cons.mp hg with z | z
        · rw [z]; exact k
        · exact less_trans _ _ _ k (h1.1 g z)
      · rw [if_neg k]
        have k2 : lessPath h.path f.path = true := by
          rcases less_tri f.path h.path with z | z | z
          · exact absurd z k
          · exact absurd z e
          · exact z
        refine List.pairwise_cons.mpr ⟨fun g hg => ?_, put_ord h1.2 f⟩
        rcases (put_mem h1.2 f g).mp hg with z | ⟨z, _⟩
        · rw [z]; exact k2
        · exact h1.1 g z
theorem ordT_nodup {t : Tree} (h : OrdT t) : t.Nodup := List.Pairwise.imp (fun {a b} z e => by
  have h2 : lessPath a.path b.path = true := z
  rw [e, less_irr] at h2; cases h2) h
/-- the file put behind what's left is the tree with it put -/
theorem put_perm {t : Tree} (ht : OrdT t) (f : File) : (Tree.drop t f.path ++ [f]).Perm (Tree.put t f) := by
  have nd : (Tree.drop t f.path ++ [f]).Nodup := by
    refine List.nodup_append.mpr ⟨(ordT_nodup ht).filter _, by simp, fun a ha b hb e => ?_⟩
    rw [List.mem_singleton.mp hb] at e
    have := (List.mem_filter.mp ha).2
    rw [e, decide_eq_true rfl] at this
    cases this
  refine (List.perm_ext_iff_of_nodup nd (ordT_nodup (put_ord ht f))).mpr fun g => ?_
  rw [put_mem ht, List.mem_append, List.mem_singleton]
  unfold Tree.drop
  rw [List.mem_filter]
  constructor
  · rintro (⟨z, q⟩ | z)
    · refine .inr ⟨z, fun e => ?_⟩
      rw [decide_eq_true e] at q; cases q
    · exact .inl z
  · rintro (z | ⟨z, q⟩)
    · exact .inr z
    · exact .inl ⟨z, by rw [decide_eq_false q]; rfl⟩
theorem drop_ord {t : Tree} (h : OrdT t) (p : Path) : OrdT (Tree.drop t p) := List.Pairwise.filter _ h
theorem drop_none : ∀ {t : Tree} {p : Path}, Tree.has t p = false → Tree.drop t p = t
  | [], _, _ => rfl
  | f :: t, p, h => by
    have h' : (decide (f.path = p) || Tree.has t p) = false := h
    rw [Bool.or_eq_false_iff] at h'
    unfold Tree.drop
    rw [List.filter_cons, if_pos (by rw [h'.1]; rfl)]
    exact congrArg _ (drop_none h'.2)
theorem drop_len : ∀ {t : Tree} {p : Path}, OrdT t → Tree.has t p = true → (Tree.drop t p).length + 1 = t.length
  | [], _, _, h => by cases h
  | f :: t, p, ho, h => by
    have h1 := List.pairwise_cons.mp ho
    have h' : (decide (f.path = p) || Tree.has t p) = true := h
    unfold Tree.drop
    rw [List.filter_cons]
    by_cases e : f.path = p
    · rw [if_neg (by rw [decide_eq_true e]; decide)]
      have hn : Tree.has t p = false := by
        cases q : Tree.has t p with
        | false => rfl
        | true =>
          obtain ⟨g, hg, eg⟩ := List.mem_map.mp (has_iff.mp q)
          exact absurd (e.trans eg.symm) (less_ne (h1.1 g hg))
      have := drop_none hn
      unfold Tree.drop at this
      rw [this]; rfl
    · rw [decide_eq_false e, Bool.false_or] at h'
      rw [if_pos (by rw [decide_eq_false e]; rfl), List.length_cons, List.length_cons]
      have := drop_len h1.2 h'
      unfold Tree.drop at this
      omega
theorem put_len {t : Tree} (ht : OrdT t) (f : File) : (Tree.put t f).length = if Tree.has t f.path = true then t.length else t.length + 1 := by
  rw [← (put_perm ht f).length_eq, List.length_append, List.length_singleton]
  by_cases h : Tree.has t f.path = true
  · rw [if_pos h, drop_len ht h]
  · rw [if_neg h, drop_none (by simpa using h)]

/-! (3) merging -/
/-- what a fate tells: how many conflicts; and where there are none what becomes of the path -/
def fN (f : Fate) : Nat := Vamrqc.conflictsIn f
def fL (f : Fate) : Option Lines := match f with
  | .clean l => l
  | _ => none
theorem conf_zero {f : Fate} (h : Vamrqc.conflictsIn f = 0) (hf : ∀ rs, f = .text rs → 0 < nConf rs) : f = .clean (fL f) := by
  cases f with
  | clean l => rfl
  | text rs =>
    have := hf rs rfl
    have h2 : nConf rs = 0 := h
    omega
  | bothAdded o t => cases h
  | deleted b o t => cases h
theorem fateOf_match {b o t : Option Lines} (h1 : ¬ o = t) (h2 : ¬ t = b) (h3 : ¬ o = b) : fateOf b o t = match b, o, t with
    | some x, some y, some z => (match Vamrqc.joined (Vamrqc.regions x y z) with
      | some l => Fate.clean (some l)
      | none => Fate.text (Vamrqc.regions x y z))
    | none, some y, some z => .bothAdded y z
    | some x, y, z => .deleted x y z
    | none, _, _ => .clean none := by
  unfold fateOf
  rw [if_neg h1, if_neg h2, if_neg h3]
  cases b <;> cases o <;> cases t <;> rfl
theorem fateOf_text {b o t : Option Lines} {rs : List Vamrqc.Region} (h : fateOf b o t = .text rs) : 0 < nConf rs := by
  by_cases h1 : o = t
  · unfold fateOf at h
    rw [if_pos h1] at h; cases h
  · by_cases h2 : t = b
    · unfold fateOf at h
      rw [if_neg h1, if_pos h2] at h; cases h
    · by_cases h3 : o = b
      · unfold fateOf at h
        rw [if_neg h1, if_neg h2, if_pos h3] at h; cases h
      · rw [fateOf_match h1 h2 h3] at h
        cases b with
        | none =>
          cases o <;> cases t <;> cases h
        | some x =>
          cases o with
          | none => cases h
          | some y =>
            cases t with
            | none => cases h
            | some z =>
              have h' : (match Vamrqc.joined (Vamrqc.regions x y z) with
                | some l => Fate.clean (some l)
                | none => Fate.text (Vamrqc.regions x y z)) = .text rs := h
              cases q : Vamrqc.joined (Vamrqc.regions x y z) with
              | some l => rw [q] at h'; cases h'
              | none =>
                rw [q] at h'
                have e : Vamrqc.regions x y z = rs := Fate.text.inj h'
                rw [← e]
                exact (joined_conf _).mp q
theorem fateOf_zero {b o t : Option Lines} (h : Vamrqc.conflictsIn (fateOf b o t) = 0) : fateOf b o t = .clean (fL (fateOf b o t)) :=
  conf_zero h fun _ e => fateOf_text e
/-- the fate by what the code asks, one thing after the other -/
theorem fate_settled {b o t : Option Lines} (h : isSet b o t = true) : fateOf b o t = .clean (setl b o t) := by
  unfold fateOf setl
  by_cases h1 : o = t
  · rw [if_pos h1, h1]
    split <;> rfl
  · rw [if_neg h1]
    by_cases h2 : t = b
    · rw [if_pos h2]
      by_cases h3 : o = b
      · exact absurd (h3.trans h2.symm) h1
      · rw [if_neg h3]
    · rw [if_neg h2]
      by_cases h3 : o = b
      · rw [if_pos h3, if_pos h3]
      · unfold isSet at h
        rw [decide_eq_false h1, decide_eq_false h2, decide_eq_false h3] at h
        cases h
theorem unset_ne {α : Type} [DecidableEq α] {b o t : α} (h : isSet b o t = false) : ¬ o = t ∧ ¬ t = b ∧ ¬ o = b := by
  unfold isSet at h
  rw [Bool.or_eq_false_iff, Bool.or_eq_false_iff, decide_eq_false_iff_not, decide_eq_false_iff_not, decide_eq_false_iff_not] at h
  exact h
theorem fate_gone {b o t : Option Lines} (h : isSet b o t = false) (hn : b = none ∨ o = none ∨ t = none) : Vamrqc.conflictsIn (fateOf b o t) = 1 := by
  obtain ⟨h1, h2, h3⟩ := unset_ne h
  unfold fateOf
  rw [if_neg h1, if_neg h2, if_neg h3]
  cases b with
  | none =>
    cases o with
    | none => exact absurd rfl h3
    | some y =>
      cases t with
      | none => exact absurd rfl h2
      | some z => rfl
  | some x =>
    cases o with
    | none => rfl
    | some y =>
      cases t with
      | none => rfl
      | some z => rcases hn with q | q | q <;> cases q
theorem fate_three {x y z : Lines} (h : isSet (some x) (some y) (some z) = false) {ys : List Sid} (e : ys.map spn = Vamrqc.allSpans x y z) :
    Vamrqc.conflictsIn (fateOf (some x) (some y) (some z)) = (mg x ys).conf ∧ ((mg x ys).conf = 0 → fateOf (some x) (some y) (some z) = .clean (some ((mg x ys).text ++ x.drop (mg x ys).at_))) := by
  obtain ⟨h1, h2, h3⟩ := unset_ne h
  obtain ⟨m1, m2⟩ := mg_spec e
  have e0 : fateOf (some x) (some y) (some z) = match Vamrqc.joined (Vamrqc.regions x y z) with
      | some l => Fate.clean (some l)
      | none => Fate.text (Vamrqc.regions x y z) := fateOf_match h1 h2 h3
  rw [e0]
  cases q : Vamrqc.joined (Vamrqc.regions x y z) with
  | none =>
    refine ⟨m1.symm, fun c => ?_⟩
    rw [m2 c] at q; cases q
  | some l =>
    have nz : ¬ 0 < nConf (Vamrqc.regions x y z) := fun c => by
      rw [(joined_conf _).mpr c] at q; cases q
    have mz : (mg x ys).conf = 0 := by omega
    refine ⟨mz.symm, fun c => ?_⟩
    rw [m2 c] at q
    rw [← Option.some.inj q]
/-- the conflicts of all paths, and the files where there are none -/
def mPaths (b o t : Tree) : List Path := Vamrqc.pathsOf b o t
def fateAt (b o t : Tree) (p : Path) : Fate := fateOf (Tree.get b p) (Tree.get o p) (Tree.get t p)
def nAt (b o t : Tree) (p : Path) : Nat := Vamrqc.conflictsIn (fateAt b o t p)
def filesAt (b o t : Tree) (ps : List Path) : Tree := ps.filterMap fun p => (fL (fateAt b o t p)).map fun l => (⟨p, l⟩ : File)
theorem conflicts_eq (b o t : Tree) : Vamrqc.conflicts b o t = ((mPaths b o t).map (nAt b o t)).sum := by
  unfold Vamrqc.conflicts Vamrqc.fates
  rw [List.map_map]
  rfl
theorem sum_zero : ∀ {l : List Nat}, l.sum = 0 → ∀ n ∈ l, n = 0
  | [], _, n, h => by cases h
  | a :: l, e, n, h => by
    rw [List.sum_cons] at e
    rcases List.mem_cons.mp h with q | q
    · omega
    · exact sum_zero (by omega) n q
theorem filesOf_clean (b o t : Tree) : ∀ (ps : List Path), (∀ p ∈ ps, nAt b o t p = 0) → Vamrqc.filesOf (ps.map fun p => (p, fateAt b o t p)) [] = filesAt b o t ps
  | [], _ => rfl
  | p :: ps, h => by
    have e := fateOf_zero (h p (List.mem_cons_self ..))
    have e' : fateAt b o t p = .clean (fL (fateAt b o t p)) := e
    have ih := filesOf_clean b o t ps fun q hq => h q (List.mem_cons_of_mem _ hq)
    rw [List.map_cons]
    unfold filesAt
    rw [List.filterMap_cons]
    show (match (Vamrqc.settled (fateAt b o t p) []).1 with
      | some m => (⟨p, m⟩ : File) :: Vamrqc.filesOf (ps.map fun p => (p, fateAt b o t p)) (Vamrqc.settled (fateAt b o t p) []).2
      | none => Vamrqc.filesOf (ps.map fun p => (p, fateAt b o t p)) (Vamrqc.settled (fateAt b o t p) []).2) = _
    have s1 : Vamrqc.settled (fateAt b o t p) [] = (fL (fateAt b o t p), []) := by
      rw [e']; rfl
    rw [s1]
    show (match fL (fateAt b o t p) with
      | some m => (⟨p, m⟩ : File) :: Vamrqc.filesOf (ps.map fun p => (p, fateAt b o t p)) []
      | none => Vamrqc.filesOf (ps.map fun p => (p, fateAt b o t p)) []) = _
    rw [ih]
    cases fL (fateAt b o t p) <;> rfl
theorem filesAt_ord (b o t : Tree) {ps : List Path} (h : Ord ps) : OrdT (filesAt b o t ps) := by
  unfold filesAt OrdT
  refine List.Pairwise.filterMap _ ?_ h
  intro p q hpq f hf g hg
  cases e1 : fL (fateAt b o t p) with
  | none => rw [e1] at hf; cases hf
  | some l =>
    cases e2 : fL (fateAt b o t q) with
    | none => rw [e2] at hg; cases hg
    | some m =>
      rw [e1] at hf; rw [e2] at hg
      cases hf; cases hg
      exact hpq
theorem mPaths_ord (b o t : Tree) : Ord (mPaths b o t) := foldPath_ord _
theorem mPaths_mem (b o t : Tree) (p : Path) : p ∈ mPaths b o t ↔ p ∈ paths b ∨ p ∈ paths o ∨ p ∈ paths t := by
  show p ∈ ((b ++ (o ++ t)).map fun f => f.path).foldr putPath [] ↔ _
  rw [foldPath_mem, List.map_append, List.map_append, List.mem_append, List.mem_append]
  rfl
/-- why files are no tree -/
def whyNo (l : Tree) : Nat := if (l.any fun f => l.any fun g => folderOf f.path g.path) = true then 4 else if 12 < l.length then 5 else if (l.any fun f => decide (40 < f.lines.length)) = true then 6 else 0
theorem find_any {α : Type} (p : α → Bool) (l : List α) : (l.find? p = none ↔ l.any p = false) := by
  rw [List.find?_eq_none, List.any_eq_false]
def unfit2 (l : Tree) : Option Vamrqc.Unfit := if Vamrqa.FILES < l.length then some ⟨5, []⟩ else (l.find? fun f => decide (Vamrqa.LINES < f.lines.length)).map fun f => ⟨6, f.path⟩
def why2 (l : Tree) : Nat := if 12 < l.length then 5 else if (l.any fun f => decide (40 < f.lines.length)) = true then 6 else 0
theorem unfit2_why (l : Tree) : (unfit2 l = none ↔ why2 l = 0) ∧ ∀ x, unfit2 l = some x → x.why = why2 l := by
  unfold unfit2 why2
  by_cases k : 12 < l.length
  · rw [if_pos (show Vamrqa.FILES < l.length from k), if_pos k]
    refine ⟨⟨fun z => (by cases z), fun z => (by cases z)⟩, fun x hx => ?_⟩
    cases hx; rfl
  · rw [if_neg (show ¬ Vamrqa.FILES < l.length from k), if_neg k]
    cases e2 : l.find? fun f => decide (Vamrqa.LINES < f.lines.length) with
    | some f =>
      have h : (l.any fun f => decide (40 < f.lines.length)) = true := by
        cases q : (l.any fun f => decide (40 < f.lines.length)) with
        | true => rfl
        | false =>
          have := (find_any (fun f : File => decide (40 < f.lines.length)) l).mpr q
          have e2' : (l.find? fun f => decide (40 < f.lines.length)) = some f := e2
          rw [this] at e2'; cases e2'
      rw [if_pos h]
      refine ⟨⟨fun z => (by cases z), fun z => (by cases z)⟩, fun x hx => ?_⟩
      cases hx; rfl
    | none =>
      have h := (find_any (fun f : File => decide (40 < f.lines.length)) l).mp e2
      rw [if_neg (by rw [h]; decide)]
      exact ⟨⟨fun _ => rfl, fun _ => rfl⟩, fun x hx => (by cases hx)⟩
theorem unfit_eq (l : Tree) : Vamrqc.unfit l = match l.find? fun f => l.any fun g => folderOf f.path g.path with
    | some f => some ⟨4, f.path⟩
    | none => unfit2 l := rfl
theorem unfit_why (l : Tree) : (Vamrqc.unfit l = none ↔ whyNo l = 0) ∧ ∀ x, Vamrqc.unfit l = some x → x.why = whyNo l := by
  have e0 : whyNo l = if (l.any fun f => l.any fun g => folderOf f.path g.path) = true then 4 else why2 l := rfl
  rw [unfit_eq, e0]
  cases e : l.find? fun f => l.any fun g => folderOf f.path g.path with
  | some f =>
    have h : (l.any fun f => l.any fun g => folderOf f.path g.path) = true := by
      cases q : (l.any fun f => l.any fun g => folderOf f.path g.path) with
      | true => rfl
      | false => rw [(find_any _ _).mpr q] at e; cases e
    rw [if_pos h]
    refine ⟨⟨fun z => (by cases z), fun z => (by cases z)⟩, fun x hx => ?_⟩
    cases hx; rfl
  | none =>
    have h := (find_any _ _).mp e
    rw [h]
    exact unfit2_why l
/-- **the merge**, as the code asks for it -/
inductive Out where
  | conf (n : Nat)
  | no (why : Nat)
  | tree (t : Tree)
def outOf : Merged → Out
  | .tree t => .tree t
  | .conflicts n => .conf n
  | .unfit x => .no x.why
def mergeC (b o t : Tree) : Out :=
  if 0 < ((mPaths b o t).map (nAt b o t)).sum then .conf ((mPaths b o t).map (nAt b o t)).sum
  else if whyNo (filesAt b o t (mPaths b o t)) ≠ 0 then .no (whyNo (filesAt b o t (mPaths b o t))) else .tree (filesAt b o t (mPaths b o t))
theorem mergeC_eq (b o t : Tree) : outOf (Vamrqc.merge b o t) = mergeC b o t := by
  show outOf (if Vamrqc.conflicts b o t = 0 then Vamrqc.asTree (Vamrqc.filesOf (Vamrqc.fates b o t) []) else .conflicts (Vamrqc.conflicts b o t)) = _
  unfold mergeC
  rw [conflicts_eq]
  by_cases h : ((mPaths b o t).map (nAt b o t)).sum = 0
  · rw [if_pos h, if_neg (by omega)]
    have e : Vamrqc.filesOf (Vamrqc.fates b o t) [] = filesAt b o t (mPaths b o t) :=
      filesOf_clean b o t (mPaths b o t) fun p hp => sum_zero h _ (List.mem_map.mpr ⟨p, hp, rfl⟩)
    rw [e]
    unfold Vamrqc.asTree
    obtain ⟨u1, u2⟩ := unfit_why (filesAt b o t (mPaths b o t))
    cases q : Vamrqc.unfit (filesAt b o t (mPaths b o t)) with
    | none => rw [if_neg (by rw [u1.mp q]; exact fun z => z rfl)]; rfl
    | some x =>
      have w := u2 x q
      have nz : whyNo (filesAt b o t (mPaths b o t)) ≠ 0 := fun z => by
        rw [u1.mpr z] at q; cases q
      rw [if_pos nz, ← w]; rfl
  · rw [if_neg h, if_pos (by omega)]; rfl
theorem merge_tree {b o t u : Tree} (h : mergeC b o t = .tree u) : Vamrqc.merge b o t = .tree u := by
  rw [← mergeC_eq] at h
  cases e : Vamrqc.merge b o t with
  | tree v => rw [e] at h; rw [Out.tree.inj h]
  | conflicts n => rw [e] at h; cases h
  | unfit x => rw [e] at h; cases h
theorem merge_stop {b o t : Tree} (k : Nat) : (∀ n, mergeC b o t = .conf n → (∀ u, Vamrqc.merge b o t ≠ .tree u) ∧ Vamrqd.stopTold k (Vamrqc.merge b o t) = [1, (k : Int), (n : Int)]) ∧
    (∀ n, mergeC b o t = .no n → (∀ u, Vamrqc.merge b o t ≠ .tree u) ∧ Vamrqd.stopTold k (Vamrqc.merge b o t) = [2, (k : Int), (n : Int)]) := by
  rw [← mergeC_eq]
  cases e : Vamrqc.merge b o t with
  | tree v => exact ⟨fun n h => (by cases h), fun n h => (by cases h)⟩
  | conflicts m =>
    refine ⟨fun n h => ?_, fun n h => (by cases h)⟩
    have : m = n := Out.conf.inj h
    subst this
    exact ⟨fun u z => (by cases z), rfl⟩
  | unfit x =>
    refine ⟨fun n h => (by cases h), fun n h => ?_⟩
    have : x.why = n := Out.no.inj h
    subst this
    exact ⟨fun u z => (by cases z), rfl⟩
/-- a tree as the document has it: in order, at most 12 files, at most 40 lines each, no folder among them -/
structure Good (t : Tree) : Prop where
  ord : OrdT t
  few : t.length ≤ 12
  short : ∀ f ∈ t, f.lines.length ≤ 40
  apart : ∀ f ∈ t, ∀ g ∈ t, folderOf f.path g.path = false
  len : ∀ f ∈ t, f.path.length ≤ 40
  full : ∀ f ∈ t, f.path ≠ []
theorem good_nil : Good [] := ⟨List.Pairwise.nil, by decide, fun f h => (by cases h), fun f h => (by cases h), fun f h => (by cases h), fun f h => (by cases h)⟩
theorem merge_good {b o t u : Tree} (hb : Good b) (ho : Good o) (ht : Good t) (h : mergeC b o t = .tree u) : Good u := by
  unfold mergeC at h
  by_cases h1 : 0 < ((mPaths b o t).map (nAt b o t)).sum
  · rw [if_pos h1] at h; cases h
  · rw [if_neg h1] at h
    by_cases h2 : whyNo (filesAt b o t (mPaths b o t)) ≠ 0
    · rw [if_pos h2] at h; cases h
    · rw [if_neg h2] at h
      have e : filesAt b o t (mPaths b o t) = u := Out.tree.inj h
      rw [e] at h2
      have hw : whyNo u = 0 := Decidable.not_not.mp h2
      unfold whyNo at hw
      by_cases c1 : (u.any fun f => u.any fun g => folderOf f.path g.path) = true
      · rw [if_pos c1] at hw; cases hw
      · rw [if_neg c1] at hw
        by_cases c2 : 12 < u.length
        · rw [if_pos c2] at hw; cases hw
        · rw [if_neg c2] at hw
          by_cases c3 : (u.any fun f => decide (40 < f.lines.length)) = true
          · rw [if_pos c3] at hw; cases hw
          · have from_ : ∀ f ∈ u, f.path ∈ paths b ∨ f.path ∈ paths o ∨ f.path ∈ paths t := fun f hf => by
              rw [← e] at hf
              unfold filesAt at hf
              obtain ⟨p, hp, ep⟩ := List.mem_filterMap.mp hf
              have e3 : f.path = p := by
                cases q : fL (fateAt b o t p) with
                | none => rw [q] at ep; cases ep
                | some l => rw [q] at ep; cases ep; rfl
              rw [e3]
              exact (mPaths_mem b o t p).mp hp
            refine ⟨?_, by omega, fun f hf => ?_, fun f hf g hg => ?_, fun f hf => ?_, fun f hf => ?_⟩
            · rw [← e]; exact filesAt_ord b o t (mPaths_ord b o t)
            · refine Nat.le_of_not_lt fun q => c3 ?_
              exact List.any_eq_true.mpr ⟨f, hf, decide_eq_true q⟩
            · have c1' : (u.any fun f => u.any fun g => folderOf f.path g.path) = false := by simpa using c1
              have := List.any_eq_false.mp c1' f hf
              have t2 : (u.any fun g => folderOf f.path g.path) = false := by simpa using this
              have := List.any_eq_false.mp t2 g hg
              simpa using this
            · rcases from_ f hf with z | z | z
              · obtain ⟨g, hg, eg⟩ := List.mem_map.mp z
                rw [← eg]; exact hb.len g hg
              · obtain ⟨g, hg, eg⟩ := List.mem_map.mp z
                rw [← eg]; exact ho.len g hg
              · obtain ⟨g, hg, eg⟩ := List.mem_map.mp z
                rw [← eg]; exact ht.len g hg
            · rcases from_ f hf with z | z | z
              · obtain ⟨g, hg, eg⟩ := List.mem_map.mp z
                rw [← eg]; exact hb.full g hg
              · obtain ⟨g, hg, eg⟩ := List.mem_map.mp z
                rw [← eg]; exact ho.full g hg
              · obtain ⟨g, hg, eg⟩ := List.mem_map.mp z
                rw [← eg]; exact ht.full g hg
end Cs
-- CsForm
/-! The one form of a change: mathematics. -/
namespace Cs
open Vamrqa
theorem alike_nil_left (m : Lines) : alikeFront [] m = 0 := rfl
theorem alike_nil_right : ∀ l : Lines, alikeFront l [] = 0
  | [] => rfl
  | _ :: _ => rfl
theorem alike_cons (a b : Nat) (l m : Lines) : alikeFront (a :: l) (b :: m) = if a = b then alikeFront l m + 1 else 0 := rfl
theorem alike_le : ∀ l m : Lines, alikeFront l m ≤ l.length ∧ alikeFront l m ≤ m.length
  | [], m => ⟨Nat.zero_le _, Nat.zero_le _⟩
  | a :: l, [] => ⟨Nat.zero_le _, Nat.zero_le _⟩
  | a :: l, b :: m => by
    have h := alike_le l m
    rw [alike_cons, List.length_cons, List.length_cons]
    by_cases e : a = b
    · rw [if_pos e]; omega
    · rw [if_neg e]; omega
theorem alike_take : ∀ l m : Lines, l.take (alikeFront l m) = m.take (alikeFront l m)
  | [], m => by rw [alike_nil_left, List.take_zero, List.take_zero]
  | a :: l, [] => by rw [alike_nil_right, List.take_zero, List.take_zero]
  | a :: l, b :: m => by
    rw [alike_cons]
    by_cases e : a = b
    · rw [if_pos e, List.take_succ_cons, List.take_succ_cons, alike_take l m, e]
    · rw [if_neg e, List.take_zero, List.take_zero]
/-- the walk from the front -/
theorem alike_on {l m : Lines} {c : Nat} (h : alikeFront l m = c + alikeFront (l.drop c) (m.drop c)) (hl : c < l.length) (hm : c < m.length) (e : l.getD c 0 = m.getD c 0) : alikeFront l m = (c + 1) + alikeFront (l.drop (c + 1)) (m.drop (c + 1)) := by
  rw [List.getD_eq_getElem?_getD, List.getD_eq_getElem?_getD, List.getElem?_eq_getElem hl, List.getElem?_eq_getElem hm] at e
  have e : l[c] = m[c] := e
  rw [List.drop_eq_getElem_cons hl, List.drop_eq_getElem_cons hm, alike_cons, if_pos e] at h
  omega
theorem alike_off {l m : Lines} {c : Nat} (h : alikeFront l m = c + alikeFront (l.drop c) (m.drop c)) (g : ¬ (c < l.length ∧ c < m.length ∧ l.getD c 0 = m.getD c 0)) : alikeFront l m = c := by
  by_cases hl : c < l.length
  · by_cases hm : c < m.length
    · have e : ¬ l[c] = m[c] := fun e => g ⟨hl, hm, by
        rw [List.getD_eq_getElem?_getD, List.getD_eq_getElem?_getD, List.getElem?_eq_getElem hl, List.getElem?_eq_getElem hm]; exact e⟩
      rw [List.drop_eq_getElem_cons hl, List.drop_eq_getElem_cons hm, alike_cons, if_neg e] at h
      omega
    · rw [List.drop_eq_nil_of_le (Nat.le_of_not_lt hm), alike_nil_right] at h; omega
  · rw [List.drop_eq_nil_of_le (Nat.le_of_not_lt hl), alike_nil_left] at h; omega
/-- from the end -/
theorem alike_back (l m : Lines) : l.drop (l.length - alikeFront l.reverse m.reverse) = m.drop (m.length - alikeFront l.reverse m.reverse) := by
  have h := alike_take l.reverse m.reverse
  rw [List.take_reverse, List.take_reverse] at h
  exact List.reverse_inj.mp h
theorem hunk_ends (l m : Lines) : ∃ a o n z : Lines, l = a ++ (o ++ z) ∧ m = a ++ (n ++ z) ∧ ∀ p, hunkOf p l m = .hunk p a.length o n := by
  have h1 := alike_take l m
  have h2 := alike_back (l.drop (alikeFront l m)) (m.drop (alikeFront l m))
  have k1 := (alike_le l m)
  refine ⟨l.take (alikeFront l m), (l.drop (alikeFront l m)).take ((l.drop (alikeFront l m)).length - alikeFront (l.drop (alikeFront l m)).reverse (m.drop (alikeFront l m)).reverse),
    (m.drop (alikeFront l m)).take ((m.drop (alikeFront l m)).length - alikeFront (l.drop (alikeFront l m)).reverse (m.drop (alikeFront l m)).reverse),
    (l.drop (alikeFront l m)).drop ((l.drop (alikeFront l m)).length - alikeFront (l.drop (alikeFront l m)).reverse (m.drop (alikeFront l m)).reverse), ?_, ?_, fun p => ?_⟩
  · rw [List.take_append_drop, List.take_append_drop]
  · rw [h2, h1, List.take_append_drop, List.take_append_drop]
  · have e : (l.take (alikeFront l m)).length = alikeFront l m := by rw [List.length_take]; omega
    rw [e]; rfl
theorem hunk_stands (a o z : Lines) : standsAt (a ++ (o ++ z)) o a.length = true := by
  unfold standsAt
  rw [List.drop_left, List.take_left, List.length_append, List.length_append, Bool.and_eq_true, decide_eq_true_eq, decide_eq_true_eq]
  exact ⟨by omega, rfl⟩
theorem hunk_done (a o n z : Lines) : replaced (a ++ (o ++ z)) a.length o.length n = a ++ (n ++ z) := by
  unfold replaced
  have e : (a ++ (o ++ z)).drop (a.length + o.length) = z := by
    rw [← List.append_assoc, ← List.length_append, List.drop_left]
  rw [List.take_left, e]
/-- an edit's path -/
def pathE : Edit → Path
  | .add p _ => p
  | .del p _ => p
  | .move p _ => p
  | .hunk p _ _ _ => p
/-- an edit that fits the way from a tree to another -/
def Right (t u : Tree) : Edit → Prop
  | .add p l => Tree.get t p = none ∧ Tree.get u p = some l
  | .del p l => Tree.get t p = some l ∧ Tree.get u p = none
  | .move _ _ => False
  | .hunk p i o n => ∃ l m, Tree.get t p = some l ∧ Tree.get u p = some m ∧ hunkOf p l m = .hunk p i o n
theorem gone_right {t u : Tree} (ht : OrdT t) {e : Edit} (h : e ∈ gone t u) : Right t u e ∧ (∃ p l, e = .del p l) ∧ pathE e ∈ paths t ∧ pathE e ∉ paths u := by
  obtain ⟨f, hf, rfl⟩ := List.mem_map.mp h
  obtain ⟨h1, h2⟩ := List.mem_filter.mp hf
  have h3 : Tree.has u f.path = false := by simpa using h2
  have h4 : Tree.get u f.path = none := by
    have := has_get u f.path
    rw [h3] at this
    cases e : Tree.get u f.path with
    | none => rfl
    | some l => rw [e] at this; cases this
  exact ⟨⟨mem_get (ordT_nd ht) h1, h4⟩, ⟨_, _, rfl⟩, List.mem_map_of_mem h1, get_none_iff.mp h4⟩
theorem changed_right {t u : Tree} (ht : OrdT t) {e : Edit} (h : e ∈ changedIn t u) : Right t u e ∧ (∃ p i o n, e = .hunk p i o n) ∧ pathE e ∈ paths t ∧ pathE e ∈ paths u := by
  obtain ⟨f, hf, e1⟩ := List.mem_filterMap.mp h
  cases e2 : Tree.get u f.path with
  | none => rw [e2] at e1; cases e1
  | some m =>
    rw [e2] at e1
    have e1 : (if f.lines = m then none else some (hunkOf f.path f.lines m)) = some e := e1
    by_cases c : f.lines = m
    · rw [if_pos c] at e1; cases e1
    · rw [if_neg c] at e1
      have e1 : hunkOf f.path f.lines m = e := Option.some.inj e1
      subst e1
      refine ⟨⟨f.lines, m, mem_get (ordT_nd ht) hf, e2, rfl⟩, ⟨_, _, _, _, rfl⟩, List.mem_map_of_mem hf, List.mem_map.mpr ⟨_, get_mem e2, rfl⟩⟩
theorem come_right {t u : Tree} (hu : OrdT u) {e : Edit} (h : e ∈ come t u) : Right t u e ∧ (∃ p l, e = .add p l) ∧ pathE e ∉ paths t ∧ pathE e ∈ paths u := by
  obtain ⟨f, hf, rfl⟩ := List.mem_map.mp h
  obtain ⟨h1, h2⟩ := List.mem_filter.mp hf
  have h3 : Tree.has t f.path = false := by simpa using h2
  have h4 : Tree.get t f.path = none := by
    have := has_get t f.path
    rw [h3] at this
    cases e : Tree.get t f.path with
    | none => rfl
    | some l => rw [e] at this; cases this
  exact ⟨⟨h4, mem_get (ordT_nd hu) h1⟩, ⟨_, _, rfl⟩, get_none_iff.mp h4, List.mem_map_of_mem h1⟩
theorem form_right {t u : Tree} (ht : OrdT t) (hu : OrdT u) {e : Edit} (h : e ∈ formOf t u) : Right t u e := by
  rcases List.mem_append.mp h with h | h
  · exact (gone_right ht h).1
  · rcases List.mem_append.mp h with h | h
    · exact (changed_right ht h).1
    · exact (come_right hu h).1
theorem gone_paths (t u : Tree) : (gone t u).map pathE = paths (t.filter fun f => !u.has f.path) := by
  unfold gone paths
  rw [List.map_map]; rfl
theorem come_paths (t u : Tree) : (come t u).map pathE = paths (u.filter fun f => !t.has f.path) := by
  unfold come paths
  rw [List.map_map]; rfl
/-- a file's change -/
def chg (u : Tree) (f : File) : Option Edit := match u.get f.path with
  | some m => if f.lines = m then none else some (hunkOf f.path f.lines m)
  | none => none
theorem changed_eq (t u : Tree) : changedIn t u = t.filterMap (chg u) := rfl
theorem chg_path {u : Tree} {f : File} {x : Edit} (e : chg u f = some x) : pathE x = f.path := by
  unfold chg at e
  cases e2 : Tree.get u f.path with
  | none => rw [e2] at e; cases e
  | some m =>
    rw [e2] at e
    have e : (if f.lines = m then none else some (hunkOf f.path f.lines m)) = some x := e
    by_cases c : f.lines = m
    · rw [if_pos c] at e; cases e
    · rw [if_neg c] at e
      rw [← Option.some.inj e]; rfl
theorem changed_sub (t u : Tree) : ((changedIn t u).map pathE).Sublist (paths t) := by
  rw [changed_eq]
  unfold paths
  induction t with
  | nil => exact List.Sublist.refl _
  | cons f t ih =>
    rw [List.map_cons]
    cases e : chg u f with
    | none =>
      rw [List.filterMap_cons_none e]
      exact List.Sublist.cons _ ih
    | some x =>
      rw [List.filterMap_cons_some e, List.map_cons, chg_path e]
      exact List.Sublist.cons_cons _ ih
theorem form_nodup {t u : Tree} (ht : OrdT t) (hu : OrdT u) : ((formOf t u).map pathE).Nodup := by
  unfold formOf
  rw [List.map_append, List.map_append]
  have fo : ∀ (v : Tree) (q : File → Bool), OrdT v → (paths (v.filter q)).Nodup := fun v q hv => ordT_nd (List.Pairwise.filter _ hv)
  refine List.nodup_append.mpr ⟨?_, List.nodup_append.mpr ⟨(changed_sub t u).nodup (ordT_nd ht), ?_, ?_⟩, ?_⟩
  · rw [gone_paths]; exact fo t _ ht
  · rw [come_paths]; exact fo u _ hu
  · intro a ha b hb e
    obtain ⟨x, hx, rfl⟩ := List.mem_map.mp ha
    obtain ⟨y, hy, rfl⟩ := List.mem_map.mp hb
    exact (come_right hu hy).2.2.1 (e ▸ (changed_right ht hx).2.2.1)
  · intro a ha b hb e
    obtain ⟨x, hx, rfl⟩ := List.mem_map.mp ha
    have nu := (gone_right ht hx).2.2.2
    rcases List.mem_append.mp hb with hb | hb
    · obtain ⟨y, hy, rfl⟩ := List.mem_map.mp hb
      exact nu (e ▸ (changed_right ht hy).2.2.2)
    · obtain ⟨y, hy, rfl⟩ := List.mem_map.mp hb
      exact nu (e ▸ (come_right hu hy).2.2.2)
/-- a tree on the way: at these paths as the other, elsewhere as the one -/
structure Way (t u v : Tree) (S : List Path) : Prop where
  ord : OrdT v
  get : ∀ p, Tree.get v p = if p ∈ S then Tree.get u p else Tree.get t p
theorem get_iff {t : Tree} (h : OrdT t) {p : Path} {l : Lines} : Tree.get t p = some l ↔ (⟨p, l⟩ : File) ∈ t := ⟨get_mem, fun m => mem_get (ordT_nd h) m⟩
theorem get_ext {t : Tree} (h : OrdT t) {p : Path} {o : Option Lines} (hs : ∀ l, (⟨p, l⟩ : File) ∈ t ↔ o = some l) : Tree.get t p = o := by
  cases e : Tree.get t p with
  | some l => exact ((hs l).mp (get_mem e)).symm
  | none =>
    cases o with
    | none => rfl
    | some l => rw [mem_get (ordT_nd h) ((hs l).mpr rfl)] at e; cases e
theorem get_put {t : Tree} (h : OrdT t) (p q : Path) (l : Lines) : Tree.get (Tree.put t ⟨p, l⟩) q = if q = p then some l else Tree.get t q := by
  refine get_ext (put_ord h _) fun m => ?_
  rw [put_mem h]
  by_cases e : q = p
  · subst e
    rw [if_pos rfl]
    refine ⟨fun z => ?_, fun z => .inl ?_⟩
    · rcases z with z | z
      · cases z; rfl
      · exact absurd rfl z.2
    · cases z; rfl
  · rw [if_neg e, get_iff h]
    refine ⟨fun z => ?_, fun z => .inr ⟨z, e⟩⟩
    rcases z with z | z
    · cases z; exact absurd rfl e
    · exact z.1
theorem get_drop {t : Tree} (h : OrdT t) (p q : Path) : Tree.get (Tree.drop t p) q = if q = p then none else Tree.get t q := by
  refine get_ext (drop_ord h p) fun m => ?_
  have e1 : (⟨q, m⟩ : File) ∈ Tree.drop t p ↔ (⟨q, m⟩ : File) ∈ t ∧ ¬ q = p := by
    unfold Tree.drop
    rw [List.mem_filter]
    simp
  rw [e1]
  by_cases e : q = p
  · rw [if_pos e]
    exact ⟨fun z => absurd e z.2, fun z => by cases z⟩
  · rw [if_neg e, get_iff h]
    exact ⟨fun z => z.1, fun z => ⟨z, e⟩⟩
theorem has_of_get {t : Tree} {p : Path} : Tree.has t p = (Tree.get t p).isSome := has_get t p
theorem Way.next {t u v v' : Tree} {S : List Path} {p : Path} (h : Way t u v S) (o : OrdT v') (g : ∀ q, Tree.get v' q = if q = p then Tree.get u p else Tree.get v q) : Way t u v' (S ++ [p]) := by
  refine ⟨o, fun q => ?_⟩
  rw [g q, h.get q]
  by_cases e : q = p
  · subst e
    rw [if_pos rfl, if_pos (List.mem_append_right _ (List.mem_singleton.mpr rfl))]
  · rw [if_neg e]
    by_cases e2 : q ∈ S
    · rw [if_pos e2, if_pos (List.mem_append_left _ e2)]
    · rw [if_neg e2, if_neg fun z => (List.mem_append.mp z).elim e2 fun z => e (List.mem_singleton.mp z)]
/-- what a tree's file comes from -/
theorem Way.mem {t u v : Tree} {S : List Path} (h : Way t u v S) {f : File} (hf : f ∈ v) : f ∈ t ∨ f ∈ u := by
  have e := mem_get (ordT_nd h.ord) hf
  rw [h.get] at e
  by_cases c : f.path ∈ S
  · rw [if_pos c] at e; exact .inr (get_mem e)
  · rw [if_neg c] at e; exact .inl (get_mem e)
theorem sub_len : ∀ {l m : List Path}, l.Nodup → (∀ p ∈ l, p ∈ m) → l.length ≤ m.length
  | [], _, _, _ => Nat.zero_le _
  | p :: l, m, nd, h => by
    obtain ⟨n1, n2⟩ := List.nodup_cons.mp nd
    have hp := h p (List.mem_cons_self ..)
    have := sub_len (l := l) (m := m.erase p) n2 fun q hq => (List.mem_erase_of_ne (fun (e : q = p) => n1 (by rw [← e]; exact hq))).mpr (h q (List.mem_cons_of_mem _ hq))
    rw [List.length_erase_of_mem hp] at this
    have pos := List.length_pos_of_mem hp
    rw [List.length_cons]
    omega
theorem Way.good {t u v : Tree} {S : List Path} (h : Way t u v S) (gt : Good t) (gu : Good u) (sub : (∀ p ∈ paths v, p ∈ paths t) ∨ ∀ p ∈ paths v, p ∈ paths u) : Good v := by
  have len : ∀ w : Tree, (paths w).length = w.length := fun w => List.length_map _
  have big : ∀ w : Tree, Good w → (∀ p ∈ paths v, p ∈ paths w) → Good v := fun w gw hs => by
    have at_ : ∀ f ∈ v, ∃ g ∈ w, g.path = f.path := fun f hf => List.mem_map.mp (hs _ (List.mem_map_of_mem hf))
    refine ⟨h.ord, ?_, fun f hf => ?_, fun f hf g hg => ?_, fun f hf => ?_, fun f hf => ?_⟩
    · have := sub_len (ordT_nd h.ord) hs
      rw [len, len] at this
      exact Nat.le_trans this gw.few
    · rcases h.mem hf with z | z
      · exact gt.short f z
      · exact gu.short f z
    · obtain ⟨f', a, b⟩ := at_ f hf
      obtain ⟨g', c, d⟩ := at_ g hg
      rw [← b, ← d]; exact gw.apart f' a g' c
    · obtain ⟨f', a, b⟩ := at_ f hf
      rw [← b]; exact gw.len f' a
    · obtain ⟨f', a, b⟩ := at_ f hf
      rw [← b]; exact gw.full f' a
  rcases sub with sub | sub
  · exact big t gt sub
  · exact big u gu sub
theorem edit_ok {t u v : Tree} {S : List Path} (h : Way t u v S) (gu : Good u) {e : Edit} (r : Right t u e) (ns : pathE e ∉ S) (add : (∃ p l, e = .add p l) → ∀ p ∈ paths v, p ∈ paths u) : ∃ v', applyEdit v e = .ok v' ∧ Way t u v' (S ++ [pathE e]) := by
  have gv : Tree.get v (pathE e) = Tree.get t (pathE e) := by rw [h.get, if_neg ns]
  cases e with
  | move p q => exact r.elim
  | del p l =>
    obtain ⟨r1, r2⟩ := r
    have gv : Tree.get v p = some l := gv.trans r1
    refine ⟨Tree.drop v p, ?_, h.next (drop_ord h.ord p) fun q => ?_⟩
    · show (match Tree.get v p with
        | none => Except.error 1
        | some m => if m = l then .ok (Tree.drop v p) else .error 3) = _
      rw [gv]
      show (if l = l then _ else _) = _
      rw [if_pos rfl]
    · show Tree.get (Tree.drop v p) q = if q = p then Tree.get u p else Tree.get v q
      rw [get_drop h.ord, r2]
  | hunk p i o n =>
    obtain ⟨l, m, r1, r2, r3⟩ := r
    have hv : Tree.get v p = some l := gv.trans r1
    obtain ⟨a, o', n', z, e1, e2, e3⟩ := hunk_ends l m
    rw [e3 p] at r3
    cases r3
    have rep : replaced l a.length o.length n = m := by rw [e1, e2]; exact hunk_done a o n z
    have zm : m.length ≤ 40 := gu.short _ (get_mem r2)
    refine ⟨Tree.put v ⟨p, m⟩, ?_, h.next (put_ord h.ord _) fun q => ?_⟩
    · show (match Tree.get v p with
        | none => Except.error 1
        | some l => if standsAt l o a.length = false then .error 3 else if LINES < (replaced l a.length o.length n).length then .error 6 else .ok (Tree.put v ⟨p, replaced l a.length o.length n⟩)) = _
      rw [hv]
      show (if standsAt l o a.length = false then Except.error 3 else if LINES < (replaced l a.length o.length n).length then .error 6 else .ok (Tree.put v ⟨p, replaced l a.length o.length n⟩)) = _
      have st : standsAt l o a.length = true := by rw [e1]; exact hunk_stands a o z
      rw [st, if_neg (by decide), rep, if_neg (by show ¬ 40 < m.length; omega)]
    · show Tree.get (Tree.put v ⟨p, m⟩) q = if q = p then Tree.get u p else Tree.get v q
      rw [get_put h.ord, r2]
  | add p l =>
    obtain ⟨r1, r2⟩ := r
    have gv : Tree.get v p = none := gv.trans r1
    have hs := add ⟨p, l, rfl⟩
    have pu : p ∈ paths u := List.mem_map.mpr ⟨_, get_mem r2, rfl⟩
    refine ⟨Tree.put v ⟨p, l⟩, ?_, h.next (put_ord h.ord _) fun q => ?_⟩
    · show (if Tree.has v p = true then Except.error 2 else if Tree.clashes v p = true then .error 4 else if FILES ≤ v.length then .error 5 else .ok (Tree.put v ⟨p, l⟩)) = _
      have c1 : Tree.has v p = false := by rw [has_get, gv]; rfl
      have c2 : Tree.clashes v p = false := by
        refine List.any_eq_false.mpr fun f hf => ?_
        obtain ⟨g, hg, eg⟩ := List.mem_map.mp (hs _ (List.mem_map_of_mem hf))
        obtain ⟨k, hk, ek⟩ := List.mem_map.mp pu
        show ¬ (folderOf p f.path || folderOf f.path p) = true
        have eg : g.path = f.path := eg
        have ek : k.path = p := ek
        rw [← eg, ← ek, gu.apart k hk g hg, gu.apart g hg k hk]; decide
      have c3 : ¬ FILES ≤ v.length := by
        have nd : (p :: paths v).Nodup := List.nodup_cons.mpr ⟨get_none_iff.mp gv, ordT_nd h.ord⟩
        have := sub_len nd (m := paths u) fun q hq => by
          cases hq with
          | head => exact pu
          | tail _ hq => exact hs q hq
        have l1 : (paths v).length = v.length := List.length_map _
        have l2 : (paths u).length = u.length := List.length_map _
        rw [List.length_cons, l1, l2] at this
        have := gu.few
        show ¬ 12 ≤ v.length
        omega
      rw [c1, c2, if_neg (by decide), if_neg (by decide), if_neg c3]
    · show Tree.get (Tree.put v ⟨p, l⟩) q = if q = p then Tree.get u p else Tree.get v q
      rw [get_put h.ord, r2]
theorem from_more : ∀ (c : Change) (k : Nat) (t v v' : Tree) (e : Edit), applyFrom k t c = .ok v → applyEdit v e = .ok v' → applyFrom k t (c ++ [e]) = .ok v'
  | [], k, t, v, v', e, h, h2 => by
    cases (show (Except.ok t : Except Stop Tree) = .ok v from h)
    show (match applyEdit t e with | .ok u => applyFrom (k + 1) u [] | .error w => .error ⟨k, w⟩) = _
    rw [h2]; rfl
  | d :: c, k, t, v, v', e, h, h2 => by
    show (match applyEdit t d with | .ok u => applyFrom (k + 1) u (c ++ [e]) | .error w => .error ⟨k, w⟩) = _
    have h : (match applyEdit t d with | .ok u => applyFrom (k + 1) u c | .error w => .error ⟨k, w⟩) = .ok v := h
    cases q : applyEdit t d with
    | error w => rw [q] at h; cases h
    | ok u =>
      rw [q] at h
      exact from_more c (k + 1) u v v' e h h2
/-- some edits of the one form done -/
theorem form_way {t u : Tree} (gt : Good t) (gu : Good u) : ∀ n, n ≤ (formOf t u).length → ∃ v, applyFrom 0 t ((formOf t u).take n) = .ok v ∧ Way t u v (((formOf t u).take n).map pathE)
  | 0, _ => ⟨t, rfl, gt.ord, fun p => by rw [List.take_zero, List.map_nil, if_neg (by exact fun z => by cases z)]⟩
  | n + 1, hn => by
    obtain ⟨v, h1, h2⟩ := form_way gt gu n (by omega)
    have hn : n < (formOf t u).length := hn
    have st : (formOf t u).take (n + 1) = (formOf t u).take n ++ [(formOf t u)[n]] := by rw [List.take_succ, List.getElem?_eq_getElem hn]; rfl
    have me : (formOf t u)[n] ∈ formOf t u := List.getElem_mem hn
    have ns : pathE (formOf t u)[n] ∉ ((formOf t u).take n).map pathE := fun z => by
      have nd := form_nodup gt.ord gu.ord
      rw [← List.take_append_drop n (formOf t u), List.map_append] at nd
      refine (List.nodup_append.mp nd).2.2 _ z _ (List.mem_map_of_mem (a := (formOf t u)[n]) ?_) rfl
      rw [List.drop_eq_getElem_cons hn]; exact List.mem_cons_self ..
    obtain ⟨v', k1, k2⟩ := edit_ok h2 gu (form_right gt.ord gu.ord me) ns fun ⟨p, l, ea⟩ q hq => by
      have big : (gone t u).length ≤ n := by
        refine Nat.le_of_not_lt fun z => ?_
        have e : (formOf t u)[n] = (gone t u)[n] := List.getElem_append_left z
        obtain ⟨_, ⟨p', l', e'⟩, _⟩ := gone_right (u := u) gt.ord (List.getElem_mem z)
        rw [e, e'] at ea; cases ea
      obtain ⟨f, hf, rfl⟩ := List.mem_map.mp hq
      have e1 := mem_get (ordT_nd h2.ord) hf
      rw [h2.get] at e1
      by_cases c : f.path ∈ ((formOf t u).take n).map pathE
      · rw [if_pos c] at e1
        exact List.mem_map.mpr ⟨_, get_mem e1, rfl⟩
      · rw [if_neg c] at e1
        by_cases c2 : Tree.has u f.path = true
        · exact has_iff.mp c2
        · exfalso
          refine c (List.mem_map.mpr ⟨.del f.path f.lines, ?_, rfl⟩)
          have : (Edit.del f.path f.lines) ∈ gone t u := List.mem_map.mpr ⟨f, List.mem_filter.mpr ⟨get_mem e1, by simpa using c2⟩, rfl⟩
          unfold formOf
          rw [List.take_append, List.take_of_length_le big]
          exact List.mem_append_left _ this
    rw [st, List.map_append]
    exact ⟨v', from_more _ _ _ _ _ _ h1 k1, k2⟩
end Cs
namespace Cs
open Vamrqa
/-- .. is a tree -/
theorem form_good {t u : Tree} (gt : Good t) (gu : Good u) (n : Nat) (hn : n ≤ (formOf t u).length) : ∃ v, apply t ((formOf t u).take n) = .ok v ∧ Good v := by
  obtain ⟨v, h1, h2⟩ := form_way gt gu n hn
  refine ⟨v, h1, h2.good gt gu ?_⟩
  by_cases c : n ≤ (gone t u).length
  · refine .inl fun p hp => ?_
    obtain ⟨f, hf, rfl⟩ := List.mem_map.mp hp
    have e1 := mem_get (ordT_nd h2.ord) hf
    rw [h2.get] at e1
    by_cases c2 : f.path ∈ ((formOf t u).take n).map pathE
    · rw [if_pos c2] at e1
      exfalso
      obtain ⟨e, he, ee⟩ := List.mem_map.mp c2
      unfold formOf at he
      rw [List.take_append_of_le_length c] at he
      have := (gone_right (u := u) gt.ord (List.mem_of_mem_take he)).2.2.2
      rw [ee] at this
      exact this (List.mem_map.mpr ⟨_, get_mem e1, rfl⟩)
    · rw [if_neg c2] at e1
      exact List.mem_map.mpr ⟨_, get_mem e1, rfl⟩
  · refine .inr fun p hp => ?_
    obtain ⟨f, hf, rfl⟩ := List.mem_map.mp hp
    have e1 := mem_get (ordT_nd h2.ord) hf
    rw [h2.get] at e1
    by_cases c2 : f.path ∈ ((formOf t u).take n).map pathE
    · rw [if_pos c2] at e1
      exact List.mem_map.mpr ⟨_, get_mem e1, rfl⟩
    · rw [if_neg c2] at e1
      by_cases c3 : Tree.has u f.path = true
      · exact has_iff.mp c3
      · exfalso
        refine c2 (List.mem_map.mpr ⟨.del f.path f.lines, ?_, rfl⟩)
        have : (Edit.del f.path f.lines) ∈ gone t u := List.mem_map.mpr ⟨f, List.mem_filter.mpr ⟨get_mem e1, by simpa using c3⟩, rfl⟩
        unfold formOf
        rw [List.take_append, List.take_of_length_le (by omega)]
        exact List.mem_append_left _ this
/-- one more edit done -/
theorem from_less : ∀ (c : Change) (k : Nat) (t v : Tree) (e : Edit), applyFrom k t (c ++ [e]) = .ok v → ∃ w, applyFrom k t c = .ok w ∧ applyEdit w e = .ok v
  | [], k, t, v, e, h => by
    have h : (match applyEdit t e with | .ok u => applyFrom (k + 1) u [] | .error w => .error ⟨k, w⟩) = .ok v := h
    cases q : applyEdit t e with
    | error w => rw [q] at h; cases h
    | ok u =>
      rw [q] at h
      cases (show (Except.ok u : Except Stop Tree) = .ok v from h)
      exact ⟨t, rfl, q⟩
  | d :: c, k, t, v, e, h => by
    have h : (match applyEdit t d with | .ok u => applyFrom (k + 1) u (c ++ [e]) | .error w => .error ⟨k, w⟩) = .ok v := h
    cases q : applyEdit t d with
    | error w => rw [q] at h; cases h
    | ok u =>
      rw [q] at h
      obtain ⟨w, h1, h2⟩ := from_less c (k + 1) u v e h
      refine ⟨w, ?_, h2⟩
      show (match applyEdit t d with | .ok u => applyFrom (k + 1) u c | .error w => .error ⟨k, w⟩) = _
      rw [q]; exact h1
/-- the paths of a form, in order -/
theorem paths_one {e : Edit} (h : ∀ p q, e ≠ .move p q) : pathsOf e = [pathE e] := by
  cases e with
  | move p q => exact absurd rfl (h p q)
  | _ => rfl
theorem touched_mem {t u : Tree} (ht : OrdT t) (hu : OrdT u) (p : Path) : p ∈ touched (formOf t u) ↔ p ∈ (formOf t u).map pathE := by
  unfold touched
  rw [foldPath_mem, List.mem_flatMap, List.mem_map]
  refine exists_congr fun e => ?_
  refine ⟨fun ⟨a, b⟩ => ⟨a, ?_⟩, fun ⟨a, b⟩ => ⟨a, ?_⟩⟩
  · rw [paths_one (fun p q z => by have := form_right ht hu a; rw [z] at this; exact this)] at b
    exact (List.mem_singleton.mp b).symm
  · rw [paths_one (fun p q z => by have := form_right ht hu a; rw [z] at this; exact this), b]
    exact List.mem_singleton.mpr rfl
theorem touched_ord (c : Change) : Ord (touched c) := foldPath_ord _
theorem form_len {t u : Tree} (gt : Good t) (gu : Good u) : (formOf t u).length ≤ 24 := by
  have h := form_nodup gt.ord gu.ord
  have := sub_len h (m := paths t ++ paths u) fun p hp => by
    obtain ⟨e, he, rfl⟩ := List.mem_map.mp hp
    rcases List.mem_append.mp he with h | h
    · exact List.mem_append_left _ (gone_right gt.ord h).2.2.1
    · rcases List.mem_append.mp h with h | h
      · exact List.mem_append_left _ (changed_right gt.ord h).2.2.1
      · exact List.mem_append_right _ (come_right gu.ord h).2.2.2
  have l1 : (paths t).length = t.length := List.length_map _
  have l2 : (paths u).length = u.length := List.length_map _
  rw [List.length_map, List.length_append, l1, l2] at this
  have := gt.few
  have := gu.few
  omega
end Cs
-- CsBase
namespace Cs
open PySem PySem.Spec PyProof.Rows L2
/-- the i-th row of the program's top -/
def top (i : Nat) : Stmt := PySem.Challenge.pw_changestacks_s01_answers.main.body.getD i (.Pass ⟨0, 0, 0, 0⟩)
/-- a def of the module, as the top has left it -/
structure Df (K : PySem.W.Frag) (mg : Str → Option Value) (x : Str) (st : Stmt) : Prop where
  ex : ∃ f fd, L2.Fun K x x st f fd ∧ mg x = some (.ref f)
/-- how many parameters are bound -/
def BindN (x qual : Str) (st : Stmt) (ps : List Str) : Prop := ∀ (kV doc pm : Value) (an : Option Addr) (cdv ct : Value) (us : List Value), us.length = ps.length →
  bindArgs (PySem.W.fnOf x qual (defArgs st) (defBody st) (defScope st) .none kV doc pm an cdv ct) ⟨us, []⟩ = pure (ps.zip us)
abbrev Body (P : Program) (w : World) (K : PySem.W.Frag) (mg : Str → Option Value) (base : Heap) (qual : Str) (st : Stmt) (N : List Str) (k : Nat) (sp : Sp) : Prop :=
  ∀ (f : Addr) (cdv : Value) (A : Around) (outer : List Env) (s : Shared) (H : Hp) (vs : List V) (Q : VK) (E : XK), Room k (A.deeper (envOfC qual (defScope st) s.heap.objs.size f cdv)) → sp vs H Q E →
      ∃ t, PSs (cxOf L2.CX0 P w K mg base N qual (defScope st) f cdv A outer s H E).nox (defBody st) t ∧ t { nx := fun _ H' => Q .non H', rt := Q } (start N vs) H
section
variable {P : Program} {w : World} {K : PySem.W.Frag} {mg : Str → Option Value} {base : Heap}
theorem Df.cal {x : Str} {st : Stmt} {N ps : List Str} {k : Nat} {sp : Sp} (F : Df K mg x st) (S : FnScope N ps (defScope st)) (b : BindN x x st ps) (len : ∀ vs H Q E, sp vs H Q E → vs.length = ps.length) (body : Body P w K mg base x st N k sp) :
    C8.Cal P w K mg base (k + 1) x sp [] := by
  obtain ⟨f, fd, F1, hm⟩ := F.ex
  exact ⟨f, fd, ps, [], F1.ok S len (fun cdv A outer s H vs Q E hr h => body f cdv A outer s H vs Q E hr h), hm, F1.kp, F1.binds b, .nil⟩
end
theorem Cal_len {P : Program} {w : World} {K : PySem.W.Frag} {mg : Str → Option Value} {base : Heap} {k j : Nat} {x : Str} {sp : Sp} {dvs : List V} (c : C8.Cal P w K mg base k x sp dvs) (h : k ≤ j) : C8.Cal P w K mg base j x sp dvs := by
  obtain ⟨f, fd, ps, ds, F, a, b, d, e⟩ := c.ex
  exact ⟨f, fd, ps, ds, F.mono h, a, b, d, e⟩
/-- the built-ins that are read -/
structure Bl (mg : Str → Option Value) : Prop where
  len : mg "len" = none
  range : mg "range" = none
  max : mg "max" = none
  min : mg "min" = none
  all : mg "all" = none
  any : mg "any" = none
  sorted : mg "sorted" = none
  set : mg "set" = none
  tuple : mg "tuple" = none
  list : mg "list" = none
  enumerate : mg "enumerate" = none
  reversed : mg "reversed" = none
/-- the built-ins and the whole numbers that the defs read -/
structure Tx (mg : Str → Option Value) : Prop extends Bl mg where
  c_OURS : ∃ u, mg "OURS" = some u ∧ RelV (.int 0) u
  c_THEIRS : ∃ u, mg "THEIRS" = some u ∧ RelV (.int 1) u
  c_SLASH : ∃ u, mg "SLASH" = some u ∧ RelV (.int 47) u
  c_LONGEST_NAME : ∃ u, mg "LONGEST_NAME" = some u ∧ RelV (.int 12) u
  c_LONGEST_PATH : ∃ u, mg "LONGEST_PATH" = some u ∧ RelV (.int 40) u
  c_MOST_NAMES : ∃ u, mg "MOST_NAMES" = some u ∧ RelV (.int 4) u
  c_MOST_FILES : ∃ u, mg "MOST_FILES" = some u ∧ RelV (.int 12) u
  c_MOST_LINES : ∃ u, mg "MOST_LINES" = some u ∧ RelV (.int 40) u
  c_GREATEST_LINE : ∃ u, mg "GREATEST_LINE" = some u ∧ RelV (.int 999999) u
  c_PATH_IS_FOLDER : ∃ u, mg "PATH_IS_FOLDER" = some u ∧ RelV (.int 4) u
  c_TOO_MANY_FILES : ∃ u, mg "TOO_MANY_FILES" = some u ∧ RelV (.int 5) u
  c_TOO_MANY_LINES : ∃ u, mg "TOO_MANY_LINES" = some u ∧ RelV (.int 6) u
  c_DONE : ∃ u, mg "DONE" = some u ∧ RelV (.int 0) u
  c_CONFLICTS : ∃ u, mg "CONFLICTS" = some u ∧ RelV (.int 1) u
  c_NO_TREE : ∃ u, mg "NO_TREE" = some u ∧ RelV (.int 2) u
  c_MOST_CHANGES : ∃ u, mg "MOST_CHANGES" = some u ∧ RelV (.int 6) u
  c_NO_CHANGE : ∃ u, mg "NO_CHANGE" = some u ∧ RelV (.int 1) u
  c_NO_PATH : ∃ u, mg "NO_PATH" = some u ∧ RelV (.int 2) u
  c_NO_LINES : ∃ u, mg "NO_LINES" = some u ∧ RelV (.int 3) u
  c_CLASH : ∃ u, mg "CLASH" = some u ∧ RelV (.int 4) u
  c_DESK_FULL : ∃ u, mg "DESK_FULL" = some u ∧ RelV (.int 5) u
  c_NO_FILE : ∃ u, mg "NO_FILE" = some u ∧ RelV (.int 6) u
  c_STACK_FULL : ∃ u, mg "STACK_FULL" = some u ∧ RelV (.int 7) u
  c_OTHER_TREE : ∃ u, mg "OTHER_TREE" = some u ∧ RelV (.int 3) u
  c_ADD : ∃ u, mg "ADD" = some u ∧ RelV (.int 0) u
  c_DEL : ∃ u, mg "DEL" = some u ∧ RelV (.int 1) u
  c_HUNK : ∃ u, mg "HUNK" = some u ∧ RelV (.int 3) u
/-- whole numbers as values -/
abbrev nv (n : Nat) : V := V.int (n : Int)
abbrev nvs (l : List Nat) : List V := l.map nv
theorem nvs_len (l : List Nat) : (nvs l).length = l.length := List.length_map _
theorem nvs_get {l : List Nat} {i : Nat} : (nvs l)[i]? = (l[i]?).map nv := List.getElem?_map ..
end Cs
-- CsRead
/-! Readings, step by step. -/
namespace Cs
open PySem PySem.Spec PyProof.Rows L2
section
variable {K : PySem.W.Frag} {σ : L2.St} {H : Hp} {D : Ends} {Q : VK}
theorem rd_seq {t u : TS} (h : t { D with nx := u D } σ H) : tSeq t u D σ H := h
theorem rd_asg {te : TE} {g : TG} (h : te σ H fun x H1 => g x σ H1 D.nx) : tAsg te g D σ H := h
theorem rd_name {i : Nat} {v : V} {R : L2.St → Hp → Prop} (h : R (σ.set i (some v)) H) : gName i v σ H R := h
theorem rd_var {i : Nat} {v : V} (h : σ[i]? = some (some v)) (q : Q v H) : tVar i σ H Q := ⟨v, h, q⟩
theorem rd_c {v : V} (q : Q v H) : tC v σ H Q := q
theorem rd_op {r : R2} {ta tb : TE} (h : ta σ H fun x H1 => tb σ H1 fun y H2 => r x y H2 Q) : tOp r ta tb σ H Q := h
theorem rd_I0 {g : Int → Int → V} {i j : Int} (q : Q (g i j) H) : rI0 g (.int i) (.int j) H Q := ⟨i, j, rfl, rfl, q⟩
theorem rd_un {r : V → Hp → VK → Prop} {ta : TE} (h : ta σ H fun x H1 => r x H1 Q) : tUn r ta σ H Q := h
theorem rd_U {g : Int → V} {i : Int} (q : Q (g i) H) : rU g (.int i) H Q := ⟨i, rfl, q⟩
theorem rd_ret {te : TE} (h : te σ H D.rt) : tRet te D σ H := h
theorem rd_drop {te : TE} (h : te σ H fun _ H1 => D.nx σ H1) : tDrop te D σ H := h
theorem rd_next (h : D.nx σ H) : tNext D σ H := h
theorem rd_cont (h : D.ct σ H) : tCont D σ H := h
theorem rd_cons {ta : TE} {tr : TA} {R : List V → Hp → Prop} (h : ta σ H fun x H1 => tr σ H1 fun xs H2 => R (x :: xs) H2) : tCons ta tr σ H R := h
theorem rd_nil {R : List V → Hp → Prop} (h : R [] H) : tNil σ H R := h
theorem rd_cb {r : List V → Hp → VK → Prop} {t : TA} (h : t σ H fun vs H1 => r vs H1 Q) : tCB r t σ H Q := h
theorem rd_call {sp : Sp} {dvs : List V} {E : XK} {t : TA} (h : t σ H fun vs H1 => sp (vs ++ dvs) H1 Q E) : tCall sp dvs E t σ H Q := h
theorem rd_if {c : TT} {t u : TS} (h : c σ H fun b H1 => if b = true then t D σ H1 else u D σ H1) : tIfS c t u D σ H := h
theorem rd_test {t : TE} {R : Bool → Hp → Prop} (h : t σ H fun x H' => ∃ k, x = .bl k ∧ R k H') : tTest t σ H R := h
theorem rd_B {t : TE} {R : Bool → Hp → Prop} (h : t σ H fun x H' => ∃ k, x = .bl k ∧ R k H') : tB t σ H R := h
theorem rd_not {t : TT} {R : Bool → Hp → Prop} (h : t σ H fun c H1 => R (!c) H1) : tNot t σ H R := h
theorem rd_and {t u : TT} {R : Bool → Hp → Prop} (h : t σ H fun c H1 => if c = true then u σ H1 R else R false H1) : tAnd t u σ H R := h
theorem rd_or {t u : TT} {R : Bool → Hp → Prop} (h : t σ H fun c H1 => if c = true then R true H1 else u σ H1 R) : tOr t u σ H R := h
theorem rd_bl {b : Bool} {R : Bool → Prop} (q : R b) : ∃ k, V.bl b = V.bl k ∧ R k := ⟨b, rfl, q⟩
theorem rd_dec {p : Prop} [Decidable p] {A B : Prop} (h1 : p → A) (h2 : ¬ p → B) : if decide p = true then A else B := by
  by_cases h : p
  · rw [decide_eq_true h, if_pos rfl]; exact h1 h
  · rw [decide_eq_false h, if_neg Bool.false_ne_true]; exact h2 h
theorem rd_ndec {p : Prop} [Decidable p] {A B : Prop} (h1 : ¬ p → A) (h2 : p → B) : if (!decide p) = true then A else B := by
  by_cases h : p
  · rw [decide_eq_true h]; exact h2 h
  · rw [decide_eq_false h]; exact h1 h
theorem rd_cond {b : Bool} {A B : Prop} (h1 : b = true → A) (h2 : b = false → B) : if b = true then A else B := by
  cases b with
  | true => exact h1 rfl
  | false => rw [if_neg Bool.false_ne_true]; exact h2 rfl
theorem rd_eqI {x y : V} (hs : scal x y = true) (q : Q (.bl (decide (x = y))) H) : rEq x y H Q := ⟨hs, q⟩
theorem rd_eqN {i j : Int} (q : Q (.bl (decide (i = j))) H) : rEq (.int i) (.int j) H Q := ⟨rfl, by
  have e : decide (V.int i = V.int j) = decide (i = j) := by
    by_cases h : i = j
    · rw [h, decide_eq_true rfl, decide_eq_true rfl]
    · rw [decide_eq_false h, decide_eq_false fun z => h (V.int.inj z)]
  rw [e]; exact q⟩
theorem rd_neN {i j : Int} (q : Q (.bl (!decide (i = j))) H) : rNe (.int i) (.int j) H Q := ⟨rfl, by
  have e : decide (V.int i = V.int j) = decide (i = j) := by
    by_cases h : i = j
    · rw [h, decide_eq_true rfl, decide_eq_true rfl]
    · rw [decide_eq_false h, decide_eq_false fun z => h (V.int.inj z)]
  rw [e]; exact q⟩
def rLenS (K : PySem.W.Frag) : List V → Hp → VK → Prop := fun xs H Q => ∃ p ys, xs = [.ref p] ∧ (SqL K H p ys ∨ SqT K H p ys) ∧ Q (.int (ys.length : Int)) H
theorem call_lenS {X : Cx} : CallR X (.builtin "len") (rLenS X.K) := call_len_seq
theorem rd_lenL {p : Addr} {ys : List V} (h : SqL K H p ys) (q : Q (.int (ys.length : Int)) H) : rLenS K [.ref p] H Q := ⟨p, ys, rfl, .inl h, q⟩
theorem rd_lenT {p : Addr} {ys : List V} (h : SqT K H p ys) (q : Q (.int (ys.length : Int)) H) : rLenS K [.ref p] H Q := ⟨p, ys, rfl, .inr h, q⟩
theorem rd_ixL {p : Addr} {xs : List V} {i : Int} {k : Nat} {v : V} (h : SqL K H p xs) (e : i = (k : Int)) (g : xs[k]? = some v) (q : Q v H) : rIxL K (.ref p) (.int i) H Q := ⟨p, xs, i, v, rfl, rfl, h, by rw [e]; exact atI_nat g, q⟩
theorem rd_ixT {p : Addr} {xs : List V} {i : Int} {k : Nat} {v : V} (h : SqT K H p xs) (e : i = (k : Int)) (g : xs[k]? = some v) (q : Q v H) : rIxT K (.ref p) (.int i) H Q := ⟨p, xs, i, v, rfl, rfl, h, by rw [e]; exact atI_nat g, q⟩
theorem nvs_at {l : List Nat} {k : Nat} (h : k < l.length) : (nvs l)[k]? = some (nv (l.getD k 0)) := by
  rw [nvs_get, List.getD_eq_getElem?_getD, List.getElem?_eq_getElem h]; rfl
theorem rd_ixLn {p : Addr} {l : List Nat} {i : Int} {k : Nat} (h : SqL K H p (nvs l)) (e : i = (k : Int)) (g : k < l.length) (q : Q (nv (l.getD k 0)) H) : rIxL K (.ref p) (.int i) H Q := rd_ixL h e (nvs_at g) q
theorem rd_ixTn {p : Addr} {l : List Nat} {i : Int} {k : Nat} (h : SqT K H p (nvs l)) (e : i = (k : Int)) (g : k < l.length) (q : Q (nv (l.getD k 0)) H) : rIxT K (.ref p) (.int i) H Q := rd_ixT h e (nvs_at g) q
theorem sm_new {p : Addr} {o : HO} (h : H p = none) : Same H (upd H p o) := fun a u e => by
  rw [upd_ne (ne_of_none e h)]; exact e
/-- an object that the first heap does not know may change -/
theorem sm_mut {H' : Hp} {p : Addr} {o : HO} (e : Same H H') (h : H p = none) : Same H (upd H' p o) := fun a u ha => by
  rw [upd_ne (ne_of_none ha h)]; exact e a u ha
theorem sm_rd {H' : Hp} {a : Addr} {u : HO} (e : Same H H') (h : Rd H a u) : Rd H' a u := by
  rcases h with h | ⟨o, h⟩
  · exact .inl (e a _ h)
  · exact .inr ⟨o, e a _ h⟩
theorem sm_tup {H' : Hp} {a : Addr} {xs : List V} (e : Same H H') (h : SqT K H a xs) : SqT K H' a xs := by
  rcases h with h | h
  · exact .inl (sm_rd e h)
  · exact .inr h
theorem sm_free {H' : Hp} {l : Addr} (e : Same H H') (h : H' l = none) : H l = none := Same.free e h
/-- a display: a new object -/
theorem rd_lst {t : TA} (h : t σ H fun xs H1 => xs.length ≤ sizeLine ∧ ∀ p, H1 p = none → Q (.ref p) (upd H1 p (.lst xs))) : tLst t σ H Q := h
theorem rd_tup {t : TA} (h : t σ H fun xs H1 => xs.length ≤ sizeLine ∧ ∀ p, H1 p = none → Q (.ref p) (upd H1 p (.tup xs))) : tTup t σ H Q := h
theorem sz {n : Nat} (h : n ≤ 10000000) : n ≤ sizeLine := Nat.le_trans h (by decide)
theorem szl {n : Nat} (h : n < 10000000) : n < sizeLine := Nat.lt_of_lt_of_le h (by decide)
/-- for: what is walked, then the loop -/
theorem rd_for {wi : TI} {g : TG} {tb : TS} (h : wi σ H fun J H1 => ∃ W : Nat → Nat → L2.St → Hp → Prop, (∃ m, W 0 m σ H1) ∧ ∀ i m σ H, W i m σ H → (J.stop i H ∧ D.nx σ H) ∨ (J.go i H ∧ ∃ N : L2.St → Hp → Prop, (∀ σ' H', N σ' H' → ∃ m', m' < m ∧ W (i + 1) m' σ' H') ∧ ∀ x H', J.yld i H x H' → g x σ H' fun σ2 H2 => tb { D with nx := N, ct := N, bk := D.nx } σ2 H2)) : tFor wi g tb D σ H := h
theorem rd_rng3 {ta : TA} {R : It → Hp → Prop} (h : ta σ H fun vs H1 => ∃ (i j c : Int) (n : Nat), vs = [.int i, .int j, .int c] ∧ RgC i j c n ∧ R (Itc i c n) H1) : iRng3 ta σ H R := h
theorem rd_gsub {to ti : TE} {t : V → V → V → Hp → (Hp → Prop) → Prop} {v : V} {R : L2.St → Hp → Prop} (h : to σ H fun o H1 => ti σ H1 fun i H2 => t o i v H2 fun H3 => R σ H3) : gSub to ti t v σ H R := h
theorem rd_setL {p : Addr} {xs : List V} {k : Int} {j : Nat} {v : V} {R : Hp → Prop} (h : H p = some (.lst xs)) (e : k = (j : Int)) (g : j < xs.length) (q : R (upd H p (.lst (xs.set j v)))) : rSetL (.ref p) (.int k) v H R := ⟨p, xs, k, j, rfl, rfl, h, by
  rw [e]
  unfold ixN
  rw [if_pos (by omega), if_pos (by omega)]; simp, q⟩
theorem rd_bm {T : String} {r : V → List V → Hp → VK → Prop} {to : TE} {t : TA} (h : to σ H fun x H1 => tyV K T x H1 ∧ t σ H1 fun xs H2 => r x xs H2 Q) : tBM K T r to t σ H Q := h
theorem rd_bm0 {T : String} {r : V → List V → Hp → VK → Prop} {to : TE} (h : to σ H fun x H1 => tyV K T x H1 ∧ r x [] H1 Q) : tBM0 K T r to σ H Q := h
theorem ty_lst {l : Addr} {xs : List V} (h : H l = some (.lst xs)) : tyV K "list" (.ref l) H := Or.inl ⟨rfl, _, SqL.of h⟩
theorem rd_append {l : Addr} {xs : List V} {v : V} (h : H l = some (.lst xs)) (hz : xs.length < sizeLine) (q : Q .non (upd H l (.lst (xs ++ [v])))) : rAppend (.ref l) [v] H Q := ⟨l, xs, v, rfl, rfl, h, hz, q⟩
theorem rd_ixLast {p : Addr} {xs : List V} {v : V} (h : SqL K H p (xs ++ [v])) (q : Q v H) : rIxL K (.ref p) (.int (-1)) H Q := ⟨p, _, -1, v, rfl, rfl, h, atI_last xs v, q⟩
/-- lists of numbers, in a list -/
def RowsAt (H : Hp) (r : Addr) (rs : List (List Nat)) : Prop := ∃ ps : List (Addr × List Nat), H r = some (.lst (ps.map fun x => V.ref x.1)) ∧ ps.map (·.2) = rs ∧ ∀ x ∈ ps, H x.1 = some (.lst (nvs x.2))
theorem RowsAt.same {H' : Hp} {r : Addr} {rs : List (List Nat)} (s : Same H H') (h : RowsAt H r rs) : RowsAt H' r rs := by
  obtain ⟨ps, a, b, c⟩ := h
  exact ⟨ps, s _ _ a, b, fun x hx => s _ _ (c x hx)⟩
theorem RowsAt.get {r : Addr} {rs : List (List Nat)} {i : Nat} (h : RowsAt H r rs) (hi : i < rs.length) : ∃ (xs : List V) (a : Addr), H r = some (.lst xs) ∧ xs[i]? = some (.ref a) ∧ H a = some (.lst (nvs (rs.getD i []))) := by
  obtain ⟨ps, a, b, c⟩ := h
  subst b
  rw [List.length_map] at hi
  refine ⟨_, (ps[i]).1, a, by rw [List.getElem?_map, List.getElem?_eq_getElem hi]; rfl, ?_⟩
  rw [c _ (List.getElem_mem hi), List.getD_eq_getElem?_getD, List.getElem?_map, List.getElem?_eq_getElem hi]; rfl
theorem flat_zero : ∀ n : Nat, (List.replicate n [V.int 0]).flatten = nvs (List.replicate n 0)
  | 0 => rfl
  | n + 1 => by rw [List.replicate_succ, List.replicate_succ, List.flatten_cons, flat_zero n]; rfl
theorem rd_rep0 {p : Addr} {k : Int} (n : Nat) (h : H p = some (.lst [V.int 0])) (e : k = (n : Int)) (hz : n ≤ 10000000) (q : ∀ l, H l = none → Q (.ref l) (upd H l (.lst (nvs (List.replicate n 0))))) : rRep (.ref p) (.int k) H Q := by
  subst e
  refine ⟨p, _, _, rfl, rfl, h, by omega, by omega, ?_, fun l hl => ?_⟩
  · show 1 * (n : Int).toNat ≤ sizeLine
    exact sz (by omega)
  · have e1 : ((n : Int)).toNat = n := rfl
    rw [e1, flat_zero]
    exact q l hl
theorem rd_reverse {l : Addr} {xs : List V} (h : H l = some (.lst xs)) (q : Q .non (upd H l (.lst xs.reverse))) : rReverse (.ref l) [] H Q := ⟨l, xs, rfl, rfl, h, q⟩
theorem rd_revA {te : TE} {R : It → Hp → Prop} (h : te σ H fun v H1 => ∃ (a : Addr) (xs : List V), v = .ref a ∧ ((SqL K H1 a xs ∧ R (Itv K a xs.length) H1) ∨ (SqT K H1 a xs ∧ R (RT.ItvT K a xs.length) H1))) : RT.iRevA K te σ H R := h
theorem rd_sl {r : V → Option Int → Option Int → Hp → VK → Prop} {te : TE} {tl th : TO} (h : te σ H fun x H1 => tl σ H1 fun l H2 => th σ H2 fun u H3 => r x l u H3 Q) : tSl r te tl th σ H Q := h
theorem rd_nopart {R : Option Int → Hp → Prop} (h : R none H) : tNoPart σ H R := h
theorem rd_part {te : TE} {R : Option Int → Hp → Prop} (h : te σ H fun x H1 => ∃ i, x = .int i ∧ R (some i) H1) : tPart te σ H R := h
theorem rd_int {i : Int} {R : Int → Prop} (q : R i) : ∃ j, V.int i = V.int j ∧ R j := ⟨i, rfl, q⟩
theorem drop_clamp (l : List V) (i : Nat) : l.drop (min i l.length) = l.drop i := by
  by_cases h : i ≤ l.length
  · rw [Nat.min_eq_left h]
  · rw [Nat.min_eq_right (by omega), List.drop_eq_nil_of_le (by omega), List.drop_eq_nil_of_le (by omega)]
theorem cutV_nn (l : List Nat) (i j : Nat) : cutV (nvs l) (some (i : Int)) (some (j : Int)) = nvs (cutN l i j) := by
  unfold cutV cutN
  rw [HT.sIx_nat, HT.sIx_nat, drop_clamp]
  have e : nvs ((l.drop i).take (j - i)) = ((nvs l).drop i).take (j - i) := by rw [nvs, List.map_take, List.map_drop]
  rw [e]
  by_cases h : j - i ≤ min j (nvs l).length - min i (nvs l).length
  · have h2 : min j (nvs l).length - min i (nvs l).length = j - i ∨ (nvs l).length ≤ i := by omega
    rcases h2 with h2 | h2
    · rw [h2]
    · rw [List.drop_eq_nil_of_le h2, List.take_nil, List.take_nil]
  · rw [List.take_of_length_le (by rw [List.length_drop]; omega), List.take_of_length_le (by rw [List.length_drop]; omega)]
theorem cutV_ne (l : List Nat) (i : Nat) : cutV (nvs l) (some (i : Int)) none = nvs (l.drop i) := by
  unfold cutV
  rw [HT.sIx_nat, HT.sIx_none, drop_clamp, List.take_of_length_le (by rw [List.length_drop]; omega), nvs, nvs, List.map_drop]
theorem cutV_en (l : List Nat) (j : Nat) : cutV (nvs l) none (some (j : Int)) = nvs (l.take j) := by
  unfold cutV
  rw [HT.sIx_nat, HT.sIx_none, nvs_len, nvs, nvs, List.map_take, List.drop_zero, Nat.sub_zero]
  by_cases h : j ≤ l.length
  · rw [Nat.min_eq_left h]
  · rw [Nat.min_eq_right (by omega), List.take_of_length_le (by rw [List.length_map]; omega), List.take_of_length_le (by rw [List.length_map]; omega)]
/-- t[i:j], a part of it -/
theorem rd_slT {a : Addr} {l : List Nat} {lo hi : Option Int} {c : List Nat} (h : H a = some (.tup (nvs l))) (e : cutV (nvs l) lo hi = nvs c) (q : ∀ b H', Same H H' → H' b = some (.tup (nvs c)) → Q (.ref b) H') : rSlA K (.ref a) lo hi H Q := by
  refine ⟨a, nvs l, rfl, SqT.of h, fun ⟨h1, h2⟩ => ?_, fun _ p hp => ?_⟩
  · refine q a H (Same.refl H) ?_
    have e2 : cutV (nvs l) lo hi = nvs l := by
      unfold cutV
      rw [h1, h2, List.drop_zero, Nat.sub_zero, List.take_length]
    rw [← e, e2]; exact h
  · rw [e]
    exact q p _ (sm_new hp) upd_same
/-- t + u -/
theorem rd_catT {a b : Addr} {l m : List Nat} (ha : H a = some (.tup (nvs l))) (hb : H b = some (.tup (nvs m))) (hz : l.length + m.length ≤ 10000000) (q : ∀ c H', Same H H' → H' c = some (.tup (nvs (l ++ m))) → Q (.ref c) H') : rCatA K (.ref a) (.ref b) H Q := by
  refine ⟨a, b, nvs l, nvs m, rfl, rfl, SqT.of ha, SqT.of hb, by rw [nvs_len, nvs_len]; exact sz hz, fun e => ?_, fun _ e => ?_, fun _ _ p hp => ?_⟩
  · have e' : l = [] := List.map_eq_nil_iff.mp e
    subst e'
    exact q b H (Same.refl H) hb
  · have e' : m = [] := List.map_eq_nil_iff.mp e
    subst e'
    refine q a H (Same.refl H) ?_
    rw [List.append_nil]; exact ha
  · refine q p _ (sm_new hp) ?_
    rw [upd_same, nvs, nvs, nvs, List.map_append]
/-- a hunk -/
def TriAt (H : Hp) (t : Addr) (x : Tri) : Prop := ∃ a b, H t = some (.tup [nv x.1, .ref a, .ref b]) ∧ H a = some (.tup (nvs x.2.1)) ∧ H b = some (.tup (nvs x.2.2))
theorem TriAt.same {H' : Hp} {t : Addr} {x : Tri} (s : Same H H') (h : TriAt H t x) : TriAt H' t x := by
  obtain ⟨a, b, h1, h2, h3⟩ := h
  exact ⟨a, b, s _ _ h1, s _ _ h2, s _ _ h3⟩
theorem tup_mut {t r : Addr} {xs : List V} {o o' : HO} (h : H t = some (.tup xs)) (hr : H r = some o) (ho : ∀ ys, o ≠ .tup ys) : upd H r o' t = some (.tup xs) := by
  rw [upd_ne]
  · exact h
  · intro e
    rw [e, hr] at h
    exact ho _ (Option.some.inj h)
theorem TriAt.mut {t r : Addr} {x : Tri} {xs ys : List V} (h : TriAt H t x) (hr : H r = some (.lst xs)) : TriAt (upd H r (.lst ys)) t x := by
  obtain ⟨a, b, h1, h2, h3⟩ := h
  exact ⟨a, b, tup_mut h1 hr (fun _ z => by cases z), tup_mut h2 hr (fun _ z => by cases z), tup_mut h3 hr (fun _ z => by cases z)⟩
/-- a list of hunks -/
def TrisAt (H : Hp) (r : Addr) (hs : List Tri) : Prop := ∃ ts : List (Addr × Tri), H r = some (.lst (ts.map fun x => V.ref x.1)) ∧ ts.map (·.2) = hs ∧ ∀ x ∈ ts, TriAt H x.1 x.2
theorem TrisAt.same {H' : Hp} {r : Addr} {hs : List Tri} (s : Same H H') (h : TrisAt H r hs) : TrisAt H' r hs := by
  obtain ⟨ts, a, b, c⟩ := h
  exact ⟨ts, s _ _ a, b, fun x hx => (c x hx).same s⟩
theorem TrisAt.add {r t : Addr} {hs : List Tri} {x : Tri} (h : TrisAt H r hs) (ht : TriAt H t x) : ∃ xs, H r = some (.lst xs) ∧ xs.length = hs.length ∧ TrisAt (upd H r (.lst (xs ++ [.ref t]))) r (hs ++ [x]) := by
  obtain ⟨ts, a, b, c⟩ := h
  refine ⟨_, a, by rw [List.length_map, ← b, List.length_map], ts ++ [(t, x)], ?_, by rw [List.map_append, b]; rfl, fun y hy => ?_⟩
  · rw [upd_same, List.map_append]; rfl
  · rcases List.mem_append.mp hy with hy | hy
    · exact (c y hy).mut a
    · rw [List.mem_singleton.mp hy]
      exact ht.mut a
theorem rd_while {c : TT} {tb : TS} (W : Nat → L2.St → Hp → Prop) (m0 : Nat) (h0 : W m0 σ H) (h : ∀ m σ H, W m σ H → c σ H fun b H1 => if b = true then ∃ N : L2.St → Hp → Prop, (∀ σ' H', N σ' H' → ∃ m', m' < m ∧ W m' σ' H') ∧ tb { D with nx := N, ct := N, bk := D.nx } σ H1 else D.nx σ H1) : tWhile c tb D σ H := ⟨W, ⟨m0, h0⟩, h⟩
theorem rd_aug {i : Nat} {te : TE} {rd : V → V → Hp → VK → Prop} {x : V} (hx : σ[i]? = some (some x)) (h : te σ H fun y H1 => rd x y H1 fun z H2 => D.nx (σ.set i (some z)) H2) : tAug i te rd D σ H := ⟨x, hx, h⟩
theorem rd_ipI {f : Int → Int → Int} {i j : Int} (q : Q (.int (f i j)) H) : ipI f (.int i) (.int j) H Q := ⟨i, j, rfl, rfl, q⟩
theorem rd_andV {ta tb : TE} (h : ta σ H fun x H1 => ∃ c, x = .bl c ∧ if c = true then tb σ H1 Q else Q (.bl false) H1) : tAndV ta tb σ H Q := h
theorem rd_orV {ta tb : TE} (h : ta σ H fun x H1 => ∃ c, x = .bl c ∧ if c = true then Q (.bl true) H1 else tb σ H1 Q) : tOrV ta tb σ H Q := h
/-- a test that answers b and leaves the heap -/
def An (t : TT) (σ : L2.St) (H : Hp) (b : Bool) : Prop := ∀ R : Bool → Hp → Prop, R b H → t σ H R
theorem an_use {t : TT} {b : Bool} {R : Bool → Hp → Prop} (h : An t σ H b) (q : R b H) : t σ H R := h R q
theorem an_or {t u : TT} {a b : Bool} (h1 : An t σ H a) (h2 : a = false → An u σ H b) : An (tOr t u) σ H (a || b) := fun R q => h1 _ (by
  cases a with
  | true => exact q
  | false =>
    rw [if_neg Bool.false_ne_true]
    exact h2 rfl R q)
theorem an_and {t u : TT} {a b : Bool} (h1 : An t σ H a) (h2 : a = true → An u σ H b) : An (tAnd t u) σ H (a && b) := fun R q => h1 _ (by
  cases a with
  | true => exact h2 rfl R q
  | false =>
    rw [if_neg Bool.false_ne_true]
    exact q)
theorem an_not {t : TT} {a : Bool} (h : An t σ H a) : An (tNot t) σ H (!a) := fun R q => h _ q
theorem an_to {t : TT} {a b : Bool} (h : An t σ H a) (e : a = b) : An t σ H b := e ▸ h
/-- i < len(t) -/
theorem an_ltLen {i j k : Nat} {p : Addr} {l : List Nat} (hi : σ[i]? = some (some (nv k))) (hj : σ[j]? = some (some (.ref p))) (hp : SqT K H p (nvs l)) :
    An (tTest (tOp (rI0 fun i j => .bl (decide (i < j))) (tVar i) (tCB (rLenS K) (tCons (tVar j) tNil)))) σ H (decide (k < l.length)) := fun R q =>
  ⟨_, hi, _, hj, p, nvs l, rfl, .inr hp, _, _, rfl, rfl, _, rfl, by
    have e : decide ((k : Int) < ((nvs l).length : Int)) = decide (k < l.length) := by
      rw [nvs_len]
      by_cases h : k < l.length
      · rw [decide_eq_true h, decide_eq_true (by omega)]
      · rw [decide_eq_false h, decide_eq_false (by omega)]
    rw [e]; exact q⟩
theorem rd_gtup {n : Nat} {t : List V → L2.St → Hp → (L2.St → Hp → Prop) → Prop} {a : Addr} {xs : List V} {R : L2.St → Hp → Prop} (h : SqT K H a xs) (e : xs.length = n) (q : t xs σ H R) : gTup K n t (.ref a) σ H R := ⟨a, xs, rfl, h, e, q⟩
theorem rd_gcons {t : TG} {u : List V → L2.St → Hp → (L2.St → Hp → Prop) → Prop} {v : V} {r : List V} {R : L2.St → Hp → Prop} (q : t v σ H fun σ' H' => u r σ' H' R) : gCons t u (v :: r) σ H R := ⟨v, r, rfl, q⟩
theorem rd_gnil {R : L2.St → Hp → Prop} (q : R σ H) : gNil [] σ H R := ⟨rfl, q⟩
theorem rd_ilist {tl : TE} {R : It → Hp → Prop} (h : tl σ H fun x H1 => ∃ a, x = .ref a ∧ (∃ xs, SqL K H1 a xs) ∧ R (Itl K a) H1) : iList K tl σ H R := h
/-- a comprehension's goal -/
def LcGo (J : It) (g : TG) (tt : TT) (te : TE) (vs : List Nat) (σ : L2.St) (H1 : Hp) (D : Addr) (Qd : Hp → Prop) : Prop :=
  ∃ W : Nat → Nat → Hp → Prop, (∃ m, W 0 m (upd H1 D (.lst []))) ∧ ∀ i m H, W i m H →
      (J.stop i H ∧ Qd H) ∨ (J.go i H ∧ ∃ Nx : Hp → Prop, (∀ H', Nx H' → ∃ m', m' < m ∧ W (i + 1) m' H') ∧ ∀ x H', J.yld i H x H' → g x (wipe σ vs) H' fun σ2 H2 => wipe σ2 vs = wipe σ vs ∧ tt σ2 H2 fun b H3 =>
        if b = true then te σ2 H3 fun y H4 => ∃ acc, H4 D = some (.lst acc) ∧ acc.length < sizeLine ∧ Nx (upd H4 D (.lst (acc ++ [y]))) else Nx H3)
theorem rd_yes {R : Bool → Hp → Prop} (h : R true H) : tYes σ H R := h
theorem rd_lc {wi : TI} {g : TG} {tt : TT} {te : TE} {vs : List Nat} (h : wi σ H fun J H1 => ∀ E, H1 E = none → LcGo J g tt te vs σ H1 E fun H2 => Q (.ref E) H2) : tLc wi g tt te vs σ H Q := h
/-- each item is a truth value, nothing else is touched -/
theorem lc_B {J : It} {n : Nat} {G : Hp → Prop} {Y : Nat → Hp → V → Hp → Prop} (W : L2.Walk J n G Y) {j : Nat} {te : TE} {vs : List Nat} {E : Addr} {Qd : Hp → Prop} (b : Nat → Bool) (hn : n ≤ 100000) (hE : H E = none)
    (hw : ∀ x, wipe ((wipe σ vs).set j (some x)) vs = wipe σ vs) (hG : ∀ H', Same H H' → G H') (hY : ∀ i H' x H2, Same H H' → i < n → Y i H' x H2 → H2 = H')
    (hs : ∀ i x H', i < n → Same H H' → Y i H' x H' → ∀ R : VK, (∀ H4, Same H' H4 → R (.bl (b i)) H4) → te ((wipe σ vs).set j (some x)) H' R)
    (q : ∀ H', Same H H' → H' E = some (.lst (((List.range n).map b).map V.bl)) → Qd H') : LcGo J (gName j) tYes te vs σ H E Qd := by
  refine L2.lc_it W (fun i H' => Same H H' ∧ H' E = some (.lst (((List.range i).map b).map V.bl))) ⟨sm_new hE, upd_same⟩ (fun i H' _ p => hG H' p.1) ?_ (fun H' p => q H' p.1 p.2)
  rintro i x H' H2 hi ⟨p1, p2⟩ y
  have e := hY i H' x H2 p1 hi y
  subst e
  refine ⟨hw x, ?_⟩
  refine rd_yes (iteT ?_)
  refine hs i x H2 hi p1 y _ fun H4 s4 => ?_
  refine ⟨_, s4 _ _ p2, by rw [List.length_map, List.length_map, List.length_range]; exact szl (by omega), sm_mut (p1.trans s4) hE, ?_⟩
  rw [upd_same, List.range_succ, List.map_append, List.map_append]; rfl
theorem rd_all {l : Addr} {bs : List Bool} (h : H l = some (.lst (bs.map V.bl))) (q : Q (.bl (bs.all id)) H) : rAll K [.ref l] H Q := ⟨l, bs, rfl, SqL.of h, q⟩
theorem rd_any {l : Addr} {bs : List Bool} (h : H l = some (.lst (bs.map V.bl))) (q : Q (.bl (bs.any id)) H) : rAny K [.ref l] H Q := ⟨l, bs, rfl, SqL.of h, q⟩
theorem rd_itup {tl : TE} {R : It → Hp → Prop} (h : tl σ H fun x H1 => ∃ a, x = .ref a ∧ (∃ xs, SqT K H1 a xs) ∧ R (Itt K a) H1) : iTup K tl σ H R := h
theorem range_all (n : Nat) (f : Nat → Bool) : (((List.range n).map f).all id) = (List.range n).all f := by
  rw [List.all_map]; rfl
theorem range_any (n : Nat) (f : Nat → Bool) : (((List.range n).map f).any id) = (List.range n).any f := by
  rw [List.any_map]; rfl
theorem all_at {α : Type} (l : List α) (d : α) (f : α → Bool) : ((List.range l.length).all fun i => f (l.getD i d)) = l.all f := by
  induction l with
  | nil => rfl
  | cons a l ih =>
    rw [List.length_cons, List.range_succ_eq_map, List.all_cons, List.all_cons, List.all_map, ← ih]
    rfl
theorem any_at {α : Type} (l : List α) (d : α) (f : α → Bool) : ((List.range l.length).any fun i => f (l.getD i d)) = l.any f := by
  induction l with
  | nil => rfl
  | cons a l ih =>
    rw [List.length_cons, List.range_succ_eq_map, List.any_cons, List.any_cons, List.any_map, ← ih]
    rfl
theorem rd_chain {r r' : R2} {ta tb tc : TE} (h : ta σ H fun x H1 => tb σ H1 fun y H2 => r x y H2 fun z H3 => ∃ k, z = .bl k ∧ (if k = true then tc σ H3 fun w' H4 => r' y w' H4 Q else Q (.bl false) H3)) : tChain r r' ta tb tc σ H Q := h
/-- tuples of numbers, in a list -/
def TupsAt (H : Hp) (r : Addr) (ls : List (List Nat)) : Prop := ∃ ps : List (Addr × List Nat), H r = some (.lst (ps.map fun x => V.ref x.1)) ∧ ps.map (·.2) = ls ∧ ∀ x ∈ ps, H x.1 = some (.tup (nvs x.2))
theorem TupsAt.same {H' : Hp} {r : Addr} {ls : List (List Nat)} (s : Same H H') (h : TupsAt H r ls) : TupsAt H' r ls := by
  obtain ⟨ps, a, b, c⟩ := h
  exact ⟨ps, s _ _ a, b, fun x hx => s _ _ (c x hx)⟩
theorem TupsAt.add {r t : Addr} {ls : List (List Nat)} {l : List Nat} (h : TupsAt H r ls) (ht : H t = some (.tup (nvs l))) : ∃ xs, H r = some (.lst xs) ∧ xs.length = ls.length ∧ TupsAt (upd H r (.lst (xs ++ [.ref t]))) r (ls ++ [l]) := by
  obtain ⟨ps, a, b, c⟩ := h
  refine ⟨_, a, by rw [List.length_map, ← b, List.length_map], ps ++ [(t, l)], ?_, by rw [List.map_append, b]; rfl, fun y hy => ?_⟩
  · rw [upd_same, List.map_append]; rfl
  · rcases List.mem_append.mp hy with hy | hy
    · exact tup_mut (c y hy) a (fun _ z => by cases z)
    · rw [List.mem_singleton.mp hy]
      exact tup_mut ht a (fun _ z => by cases z)
/-- an expression that gives a truth value, a number, and leaves the heap -/
def AnV (t : TE) (σ : L2.St) (H : Hp) (v : V) : Prop := ∀ R : VK, R v H → t σ H R
theorem anv_use {t : TE} {v : V} {R : VK} (h : AnV t σ H v) (q : R v H) : t σ H R := h R q
theorem anv_to {t : TE} {v u : V} (h : AnV t σ H v) (e : v = u) : AnV t σ H u := e ▸ h
theorem anv_var {i : Nat} {v : V} (h : σ[i]? = some (some v)) : AnV (tVar i) σ H v := fun R q => ⟨v, h, q⟩
theorem anv_c {v : V} : AnV (tC v) σ H v := fun R q => q
theorem anv_or {ta tb : TE} {a b : Bool} (h1 : AnV ta σ H (.bl a)) (h2 : a = false → AnV tb σ H (.bl b)) : AnV (tOrV ta tb) σ H (.bl (a || b)) := fun R q => h1 _ ⟨a, rfl, by
  cases a with
  | true => exact q
  | false =>
    rw [if_neg Bool.false_ne_true]
    exact h2 rfl R q⟩
theorem anv_and {ta tb : TE} {a b : Bool} (h1 : AnV ta σ H (.bl a)) (h2 : a = true → AnV tb σ H (.bl b)) : AnV (tAndV ta tb) σ H (.bl (a && b)) := fun R q => h1 _ ⟨a, rfl, by
  cases a with
  | true => exact h2 rfl R q
  | false =>
    rw [if_neg Bool.false_ne_true]
    exact q⟩
theorem anv_chain {g g' : Int → Int → Bool} {ta tb tc : TE} {i j k : Int} (ha : AnV ta σ H (.int i)) (hb : AnV tb σ H (.int j)) (hc : AnV tc σ H (.int k)) :
    AnV (tChain (rI0 fun i j => .bl (g i j)) (rI0 fun i j => .bl (g' i j)) ta tb tc) σ H (.bl (g i j && g' j k)) := fun R q => ha _ (hb _ ⟨i, j, rfl, rfl, _, rfl, by
  cases e : g i j with
  | true =>
    rw [if_pos rfl]
    refine hc _ ⟨j, k, rfl, rfl, ?_⟩
    rw [e] at q; exact q
  | false =>
    rw [if_neg Bool.false_ne_true]
    rw [e] at q; exact q⟩)
theorem anv_I {g : Int → Int → V} {ta tb : TE} {i j : Int} (ha : AnV ta σ H (.int i)) (hb : AnV tb σ H (.int j)) : AnV (tOp (rI0 g) ta tb) σ H (g i j) := fun R q => ha _ (hb _ ⟨i, j, rfl, rfl, q⟩)
theorem anv_in {ta tb : TE} {x : V} {p : Addr} {xs : List V} {neg : Bool} (ha : AnV ta σ H x) (hb : AnV tb σ H (.ref p)) (h : SqT K H p xs) (hx : flatV x = true) (hxs : xs.all flatV = true) : AnV (tOp (rIn K neg) ta tb) σ H (.bl (if neg then !inV x xs else inV x xs)) := fun R q =>
  ha _ (hb _ ⟨p, xs, rfl, .inr h, hx, hxs, q⟩)
theorem an_B {t : TE} {b : Bool} (h : AnV t σ H (.bl b)) : An (tB t) σ H b := fun R q => h _ ⟨b, rfl, q⟩
theorem an_test {t : TE} {b : Bool} (h : AnV t σ H (.bl b)) : An (tTest t) σ H b := fun R q => h _ ⟨b, rfl, q⟩
theorem anv_lenT {te : TE} {p : Addr} {ys : List V} (h : AnV te σ H (.ref p)) (hp : SqT K H p ys) : AnV (tCB (rLenS K) (tCons te tNil)) σ H (.int (ys.length : Int)) := fun R q => h _ ⟨p, ys, rfl, .inr hp, q⟩
theorem anv_lenL {te : TE} {p : Addr} {ys : List V} (h : AnV te σ H (.ref p)) (hp : SqL K H p ys) : AnV (tCB (rLenS K) (tCons te tNil)) σ H (.int (ys.length : Int)) := fun R q => h _ ⟨p, ys, rfl, .inl hp, q⟩
end
end Cs
local macro_rules | `(tactic| walk_at "rd1") => `(tactic| first | apply Cs.rd_seq | apply Cs.rd_asg | apply Cs.rd_name | (refine Cs.rd_var rfl ?_) | apply Cs.rd_c | apply Cs.rd_op | apply Cs.rd_I0 | apply Cs.rd_un | apply Cs.rd_U | apply Cs.rd_ret | apply Cs.rd_drop | apply Cs.rd_next | apply Cs.rd_cont | apply Cs.rd_cons | apply Cs.rd_nil | apply Cs.rd_cb | apply Cs.rd_lc | apply Cs.rd_itup | apply Cs.rd_chain | apply Cs.rd_gcons | apply Cs.rd_gnil | apply Cs.rd_ilist | apply Cs.rd_sl | apply Cs.rd_nopart | apply Cs.rd_part | apply Cs.rd_int | (refine Cs.rd_aug rfl ?_) | apply Cs.rd_ipI | apply Cs.rd_andV | apply Cs.rd_orV | apply Cs.rd_revA | apply Cs.rd_bm | apply Cs.rd_bm0 | apply Cs.rd_call | apply Cs.rd_if | apply Cs.rd_test | apply Cs.rd_B | apply Cs.rd_not | apply Cs.rd_and | apply Cs.rd_or | apply Cs.rd_bl | apply Cs.rd_eqN | apply Cs.rd_neN | apply Cs.rd_lst | apply Cs.rd_tup | apply Cs.rd_for | apply Cs.rd_rng3 | apply Cs.rd_gsub)
local macro_rules | `(tactic| walk_at "rd") => `(tactic| repeat (with_reducible walk_at "rd1"))
-- CsCounts
namespace Cs
open PySem PySem.Spec PyProof.Rows L2
open Vamrqb (rowOver rows kept)
section
variable {P : Program} {w : World} {K : PySem.W.Frag} {mg : Str → Option Value} {base : Heap}
abbrev sCounts : Stmt := top 1
theorem scCounts : FnScope ["line", "new", "behind", "counts", "count", "j"] ["line", "new", "behind"] (defScope sCounts) := ⟨rfl, rfl, rfl, by decide +kernel, rfl, by decide +kernel, by decide +kernel⟩
/-- counts_with: the row of counts over the row behind -/
def spCounts (K : PySem.W.Frag) : Sp := fun vs H Q _ => ∃ (a : Nat) (p q : Addr) (m old : List Nat), vs = [nv a, .ref p, .ref q] ∧ SqT K H p (nvs m) ∧ SqL K H q (nvs old) ∧ old.length = m.length + 1 ∧ m.length ≤ 100000 ∧
  ∀ H' r, Same H H' → H r = none → H' r = some (.lst (nvs (rowOver a m old))) → Q (.ref r) H'
theorem rowOver_drop (a : Nat) : ∀ (k : Nat) (m : List Nat) (old : List Nat), k ≤ m.length → (rowOver a m old).drop k = rowOver a (m.drop k) (old.drop k)
  | 0, _, _, _ => rfl
  | k + 1, [], _, h => by simp at h
  | k + 1, b :: m, old, h => by
    rw [List.drop_succ_cons]
    have e : (rowOver a (b :: m) old).drop (k + 1) = (rowOver a m (old.drop 1)).drop k := rfl
    rw [e, rowOver_drop a k m (old.drop 1) (by simpa using h), List.drop_drop, Nat.add_comm]
/-- the count at a place -/
def cntAt (a : Nat) (m old : List Nat) (k : Nat) : Nat := (rowOver a (m.drop k) (old.drop k)).headD 0
theorem rowOver_get (a : Nat) (m old : List Nat) (k : Nat) (h : k ≤ m.length) : (rowOver a m old).getD k 0 = cntAt a m old k := by
  unfold cntAt
  rw [← rowOver_drop a k m old h, headD_getD (List.drop k _), getD_drop]; rfl
theorem cntAt_end (a : Nat) (m old : List Nat) : cntAt a m old m.length = 0 := by
  unfold cntAt
  rw [List.drop_length]; rfl
theorem cntAt_step (a : Nat) (m old : List Nat) (k : Nat) (h : k < m.length) : cntAt a m old k = if a = m.getD k 0 then old.getD (k + 1) 0 + 1 else max (old.getD k 0) (cntAt a m old (k + 1)) := by
  unfold cntAt
  rw [drop_at h]
  show (if a = m.getD k 0 then (old.drop k).getD 1 0 + 1 else max ((old.drop k).getD 0 0) ((rowOver a (m.drop (k + 1)) ((old.drop k).drop 1)).headD 0)) = _
  rw [getD_drop, getD_drop, List.drop_drop]
  rfl
/-- what the list holds while the loop has i places behind it, from the end -/
def cPart (a : Nat) (m old : List Nat) (i : Nat) : List Nat := (List.replicate (m.length - i) 0) ++ (rowOver a m old).drop (m.length - i)
theorem cPart_zero (a : Nat) (m old : List Nat) : cPart a m old 0 = List.replicate (m.length + 1) 0 := by
  unfold cPart
  rw [Nat.sub_zero, rowOver_drop a _ m old (Nat.le_refl _), List.drop_length]
  show List.replicate m.length 0 ++ [0] = _
  rw [List.replicate_succ']
theorem cPart_all (a : Nat) (m old : List Nat) : cPart a m old m.length = rowOver a m old := by
  unfold cPart
  rw [Nat.sub_self]; rfl
theorem cPart_set (a : Nat) (m old : List Nat) (i : Nat) (h : i < m.length) : (cPart a m old i).set (m.length - 1 - i) (cntAt a m old (m.length - 1 - i)) = cPart a m old (i + 1) := by
  have e1 : m.length - i = (m.length - 1 - i) + 1 := by omega
  have e2 : m.length - (i + 1) = m.length - 1 - i := by omega
  unfold cPart
  rw [e1, e2, List.replicate_succ', List.append_assoc]
  generalize hk : m.length - 1 - i = k
  have hkl : k < m.length := by omega
  have hl : (List.replicate k 0).length = k := List.length_replicate
  rw [List.set_append_right _ _ (by rw [hl]; exact Nat.le_refl _), hl, Nat.sub_self]
  show List.replicate k 0 ++ (cntAt a m old k :: (rowOver a m old).drop (k + 1)) = _
  have hr : k < (rowOver a m old).length := by rw [rowOver_len]; omega
  rw [drop_at hr, rowOver_get a m old k (by omega)]
theorem cPart_len (a : Nat) (m old : List Nat) (i : Nat) (h : i ≤ m.length) : (cPart a m old i).length = m.length + 1 := by
  unfold cPart
  rw [List.length_append, List.length_replicate, List.length_drop, rowOver_len]; omega
theorem ok_counts (F : Df K mg "counts_with" sCounts) (T : Tx mg) : C8.Cal P w K mg base 1 "counts_with" (spCounts K) [] := by
  refine F.cal scCounts (fun _ _ _ _ _ _ us hl => match us, hl with | [_, _, _], _ => rfl) (fun vs H Q E h => ?_) (fun f cdv A outer s H vs Q E hr h => ?_)
  · obtain ⟨a, p, q, m, old, rfl, _⟩ := h
    rfl
  · obtain ⟨a, p, q, m, old, rfl, hm, ho, hlen, hsz, k⟩ := h
    have hu := hu_of hr
    refine ⟨_, pss_cons (ps_set (i := 3) scCounts.nd rfl (Or.inl rfl) (pe_op op_rep (pe_lst (pa_cons pe_int pa_nil)) (pe_op op_add (pe_callB call_lenS (by rfl) T.len PySem.boot_len (pa_cons (pv 1) pa_nil)) pe_int)))
      (pss_cons (ps_set (i := 4) scCounts.nd rfl (Or.inl rfl) pe_int)
      (pss_cons (ps_for PassesOwn.never rfl (pi_range3 rfl T.range (pa_cons (pe_op op_sub (pe_callB call_lenS (by rfl) T.len PySem.boot_len (pa_cons (pv 1) pa_nil)) pe_int) (pa_cons (pe_un un_neg pe_int) (pa_cons (pe_un un_neg pe_int) pa_nil)))) (pg_name (i := 5) scCounts.nd rfl (Or.inl rfl))
        (pss_cons (ps_if (pt_cmpR op_eq (pv 0) (pe_ix ix_tup (pv 1) (pv 5) (fun _ _ => rfl)) (nomark _))
          (pss_one (ps_set (i := 4) scCounts.nd rfl (Or.inl rfl) (pe_op op_add (pe_ix ix_list (pv 2) (pe_op op_add (pv 5) pe_int) (fun _ _ => rfl)) pe_int)))
          (pss_one (ps_if (pt_cmpR op_gt (pe_ix ix_list (pv 2) (pv 5) (fun _ _ => rfl)) (pv 4) (nomark _))
            (pss_one (ps_set (i := 4) scCounts.nd rfl (Or.inl rfl) (pe_ix ix_list (pv 2) (pv 5) (fun _ _ => rfl)))) pss_nil)))
        (pss_one (ps_asg (pv 4) (pg_sub (pv 3) (pv 5) set_list)))))
      (pss_one (ps_ret (pv 3))))), ?_⟩
    walk_at "rd"
    refine ⟨by show 1 ≤ sizeLine; decide, fun p0 hp0 => ?_⟩
    walk_at "rd"
    refine rd_lenT (sm_tup (sm_new hp0) hm) ?_
    walk_at "rd"
    have e1 : (((nvs m).length : Int) + 1).toNat = m.length + 1 := by rw [nvs_len]; omega
    refine ⟨_, _, _, rfl, rfl, upd_same, by rw [nvs_len]; omega, by rw [nvs_len]; omega, by rw [e1]; show 1 * _ ≤ _; exact sz (by omega), fun l hl => ?_⟩
    walk_at "rd"
    have hl0 : H l = none := sm_free (sm_new hp0) hl
    have s1 : Same H (upd (upd H p0 (.lst [V.int 0])) l (.lst (nvs (cPart a m old 0)))) := (sm_new hp0).trans (sm_new hl)
    rw [e1]
    have e2 : (List.replicate (m.length + 1) [V.int 0]).flatten = nvs (cPart a m old 0) := by
      rw [cPart_zero, nvs, List.map_replicate]
      induction m.length + 1 with
      | zero => rfl
      | succ n ih => rw [List.replicate_succ, List.replicate_succ, List.flatten_cons, ih]; rfl
    rw [e2]
    refine rd_lenT (sm_tup s1 hm) ?_
    walk_at "rd"
    have en : (((nvs m).length : Int) - 1 - -1).toNat = m.length := by rw [nvs_len]; omega
    refine ⟨_, _, _, _, rfl, RgC.neg (by rw [nvs_len]; omega) (by rw [nvs_len]; omega) (by decide) (by decide), for_rangeC (fun i σ H' => ∃ v, σ = [some (nv a), some (.ref p), some (.ref q), some (.ref l), some (nv (cntAt a m old (m.length - i))), v] ∧ Same H H' ∧ H' l = some (.lst (nvs (cPart a m old i))))
      ⟨none, ?_, s1, upd_same⟩ ?_ ?_⟩
    · rw [Nat.sub_zero, cntAt_end]; rfl
    · rw [en]
      rintro i σ H1 hi ⟨v, rfl, s2, hl2⟩
      have ej : ((nvs m).length : Int) - 1 + (i : Int) * -1 = ((m.length - 1 - i : Nat) : Int) := by rw [nvs_len]; omega
      rw [ej]
      have ek : m.length - i = (m.length - 1 - i) + 1 := by omega
      have ek2 : m.length - (i + 1) = m.length - 1 - i := by omega
      have st := cntAt_step a m old (m.length - 1 - i) (by omega)
      have sp := cPart_set a m old i hi
      have cl := cPart_len a m old i (by omega)
      rw [ek] at *
      generalize hkk : m.length - 1 - i = kk at *
      have hkl : kk < m.length := by omega
      have last : ∀ c, c = cntAt a m old kk → ∃ v, [some (nv a), some (V.ref p), some (.ref q), some (.ref l), some (nv c), some (nv kk)] = [some (nv a), some (.ref p), some (.ref q), some (.ref l), some (nv (cntAt a m old (m.length - (i + 1)))), v] ∧ Same H (upd H1 l (.lst ((nvs (cPart a m old i)).set kk (nv c)))) ∧ (upd H1 l (.lst ((nvs (cPart a m old i)).set kk (nv c)))) l = some (.lst (nvs (cPart a m old (i + 1)))) := by
        rintro c rfl
        refine ⟨some (nv kk), by rw [ek2], sm_mut s2 hl0, ?_⟩
        rw [upd_same, ← sp, nvs, nvs, List.map_set]
      have ln : kk < (nvs (cPart a m old i)).length := by rw [nvs_len, cl]; omega
      walk_at "rd"
      refine rd_ixTn (sm_tup s2 hm) rfl hkl ?_
      walk_at "rd"
      refine rd_dec (fun c => ?_) (fun c => ?_)
      · walk_at "rd"
        refine rd_ixLn (s2.seq ho) (k := kk + 1) rfl (by omega) ?_
        walk_at "rd"
        refine rd_setL hl2 rfl ln ?_
        refine last (old.getD (kk + 1) 0 + 1) ?_
        rw [st, if_pos (by omega)]
      · rw [if_neg (by omega)] at st
        walk_at "rd"
        refine rd_ixLn (s2.seq ho) (k := kk) rfl (by omega) ?_
        walk_at "rd"
        refine rd_dec (fun c => ?_) (fun c => ?_)
        · walk_at "rd"
          refine rd_ixLn (s2.seq ho) (k := kk) rfl (by omega) ?_
          walk_at "rd"
          refine rd_setL hl2 rfl ln ?_
          refine last (old.getD kk 0) ?_
          omega
        · walk_at "rd"
          refine rd_setL hl2 rfl ln ?_
          refine last (cntAt a m old (kk + 1)) ?_
          omega
    · rw [en]
      rintro σ H1 ⟨v, rfl, s2, hl2⟩
      walk_at "rd"
      rw [cPart_all] at hl2
      exact k _ _ s2 hl0 hl2
end
end Cs
-- CsRows
namespace Cs
open PySem PySem.Spec PyProof.Rows L2
open Vamrqb (rowOver rows kept)
section
variable {P : Program} {w : World} {K : PySem.W.Frag} {mg : Str → Option Value} {base : Heap}
abbrev sKept : Stmt := top 2
theorem scKept : FnScope ["old", "new", "rows", "line"] ["old", "new"] (defScope sKept) := ⟨rfl, rfl, rfl, by decide +kernel, rfl, by decide +kernel, by decide +kernel⟩
/-- kept_counts -/
def spKept (K : PySem.W.Frag) : Sp := fun vs H Q _ => ∃ (p q : Addr) (l m : List Nat), vs = [.ref p, .ref q] ∧ SqT K H p (nvs l) ∧ SqT K H q (nvs m) ∧ l.length ≤ 1000 ∧ m.length ≤ 1000 ∧
  ∀ H' r, Same H H' → RowsAt H' r (rows l m) → Q (.ref r) H'
theorem rows_step (l m : List Nat) (i : Nat) (h : i < l.length) : rows (l.drop (l.length - (i + 1))) m = rowOver (l.getD (l.length - 1 - i) 0) m ((rows (l.drop (l.length - i)) m).headD []) :: rows (l.drop (l.length - i)) m := by
  have e : l.length - (i + 1) = l.length - 1 - i := by omega
  have e2 : l.length - 1 - i + 1 = l.length - i := by omega
  rw [e, drop_at (show l.length - 1 - i < l.length by omega), e2, rows_cons]
theorem ok_kept (F : Df K mg "kept_counts" sKept) (T : Tx mg) (G : C8.Cal P w K mg base 1 "counts_with" (spCounts K) []) : C8.Cal P w K mg base 2 "kept_counts" (spKept K) [] := by
  refine F.cal scKept (fun _ _ _ _ _ _ us hl => match us, hl with | [_, _], _ => rfl) (fun vs H Q E h => ?_) (fun f cdv A outer s H vs Q E hr h => ?_)
  · obtain ⟨p, q, l, m, rfl, _⟩ := h
    rfl
  · obtain ⟨p, q, l, m, rfl, hl, hm, zl, zm, k⟩ := h
    have hu := hu_of hr
    refine ⟨_, pss_cons (ps_set (i := 2) scKept.nd rfl (Or.inl rfl) (pe_lst (pa_cons (pe_op op_rep (pe_lst (pa_cons pe_int pa_nil)) (pe_op op_add (pe_callB call_lenS (by rfl) T.len PySem.boot_len (pa_cons (pv 1) pa_nil)) pe_int)) pa_nil)))
      (pss_cons (ps_for PassesOwn.never rfl (RT.pi_revA (by rfl) T.reversed (pv 0)) (pg_name (i := 3) scKept.nd rfl (Or.inl rfl))
        (pss_one (ps_expr (pe_bm PySem.F.plainAttrs_list PySem.F.slot_list_append PySem.F.type_list_append mt_append (pv 2) (pa_cons (C8.pe_c G hr (by decide) (by rfl) (pa_cons (pv 3) (pa_cons (pv 1) (pa_cons (pe_ix ix_list (pv 2) (pe_un un_neg pe_int) (fun _ _ => rfl)) pa_nil)))) pa_nil)))))
      (pss_cons (ps_expr (pe_bm0 PySem.F.plainAttrs_list PySem.F.slot_list_reverse PySem.F.type_list_reverse mt_reverse (pv 2)))
      (pss_one (ps_ret (pv 2))))), ?_⟩
    walk_at "rd"
    refine ⟨by show 1 ≤ sizeLine; decide, fun p0 hp0 => ?_⟩
    walk_at "rd"
    refine rd_lenT (sm_tup (sm_new hp0) hm) ?_
    walk_at "rd"
    refine rd_rep0 (m.length + 1) upd_same (by rw [nvs_len]; omega) (by omega) fun p1 hp1 => ?_
    have h1 : H p1 = none := sm_free (sm_new hp0) hp1
    have s1 : Same H (upd (upd H p0 (.lst [V.int 0])) p1 (.lst (nvs (List.replicate (m.length + 1) 0)))) := (sm_new hp0).trans (sm_new hp1)
    have c1 : (upd (upd H p0 (.lst [V.int 0])) p1 (.lst (nvs (List.replicate (m.length + 1) 0)))) p1 = some (.lst (nvs (List.replicate (m.length + 1) 0))) := upd_same
    generalize upd (upd H p0 (.lst [V.int 0])) p1 (.lst (nvs (List.replicate (m.length + 1) 0))) = H1 at s1 c1
    walk_at "rd"
    refine ⟨by show 1 ≤ sizeLine; decide, fun r hr0 => ?_⟩
    walk_at "rd"
    have hr1 : H r = none := sm_free s1 hr0
    refine ⟨_, _, rfl, .inr ⟨sm_tup (s1.trans (sm_new hr0)) hl, RT.for_ItvT (fun i σ H' => ∃ v, σ = [some (.ref p), some (.ref q), some (.ref r), v] ∧ Same H H' ∧
      ∃ ps : List (Addr × List Nat), H' r = some (.lst (ps.map fun x => V.ref x.1)) ∧ (ps.map (·.2)).reverse = rows (l.drop (l.length - i)) m ∧ ∀ x ∈ ps, x.1 ≠ r ∧ H' x.1 = some (.lst (nvs x.2))) ?_ ?_ ?_ ?_⟩⟩
    · refine ⟨none, rfl, s1.trans (sm_new hr0), [(p1, List.replicate (m.length + 1) 0)], upd_same, ?_, fun x hx => ?_⟩
      · rw [Nat.sub_zero, List.drop_length]; rfl
      · rw [List.mem_singleton.mp hx]
        have ne : p1 ≠ r := ne_of_none c1 hr0
        exact ⟨ne, by rw [upd_ne ne]; exact c1⟩
    · rintro i σ H2 ⟨v, rfl, s2, _⟩
      exact sm_tup s2 hl
    · rw [nvs_len]
      rintro i x σ H2 hi hx ⟨v, rfl, s2, ps, a1, a2, a3⟩
      rw [nvs_get, List.getElem?_eq_getElem (by omega)] at hx
      have hx : nv (l.getD (l.length - 1 - i) 0) = x := by
        rw [List.getD_eq_getElem?_getD, List.getElem?_eq_getElem (by omega)]
        exact Option.some.inj hx
      subst hx
      have st := rows_step l m i hi
      rcases List.eq_nil_or_concat ps with e | ⟨qs, z, e⟩
      · subst e
        exact absurd a2.symm (rows_ne _ _)
      · rw [List.concat_eq_append] at e
        subst e
        have hz := a3 z (by simp)
        rw [← a2] at st
        have eh : ((List.map (fun x => x.2) (qs ++ [z])).reverse).headD [] = z.2 := by simp
        rw [eh] at st
        have z1 : z.2 ∈ rows (l.drop (l.length - i)) m := by
          rw [← a2, List.mem_reverse]
          exact List.mem_map.mpr ⟨z, by simp, rfl⟩
        have z2 := rows_each _ m _ z1
        have el : (qs ++ [z]).length = i + 1 := by
          have := congrArg List.length a2
          rw [List.length_reverse, List.length_map, rows_len, List.length_drop] at this
          omega
        walk_at "rd"
        refine ⟨ty_lst a1, ?_⟩
        walk_at "rd"
        have a1' : H2 r = some (.lst (qs.map (fun x => V.ref x.1) ++ [V.ref z.1])) := by rw [a1, List.map_append]; rfl
        refine rd_ixLast (SqL.of a1') ?_
        walk_at "rd"
        refine ⟨_, q, z.1, m, z.2, rfl, sm_tup s2 hm, SqL.of hz.2, z2, by omega, fun H3 a s3 ha hb => ?_⟩
        walk_at "rd"
        refine rd_append (s3 _ _ a1) (by rw [List.length_map, el]; exact szl (by omega)) ?_
        have nar : a ≠ r := fun q => by
          rw [q, a1] at ha; cases ha
        refine ⟨_, rfl, sm_mut (s2.trans s3) hr1, (qs ++ [z]) ++ [(a, rowOver (l.getD (l.length - 1 - i) 0) m z.2)], ?_, ?_, ?_⟩
        · rw [upd_same, List.map_append (l₁ := qs ++ [z])]; rfl
        · rw [st, List.map_append, List.reverse_append]; rfl
        · intro x hx
          rcases List.mem_append.mp hx with hx | hx
          · have := a3 x hx
            exact ⟨this.1, by rw [upd_ne this.1]; exact s3 _ _ this.2⟩
          · rw [List.mem_singleton.mp hx]
            exact ⟨nar, by rw [upd_ne nar]; exact hb⟩
    · rw [nvs_len]
      rintro σ H2 ⟨v, rfl, s2, ps, a1, a2, a3⟩
      walk_at "rd"
      refine ⟨ty_lst a1, ?_⟩
      refine rd_reverse a1 ?_
      walk_at "rd"
      rw [Nat.sub_self] at a2
      refine k _ _ (sm_mut s2 hr1) ⟨ps.reverse, ?_, ?_, ?_⟩
      · rw [upd_same, List.map_reverse]
      · rw [List.map_reverse]; exact a2
      · intro x hx
        have := a3 x (List.mem_reverse.mp hx)
        rw [upd_ne this.1]; exact this.2
end
end Cs
-- CsHunks
namespace Cs
open PySem PySem.Spec PyProof.Rows L2
open Vamrqb (rowOver rows kept)
section
variable {P : Program} {w : World} {K : PySem.W.Frag} {mg : Str → Option Value} {base : Heap}
abbrev sBegins : Stmt := top 3
abbrev NBegins : List Str := ["old", "new", "i", "j"]
theorem scBegins : FnScope NBegins ["old", "new", "i", "j"] (defScope sBegins) := ⟨rfl, rfl, rfl, by decide +kernel, rfl, by decide +kernel, by decide +kernel⟩
/-- begins_alike -/
def spBegins (K : PySem.W.Frag) : Sp := fun vs H Q _ => ∃ (p q : Addr) (l m : List Nat) (i j : Nat), vs = [.ref p, .ref q, nv i, nv j] ∧ SqT K H p (nvs l) ∧ SqT K H q (nvs m) ∧ Q (.bl (bal l m i j)) H
theorem bal_no1 {l m : List Nat} {i j : Nat} (h : ¬ i < l.length) : bal l m i j = false := by
  unfold bal
  rw [decide_eq_false h]; rfl
theorem bal_no2 {l m : List Nat} {i j : Nat} (h : ¬ j < m.length) : bal l m i j = false := by
  unfold bal
  rw [decide_eq_false h]; simp
theorem bal_eq {l m : List Nat} {i j : Nat} (h1 : i < l.length) (h2 : j < m.length) : bal l m i j = decide ((l.getD i 0 : Int) = (m.getD j 0 : Int)) := by
  unfold bal
  rw [decide_eq_true h1, decide_eq_true h2, Bool.true_and, Bool.true_and]
  by_cases h : l.getD i 0 = m.getD j 0
  · rw [decide_eq_true h, decide_eq_true (by omega)]
  · rw [decide_eq_false h, decide_eq_false (by omega)]
theorem ok_begins (F : Df K mg "begins_alike" sBegins) (T : Tx mg) : C8.Cal P w K mg base 1 "begins_alike" (spBegins K) [] := by
  refine F.cal scBegins (fun _ _ _ _ _ _ us hl => match us, hl with | [_, _, _, _], _ => rfl) (fun vs H Q E h => ?_) (fun f cdv A outer s H vs Q E hr h => ?_)
  · obtain ⟨p, q, l, m, i, j, rfl, _⟩ := h
    rfl
  · obtain ⟨p, q, l, m, i, j, rfl, hl, hm, k⟩ := h
    refine ⟨_, (pss_one (ps_ret (pe_and (pe_cmpR op_lt (pv 2) (pe_callB call_lenS (by rfl) T.len PySem.boot_len (pa_cons (pv 0) pa_nil)) (nomark _)) (pe_and (pe_cmpR op_lt (pv 3) (pe_callB call_lenS (by rfl) T.len PySem.boot_len (pa_cons (pv 1) pa_nil)) (nomark _)) (pe_one (pe_cmpR op_eq (pe_ix ix_tup (pv 0) (pv 2) (fun _ _ => rfl)) (pe_ix ix_tup (pv 1) (pv 3) (fun _ _ => rfl)) (nomark _))))))), ?_⟩
    walk_at "rd"
    refine rd_lenT hl ?_
    walk_at "rd"
    refine rd_dec (fun c => ?_) (fun c => ?_)
    · rw [nvs_len] at c
      walk_at "rd"
      refine rd_lenT hm ?_
      walk_at "rd"
      refine rd_dec (fun d => ?_) (fun d => ?_)
      · rw [nvs_len] at d
        have h1 : i < l.length := by omega
        have h2 : j < m.length := by omega
        walk_at "rd"
        refine rd_ixTn hl rfl h1 ?_
        walk_at "rd"
        refine rd_ixTn hm rfl h2 ?_
        walk_at "rd"
        rw [bal_eq h1 h2] at k
        exact k
      · rw [nvs_len] at d
        rw [bal_no2 (by omega)] at k
        exact k
    · rw [nvs_len] at c
      rw [bal_no1 (by omega)] at k
      exact k
abbrev sHunks : Stmt := top 4
abbrev NHunks : List Str := ["old", "new", "counts", "hunks", "i", "j", "place", "first_new"]
theorem scHunks : FnScope NHunks ["old", "new"] (defScope sHunks) := ⟨rfl, rfl, rfl, by decide +kernel, rfl, by decide +kernel, by decide +kernel⟩
/-- hunks_between -/
def spHunks : Sp := fun vs H Q _ => ∃ (p q : Addr) (l m : List Nat), vs = [.ref p, .ref q] ∧ H p = some (.tup (nvs l)) ∧ H q = some (.tup (nvs m)) ∧ l.length ≤ 1000 ∧ m.length ≤ 1000 ∧
  ∀ H' r, Same H H' → TrisAt H' r (hks l m) → Q (.ref r) H'
theorem ok_hunks (F : Df K mg "hunks_between" sHunks) (T : Tx mg) (G_kept_counts : C8.Cal P w K mg base 2 "kept_counts" (spKept K) []) (G_begins_alike : C8.Cal P w K mg base 1 "begins_alike" (spBegins K) []) : C8.Cal P w K mg base 3 "hunks_between" spHunks [] := by
  refine F.cal scHunks (fun _ _ _ _ _ _ us hl => match us, hl with | [_, _], _ => rfl) (fun vs H Q E h => ?_) (fun f cdv A outer s H vs Q E hr h => ?_)
  · obtain ⟨p, q, l, m, rfl, _⟩ := h
    rfl
  · obtain ⟨p, q, l, m, rfl, hl, hm, zl, zm, k⟩ := h
    have hu := hu_of hr
    refine ⟨_, (pss_cons (ps_set (i := 2) scHunks.nd rfl (Or.inl rfl) (C8.pe_c G_kept_counts hr (by decide) (by rfl) (pa_cons (pv 0) (pa_cons (pv 1) pa_nil))))
      (pss_cons (ps_set (i := 3) scHunks.nd rfl (Or.inl rfl) (pe_lst pa_nil))
      (pss_cons (ps_set (i := 4) scHunks.nd rfl (Or.inl rfl) pe_int)
      (pss_cons (ps_set (i := 5) scHunks.nd rfl (Or.inl rfl) pe_int)
      (pss_cons (ps_while PassesOwn.never (PW.pt (pw_or (pt_cmpR op_lt (pv 4) (pe_callB call_lenS (by rfl) T.len PySem.boot_len (pa_cons (pv 0) pa_nil)) (nomark _)) (pw_or1 (pt_cmpR op_lt (pv 5) (pe_callB call_lenS (by rfl) T.len PySem.boot_len (pa_cons (pv 1) pa_nil)) (nomark _)))))
        (pss_cons (ps_if (pt_val (C8.pe_c G_begins_alike hr (by decide) (by rfl) (pa_cons (pv 0) (pa_cons (pv 1) (pa_cons (pv 4) (pa_cons (pv 5) pa_nil))))))
          (pss_cons (ps_aug (i := 4) scHunks.nd rfl (.inl rfl) pe_int ip_add)
          (pss_cons (ps_aug (i := 5) scHunks.nd rfl (.inl rfl) pe_int ip_add)
          (pss_one ps_continue)))
          pss_nil)
        (pss_cons (ps_set (i := 6) scHunks.nd rfl (Or.inl rfl) (pv 4))
        (pss_cons (ps_set (i := 7) scHunks.nd rfl (Or.inl rfl) (pv 5))
        (pss_cons (ps_while PassesOwn.never (PW.pt (pw_and (PW.pt (pw_or (pt_cmpR op_lt (pv 4) (pe_callB call_lenS (by rfl) T.len PySem.boot_len (pa_cons (pv 0) pa_nil)) (nomark _)) (pw_or1 (pt_cmpR op_lt (pv 5) (pe_callB call_lenS (by rfl) T.len PySem.boot_len (pa_cons (pv 1) pa_nil)) (nomark _))))) (pw_and1 (pt_not (pt_val (C8.pe_c G_begins_alike hr (by decide) (by rfl) (pa_cons (pv 0) (pa_cons (pv 1) (pa_cons (pv 4) (pa_cons (pv 5) pa_nil))))))))))
          (pss_one (ps_if (PW.pt (pw_and (pt_cmpR op_lt (pv 4) (pe_callB call_lenS (by rfl) T.len PySem.boot_len (pa_cons (pv 0) pa_nil)) (nomark _)) (pw_and1 (pt_cmpR op_eq (pe_ix ix_list (pe_ix ix_list (pv 2) (pe_op op_add (pv 4) pe_int) (fun _ _ => rfl)) (pv 5) (fun _ _ => rfl)) (pe_ix ix_list (pe_ix ix_list (pv 2) (pv 4) (fun _ _ => rfl)) (pv 5) (fun _ _ => rfl)) (nomark _)))))
            (pss_one (ps_aug (i := 4) scHunks.nd rfl (.inl rfl) pe_int ip_add))
            (pss_one (ps_aug (i := 5) scHunks.nd rfl (.inl rfl) pe_int ip_add)))))
        (pss_one (ps_expr (pe_bm PySem.F.plainAttrs_list PySem.F.slot_list_append PySem.F.type_list_append mt_append (pv 3) (pa_cons (pe_tup (pa_cons (pv 6) (pa_cons (pe_slice sl_tupA (pv 0) (po_some (pv 6)) (po_some (pv 4))) (pa_cons (pe_slice sl_tupA (pv 1) (po_some (pv 7)) (po_some (pv 5))) pa_nil)))) pa_nil)))))))))
      (pss_one (ps_ret (pv 3)))))))), ?_⟩
    walk_at "rd"
    refine ⟨p, q, l, m, rfl, SqT.of hl, SqT.of hm, zl, zm, fun H1 c s1 hc => ?_⟩
    walk_at "rd"
    refine ⟨by show 0 ≤ sizeLine; decide, fun h0 hh0 => ?_⟩
    walk_at "rd"
    have hh : H h0 = none := sm_free s1 hh0
    refine rd_while (fun n σ H' => ∃ (i j : Nat) (hs : List Tri) (v6 v7 : Option V), σ = [some (.ref p), some (.ref q), some (.ref c), some (.ref h0), some (nv i), some (nv j), v6, v7] ∧ i ≤ l.length ∧ j ≤ m.length ∧ n = (l.length - i) + (m.length - j) ∧
      Same H1 H' ∧ TrisAt H' h0 hs ∧ hs ++ togo l m i [] [] i j = hks l m) (l.length + m.length) ?_ ?_
    · exact ⟨0, 0, [], none, none, rfl, Nat.zero_le _, Nat.zero_le _, rfl, sm_new hh0, ⟨[], upd_same, rfl, fun x hx => (by cases hx)⟩, rfl⟩
    · rintro n σ H2 ⟨i, j, hs, v6, v7, rfl, hi, hj, rfl, s2, ht, tg⟩
      have hl2 := s2 _ _ (s1 _ _ hl)
      have hm2 := s2 _ _ (s1 _ _ hm)
      have hc2 : RowsAt H2 c (rows l m) := hc.same s2
      have gb : ∀ (a b : Nat), spBegins K ([.ref p, .ref q, nv a, nv b] ++ []) H2 (fun v H' => v = .bl (bal l m a b) ∧ H' = H2) C8.E0 := fun a b => ⟨p, q, l, m, a, b, rfl, SqT.of hl2, SqT.of hm2, rfl, rfl⟩
      refine an_use (an_or (an_ltLen rfl rfl (SqT.of hl2)) fun _ => an_ltLen rfl rfl (SqT.of hm2)) ?_
      refine rd_cond (fun hc0 => ?_) (fun hc0 => ?_)
      · rw [Bool.or_eq_true, decide_eq_true_iff, decide_eq_true_iff] at hc0
        refine ⟨_, fun σ' H' h => h, ?_⟩
        walk_at "rd"
        refine ⟨p, q, l, m, i, j, rfl, SqT.of hl2, SqT.of hm2, ?_⟩
        walk_at "rd"
        refine rd_cond (fun hb => ?_) (fun hb => ?_)
        · obtain ⟨b1, b2, b3⟩ := bal_iff.mp hb
          walk_at "rd"
          refine ⟨(l.length - (i + 1)) + (m.length - (j + 1)), by omega, i + 1, j + 1, hs, v6, v7, rfl, by omega, by omega, rfl, s2, ht, ?_⟩
          rw [← togo_keep0 hb]; exact tg
        · walk_at "rd"
          refine rd_while (fun n σ H' => H' = H2 ∧ ∃ (a b : Nat), σ = [some (.ref p), some (.ref q), some (.ref c), some (.ref h0), some (nv a), some (nv b), some (nv i), some (nv j)] ∧ i ≤ a ∧ a ≤ l.length ∧ j ≤ b ∧ b ≤ m.length ∧ n = (l.length - a) + (m.length - b) ∧
            togo l m i (cutN l i a) (cutN m j b) a b = togo l m i [] [] i j) ((l.length - i) + (m.length - j)) ⟨rfl, i, j, rfl, Nat.le_refl _, hi, Nat.le_refl _, hj, rfl, by rw [cutN_self, cutN_self]⟩ ?_
          rintro n σ H' ⟨rfl, a, b, rfl, ia, al, jb, bm, rfl, tg2⟩
          have ab : An (tNot (tB (tCall (spBegins K) [] C8.E0 (tCons (tVar 0) (tCons (tVar 1) (tCons (tVar 4) (tCons (tVar 5) tNil))))))) [some (.ref p), some (.ref q), some (.ref c), some (.ref h0), some (nv a), some (nv b), some (nv i), some (nv j)] H' (!(bal l m a b)) := by
            intro R r
            walk_at "rd"
            refine ⟨p, q, l, m, a, b, rfl, SqT.of hl2, SqT.of hm2, ?_⟩
            walk_at "rd"
            exact r
          refine an_use (an_and (an_or (an_ltLen rfl rfl (SqT.of hl2)) fun _ => an_ltLen rfl rfl (SqT.of hm2)) fun _ => ab) ?_
          refine rd_cond (fun hd => ?_) (fun hd => ?_)
          · rw [Bool.and_eq_true, Bool.or_eq_true, decide_eq_true_iff, decide_eq_true_iff, Bool.not_eq_true'] at hd
            obtain ⟨hd1, hd2⟩ := hd
            refine ⟨_, fun σ' H' h => h, ?_⟩
            have ak : a < l.length → An (tTest (tOp rEq (tOp (rIxL K) (tOp (rIxL K) (tVar 2) (tOp (rI0 fun i j => V.int (i + j)) (tVar 4) (tC (V.int 1)))) (tVar 5)) (tOp (rIxL K) (tOp (rIxL K) (tVar 2) (tVar 4)) (tVar 5)))) [some (.ref p), some (.ref q), some (.ref c), some (.ref h0), some (nv a), some (nv b), some (nv i), some (nv j)] H' (decide (kept (l.drop (a + 1)) (m.drop b) = kept (l.drop a) (m.drop b))) := by
              intro h1 R r
              have rl := rows_len l m
              obtain ⟨xs, a1, x1, x2, x3⟩ := hc2.get (i := a + 1) (by rw [rl]; omega)
              obtain ⟨ys, a2, y1, y2, y3⟩ := hc2.get (i := a) (by rw [rl]; omega)
              have r1 : ((rows l m).getD (a + 1) []).length = m.length + 1 := rows_each l m _ (by
                rw [List.getD_eq_getElem?_getD, List.getElem?_eq_getElem (by rw [rl]; omega)]
                exact List.getElem_mem _)
              have r2 : ((rows l m).getD a []).length = m.length + 1 := rows_each l m _ (by
                rw [List.getD_eq_getElem?_getD, List.getElem?_eq_getElem (by rw [rl]; omega)]
                exact List.getElem_mem _)
              walk_at "rd"
              refine rd_ixL (SqL.of x1) (k := a + 1) rfl x2 ?_
              walk_at "rd"
              refine rd_ixLn (SqL.of x3) rfl (by rw [r1]; omega) ?_
              walk_at "rd"
              refine rd_ixL (SqL.of y1) (k := a) rfl y2 ?_
              walk_at "rd"
              refine rd_ixLn (SqL.of y3) rfl (by rw [r2]; omega) ?_
              rw [counts_at l m (a + 1) b (by omega) (by omega), counts_at l m a b (by omega) (by omega)]
              walk_at "rd"
              have e : decide (((kept (l.drop (a + 1)) (m.drop b) : Nat) : Int) = ((kept (l.drop a) (m.drop b) : Nat) : Int)) = decide (kept (l.drop (a + 1)) (m.drop b) = kept (l.drop a) (m.drop b)) := by
                by_cases h : kept (l.drop (a + 1)) (m.drop b) = kept (l.drop a) (m.drop b)
                · rw [decide_eq_true h, decide_eq_true (by omega)]
                · rw [decide_eq_false h, decide_eq_false (by omega)]
              rw [e]; exact r
            refine rd_if ?_
            refine an_use (an_and (an_ltLen rfl rfl (SqT.of hl2)) fun h => ak (of_decide_eq_true h)) ?_
            refine rd_cond (fun he => ?_) (fun he => ?_)
            · rw [Bool.and_eq_true, decide_eq_true_iff, decide_eq_true_iff] at he
              walk_at "rd"
              refine ⟨(l.length - (a + 1)) + (m.length - b), by omega, rfl, a + 1, b, rfl, by omega, by omega, jb, bm, rfl, ?_⟩
              rw [cutN_more ia he.1, ← togo_gone he.1 hd2 he.2]; exact tg2
            · have hk : a < l.length → ¬ kept (l.drop (a + 1)) (m.drop b) = kept (l.drop a) (m.drop b) := fun h1 h2 => by
                rw [decide_eq_true h1, decide_eq_true h2] at he; cases he
              have hb2 : b < m.length := by
                by_cases h1 : a < l.length
                · exact come_there h1 bm (hk h1)
                · omega
              walk_at "rd"
              refine ⟨(l.length - a) + (m.length - (b + 1)), by omega, rfl, a, b + 1, rfl, ia, al, by omega, by omega, rfl, ?_⟩
              rw [cutN_more jb hb2, ← togo_come hb2 hd2 hk]; exact tg2
          · -- behind the loop: one hunk more
            have new : cutN l i a ≠ [] ∨ cutN m j b ≠ [] := by
              have la := cutN_len (i := i) al
              have lb := cutN_len (i := j) bm
              by_cases h1 : a = i
              · by_cases h2 : b = j
                · exfalso
                  subst h1 h2
                  rw [hb] at hd
                  rcases hc0 with h | h
                  · rw [decide_eq_true h] at hd; cases hd
                  · rw [decide_eq_true h, Bool.or_true] at hd; cases hd
                · right
                  intro z
                  rw [z] at lb
                  have : b - j = 0 := lb.symm
                  omega
              · left
                intro z
                rw [z] at la
                have : a - i = 0 := la.symm
                omega
            have fin : hs ++ [(i, cutN l i a, cutN m j b)] ++ togo l m a [] [] a b = hks l m := by
              rw [← tg, ← tg2, List.append_assoc]
              refine congrArg (hs ++ ·) ?_
              by_cases hbb : bal l m a b = true
              · rw [togo_keep hbb i, togo_keep0 hbb, shut_one new, cutN_len al]
                have e : i + (a - i) + 1 = a + 1 := by omega
                rw [e]
              · have hbf : bal l m a b = false := by simpa using hbb
                rw [hbf] at hd
                have h1 : ¬ a < l.length := fun z => by rw [decide_eq_true z] at hd; cases hd
                have h2 : ¬ b < m.length := fun z => by rw [decide_eq_true z, Bool.or_true] at hd; cases hd
                rw [togo_end (by omega) (by omega), togo_end (by omega) (by omega), shut_one new]
                rfl
            obtain ⟨ts, t1, t2, t3⟩ := ht
            walk_at "rd"
            refine ⟨ty_lst t1, ?_⟩
            walk_at "rd"
            refine rd_slT hl2 (cutV_nn l i a) fun b1 H3 s3 e3 => ?_
            walk_at "rd"
            refine rd_slT (s3 _ _ hm2) (cutV_nn m j b) fun b2 H4 s4 e4 => ?_
            walk_at "rd"
            refine ⟨by show 3 ≤ sizeLine; decide, fun t0 ht0 => ?_⟩
            walk_at "rd"
            have s5 : Same H' (upd H4 t0 (.tup [nv i, .ref b1, .ref b2])) := (s3.trans s4).trans (sm_new ht0)
            have tt : TriAt (upd H4 t0 (.tup [nv i, .ref b1, .ref b2])) t0 (i, cutN l i a, cutN m j b) := ⟨b1, b2, upd_same, (sm_new ht0) _ _ (s4 _ _ e3), (sm_new ht0) _ _ e4⟩
            have ht5 : TrisAt (upd H4 t0 (.tup [nv i, .ref b1, .ref b2])) h0 hs := TrisAt.same s5 ⟨ts, t1, t2, t3⟩
            obtain ⟨xs, x1, x2, x3⟩ := ht5.add tt
            refine rd_append x1 (by rw [x2]; exact szl (by have := hks_len l m; have := congrArg List.length tg; rw [List.length_append] at this; omega)) ?_
            refine ⟨(l.length - a) + (m.length - b), ?_, a, b, hs ++ [(i, cutN l i a, cutN m j b)], _, _, rfl, al, bm, rfl, sm_mut (s2.trans s5) hh0, x3, fin⟩
            rcases new with h | h
            · have la := cutN_len (i := i) al
              have : 0 < (cutN l i a).length := List.length_pos_iff.mpr h
              omega
            · have lb := cutN_len (i := j) bm
              have : 0 < (cutN m j b).length := List.length_pos_iff.mpr h
              omega
      · rw [Bool.or_eq_false_iff, decide_eq_false_iff_not, decide_eq_false_iff_not] at hc0
        walk_at "rd"
        refine k _ _ (s1.trans s2) ?_
        rw [togo_end (by omega) (by omega)] at tg
        have e : hs = hks l m := by rw [← tg]; exact (List.append_nil hs).symm
        rw [← e]; exact ht
end
end Cs
-- CsStretch
namespace Cs
open PySem PySem.Spec PyProof.Rows L2
section
variable {P : Program} {w : World} {K : PySem.W.Frag} {mg : Str → Option Value} {base : Heap}
abbrev sStretch : Stmt := top 5
abbrev NStretch : List Str := ["text", "begin", "end", "hunks", "done", "place", "gone", "come"]
theorem scStretch : FnScope NStretch ["text", "begin", "end", "hunks"] (defScope sStretch) := ⟨rfl, rfl, rfl, by decide +kernel, rfl, by decide +kernel, by decide +kernel⟩
/-- stretch_with -/
def spStretch : Sp := fun vs H Q _ => ∃ (p r : Addr) (l : List Nat) (b e : Nat) (hs : List Tri), vs = [.ref p, nv b, nv e, .ref r] ∧ H p = some (.tup (nvs l)) ∧ TrisAt H r hs ∧ l.length ≤ 1000 ∧ hs.length ≤ 3000 ∧ (∀ h ∈ hs, h.2.2.length ≤ 2000) ∧
  ∀ H' c, Same H H' → H' c = some (.tup (nvs (stW l e b hs))) → Q (.ref c) H'
theorem cutN_short (l : List Nat) (i j : Nat) : (cutN l i j).length ≤ l.length := by
  unfold cutN
  rw [List.length_take, List.length_drop]; omega
/-- done behind i hunks, and where it stands -/
def stDone (l : List Nat) : Nat → List Tri → List Nat × Nat
  | b, [] => ([], b)
  | b, h :: r => let x := stDone l (h.1 + h.2.1.length) r
    (cutN l b h.1 ++ (h.2.2 ++ x.1), x.2)
theorem stDone_all (l : List Nat) (e : Nat) : ∀ (hs : List Tri) (b : Nat), (stDone l b hs).1 ++ cutN l (stDone l b hs).2 e = stW l e b hs
  | [], b => rfl
  | h :: r, b => by
    show (cutN l b h.1 ++ (h.2.2 ++ (stDone l (h.1 + h.2.1.length) r).1)) ++ cutN l (stDone l (h.1 + h.2.1.length) r).2 e = cutN l b h.1 ++ (h.2.2 ++ stW l e (h.1 + h.2.1.length) r)
    rw [List.append_assoc, List.append_assoc, stDone_all l e r]
theorem stDone_add (l : List Nat) (x : Tri) : ∀ (hs : List Tri) (b : Nat), stDone l b (hs ++ [x]) = ((stDone l b hs).1 ++ (cutN l (stDone l b hs).2 x.1 ++ x.2.2), x.1 + x.2.1.length)
  | [], b => by
    show (cutN l b x.1 ++ (x.2.2 ++ []), x.1 + x.2.1.length) = ([] ++ (cutN l b x.1 ++ x.2.2), x.1 + x.2.1.length)
    rw [List.append_nil]; rfl
  | h :: r, b => by
    show (cutN l b h.1 ++ (h.2.2 ++ (stDone l (h.1 + h.2.1.length) (r ++ [x])).1), (stDone l (h.1 + h.2.1.length) (r ++ [x])).2) = _
    rw [stDone_add l x r]
    show _ = ((cutN l b h.1 ++ (h.2.2 ++ (stDone l (h.1 + h.2.1.length) r).1)) ++ (cutN l (stDone l (h.1 + h.2.1.length) r).2 x.1 ++ x.2.2), _)
    simp only [List.append_assoc]
theorem stDone_len (l : List Nat) (hl : l.length ≤ 1000) : ∀ (hs : List Tri) (b : Nat), (∀ h ∈ hs, h.2.2.length ≤ 2000) → (stDone l b hs).1.length ≤ hs.length * 3000
  | [], b, _ => Nat.zero_le _
  | h :: r, b, hh => by
    have ih := stDone_len l hl r (h.1 + h.2.1.length) fun x hx => hh x (List.mem_cons_of_mem _ hx)
    have h1 := hh h (List.mem_cons_self ..)
    have h2 := cutN_short l b h.1
    show (cutN l b h.1 ++ (h.2.2 ++ (stDone l (h.1 + h.2.1.length) r).1)).length ≤ (r.length + 1) * 3000
    rw [List.length_append, List.length_append]
    omega
theorem ok_stretch (F : Df K mg "stretch_with" sStretch) (T : Tx mg) : C8.Cal P w K mg base 1 "stretch_with" spStretch [] := by
  refine F.cal scStretch (fun _ _ _ _ _ _ us hl => match us, hl with | [_, _, _, _], _ => rfl) (fun vs H Q E h => ?_) (fun f cdv A outer s H vs Q E hr h => ?_)
  · obtain ⟨p, r, l, b, e, hs, rfl, _⟩ := h
    rfl
  · obtain ⟨p, r, l, b, e, hs, rfl, hl, ht, zl, zh, zn, k⟩ := h
    refine ⟨_, (pss_cons (ps_set (i := 4) scStretch.nd rfl (Or.inl rfl) (pe_tup pa_nil))
      (pss_cons (ps_for PassesOwn.never rfl (pi_list (pv 3)) (pg_tup (by rfl) (pgs_cons (pg_name (i := 5) scStretch.nd rfl (Or.inl rfl)) (pgs_cons (pg_name (i := 6) scStretch.nd rfl (Or.inl rfl)) (pgs_cons (pg_name (i := 7) scStretch.nd rfl (Or.inl rfl)) pgs_nil))))
        (pss_cons (ps_set (i := 4) scStretch.nd rfl (Or.inl rfl) (pe_op op_catA (pe_op op_catA (pv 4) (pe_slice sl_tupA (pv 0) (po_some (pv 1)) (po_some (pv 5)))) (pv 7)))
        (pss_one (ps_set (i := 1) scStretch.nd rfl (Or.inl rfl) (pe_op op_add (pv 5) (pe_callB call_lenS (by rfl) T.len PySem.boot_len (pa_cons (pv 6) pa_nil)))))))
      (pss_one (ps_ret (pe_op op_catA (pv 4) (pe_slice sl_tupA (pv 0) (po_some (pv 1)) (po_some (pv 2)))))))), ?_⟩
    walk_at "rd"
    refine ⟨by show 0 ≤ sizeLine; decide, fun p0 hp0 => ?_⟩
    walk_at "rd"
    obtain ⟨ts, t1, t2, t3⟩ := ht.same (sm_new (o := .tup []) hp0)
    refine ⟨_, rfl, ⟨_, SqL.of t1⟩, for_list (K := K) (a := r) (xs := ts.map fun x => V.ref x.1) (fun i σ H' => ∃ (d : Addr) (v5 v6 v7 : Option V), σ = [some (.ref p), some (nv (stDone l b (hs.take i)).2), some (nv e), some (.ref r), some (.ref d), v5, v6, v7] ∧
      Same (upd H p0 (.tup [])) H' ∧ H' d = some (.tup (nvs (stDone l b (hs.take i)).1))) ?_ ?_ ?_ ?_⟩
    · exact ⟨p0, none, none, none, rfl, Same.refl _, upd_same⟩
    · rintro i σ H' _ ⟨d, v5, v6, v7, rfl, s1, hd⟩
      exact SqL.of (s1 _ _ t1)
    · rintro i x σ H' hx ⟨d, v5, v6, v7, rfl, s1, hd⟩
      rw [List.getElem?_map] at hx
      cases e1 : ts[i]? with
      | none => rw [e1] at hx; cases hx
      | some y =>
        rw [e1] at hx
        have hx : V.ref y.1 = x := Option.some.inj hx
        subst hx
        have hy : hs[i]? = some y.2 := by rw [← t2, List.getElem?_map, e1]; rfl
        obtain ⟨a1, a2, b1, b2, b3⟩ := (t3 y (List.mem_of_getElem? e1)).same s1
        have st := take_more hy
        have il : i < hs.length := (List.getElem?_eq_some_iff.mp hy).1
        have zd := stDone_len l zl (hs.take i) b fun h hm => zn h (List.mem_of_mem_take hm)
        have zi : (hs.take i).length ≤ 3000 := by rw [List.length_take]; omega
        have zy := zn y.2 (List.mem_of_getElem? hy)
        have zc := cutN_short l (stDone l b (hs.take i)).2 y.2.1
        have hl1 : H' p = some (.tup (nvs l)) := s1 _ _ (sm_new hp0 _ _ hl)
        refine rd_gtup (SqT.of b1) rfl ?_
        walk_at "rd"
        refine rd_slT hl1 (cutV_nn l _ _) fun c1 H3 s3 e3 => ?_
        refine rd_catT (s3 _ _ hd) e3 (by omega) fun c2 H4 s4 e4 => ?_
        walk_at "rd"
        refine rd_catT e4 (s4 _ _ (s3 _ _ b3)) (by rw [List.length_append]; omega) fun c3 H5 s5 e5 => ?_
        walk_at "rd"
        refine rd_lenT (SqT.of (s5 _ _ (s4 _ _ (s3 _ _ b2)))) ?_
        walk_at "rd"
        rw [st, stDone_add]
        refine ⟨c3, some (nv y.2.1), some (.ref a1), some (.ref a2), ?_, s1.trans ((s3.trans s4).trans s5), ?_⟩
        · show [some (V.ref p), some (V.int ((y.2.1 : Int) + ((nvs y.2.2.1).length : Int))), some (nv e), some (V.ref r), some (V.ref c3), some (nv y.2.1), some (V.ref a1), some (V.ref a2)] = _
          have e6 : (y.2.1 : Int) + ((nvs y.2.2.1).length : Int) = ((y.2.1 + y.2.2.1.length : Nat) : Int) := by rw [nvs_len]; omega
          rw [e6]
        · rw [e5, List.append_assoc]
    · rw [List.length_map]
      rintro σ H' ⟨d, v5, v6, v7, rfl, s1, hd⟩
      have el : ts.length = hs.length := by rw [← t2, List.length_map]
      rw [el, List.take_length] at hd ⊢
      have zd := stDone_len l zl hs b zn
      have zc := cutN_short l (stDone l b hs).2 e
      have hl1 : H' p = some (.tup (nvs l)) := s1 _ _ (sm_new hp0 _ _ hl)
      walk_at "rd"
      refine rd_slT hl1 (cutV_nn l _ _) fun c1 H3 s3 e3 => ?_
      refine rd_catT (s3 _ _ hd) e3 (by omega) fun c2 H4 s4 e4 => ?_
      rw [stDone_all] at e4
      exact k _ _ ((sm_new hp0).trans (s1.trans (s3.trans s4))) e4
end
end Cs
-- CsEq
/-! == of tuples of numbers, of what may be None; in, over a list of them. -/
namespace Cs
open PySem PySem.Spec PyProof.Rows L2
def tD (l : List Nat) : PyData := .tuple (l.map fun (n : Nat) => PyData.int (n : Int))
def oD : Option (List Nat) → PyData
  | none => .none
  | some l => tD l
theorem ints_lay : ∀ l : List Nat, PyData.canLayAll0 (l.map fun (n : Nat) => PyData.int (n : Int)) = true
  | [] => by simp [PyData.canLayAll0]
  | a :: l => by simp [PyData.canLayAll0, PyData.canLay0, ints_lay l]
theorem ints_depth : ∀ l : List Nat, PyData.depthAll (l.map fun (n : Nat) => PyData.int (n : Int)) = 0
  | [] => by simp [PyData.depthAll]
  | a :: l => by simp [PyData.depthAll, PyData.depth, ints_depth l]
theorem tD_lay (l : List Nat) : (tD l).canLay0 = true := by
  unfold tD
  simp only [PyData.canLay0]
  exact ints_lay l
theorem tD_depth (l : List Nat) : (tD l).depth = 1 := by
  unfold tD
  simp only [PyData.depth, ints_depth]
theorem shaped_by {d : PyData} (h1 : d.canLay0 = true) (h2 : d.depth ≤ 64) : SeqAt.shaped d = true := by
  show (d.canLay0 && decide (d.depth ≤ 64)) = true
  rw [h1, decide_eq_true h2]; rfl
theorem tD_shaped (l : List Nat) : SeqAt.shaped (tD l) = true := shaped_by (tD_lay l) (by rw [tD_depth]; decide)
theorem oD_shaped : ∀ o : Option (List Nat), SeqAt.shaped (oD o) = true
  | none => shaped_by (by simp [oD, PyData.canLay0]) (by simp [oD, PyData.depth])
  | some l => tD_shaped l
theorem tDs_shaped (ls : List (List Nat)) : SeqAt.shaped (.list (ls.map tD)) = true := by
  have h1 : ∀ ls : List (List Nat), PyData.canLayAll0 (ls.map tD) = true := by
    intro ls
    induction ls with
    | nil => simp [PyData.canLayAll0]
    | cons a l ih => simp [PyData.canLayAll0, tD_lay a, ih]
  have h2 : ∀ ls : List (List Nat), PyData.depthAll (ls.map tD) ≤ 1 := by
    intro ls
    induction ls with
    | nil => simp [PyData.depthAll]
    | cons a l ih =>
      have := tD_depth a
      simp only [List.map_cons, PyData.depthAll]
      omega
  refine shaped_by (by simp only [PyData.canLay0]; exact h1 ls) ?_
  have := h2 ls
  simp only [PyData.depth]
  omega
theorem ints_eqv : ∀ l m : List Nat, PyData.eqvAll (l.map fun (n : Nat) => PyData.int (n : Int)) (m.map fun (n : Nat) => PyData.int (n : Int)) = decide (l = m)
  | [], [] => by simp [PyData.eqvAll]
  | [], b :: m => by simp [PyData.eqvAll]
  | a :: l, [] => by simp [PyData.eqvAll]
  | a :: l, b :: m => by
    rw [List.map_cons, List.map_cons]
    have e : PyData.eqvAll (.int (a : Int) :: l.map fun (n : Nat) => PyData.int (n : Int)) (.int (b : Int) :: m.map fun (n : Nat) => PyData.int (n : Int)) = (((a : Int) == (b : Int)) && PyData.eqvAll (l.map fun (n : Nat) => PyData.int (n : Int)) (m.map fun (n : Nat) => PyData.int (n : Int))) := by
      simp only [PyData.eqvAll, PyData.eqv]
    rw [e, ints_eqv l m]
    by_cases h : a = b
    · subst h
      by_cases h2 : l = m
      · subst h2; simp
      · rw [decide_eq_false h2, decide_eq_false fun z => h2 (List.cons.inj z).2]; simp
    · have h' : ((a : Int) == (b : Int)) = false := beq_eq_false_iff_ne.mpr (by omega)
      rw [h', decide_eq_false fun z => h (List.cons.inj z).1]; rfl
theorem tD_eqv (l m : List Nat) : PyData.eqv (tD l) (tD m) = decide (l = m) := by
  have e : PyData.eqv (tD l) (tD m) = PyData.eqvAll (l.map fun (n : Nat) => PyData.int (n : Int)) (m.map fun (n : Nat) => PyData.int (n : Int)) := by
    unfold tD
    simp only [PyData.eqv]
  rw [e, ints_eqv]
theorem oD_eqv : ∀ a b : Option (List Nat), PyData.eqv (oD a) (oD b) = decide (a = b)
  | none, none => by simp [oD, PyData.eqv]
  | none, some m => by simp [oD, tD, PyData.eqv]
  | some l, none => by simp [oD, tD, PyData.eqv]
  | some l, some m => by
    have e : decide (some l = some m) = decide (l = m) := decide_eq_decide.mpr ⟨fun h => Option.some.inj h, fun h => by rw [h]⟩
    rw [e]; exact tD_eqv l m
section
variable {K : PySem.W.Frag} {H : Hp} {Q : VK}
theorem dp_ints : ∀ l : List Nat, DpAll K H (nvs l) (l.map fun (n : Nat) => PyData.int (n : Int))
  | [] => .nil
  | a :: l => .cons (.int (a : Int)) (dp_ints l)
theorem dp_tup {a : Addr} {l : List Nat} (h : SqT K H a (nvs l)) : Dp K H (.ref a) (tD l) := .tup h (dp_ints l)
/-- a file's lines, or None -/
def OptAt (H : Hp) (v : V) : Option (List Nat) → Prop
  | none => v = .non
  | some l => ∃ a, v = .ref a ∧ H a = some (.tup (nvs l))
theorem OptAt.same {H' : Hp} {v : V} : ∀ {o : Option (List Nat)}, Same H H' → OptAt H v o → OptAt H' v o
  | none, _, h => h
  | some l, s, ⟨a, e, h⟩ => ⟨a, e, s _ _ h⟩
theorem dp_opt {v : V} : ∀ {o : Option (List Nat)}, OptAt H v o → Dp K H v (oD o)
  | none, h => by
    have e : v = .non := h
    rw [e]; exact .non
  | some l, ⟨a, e, h⟩ => by
    rw [e]; exact dp_tup (SqT.of h)
theorem rd_eqO {x y : V} {a b : Option (List Nat)} (ha : OptAt H x a) (hb : OptAt H y b) (q : Q (.bl (decide (a = b))) H) : rEqD K x y H Q := ⟨_, _, dp_opt ha, dp_opt hb, oD_shaped a, oD_shaped b, by rw [oD_eqv]; exact q⟩
theorem rd_neO {x y : V} {a b : Option (List Nat)} (ha : OptAt H x a) (hb : OptAt H y b) (q : Q (.bl (!decide (a = b))) H) : rNeD K x y H Q := ⟨_, _, dp_opt ha, dp_opt hb, oD_shaped a, oD_shaped b, by rw [oD_eqv]; exact q⟩
theorem rd_neT {a b : Addr} {l m : List Nat} (ha : SqT K H a (nvs l)) (hb : SqT K H b (nvs m)) (q : Q (.bl (!decide (l = m))) H) : rNeD K (.ref a) (.ref b) H Q := ⟨_, _, dp_tup ha, dp_tup hb, tD_shaped l, tD_shaped m, by rw [tD_eqv]; exact q⟩
theorem dp_all {ps : List (Addr × List Nat)} (h : ∀ x ∈ ps, H x.1 = some (.tup (nvs x.2))) : DpAll K H (ps.map fun x => V.ref x.1) ((ps.map (·.2)).map tD) := by
  induction ps with
  | nil => exact .nil
  | cons x ps ih => exact .cons (dp_tup (SqT.of (h x (List.mem_cons_self ..)))) (ih fun y hy => h y (List.mem_cons_of_mem _ hy))
theorem rd_inTs {a r : Addr} {l : List Nat} {ls : List (List Nat)} (ha : SqT K H a (nvs l)) (hr : TupsAt H r ls) (q : Q (.bl (decide (l ∈ ls))) H) : rInD K (.ref a) (.ref r) H Q := by
  obtain ⟨ps, h1, h2, h3⟩ := hr
  subst h2
  refine ⟨_, _, dp_tup ha, .lst (SqL.of h1) (dp_all h3), tD_shaped l, tDs_shaped _, ?_⟩
  have e : (((ps.map (·.2)).map tD).any fun z => PyData.eqv z (tD l)) = decide (l ∈ ps.map (·.2)) := by
    generalize ps.map (·.2) = ls
    induction ls with
    | nil => simp
    | cons m ls ih =>
      rw [List.map_cons, List.any_cons, ih, tD_eqv]
      by_cases h : m = l
      · subst h; simp
      · rw [decide_eq_false h, Bool.false_or]
        exact decide_eq_decide.mpr ⟨fun z => List.mem_cons_of_mem _ z, fun z => (List.mem_cons.mp z).resolve_left fun e => h e.symm⟩
  rw [e]; exact q
end
theorem hu64_of {A : Around} {k : Nat} (hr : Room k A) : A.units + 64 < cLine := hr.units
theorem hu65_of {A : Around} {k : Nat} (hr : Room k A) : A.units + 65 < cLine := by have := hr.un; omega
end Cs
-- CsSettled
namespace Cs
open PySem PySem.Spec PyProof.Rows L2
theorem anv_eqO {K : PySem.W.Frag} {σ : L2.St} {H : Hp} {ta tb : TE} {x y : V} {a b : Option (List Nat)} (ha : AnV ta σ H x) (hb : AnV tb σ H y) (oa : OptAt H x a) (ob : OptAt H y b) : AnV (tOp (rEqD K) ta tb) σ H (.bl (decide (a = b))) := fun R q =>
  ha _ (hb _ (rd_eqO oa ob q))
theorem an_eqO {K : PySem.W.Frag} {σ : L2.St} {H : Hp} {ta tb : TE} {x y : V} {a b : Option (List Nat)} (ha : AnV ta σ H x) (hb : AnV tb σ H y) (oa : OptAt H x a) (ob : OptAt H y b) : An (tTest (tOp (rEqD K) ta tb)) σ H (decide (a = b)) := an_test (anv_eqO ha hb oa ob)
section
variable {P : Program} {w : World} {K : PySem.W.Frag} {mg : Str → Option Value} {base : Heap}
abbrev sIsSet : Stmt := top 45
abbrev NIsSet : List Str := ["base", "ours", "theirs"]
theorem scIsSet : FnScope NIsSet ["base", "ours", "theirs"] (defScope sIsSet) := ⟨rfl, rfl, rfl, by decide +kernel, rfl, by decide +kernel, by decide +kernel⟩
/-- is_settled -/
def spIsSet : Sp := fun vs H Q _ => ∃ (x y z : V) (b o t : Option (List Nat)), vs = [x, y, z] ∧ OptAt H x b ∧ OptAt H y o ∧ OptAt H z t ∧ Q (.bl (isSet b o t)) H
theorem ok_isSet (F : Df K mg "is_settled" sIsSet) (T : Tx mg) : C8.Cal P w K mg base 1 "is_settled" spIsSet [] := by
  refine F.cal scIsSet (fun _ _ _ _ _ _ us hl => match us, hl with | [_, _, _], _ => rfl) (fun vs H Q E h => ?_) (fun f cdv A outer s H vs Q E hr h => ?_)
  · obtain ⟨x, y, z, b, o, t, rfl, _⟩ := h
    rfl
  · obtain ⟨x, y, z, b, o, t, rfl, hb, ho, ht, k⟩ := h
    have hu64 := hu64_of hr
    refine ⟨_, (pss_one (ps_ret (pe_or (pe_cmpR (op_eqD hu64) (pv 1) (pv 2) (nomark _)) (pe_or (pe_cmpR (op_eqD hu64) (pv 2) (pv 0) (nomark _)) (pe_one (pe_cmpR (op_eqD hu64) (pv 1) (pv 0) (nomark _))))))), ?_⟩
    refine rd_ret (anv_use (anv_or (anv_eqO (anv_var rfl) (anv_var rfl) ho ht) fun _ => anv_or (anv_eqO (anv_var rfl) (anv_var rfl) ht hb) fun _ => anv_eqO (anv_var rfl) (anv_var rfl) ho hb) k)
abbrev sSettled : Stmt := top 46
abbrev NSettled : List Str := ["base", "ours", "theirs"]
theorem scSettled : FnScope NSettled ["base", "ours", "theirs"] (defScope sSettled) := ⟨rfl, rfl, rfl, by decide +kernel, rfl, by decide +kernel, by decide +kernel⟩
/-- settled -/
def spSettled : Sp := fun vs H Q _ => ∃ (x y z : V) (b o t : Option (List Nat)), vs = [x, y, z] ∧ OptAt H x b ∧ OptAt H y o ∧ OptAt H z t ∧ ∀ v, OptAt H v (setl b o t) → Q v H
theorem ok_settled (F : Df K mg "settled" sSettled) (T : Tx mg) : C8.Cal P w K mg base 1 "settled" spSettled [] := by
  refine F.cal scSettled (fun _ _ _ _ _ _ us hl => match us, hl with | [_, _, _], _ => rfl) (fun vs H Q E h => ?_) (fun f cdv A outer s H vs Q E hr h => ?_)
  · obtain ⟨x, y, z, b, o, t, rfl, _⟩ := h
    rfl
  · obtain ⟨x, y, z, b, o, t, rfl, hb, ho, ht, k⟩ := h
    have hu64 := hu64_of hr
    refine ⟨_, (pss_one (ps_ret (pe_ifExp (pt_cmpR (op_eqD hu64) (pv 1) (pv 0) (nomark _)) (pv 2) (pv 1)))), ?_⟩
    refine rd_ret ?_
    refine an_use (an_eqO (anv_var rfl) (anv_var rfl) ho hb) ?_
    refine rd_dec (fun e => ?_) (fun e => ?_)
    · refine rd_var rfl (k z ?_)
      unfold setl
      rw [if_pos e]; exact ht
    · refine rd_var rfl (k y ?_)
      unfold setl
      rw [if_neg e]; exact ho
end
end Cs
-- CsClass
/-! Classes of the module: their methods, what they keep. -/
namespace Cs
open PySem PySem.Spec PyProof.Rows L2
/-- a class of the module: its fields are no attributes of the class -/
structure Kl (K : PySem.W.Frag) (C : Addr) (fs : List Str) : Prop where
  cls : Cls K C
  nos : ∀ f ∈ fs, NoAttr K C f
/-- a method, as the top has left it -/
structure Md (K : PySem.W.Frag) (C : Addr) (m qual : Str) (st : Stmt) : Prop where
  ex : ∃ f fd, Meth K C m f ∧ L2.Fun K m qual st f fd
/-- a class that is made by its name -/
structure Mkd (K : PySem.W.Frag) (mg : Str → Option Value) (x : Str) (C : Addr) (qual : Str) (st : Stmt) : Prop where
  ex : ∃ f fd, Mk K C f ∧ L2.Fun K "__init__" qual st f fd ∧ mg x = some (.ref C)
section
variable {P : Program} {w : World} {K : PySem.W.Frag} {mg : Str → Option Value} {base : Heap}
theorem Md.met {C : Addr} {m qual : Str} {st : Stmt} {N ps : List Str} {k : Nat} {sp : Sp} (F : Md K C m qual st) (c : Cls K C) (S : FnScope N ps (defScope st)) (b : BindN m qual st ps) (len : ∀ vs H Q E, sp vs H Q E → vs.length = ps.length) (body : Body P w K mg base qual st N k sp) :
    C8.Met P w K mg base (k + 1) C m sp [] := by
  obtain ⟨f, fd, me, F1⟩ := F.ex
  exact ⟨f, fd, ps, [], c, me, F1.ok S len (fun cdv A outer s H vs Q E hr h => body f cdv A outer s H vs Q E hr h), F1.binds b, .nil⟩
theorem Mkd.mak {x : Str} {C : Addr} {qual : Str} {st : Stmt} {N ps : List Str} {k : Nat} {sp : Sp} (F : Mkd K mg x C qual st) (S : FnScope N ps (defScope st)) (b : BindN "__init__" qual st ps) (len : ∀ vs H Q E, sp vs H Q E → vs.length = ps.length) (body : Body P w K mg base qual st N k sp) :
    C8.Mak P w K mg base (k + 1) x C sp [] := by
  obtain ⟨f, fd, M, F1, hm⟩ := F.ex
  exact ⟨f, fd, ps, [], M, F1.ok S len (fun cdv A outer s H vs Q E hr h => body f cdv A outer s H vs Q E hr h), hm, F1.binds b, .nil⟩
variable {σ : L2.St} {H : Hp} {D : Ends} {Q : VK}
theorem rd_fld {ta : TE} {f : Str} {C a dx : Addr} {fs : List (Str × V)} {v : V} (h : AnV ta σ H (.ref a)) (e : H a = some (.ins C dx fs)) (c : Cls K C) (n : NoAttr K C f) (l : fs.lookup f = some v) (q : Q v H) : tFld K ta f σ H Q := h _ ⟨a, C, dx, fs, v, rfl, e, c, n, l, q⟩
theorem anv_fld {ta : TE} {f : Str} {C a dx : Addr} {fs : List (Str × V)} {v : V} (h : AnV ta σ H (.ref a)) (e : H a = some (.ins C dx fs)) (c : Cls K C) (n : NoAttr K C f) (l : fs.lookup f = some v) : AnV (tFld K ta f) σ H v := fun R q => rd_fld h e c n l q
theorem rd_sfld {ta tv : TE} {f : Str} (h : tv σ H fun y H1 => ∃ a C dx fs, AnV ta σ H1 (.ref a) ∧ H1 a = some (.ins C dx fs) ∧ Cls K C ∧ NoAttr K C f ∧ fs.length < 1000 ∧ D.nx σ (upd H1 a (.ins C dx (putF f y fs)))) (mono : ∀ {A B : VK}, (∀ y H1, A y H1 → B y H1) → tv σ H A → tv σ H B) : sFld K ta tv f D σ H :=
  mono (fun y H1 ⟨a, C, dx, fs, q1, q2, q3, q4, q5, q6⟩ => q1 _ ⟨a, C, dx, fs, rfl, q2, q3, q4, q5, q6⟩) h
theorem rd_sfldV {ta tv : TE} {f : Str} {y : V} {a C dx : Addr} {fs : List (Str × V)} (hv : AnV tv σ H y) (ha : AnV ta σ H (.ref a)) (e : H a = some (.ins C dx fs)) (c : Cls K C) (n : NoAttr K C f) (hz : fs.length < 1000) (q : D.nx σ (upd H a (.ins C dx (putF f y fs)))) : sFld K ta tv f D σ H :=
  hv _ (ha _ ⟨a, C, dx, fs, rfl, e, c, n, hz, q⟩)
theorem rd_sfldL {ta : TE} {f : Str} {a C dx : Addr} {fs : List (Str × V)} (ha : ∀ H, AnV ta σ H (.ref a)) (e : H a = some (.ins C dx fs)) (c : Cls K C) (n : NoAttr K C f) (hz : fs.length < 1000) (q : ∀ p, H p = none → D.nx σ (upd (upd H p (.lst [])) a (.ins C dx (putF f (.ref p) fs)))) : sFld K ta (tLst tNil) f D σ H := by
  show tLst tNil σ H _
  refine rd_lst (rd_nil ⟨by show 0 ≤ sizeLine; decide, fun p hp => ?_⟩)
  exact ha _ _ ⟨a, C, dx, fs, rfl, sm_new hp _ _ e, c, n, hz, q p hp⟩
theorem anv_I0 {g : Int → Int → V} {ta tb : TE} {i j : Int} (ha : AnV ta σ H (.int i)) (hb : AnV tb σ H (.int j)) : AnV (tOp (rI0 g) ta tb) σ H (g i j) := fun R q => ha _ (hb _ ⟨i, j, rfl, rfl, q⟩)
theorem anv_ixT {ta tb : TE} {p : Addr} {xs : List V} {i : Nat} {v : V} (ha : AnV ta σ H (.ref p)) (hb : AnV tb σ H (.int (i : Int))) (h : SqT K H p xs) (g : xs[i]? = some v) : AnV (tOp (rIxT K) ta tb) σ H v := fun R q => ha _ (hb _ (rd_ixT h rfl g q))
/-- all but a few objects stay -/
def Off (H H' : Hp) (S : Addr → Prop) : Prop := ∀ x u, H x = some u → ¬ S x → H' x = some u
theorem Off.refl (H : Hp) (S : Addr → Prop) : Off H H S := fun x u h _ => h
theorem Off.trans {H1 H2 H3 : Hp} {S : Addr → Prop} (a : Off H1 H2 S) (b : Off H2 H3 S) : Off H1 H3 S := fun x u h n => b x u (a x u h n) n
theorem Off.upd {H : Hp} {S : Addr → Prop} {p : Addr} {o : HO} (h : S p) : Off H (upd H p o) S := fun x u e n => by
  have q : x ≠ p := fun z => n (by rw [z]; exact h)
  rw [upd_ne q]; exact e
theorem Off.of_same {H H' : Hp} {S : Addr → Prop} (h : Same H H') : Off H H' S := fun x u e _ => h x u e
theorem Off.mono {H H' : Hp} {S T : Addr → Prop} (h : Off H H' S) (st : ∀ x, S x → T x) : Off H H' T := fun x u e n => h x u e fun z => n (st x z)
/-- what the first heap doesn't know may change -/
theorem Off.same {H0 H H' : Hp} {S : Addr → Prop} (h : Off H H' S) (s : Same H0 H) (f : ∀ x, S x → H0 x = none) : Same H0 H' := fun x u e => h x u (s x u e) fun z => by
  rw [f x z] at e; cases e
theorem TriAt.out {H' : Hp} {S : Addr → Prop} {t : Addr} {x : Tri} (h : TriAt H t x) (s : Off H H' S) (nt : ∀ y, S y → ∀ ys, H y ≠ some (.tup ys)) : TriAt H' t x := by
  obtain ⟨a, b, h1, h2, h3⟩ := h
  exact ⟨a, b, s _ _ h1 fun z => nt _ z _ h1, s _ _ h2 fun z => nt _ z _ h2, s _ _ h3 fun z => nt _ z _ h3⟩
theorem TrisAt.out {H' : Hp} {S : Addr → Prop} {r : Addr} {hs : List Tri} (h : TrisAt H r hs) (s : Off H H' S) (nt : ∀ y, S y → ∀ ys, H y ≠ some (.tup ys)) (hr : ¬ S r) : TrisAt H' r hs := by
  obtain ⟨ts, a, b, c⟩ := h
  exact ⟨ts, s _ _ a hr, b, fun x hx => (c x hx).out s nt⟩
theorem TrisAt.obj {r : Addr} {hs : List Tri} (h : TrisAt H r hs) : ∃ xs, H r = some (.lst xs) := let ⟨ts, a, _⟩ := h; ⟨_, a⟩
end
end Cs
-- CsReader
namespace Cs
open PySem PySem.Spec PyProof.Rows L2
abbrev rdNames : List Str := ["calls", "at"]
/-- the reader, at a place of its list -/
def RdA (K : PySem.W.Frag) (C : Addr) (H : Hp) (a c : Addr) (l : List Int) (i : Nat) : Prop := ∃ dx, H a = some (.ins C dx [("calls", .ref c), ("at", nv i)]) ∧ SqL K H c (l.map V.int)
/-- a list that may be handed in stays, if no list changes -/
theorem sql_off {K : PySem.W.Frag} {H H' : Hp} {S : Addr → Prop} {c : Addr} {xs : List V} (h : SqL K H c xs) (o : Off H H' S) (n : ∀ y, S y → ∀ u, H y = some u → (∀ ys, u ≠ .lst ys) ∧ ∀ q v, u ≠ .frz q v) : SqL K H' c xs := by
  rcases h with (h | ⟨q, h⟩) | h
  · exact .inl (.inl (o _ _ h fun z => (n _ z _ h).1 _ rfl))
  · exact .inl (.inr ⟨q, o _ _ h fun z => (n _ z _ h).2 _ _ rfl⟩)
  · exact .inr h
theorem sql_same {K : PySem.W.Frag} {H H' : Hp} {c : Addr} {xs : List V} (h : SqL K H c xs) (s : Same H H') : SqL K H' c xs := sql_off (S := fun _ => False) h (Off.of_same s) fun _ z => z.elim
theorem sql_ins {K : PySem.W.Frag} {H H' : Hp} {a c C dx : Addr} {fs : List (Str × V)} {xs : List V} (h : SqL K H c xs) (o : Off H H' (fun y => y = a)) (ha : H a = some (.ins C dx fs)) : SqL K H' c xs := sql_off h o fun y e u hy => by
  have e : y = a := e
  subst e
  rw [ha] at hy
  cases hy
  exact ⟨fun _ z => (by cases z), fun _ _ z => (by cases z)⟩
theorem RdA.off {K : PySem.W.Frag} {C : Addr} {H H' : Hp} {a b c C' dx' : Addr} {fs : List (Str × V)} {l : List Int} {i : Nat} (h : RdA K C H a c l i) (o : Off H H' (fun y => y = b)) (hb : H b = some (.ins C' dx' fs)) (n1 : a ≠ b) : RdA K C H' a c l i := by
  obtain ⟨dx, h1, h2⟩ := h
  exact ⟨dx, o _ _ h1 n1, sql_ins h2 o hb⟩
theorem RdA.same {K : PySem.W.Frag} {C : Addr} {H H' : Hp} {a c : Addr} {l : List Int} {i : Nat} (h : RdA K C H a c l i) (s : Same H H') : RdA K C H' a c l i := by
  obtain ⟨dx, h1, h2⟩ := h
  exact ⟨dx, s _ _ h1, sql_same h2 s⟩
theorem cutV_gen (xs : List V) (i j : Nat) : cutV xs (some (i : Int)) (some (j : Int)) = (xs.drop i).take (j - i) := by
  unfold cutV
  rw [HT.sIx_nat, HT.sIx_nat, drop_clamp]
  by_cases h : j - i ≤ min j xs.length - min i xs.length
  · have h2 : min j xs.length - min i xs.length = j - i ∨ xs.length ≤ i := by omega
    rcases h2 with h2 | h2
    · rw [h2]
    · rw [List.drop_eq_nil_of_le h2, List.take_nil, List.take_nil]
  · rw [List.take_of_length_le (by rw [List.length_drop]; omega), List.take_of_length_le (by rw [List.length_drop]; omega)]
section
variable {P : Program} {w : World} {K : PySem.W.Frag} {mg : Str → Option Value} {base : Heap} {C : Addr}
theorem rd_slL {H : Hp} {Q : VK} {a : Addr} {xs : List V} {lo hi : Option Int} (h : SqL K H a xs) (q : ∀ p, H p = none → Q (.ref p) (upd H p (.lst (cutV xs lo hi)))) : rSlL K (.ref a) lo hi H Q := ⟨a, xs, rfl, h, q⟩
theorem rd_then {ta : TE} {σ : L2.St} {H : Hp} {Q : VK} {k : V → Hp → VK → Prop} (h : ta σ H fun x H1 => k x H1 Q) : tThen ta k σ H Q := h
abbrev sRdInit : Stmt := inClass (top 57) 0
abbrev NRdInit : List Str := ["self", "calls"]
theorem scRdInit : FnScope NRdInit ["self", "calls"] (defScope sRdInit) := ⟨rfl, rfl, rfl, by decide +kernel, rfl, by decide +kernel, by decide +kernel⟩
/-- a new reader -/
def spRdInit (K : PySem.W.Frag) (C : Addr) : Sp := fun vs H Q _ => ∃ (a dx c : Addr) (l : List Int), vs = [.ref a, .ref c] ∧ H a = some (.ins C dx []) ∧ SqL K H c (l.map V.int) ∧ ∀ H', Off H H' (fun x => x = a) → RdA K C H' a c l 0 → Q .non H'
theorem ok_rdInit (F : Mkd K mg "Reader" C "Reader.__init__" sRdInit) (L : Kl K C rdNames) : C8.Mak P w K mg base 1 "Reader" C (spRdInit K C) [] := by
  refine F.mak scRdInit (fun _ _ _ _ _ _ us hl => match us, hl with | [_, _], _ => rfl) (fun vs H Q E h => ?_) (fun f cdv A outer s H vs Q E hr h => ?_)
  · obtain ⟨a, dx, c, l, rfl, _⟩ := h
    rfl
  · obtain ⟨a, dx, c, l, rfl, ha, hc, k⟩ := h
    refine ⟨_, (pss_cons (ps_fld (pv 0) (pv 1) rfl)
      (pss_one (ps_fld (pv 0) pe_int rfl))), ?_⟩
    refine rd_seq (rd_sfldV (anv_var rfl) (anv_var rfl) ha L.cls (L.nos _ (by simp)) (show 0 < 1000 by decide) ?_)
    refine rd_sfldV (y := nv 0) anv_c (anv_var rfl) upd_same L.cls (L.nos _ (by simp)) (show 1 < 1000 by decide) ?_
    refine k _ ((Off.upd (S := fun x => x = a) rfl).trans (Off.upd (S := fun x => x = a) rfl)) ⟨dx, upd_same, ?_⟩
    exact sql_ins hc ((Off.upd (S := fun x => x = a) rfl).trans (Off.upd (S := fun x => x = a) rfl)) ha
abbrev sIsDone : Stmt := inClass (top 57) 1
abbrev NIsDone : List Str := ["self"]
theorem scIsDone : FnScope NIsDone ["self"] (defScope sIsDone) := ⟨rfl, rfl, rfl, by decide +kernel, rfl, by decide +kernel, by decide +kernel⟩
/-- is_done -/
def spIsDone (K : PySem.W.Frag) (C : Addr) : Sp := fun vs H Q _ => ∃ (a c : Addr) (l : List Int) (i : Nat), vs = [.ref a] ∧ RdA K C H a c l i ∧ Q (.bl (decide (l.length ≤ i))) H
theorem ok_isDone (F : Md K C "is_done" "Reader.is_done" sIsDone) (L : Kl K C rdNames) (T : Tx mg) : C8.Met P w K mg base 1 C "is_done" (spIsDone K C) [] := by
  refine F.met L.cls scIsDone (fun _ _ _ _ _ _ us hl => match us, hl with | [_], _ => rfl) (fun vs H Q E h => ?_) (fun f cdv A outer s H vs Q E hr h => ?_)
  · obtain ⟨a, c, l, i, rfl, _⟩ := h
    rfl
  · obtain ⟨a, c, l, i, rfl, ⟨dx, h1, h2⟩, k⟩ := h
    refine ⟨_, (pss_one (ps_ret (pe_cmpR op_ge (pe_fld (pv 0) rfl) (pe_callB call_lenS (by rfl) T.len PySem.boot_len (pa_cons (pe_fld (pv 0) rfl) pa_nil)) (nomark _)))), ?_⟩
    refine rd_ret (anv_use (anv_to (anv_I0 (anv_fld (anv_var rfl) h1 L.cls (L.nos _ (by simp)) rfl) (anv_lenL (anv_fld (anv_var rfl) h1 L.cls (L.nos _ (by simp)) rfl) h2)) ?_) k)
    rw [List.length_map]
    refine congrArg V.bl ?_
    by_cases e : l.length ≤ i
    · rw [decide_eq_true e, decide_eq_true (by omega)]
    · rw [decide_eq_false e, decide_eq_false (by omega)]
theorem rd_fldaug {σ : L2.St} {H : Hp} {D : Ends} {ta tv : TE} {f : Str} {a dx : Addr} {fs : List (Str × V)} {i j : Int} (ha : AnV ta σ H (.ref a)) (e : H a = some (.ins C dx fs)) (c : Cls K C) (n : NoAttr K C f) (l : fs.lookup f = some (.int i)) (hv : AnV tv σ H (.int j)) (hz : fs.length < 1000)
    (q : D.nx σ (upd H a (.ins C dx (putF f (.int (i + j)) fs)))) : sFldAug K ta tv rAdd f D σ H := ha _ ⟨a, C, dx, fs, _, rfl, e, c, n, l, hv _ ⟨i, j, rfl, rfl, dx, fs, e, hz, q⟩⟩
abbrev sTakeNumber : Stmt := inClass (top 57) 2
abbrev NTakeNumber : List Str := ["self", "number"]
theorem scTakeNumber : FnScope NTakeNumber ["self"] (defScope sTakeNumber) := ⟨rfl, rfl, rfl, by decide +kernel, rfl, by decide +kernel, by decide +kernel⟩
/-- take_number -/
def spTakeNumber (K : PySem.W.Frag) (C : Addr) : Sp := fun vs H Q _ => ∃ (a c : Addr) (l : List Int) (i : Nat) (x : Int), vs = [.ref a] ∧ RdA K C H a c l i ∧ l[i]? = some x ∧ ∀ H', Off H H' (fun y => y = a) → RdA K C H' a c l (i + 1) → Q (.int x) H'
theorem ok_takeNumber (F : Md K C "take_number" "Reader.take_number" sTakeNumber) (L : Kl K C rdNames) (T : Tx mg) : C8.Met P w K mg base 1 C "take_number" (spTakeNumber K C) [] := by
  refine F.met L.cls scTakeNumber (fun _ _ _ _ _ _ us hl => match us, hl with | [_], _ => rfl) (fun vs H Q E h => ?_) (fun f cdv A outer s H vs Q E hr h => ?_)
  · obtain ⟨a, c, l, i, x, rfl, _⟩ := h
    rfl
  · obtain ⟨a, c, l, i, x, rfl, ⟨dx, h1, h2⟩, hx, k⟩ := h
    refine ⟨_, (pss_cons (ps_set (i := 1) scTakeNumber.nd rfl (Or.inl rfl) (pe_ix ix_list (pe_fld (pv 0) rfl) (pe_fld (pv 0) rfl) (fun _ _ => rfl)))
      (pss_cons (ps_fldaug (pv 0) pe_int in_add)
      (pss_one (ps_ret (pv 1))))), ?_⟩
    walk_at "rd"
    refine rd_fld (anv_var rfl) h1 L.cls (L.nos _ (by simp)) rfl ?_
    refine rd_fld (anv_var rfl) h1 L.cls (L.nos _ (by simp)) rfl ?_
    refine rd_ixL (k := i) (v := .int x) h2 rfl (by rw [List.getElem?_map, hx]; rfl) ?_
    walk_at "rd"
    refine rd_fldaug (anv_var rfl) h1 L.cls (L.nos _ (by simp)) rfl anv_c (show 2 < 1000 by decide) ?_
    walk_at "rd"
    exact k _ (Off.upd rfl) ⟨dx, upd_same, sql_ins h2 (Off.upd rfl) h1⟩
abbrev sTakeRow : Stmt := inClass (top 57) 3
abbrev NTakeRow : List Str := ["self", "size", "row"]
theorem scTakeRow : FnScope NTakeRow ["self"] (defScope sTakeRow) := ⟨rfl, rfl, rfl, by decide +kernel, rfl, by decide +kernel, by decide +kernel⟩
/-- take_row -/
def spTakeRow (K : PySem.W.Frag) (C : Addr) : Sp := fun vs H Q _ => ∃ (a c : Addr) (l : List Int) (i : Nat) (row : List Int), vs = [.ref a] ∧ RdA K C H a c l i ∧ l[i]? = some ((row.length : Nat) : Int) ∧ (l.drop (i + 1)).take row.length = row ∧
  ∀ H' t, Off H H' (fun y => y = a) → RdA K C H' a c l (i + 1 + row.length) → H' t = some (.tup (row.map V.int)) → Q (.ref t) H'
theorem ok_takeRow (F : Md K C "take_row" "Reader.take_row" sTakeRow) (L : Kl K C rdNames) (T : Tx mg) (G_Reader_take_number : C8.Met P w K mg base 1 C "take_number" (spTakeNumber K C) []) : C8.Met P w K mg base 2 C "take_row" (spTakeRow K C) [] := by
  refine F.met L.cls scTakeRow (fun _ _ _ _ _ _ us hl => match us, hl with | [_], _ => rfl) (fun vs H Q E h => ?_) (fun f cdv A outer s H vs Q E hr h => ?_)
  · obtain ⟨a, c, l, i, row, rfl, _⟩ := h
    rfl
  · obtain ⟨a, c, l, i, row, rfl, hR, hx, hrow, k⟩ := h
    obtain ⟨dx0, g1, _⟩ := id hR
    refine ⟨_, (pss_cons (ps_set (i := 1) scTakeRow.nd rfl (Or.inl rfl) (C8.pe_mt0 G_Reader_take_number hr (by decide) (pv 0)))
      (pss_cons (ps_set (i := 2) scTakeRow.nd rfl (Or.inl rfl) (pe_tupleOf (by rfl) T.tuple (pe_slice sl_list (pe_fld (pv 0) rfl) (po_some (pe_fld (pv 0) rfl)) (po_some (pe_op op_add (pe_fld (pv 0) rfl) (pv 1))))))
      (pss_cons (ps_fldaug (pv 0) (pv 1) in_add)
      (pss_one (ps_ret (pv 2)))))), ?_⟩
    walk_at "rd"
    refine anv_var rfl _ ⟨a, dx0, _, rfl, g1, rfl, ?_⟩
    refine rd_nil ⟨a, c, l, i, _, rfl, hR, hx, fun H1 o1 hR1 => ?_⟩
    obtain ⟨dx, h1, h2⟩ := id hR1
    walk_at "rd"
    refine rd_then ?_
    walk_at "rd"
    refine rd_fld (anv_var rfl) h1 L.cls (L.nos _ (by simp)) rfl ?_
    walk_at "rd"
    refine rd_fld (anv_var rfl) h1 L.cls (L.nos _ (by simp)) rfl ?_
    walk_at "rd"
    refine rd_fld (anv_var rfl) h1 L.cls (L.nos _ (by simp)) rfl ?_
    walk_at "rd"
    have ecut : cutV (l.map V.int) (some (((i + 1 : Nat) : Int))) (some (((i + 1 : Nat) : Int) + ((row.length : Nat) : Int))) = row.map V.int := by
      have e : ((i + 1 : Nat) : Int) + ((row.length : Nat) : Int) = ((i + 1 + row.length : Nat) : Int) := by omega
      rw [e, cutV_gen, Nat.add_sub_cancel_left, ← List.map_drop, ← List.map_take, hrow]
    refine rd_slL h2 fun p hp => ?_
    rw [ecut]
    refine .inl ⟨p, row.map V.int, rfl, SqL.of upd_same, fun t ht => ?_⟩
    have sT : Same H1 (upd (upd H1 p (.lst (row.map V.int))) t (.tup (row.map V.int))) := (sm_new hp).trans (sm_new ht)
    walk_at "rd"
    refine rd_fldaug (anv_var rfl) (sT _ _ h1) L.cls (L.nos _ (by simp)) rfl (anv_var rfl) (show 2 < 1000 by decide) ?_
    walk_at "rd"
    have nt : t ≠ a := fun e => by
      rw [e, sm_new hp _ _ h1] at ht; cases ht
    refine k _ t ((o1.trans (Off.of_same sT)).trans (Off.upd rfl)) ⟨dx, upd_same, ?_⟩ ?_
    · exact sql_ins (sql_same h2 sT) (Off.upd rfl) (sT _ _ h1)
    · rw [upd_ne nt]; exact upd_same
end
end Cs
-- CsList
/-! Lists of things, whatever each is; comprehensions over them. -/
namespace Cs
open PySem PySem.Spec PyProof.Rows L2
/-- what a thing is to bear: it stays where nothing is lost, and where a list changes -/
structure Stays {α : Type} (At : Hp → Addr → α → Prop) : Prop where
  same : ∀ {H H' : Hp} {a : Addr} {x : α}, Same H H' → At H a x → At H' a x
  muta : ∀ {H : Hp} {a r : Addr} {x : α} {xs ys : List V}, At H a x → H r = some (.lst xs) → At (upd H r (.lst ys)) a x
/-- things, in a list -/
def LAt {α : Type} (At : Hp → Addr → α → Prop) (H : Hp) (r : Addr) (ts : List α) : Prop := ∃ qs : List (Addr × α), H r = some (.lst (qs.map fun q => V.ref q.1)) ∧ qs.map (·.2) = ts ∧ ∀ q ∈ qs, At H q.1 q.2
section
variable {α β : Type} {At : Hp → Addr → α → Prop} {Bt : Hp → Addr → β → Prop} {H H' : Hp} {r d : Addr} {ts : List α}
theorem LAt.same (S : Stays At) (s : Same H H') (h : LAt At H r ts) : LAt At H' r ts := by
  obtain ⟨qs, a, b, c⟩ := h
  exact ⟨qs, s _ _ a, b, fun q hq => S.same s (c q hq)⟩
theorem LAt.obj (h : LAt At H r ts) : ∃ xs, H r = some (.lst xs) ∧ xs.length = ts.length := by
  obtain ⟨qs, a, b, _⟩ := h
  exact ⟨_, a, by rw [List.length_map, ← b, List.length_map]⟩
theorem LAt.nil (h : H r = some (.lst [])) : LAt At H r [] := ⟨[], h, rfl, fun q hq => (by cases hq)⟩
theorem LAt.get {i : Nat} {t : α} (h : LAt At H r ts) (g : ts[i]? = some t) : ∃ xs a, H r = some (.lst xs) ∧ xs[i]? = some (.ref a) ∧ At H a t ∧ xs.length = ts.length := by
  obtain ⟨qs, a, b, c⟩ := h
  rw [← b, List.getElem?_map] at g
  obtain ⟨q, g1, g2⟩ := Option.map_eq_some_iff.mp g
  subst g2
  exact ⟨_, q.1, a, by rw [List.getElem?_map, g1]; rfl, c q (List.mem_of_getElem? g1), by rw [List.length_map, ← b, List.length_map]⟩
theorem LAt.add (S : Stays At) {t : α} (h : LAt At H r ts) (ht : At H d t) : ∃ xs, H r = some (.lst xs) ∧ xs.length = ts.length ∧ LAt At (upd H r (.lst (xs ++ [.ref d]))) r (ts ++ [t]) := by
  obtain ⟨qs, a, b, c⟩ := h
  refine ⟨_, a, by rw [List.length_map, ← b, List.length_map], qs ++ [(d, t)], ?_, by rw [List.map_append, b]; rfl, fun q hq => ?_⟩
  · rw [upd_same, List.map_append]; rfl
  · rcases List.mem_append.mp hq with hq | hq
    · exact S.muta (c q hq) a
    · rw [List.mem_singleton.mp hq]
      exact S.muta ht a
theorem LAt.app (S : Stays At) {us : List α} (h : LAt At H r ts) (g : LAt At H d us) : ∃ xs ys, H r = some (.lst xs) ∧ H d = some (.lst ys) ∧ xs.length = ts.length ∧ ys.length = us.length ∧ LAt At (upd H r (.lst (xs ++ ys))) r (ts ++ us) := by
  obtain ⟨qs, a, b, c⟩ := h
  obtain ⟨ps, a2, b2, c2⟩ := g
  refine ⟨_, _, a, a2, by rw [List.length_map, ← b, List.length_map], by rw [List.length_map, ← b2, List.length_map], qs ++ ps, ?_, by rw [List.map_append, b, b2], fun q hq => ?_⟩
  · rw [upd_same, List.map_append]
  · rcases List.mem_append.mp hq with hq | hq
    · exact S.muta (c q hq) a
    · exact S.muta (c2 q hq) a
/-- + makes a new list -/
theorem LAt.cat (S : Stays At) {us : List α} {p : Addr} (h : LAt At H r ts) (g : LAt At H d us) (hp : H p = none) : ∃ xs ys, H r = some (.lst xs) ∧ H d = some (.lst ys) ∧ xs.length = ts.length ∧ ys.length = us.length ∧ LAt At (upd H p (.lst (xs ++ ys))) p (ts ++ us) := by
  obtain ⟨qs, a, b, c⟩ := h
  obtain ⟨ps, a2, b2, c2⟩ := g
  refine ⟨_, _, a, a2, by rw [List.length_map, ← b, List.length_map], by rw [List.length_map, ← b2, List.length_map], qs ++ ps, ?_, by rw [List.map_append, b, b2], fun q hq => ?_⟩
  · rw [upd_same, List.map_append]
  · rcases List.mem_append.mp hq with hq | hq
    · exact S.same (sm_new hp) (c q hq)
    · exact S.same (sm_new hp) (c2 q hq)
/-- a part of it is a new list -/
theorem LAt.cut (S : Stays At) {p : Addr} (h : LAt At H r ts) (hp : H p = none) (i : Nat) : ∃ xs, H r = some (.lst xs) ∧ xs.length = ts.length ∧ LAt At (upd H p (.lst (cutV xs none (some (i : Int))))) p (ts.take i) ∧ LAt At (upd H p (.lst (cutV xs (some (i : Int)) none))) p (ts.drop i) := by
  obtain ⟨qs, a, b, c⟩ := h
  refine ⟨_, a, by rw [List.length_map, ← b, List.length_map], ⟨qs.take i, ?_, by rw [List.map_take, b], fun q hq => S.same (sm_new hp) (c q (List.mem_of_mem_take hq))⟩, ⟨qs.drop i, ?_, by rw [List.map_drop, b], fun q hq => S.same (sm_new hp) (c q (List.mem_of_mem_drop hq))⟩⟩
  · rw [upd_same]
    unfold cutV
    rw [HT.sIx_nat, HT.sIx_none, List.drop_zero, Nat.sub_zero, List.map_take]
    refine congrArg (fun x => some (HO.lst x)) ?_
    by_cases e : i ≤ qs.length
    · rw [Nat.min_eq_left (by rw [List.length_map]; exact e)]
    · rw [List.take_of_length_le (by rw [List.length_map]; omega), List.take_of_length_le (by rw [List.length_map]; omega)]
  · rw [upd_same]
    unfold cutV
    rw [HT.sIx_nat, HT.sIx_none, drop_clamp, List.take_of_length_le (by rw [List.length_drop]; omega), List.map_drop]
theorem LAt.one {t : α} {p : Addr} (h : H p = some (.lst [.ref d])) (ht : At H d t) : LAt At H p [t] := ⟨[(d, t)], h, rfl, fun q hq => by rw [List.mem_singleton.mp hq]; exact ht⟩
theorem LAt.through {f : β → α} {us : List β} (h : LAt At H r (us.map f)) : LAt (fun H a x => At H a (f x)) H r us := by
  obtain ⟨qs, a, b, c⟩ := h
  have len : qs.length = us.length := by
    have := congrArg List.length b
    rw [List.length_map, List.length_map] at this
    exact this
  refine ⟨(qs.map (·.1)).zip us, ?_, ?_, fun q hq => ?_⟩
  · rw [a]
    have e : ((qs.map (·.1)).zip us).map (fun q => V.ref q.1) = (((qs.map (·.1)).zip us).map (·.1)).map V.ref := by rw [List.map_map]; rfl
    rw [e, List.map_fst_zip (by rw [List.length_map]; omega), List.map_map]; rfl
  · rw [List.map_snd_zip (by rw [List.length_map]; omega)]
  · obtain ⟨i, hi, e⟩ := List.getElem_of_mem hq
    rw [List.length_zip, List.length_map] at hi
    have hi2 : i < qs.length := by omega
    have hi3 : i < us.length := by omega
    rw [List.getElem_zip, List.getElem_map] at e
    have e2 : qs[i].2 = f us[i] := by
      have := congrArg (fun l => l[i]?) b
      simp only [List.getElem?_map, List.getElem?_eq_getElem hi2, List.getElem?_eq_getElem hi3, Option.map_some] at this
      exact Option.some.inj this
    subst e
    show At H qs[i].1 (f us[i])
    rw [← e2]; exact c _ (List.getElem_mem hi2)
end
section
variable {K : PySem.W.Frag} {α β : Type} {At : Hp → Addr → α → Prop} {Bt : Hp → Addr → β → Prop} {σ : L2.St} {H1 : Hp} {r D : Addr} {Qd : Hp → Prop} {j : Nat} {vs : List Nat} {tt : TT} {te : TE}
theorem take_one {xs : List α} {i : Nat} {x : α} (h : xs[i]? = some x) : xs.take (i + 1) = xs.take i ++ [x] := by
  rw [List.take_succ, h]; rfl
/-- [te for x in xs if tt]: things made of things -/
theorem lc_list (SA : Stays At) (SB : Stays Bt) {xs : List α} (g : α → Bool) (mk : α → β) (hr : LAt At H1 r xs) (hD : H1 D = none) (hz : xs.length ≤ 100000) (hw : ∀ x, wipe ((wipe σ vs).set j (some x)) vs = wipe σ vs)
    (ht : ∀ a x H', x ∈ xs → Same H1 H' → At H' a x → An tt ((wipe σ vs).set j (some (.ref a))) H' (g x))
    (he : ∀ a x H', x ∈ xs → Same H1 H' → At H' a x → g x = true → ∀ R : VK, (∀ H4 e, Same H' H4 → Bt H4 e (mk x) → R (.ref e) H4) → te ((wipe σ vs).set j (some (.ref a))) H' R)
    (q : ∀ H', Same H1 H' → LAt Bt H' D ((xs.filter g).map mk) → Qd H') : LcGo (Itl K r) (gName j) tt te vs σ H1 D Qd := by
  obtain ⟨qs, q1, q2, q3⟩ := hr
  have len : qs.length = xs.length := by rw [← q2, List.length_map]
  refine L2.lc_it (L2.walk_list (K := K) (a := r) (xs := qs.map fun q => V.ref q.1)) (fun i H' => Same H1 H' ∧ LAt Bt H' D (((xs.take i).filter g).map mk)) ⟨sm_new hD, LAt.nil upd_same⟩ (fun i H' _ p => SqL.of (p.1 _ _ q1)) ?_ (fun H' p => q H' p.1 ?_)
  · rintro i x H' H2 hi ⟨p1, p2⟩ ⟨rfl, hx⟩
    rw [List.length_map] at hi
    rw [List.getElem?_map, List.getElem?_eq_getElem hi] at hx
    have hx : V.ref qs[i].1 = x := Option.some.inj hx
    subst hx
    have hxi : xs[i]? = some qs[i].2 := by rw [← q2, List.getElem?_map, List.getElem?_eq_getElem hi]; rfl
    have mem : qs[i].2 ∈ xs := List.mem_of_getElem? hxi
    have at1 := SA.same p1 (q3 _ (List.getElem_mem hi))
    have st := take_one hxi
    refine ⟨hw _, an_use (ht _ _ _ mem p1 at1) ?_⟩
    refine rd_cond (fun c => ?_) (fun c => ?_)
    · refine he _ _ _ mem p1 at1 c _ fun H4 e s4 b4 => ?_
      obtain ⟨ys, k1, k2, k3⟩ := (p2.same SB s4).add SB b4
      have lf : (((xs.take i).filter g).map mk).length ≤ 100000 := by
        rw [List.length_map]
        have a1 := List.length_filter_le g (xs.take i)
        rw [List.length_take] at a1
        omega
      refine ⟨ys, k1, by rw [k2]; exact szl (by omega), sm_mut (p1.trans s4) hD, ?_⟩
      rw [st, List.filter_append, List.map_append, List.filter_cons_of_pos (by exact c)]
      exact k3
    · refine ⟨p1, ?_⟩
      rw [st, List.filter_append, List.map_append, List.filter_cons_of_neg (by rw [c]; exact Bool.false_ne_true)]
      show LAt Bt _ D (_ ++ [])
      rw [List.append_nil]; exact p2
  · have := p.2
    rw [List.length_map, len, List.take_length] at this
    exact this
/-- a comprehension of whole numbers -/
theorem lc_ints {J : It} {n : Nat} {G : Hp → Prop} {Y : Nat → Hp → V → Hp → Prop} (W : L2.Walk J n G Y) (b : Nat → Int) (hn : n ≤ 100000) (hD : H1 D = none)
    (hw : ∀ x, wipe ((wipe σ vs).set j (some x)) vs = wipe σ vs) (hG : ∀ H', Same H1 H' → G H') (hY : ∀ i H' x H2, Same H1 H' → i < n → Y i H' x H2 → H2 = H')
    (hs : ∀ i x H', i < n → Same H1 H' → Y i H' x H' → ∀ R : VK, (∀ H4, Same H' H4 → R (.int (b i)) H4) → te ((wipe σ vs).set j (some x)) H' R)
    (q : ∀ H', Same H1 H' → H' D = some (.lst (((List.range n).map b).map V.int)) → Qd H') : LcGo J (gName j) tYes te vs σ H1 D Qd := by
  refine L2.lc_it W (fun i H' => Same H1 H' ∧ H' D = some (.lst (((List.range i).map b).map V.int))) ⟨sm_new hD, upd_same⟩ (fun i H' _ p => hG H' p.1) ?_ (fun H' p => q H' p.1 p.2)
  rintro i x H' H2 hi ⟨p1, p2⟩ y
  have e := hY i H' x H2 p1 hi y
  subst e
  refine ⟨hw x, ?_⟩
  refine rd_yes (iteT ?_)
  refine hs i x H2 hi p1 y _ fun H4 s4 => ?_
  refine ⟨_, s4 _ _ p2, by rw [List.length_map, List.length_map, List.length_range]; exact szl (by omega), sm_mut (p1.trans s4) hD, ?_⟩
  rw [upd_same, List.range_succ, List.map_append, List.map_append]; rfl
end
/-- tuples of numbers -/
def TupA (H : Hp) (a : Addr) (l : List Nat) : Prop := H a = some (.tup (nvs l))
theorem stays_tup : Stays TupA := ⟨fun s h => s _ _ h, fun h hr => tup_mut h hr fun _ z => by cases z⟩
theorem Stays.thru {α β : Type} {At : Hp → Addr → α → Prop} (S : Stays At) (f : β → α) : Stays (fun H a x => At H a (f x)) := ⟨fun s h => S.same s h, fun h hr => S.muta h hr⟩
end Cs
-- CsRev
/-! t[::-1], t a tuple. -/
namespace Cs
open PySem PySem.Spec PyProof.Rows L2 HT
section
variable {prog : Program} {w : World} {A : Around} {E : Value → Shared → Prop} {s : Shared}
theorem back_adjust (n : Nat) : Builtin.Slice.sliceAdjust none none (-1) (n : Int) = ((n : Int) - 1, -1) := by
  unfold Builtin.Slice.sliceAdjust
  simp
theorem back_places (n : Nat) : Builtin.Slice.slicePlaces ((n : Int) - 1) (-1) (-1) = n := by
  unfold Builtin.Slice.slicePlaces
  rw [if_neg (by decide)]
  by_cases h : n = 0
  · subst h; rfl
  · rw [if_pos (by omega)]
    have e : (((n : Int) - 1) - -1 - 1) / (- -1) + 1 = (n : Int) := by
      rw [show (- -1 : Int) = 1 by decide, Int.ediv_one]
      omega
    rw [e]; rfl
theorem back_applied {sl : Addr} {vl vu vs : Value} {n : Nat} {Q : Int × Int × Nat → Shared → Prop} (hs : s.heap.IsSliceOf sl vl vu vs) (pl : IsPart vl none) (pu : IsPart vu none) (ps : IsPart vs (some (-1)))
    (h : Q ((n : Int) - 1, -1, n) s) : wpAny (model prog w) A (Builtin.Slice.sliceApplied (.ref sl) (pure (n : Int))) Q E s := by
  obtain ⟨os, hos, hcs, hds⟩ := id hs
  unfold Builtin.Slice.sliceApplied Builtin.Slice.sliceFields
  refine wpAny_bind (wpAny_bind (wpAny_field hos hds (x := vl) rfl (wpAny_bind (wpAny_field hos hds (x := vu) rfl (wpAny_bind (wpAny_field hos hds (x := vs) rfl (wpAny_pure ?_)))))))
  refine wpAny_bind (slicePart_ ps ?_)
  show wpAny _ _ (if ((-1 : Int) == 0) = true then _ else _) _ _ s
  rw [if_neg (by decide)]
  refine wpAny_bind (slicePart_ pl (wpAny_bind (slicePart_ pu (wpAny_bind (wpAny_pure ?_)))))
  show wpAny _ _ (match Builtin.Slice.sliceAdjust none none (-1) (n : Int) with | (lo, hi) => pure (lo, (-1 : Int), Builtin.Slice.slicePlaces lo hi (-1))) _ _ s
  rw [back_adjust]
  show wpAny _ _ (pure (((n : Int) - 1), (-1 : Int), Builtin.Slice.slicePlaces ((n : Int) - 1) (-1) (-1))) _ _ s
  rw [back_places]
  exact wpAny_pure h
theorem back_pick (xs : Array Value) : ((List.range xs.size).filterMap fun (m : Nat) => xs[(((xs.size : Int) - 1) + (m : Int) * -1).toNat]?) = xs.toList.reverse := by
  have e1 : ((List.range xs.size).filterMap fun (m : Nat) => xs[(((xs.size : Int) - 1) + (m : Int) * -1).toNat]?) = (((List.range xs.size).map fun k => xs.size - 1 - k).filterMap (xs[·]?)) := by
    rw [List.filterMap_map]
    congr 1
    funext m
    show _ = xs[xs.size - 1 - m]?
    by_cases h : m < xs.size
    · have : (((xs.size : Int) - 1) + (m : Int) * -1).toNat = xs.size - 1 - m := by omega
      rw [this]
    · have a1 : (((xs.size : Int) - 1) + (m : Int) * -1).toNat = 0 := by omega
      have a2 : xs.size - 1 - m = 0 := by omega
      rw [a1, a2]
  rw [e1, PySem.W.krv_range, List.filterMap_reverse, PySem.W.krv_all]
theorem getItem_tuple_back {t sl : Addr} {items : Array Value} {vl vu vs : Value} {Q : Value → Shared → Prop} (ht : IsTup s.heap t items) (hs : s.heap.IsSliceOf sl vl vu vs) (pl : IsPart vl none) (pu : IsPart vu none) (ps : IsPart vs (some (-1)))
    (h : Q (.ref s.heap.objs.size) { s with heap := s.heap.push { cls := .type "tuple", data := .seq items.toList.reverse.toArray } })
    (hsz : items.size ≤ sizeLine) : wpAny (model prog w) A (getItem (.ref t) (.ref sl)) Q E s := by
  have htake : sizeOk (.seq items.toList.reverse.toArray) := by
    show items.toList.reverse.toArray.size ≤ sizeLine
    rw [List.size_toArray, List.length_reverse, Array.length_toList]
    exact hsz
  obtain ⟨os, hos, hcs, hds⟩ := id hs
  have hTs : s.TypeIs (.ref sl) "slice" := ⟨os, hos, hcs⟩
  unfold getItem
  try with_reducible refine wpAny_holding ?_
  first | refine wpAny_bind (wpAny_pure ?_) | skip
  refine wpAny_bind (wpAny_sequenceKey ht.typeIs (by decide) ?_)
  refine wpAny_bind (wpAny_callSpecial?_slot (name := Str.ofString "__getitem__") ht.typeIs PyProof.Rows.slot_tuple_getitem
    (wpAny_call_entry PyProof.Rows.slot_tuple_getitem ht.typeIs entry_tuple_getitem ?_ (args_tuple_getitem _ _)))
  show wpAny _ _ (Builtin.Tuple.tupleItemsOf (.ref t) >>= _) _ _ s
  refine wpAny_bind (tupleItemsOf_ ht ?_)
  refine wpAny_bind (wpAny_typeOf hTs ?_)
  rw [if_pos (by decide)]
  refine wpAny_bind (back_applied hs pl pu ps ?_)
  have hno : ¬ ((((items.size : Int) - 1) == 0 && (-1 : Int) == 1 && items.size == items.size) = true) := by
    have e : ((-1 : Int) == 1) = false := by decide
    rw [e, Bool.and_false, Bool.false_and]
    exact Bool.false_ne_true
  show wpAny _ _ (if (((items.size : Int) - 1) == 0 && (-1 : Int) == 1 && items.size == items.size) = true then _ else _) _ _ s
  rw [if_neg hno, back_pick]
  first
    | exact wpAny_bind (m := Builtin.Tuple.tupleExact _) (wpAny_newObj_type (wpAny_pure ⟨_, rfl, wpAny_pure h⟩) htake)
    | exact wpAny_bind (m := Builtin.Tuple.tupleExact _) (wpAny_newObj_type (wpAny_bind (wpAny_pure (wpAny_pure ⟨_, rfl, wpAny_pure h⟩))) htake)
end
section
variable {X : Cx}
def tRevT (K : PySem.W.Frag) (te : TE) : TE := fun σ H Q => te σ H fun x H1 => ∃ a xs, x = .ref a ∧ SqT K H1 a xs ∧ ∀ p, H1 p = none → Q (.ref p) (upd H1 p (.tup xs.reverse))
theorem pe_revT {e : Expr} {te : TE} {k : Nat} {p1 p2 p3 pos : Pos} (he : PE X e te) : PE X (.Subscript e (.Slice none none (some (.UnaryOp .USub (.Constant (.int 1) k p1) p2)) p3) pos) (tRevT X.K te) := by
  refine ⟨fun pins s σ H Q I h => ?_⟩
  refine Subscript_ (thn (he.run pins s σ H _ I h) fun v s1 ⟨x, H1, I1, r1, q1⟩ => ?_)
  obtain ⟨a, xs, ex, hx, q⟩ := q1
  subst ex
  cases r1
  have hst : PO X (some (.UnaryOp .USub (.Constant (.int 1) k p1) p2)) (tPart (tUn (rU fun i => .int (-i)) (tC (.int 1)))) := po_some (pe_un un_neg pe_int)
  refine wpAny_Slice (thn (po_none.run pins s1 σ H1 (fun o H2 => o = none ∧ H2 = H1) I1 ⟨rfl, rfl⟩) fun vl s2 ⟨l, H2, I2, pl, el, e2⟩ => ?_)
  subst el e2
  refine thn (po_none.run pins s2 σ H2 (fun o H3 => o = none ∧ H3 = H2) I2 ⟨rfl, rfl⟩) fun vu s3 ⟨u, H3, I3, pu, eu, e3⟩ => ?_
  subst eu e3
  refine thn (hst.run pins s3 σ H3 (fun o H4 => o = some (-1) ∧ H4 = H3) I3 ⟨1, rfl, -1, rfl, rfl, rfl⟩) fun vs s4 ⟨o, H4, I4, ps, eo, e4⟩ => ?_
  subst eo e4
  have I5 : Inv X pins σ H4 { s4 with heap := s4.heap.push { cls := .type "slice", data := .fields #[vl, vu, vs] } } := I4.kept (t' := s4.toks) fun b ob q => Heap.get?_push_of_some _ q
  obtain ⟨its, r, ht, hz⟩ := I5.tuple hx
  have hlen := r.length
  show wpAny (model X.prog X.w) X.A (subscriptTail e (.Slice none none (some (.UnaryOp .USub (.Constant (.int 1) k p1) p2)) p3) (.ref a) (.ref s4.heap.objs.size)) (EP X pins σ Q) X.xe { s4 with heap := s4.heap.push { cls := .type "slice", data := .fields #[vl, vu, vs] } }
  refine tail_any (ops := [.ref a, .ref s4.heap.objs.size]) ht.typeIs (PyProof.Rows.slot_tuple_getitem.lookup) ?_ (by with_unfolding_all rfl)
  refine getItem_tuple_back ht (Heap.IsSliceOf.new _ vl vu vs) pl pu ps ?_ (by rw [List.size_toArray]; omega)
  refine ⟨.ref _, _, I5.laid (t' := s4.toks) (o := .tup xs.reverse) (fun b ob q => Heap.get?_push_of_some _ q) (Nat.le_refl _) ?_, rfl, q _ (I5.hok.fresh (Nat.le_refl _))⟩
  exact ⟨by rw [List.length_reverse]; exact hz, _, r.reverse, IsTup.new _ _⟩
end
theorem rd_revT {K : PySem.W.Frag} {σ : L2.St} {H : Hp} {Q : VK} {te : TE} {a : Addr} {l : List Nat} (h : AnV te σ H (.ref a)) (ha : SqT K H a (nvs l)) (q : ∀ p, H p = none → Q (.ref p) (upd H p (.tup (nvs l.reverse)))) : tRevT K te σ H Q :=
  h _ ⟨a, nvs l, rfl, ha, fun p hp => by rw [← List.map_reverse]; exact q p hp⟩
end Cs
-- CsEnum
/-! enumerate(t), t a tuple: what walks under it is told by InIt, apart from the counting. -/
namespace Cs
open PySem PySem.Spec PyProof.Rows L2
open PySem.Builtin.SmallTypes (nextOf ownedTupleIsFree ownedTupleHandOut)
/-- an iterator at i: at turn n it stands as St n tells; while the heap is Ok it gives val n -/
structure InIt (P : Program) (w : World) (i : Addr) (Ok : Heap → Prop) (St : Nat → Heap → Prop) (val : Nat → Option Value) : Prop where
  give : ∀ (A : Around) (E : Value → Shared → Prop) (s : Shared) (n : Nat) (x : Value) (Q : Value → Shared → Prop), Ok s.heap → St n s.heap → val n = some x →
    (∀ g, St (n + 1) g → Heap.SameBut i s.heap g → Q x { s with heap := g }) → wpAny (model P w) A (nextOf (.ref i)) Q E s
  ends : ∀ (A : Around) (E : Value → Shared → Prop) (s : Shared) (n : Nat) (Q : Value → Shared → Prop), A.handled = none → Ok s.heap → St n s.heap → val n = none →
    (∀ g x, Heap.ExtBut i s.heap g → (∃ o, g.get? x = some o ∧ o.cls = .type "StopIteration") → E (.ref x) { s with heap := g }) → wpAny (model P w) A (nextOf (.ref i)) Q E s
  stay : ∀ (h g : Heap) (n : Nat), St n h → (∀ o, h.get? i = some o → g.get? i = some o) → St n g
section
variable {P : Program} {w : World}
theorem tup_next {t i : Addr} {items : Array Value} : InIt P w i (fun h => h.IsTuple t items) (fun n h => h.IsTupleIter i t n) (fun n => items[n]?) where
  give := by
    intro A E s n x Q ⟨ot, gt, _, nt, dt⟩ it hx q
    obtain ⟨oi, gi, ci, di⟩ := id it
    unfold nextOf
    refine wpAny_bind (wpAny_callSpecial?_slot (name := Str.ofString "__next__") it.typeIs F.slot_tuple_iterator_next (wpAny_call_entry F.slot_tuple_iterator_next it.typeIs F.entry_tuple_iterator_next ?_ (F.args_tuple_iterator_next_1 _)))
    refine wpAny_bind (m := field (.ref i) 0) (wpAny_field gi di (x := .ref t) rfl ?_)
    refine PySem.W.KFB.if_not (show (Value.ref t == Value.none) = false from rfl) ?_
    refine wpAny_bind (m := field (.ref i) 1) (wpAny_field gi di (x := .int n 0) rfl ?_)
    refine wpAny_bind (m := seqItems? (.ref t)) (wpAny_seqItems gt dt ?_)
    simp only [Int.toNat_natCast, hx]
    refine wpAny_bind (wpAny_setField gi di (by simp) (wpAny_pure ⟨x, rfl, wpAny_pure (q _ ?_ (Heap.SameBut.update ..))⟩))
    refine ⟨_, Heap.get?_update_self _ gi (Obj.isFreed_of_fields (Obj.data_mapFields di _)), (Obj.cls_mapFields ..).trans ci, ?_⟩
    rw [Obj.data_mapFields di]
    simp [rawInt]
  ends := by
    intro A E s n Q hh ⟨ot, gt, _, nt, dt⟩ it hx q
    obtain ⟨oi, gi, ci, di⟩ := id it
    unfold nextOf
    refine wpAny_bind (wpAny_callSpecial?_slot (name := Str.ofString "__next__") it.typeIs F.slot_tuple_iterator_next (wpAny_call_entry F.slot_tuple_iterator_next it.typeIs F.entry_tuple_iterator_next ?_ (F.args_tuple_iterator_next_1 _)))
    refine wpAny_bind (m := field (.ref i) 0) (wpAny_field gi di (x := .ref t) rfl ?_)
    refine PySem.W.KFB.if_not (show (Value.ref t == Value.none) = false from rfl) ?_
    refine wpAny_bind (m := field (.ref i) 1) (wpAny_field gi di (x := .int n 0) rfl ?_)
    refine wpAny_bind (m := seqItems? (.ref t)) (wpAny_seqItems gt dt ?_)
    simp only [Int.toNat_natCast, hx]
    refine wpAny_bind (wpAny_rule (wpAny_bind (wpAny_setField gi di (by simp) ?_)))
    refine wpAny_bind (m := newExc (.type "StopIteration") []) ?_
    simp only [newExc, newTuple]
    refine wpAny_bind (wpAny_newObj_type ?_ (by size_fits))
    refine wpAny_bind (m := firstArgMember _ _) (wpAny_of_eq (a := Value.none) (by simp only [firstArgMember]; rfl) ?_)
    refine wpAny_newObj_type ?_ (by size_fits)
    simp only [raiseNew]
    refine wpAny_bind (wpAny_handled ?_)
    rw [show A.in1.handled = none from hh]
    refine wpAny_bind (wpAny_pure (wpAny_throw ?_))
    exact q _ _ (((Heap.SameBut.update ..).extBut.push _).push _) ⟨_, Heap.get?_push_size _ rfl, rfl⟩
  stay := fun h g n ⟨o, ho, r⟩ k => ⟨o, k o ho, r⟩
/-- what a turn of enumerate leaves -/
def EnOut (e i : Addr) (n : Nat) (x : Value) (St : Nat → Heap → Prop) (s : Shared) (g : Heap) : Prop :=
  IsEnumOut g e i ((n : Int) + 1) x s.heap.objs.size ∧ St (n + 1) g ∧ g.get? s.heap.objs.size = some { cls := .type "tuple", data := .seq #[.int n s.toks, x] } ∧
  g.objs.size = s.heap.objs.size + 1 ∧ ∀ b o, b ≠ e → b ≠ i → s.heap.get? b = some o → g.get? b = some o
variable {A : Around} {E : Value → Shared → Prop} {s : Shared} {e i : Addr} {Ok : Heap → Prop} {St : Nat → Heap → Prop} {val : Nat → Option Value} {n : Nat} {x old : Value}
theorem en_body {Q : Value → Shared → Prop} (I : InIt P w i Ok St val) (he : IsEnum s.heap e i n old) (ne : e ≠ i) (ok : Ok s.heap) (st : St n s.heap) (hx : val n = some x)
    (q : ∀ g, EnOut e i n x St s g → Q (.ref s.heap.objs.size) { s with heap := g, toks := s.toks + 1 }) :
    wpAny (model P w) A (Builtin.«enumerate.__next__» ⟨[.ref e], []⟩) (fun f s' => ∃ v, f = .done (.ret v) ∧ Q v s') E s := by
  obtain ⟨hp, ga, dr, tk, os⟩ := s
  have ni := Ne.symm ne
  refine wpAny_bind (m := field (.ref e) 2) (wpAny_field he rfl (x := .ref i) rfl ?_)
  refine wpAny_bind (m := nextOf (.ref i)) (I.give _ _ _ n x _ ok st hx fun g1 st1 b1 => ?_)
  have he1 : IsEnum g1 e i n old := (b1.2 e ne).trans he
  have w1 : g1.objs.size = hp.objs.size := b1.1
  refine wpAny_bind (m := field (.ref e) 3) (wpAny_field (s := ⟨g1, ga, dr, tk, os⟩) he1 rfl (x := rawInt n) rfl ?_)
  refine wpAny_bind (m := field (.ref e) 4) (wpAny_field (s := ⟨g1, ga, dr, tk, os⟩) he1 rfl (x := .none) rfl ?_)
  refine wpAny_bind (m := mkInt (n : Int)) (wpAny_mkInt ?_)
  refine wpAny_bind (m := setField (.ref e) 3 (rawInt ((n : Int) + 1))) (wpAny_setField_rec (s := ⟨g1, ga, dr, tk + 1, os⟩) he1 (by simp) fun g2 he2 b2 => ?_)
  replace b2 : Heap.SameBut e g1 g2 := b2
  replace he2 : IsEnum g2 e i ((n : Int) + 1) old := he2
  refine wpAny_bind (m := setField (.ref e) 4 .none) (wpAny_setField_rec (s := ⟨g2, ga, dr, tk + 1, os⟩) he2 (by simp) fun g3 he3 b3 => ?_)
  replace b3 : Heap.SameBut e g2 g3 := b3
  replace he3 : IsEnum g3 e i ((n : Int) + 1) old := he3
  have w3 : g3.objs.size = hp.objs.size := b3.1.trans (b2.1.trans w1)
  refine wpAny_bind (m := newTuple [.int n tk, x]) (wpAny_newTuple ?_)
  obtain ⟨g4, eg4⟩ : ∃ g4, g4 = g3.push { cls := .type "tuple", data := .seq #[.int n tk, x] } := ⟨_, rfl⟩
  have he4 : IsEnum g4 e i ((n : Int) + 1) old := by rw [eg4]; exact Heap.get?_push_of_some _ he3
  have t4 : g4.get? hp.objs.size = some { cls := .type "tuple", data := .seq #[.int n tk, x] } := by rw [eg4, ← w3]; exact Heap.get?_push_size _ rfl
  have w4 : g4.objs.size = hp.objs.size + 1 := by rw [eg4, Heap.size_push, w3]
  have st4 : St (n + 1) g4 := I.stay g1 g4 _ st1 fun o ho => by
    rw [eg4]; exact Heap.get?_push_of_some _ (b3.extBut i o ni (b2.extBut i o ni ho))
  have k4 : ∀ b o, b ≠ e → b ≠ i → hp.get? b = some o → g4.get? b = some o := fun b o h1 h2 hb => by
    rw [eg4]; exact Heap.get?_push_of_some _ (b3.extBut b o h1 (b2.extBut b o h1 (b1.extBut b o h2 hb)))
  rw [← eg4, w3]
  have el : e < hp.objs.size := Heap.lt_size he
  refine wpAny_bind (m := ownedTupleIsFree (.ref e)) ?_
  unfold ownedTupleIsFree
  refine wpAny_bind (wpAny_field (s := ⟨g4, ga, dr, tk + 1, os⟩) he4 rfl (x := .none) rfl (wpAny_pure ?_))
  simp only [if_true]
  refine wpAny_bind (wpAny_rule (wpAny_bind (wpAny_field (s := ⟨g4, ga, dr, tk + 1, os⟩) he4 rfl (x := old) rfl ?_)))
  refine wpAny_bind (wpAny_setField_rec (s := ⟨g4, ga, dr, tk + 1, os⟩) he4 (by simp) fun g5 he5 b5 => ?_)
  replace b5 : Heap.SameBut e g4 g5 := b5
  replace he5 : IsEnum g5 e i ((n : Int) + 1) x := he5
  refine wpAny_bind (m := ownedTupleHandOut (.ref e) (.ref hp.objs.size)) ?_
  unfold ownedTupleHandOut
  refine wpAny_bind (wpAny_setField_rec (s := ⟨g5, ga, dr, tk + 1, os⟩) he5 (by simp) fun g6 he6 b6 => ?_)
  replace b6 : Heap.SameBut e g5 g6 := b6
  replace he6 : IsEnumOut g6 e i ((n : Int) + 1) x hp.objs.size := he6
  refine wpAny_setField_rec (s := ⟨g6, ga, dr, tk + 1, os⟩) he6 (by simp) fun g7 he7 b7 => ?_
  replace b7 : Heap.SameBut e g6 g7 := b7
  replace he7 : IsEnumOut g7 e i ((n : Int) + 1) x hp.objs.size := he7
  have k7 : ∀ b o, b ≠ e → g4.get? b = some o → g7.get? b = some o := fun b o h1 hb => b7.extBut b o h1 (b6.extBut b o h1 (b5.extBut b o h1 hb))
  refine wpAny_bind (wpAny_letGo (wpAny_pure ⟨_, rfl, q g7 ⟨he7, I.stay g4 g7 _ st4 fun o ho => k7 i o ni ho, k7 _ _ (Nat.ne_of_gt el) t4, ?_, fun b o h1 h2 hb => k7 b o h1 (k4 b o h1 h2 hb)⟩⟩))
  exact b7.1.trans (b6.1.trans (b5.1.trans w4))
theorem en_next {Q : Option Value → Shared → Prop} (I : InIt P w i Ok St val) (he : IsEnum s.heap e i n old) (ne : e ≠ i) (ok : Ok s.heap) (st : St n s.heap) (hx : val n = some x)
    (q : ∀ g, EnOut e i n x St s g → Q (some (.ref s.heap.objs.size)) { s with heap := g, toks := s.toks + 1 }) : wpAny (model P w) A (pyNext (.ref e)) Q E s := by
  have ty : s.TypeIs (.ref e) "enumerate" := ⟨_, he, rfl⟩
  unfold pyNext
  refine wpAny_bind (wpAny_attempt (wpAny_callSpecial?_slot (name := Str.ofString "__next__") ty F.slot_enumerate_next (wpAny_call_entry F.slot_enumerate_next ty F.entry_enumerate_next ?_ (F.args_enumerate_next_1 _))))
  exact en_body I he ne ok st hx fun g h => wpAny_pure (q g h)
theorem en_end {Q : Option Value → Shared → Prop} (hh : A.handled = none) (I : InIt P w i Ok St val) (he : IsEnum s.heap e i n old) (ok : Ok s.heap) (st : St n s.heap) (hx : val n = none)
    (q : ∀ g, Heap.ExtBut i s.heap g → Q none { s with heap := g }) : wpAny (model P w) A (pyNext (.ref e)) Q E s := by
  have ty : s.TypeIs (.ref e) "enumerate" := ⟨_, he, rfl⟩
  unfold pyNext
  refine wpAny_bind (wpAny_attempt (wpAny_callSpecial?_slot (name := Str.ofString "__next__") ty F.slot_enumerate_next (wpAny_call_entry F.slot_enumerate_next ty F.entry_enumerate_next ?_ (F.args_enumerate_next_1 _))))
  refine wpAny_bind (m := field (.ref e) 2) (wpAny_field he rfl (x := .ref i) rfl ?_)
  refine wpAny_bind (m := nextOf (.ref i)) (I.ends _ _ _ n _ hh ok st hx fun g y b1 ⟨o, ho, hc⟩ => ?_)
  exact wpAny_bind (wpAny_isInstance (T := "StopIteration") (b := true) ⟨o, ho, hc⟩ isSubtype_stop (wpAny_pure (q _ b1)))
/-- enumerate(t) itself -/
abbrev itPush (t : Addr) (h : Heap) : Heap := h.push { cls := .type "tuple_iterator", data := .fields #[.ref t, .int 0 0] }
abbrev enPush (t : Addr) (h : Heap) : Heap := (itPush t h).push { cls := .type "enumerate", data := .fields #[.none, .bool false, .ref h.objs.size, rawInt 0, .none, .none] }
theorem en_new (t : Addr) (items : Array Value) (k : Nat) (dd : Option Addr) (sl : Array (Option Value)) :
    Meets (Builtin.«enumerate.__new__» ⟨[.type "enumerate", .ref t], []⟩) (fun _ R s => s.heap.get? t = some { cls := .type "tuple", dict := dd, data := .seq items k, slots := sl } ∧
      R (.ok (.ret (.ref (itPush t s.heap).objs.size))) { s with heap := enPush t s.heap }) :=
  .of_wp fun prog w A R s h => by
    obtain ⟨hp, ga, dr, tk, os⟩ := s
    obtain ⟨gt, h⟩ := h
    have hsub := sub_enumerate
    have hT : Heap.IsTuple (Shared.heap ⟨hp, ga, dr, tk, os⟩) t items := ⟨_, gt, rfl, k, rfl⟩
    wp_walk
    refine wpAny_stack_any fun st => wpAny_pure ?_
    split
    · rename_i c _ _ _ _ _
      cases (c == Value.type "enumerate")
      · wp_walk using wpAny_pyIter_tuple hT
        exact ⟨_, rfl, h⟩
      · wp_walk using wpAny_pyIter_tuple hT
        exact ⟨_, rfl, h⟩
    · wp_walk using wpAny_pyIter_tuple hT
      exact ⟨_, rfl, h⟩
theorem en_call {t : Addr} {items : Array Value} {Q : Value → Shared → Prop} (hT : s.heap.IsTuple t items) (q : Q (.ref (s.heap.objs.size + 1)) { s with heap := enPush t s.heap }) :
    wpAny (model P w) A (call (.type "enumerate") [.ref t]) Q E s := by
  obtain ⟨⟨c, dd, dt, sl⟩, ht, hc, k, hd⟩ := hT
  replace hc : c = .type "tuple" := hc
  replace hd : dt = .seq items k := hd
  subst hc hd
  have hz : (itPush t s.heap).objs.size = s.heap.objs.size + 1 := Heap.size_push ..
  refine callType_new F.called_enumerate (by decide) (F.typeCall_enumerate_1 _) (F.newCall_enumerate_1 _) (fun o => F.args_object_init_2 o _) F.entry_enumerate_new (en_new t items k dd sl) ⟨ht, ?_⟩
  have ge : IsEnum (enPush t s.heap) (s.heap.objs.size + 1) s.heap.objs.size 0 .none := by
    have z := Heap.get?_push_size (itPush t s.heap) (o := { cls := .type "enumerate", data := .fields #[.none, .bool false, .ref s.heap.objs.size, rawInt 0, .none, .none] }) rfl
    rw [hz] at z
    exact z
  rw [hz]
  exact ⟨⟨_, ge, rfl⟩, q⟩
end
/-- what enumerate gives over a tuple: a new pair each time -/
def IteT (K : PySem.W.Frag) (a : Addr) (xs : List V) : It :=
  ⟨fun i H => SqT K H a xs ∧ i < xs.length, fun i H v H' => ∃ T x, v = .ref T ∧ H T = none ∧ H' = upd H T (.tup [nv i, x]) ∧ xs[i]? = some x, fun i H => SqT K H a xs ∧ xs.length ≤ i⟩
section
variable {P : Program} {w : World}
theorem turn_enT {K : PySem.W.Frag} {elts : List Expr} {kk : Nat} {tpos : Pos} (a e i : Addr) (xs : List V) :
    Turn P w K (.Tuple elts kk tpos) (IteT K a xs) [e, i] e (fun n h => (∃ old, IsEnum h e i (n : Int) old) ∧ h.IsTupleIter i a n ∧ e ≠ i) where
  mem := List.mem_cons_self ..
  obj := fun n h ⟨⟨old, he⟩, ⟨o, ho, hc, hd⟩, _⟩ b hb => by
    rcases List.mem_cons.mp hb with z | z
    · subst z
      exact ⟨_, he, fun v q => nomatch q⟩
    · rw [List.mem_singleton.mp z]
      exact ⟨o, ho, fun v q => by rw [hd] at q; cases q⟩
  keep := fun n h h' ⟨⟨old, he⟩, hi, ne⟩ k => ⟨⟨old, k e (List.mem_cons_self ..) _ he⟩, hi.at fun o q => k i (List.mem_cons_of_mem _ (List.mem_singleton.mpr rfl)) o q, ne⟩
  item := by
    intro X hP hw hK hc n pins s σ H E I hf st hg
    subst hP hw hK
    obtain ⟨⟨old, he⟩, hi, ne⟩ := st
    obtain ⟨hq, hn⟩ := hg
    obtain ⟨its, rv, p, hz⟩ := I.tuple hq
    have hx := List.getElem?_eq_getElem hn
    obtain ⟨u, hu, ru⟩ := rv.get hx
    have el : e < s.heap.objs.size := Heap.lt_size he
    have il : i < s.heap.objs.size := Heap.lt_size hi.choose_spec.1
    refine en_next tup_next he ne (show s.heap.IsTuple a its.toArray from p) hi (x := u) (by simpa using hu) fun g ⟨o1, o2, o3, o4, o5⟩ => ?_
    refine ⟨_, rfl, wpAny_letOwnedTupleGo_enum (s := { s with heap := g, toks := s.toks + 1 }) o1 fun g2 he2 b2 => ?_⟩
    have t2 : g2.get? s.heap.objs.size = some { cls := .type "tuple", data := .seq #[.int n s.toks, u] } := (b2.2 _ (Nat.ne_of_gt el)).trans o3
    have new : ObjOk X.prog X.w (upd H s.heap.objs.size (.tup [nv n, xs[n]])) g2 s.heap.objs.size (.tup [nv n, xs[n]]) :=
      ⟨by show 2 ≤ sizeLine; decide, [.int n s.toks, u], .cons ⟨_, rfl⟩ (.cons ru .nil), ⟨_, t2, rfl, _, rfl⟩⟩
    have I2 : Inv X pins σ (upd H s.heap.objs.size (.tup [nv n, xs[n]])) { s with heap := g2, toks := s.toks + 1 } := by
      refine I.turnedNew (ch := [e, i]) (fun b o hb q => ?_) hf (Nat.le_refl _) new
      have h1 : b ≠ e := fun z => hb (by rw [z]; exact List.mem_cons_self ..)
      have h2 : b ≠ i := fun z => hb (by rw [z]; exact List.mem_cons_of_mem _ (List.mem_singleton.mpr rfl))
      exact (b2.2 b h1).trans (o5 b o h1 h2 q)
    refine ⟨.ref s.heap.objs.size, _, I2, rfl, ⟨_, _, rfl, I.hok.fresh (Nat.le_refl _), rfl, hx⟩, ⟨⟨u, he2⟩, o2.at fun o q => (b2.2 i (Ne.symm ne)).trans q, ne⟩, fun b hb => ?_⟩
    have lt : b < s.heap.objs.size := by
      rcases List.mem_cons.mp hb with z | z
      · rw [z]; exact el
      · rw [List.mem_singleton.mp z]; exact il
    rw [upd_ne (Nat.ne_of_lt lt)]
    exact (hf b hb).1
  done := by
    intro X hP hw hK hc n pins s σ H E I hf st hg
    subst hP hw hK
    obtain ⟨⟨old, he⟩, hi, ne⟩ := st
    obtain ⟨hq, hn⟩ := hg
    obtain ⟨its, rv, p, hz⟩ := I.tuple hq
    obtain ⟨f0, f1, f2, f3, f4, f5⟩ := hf i (List.mem_cons_of_mem _ (List.mem_singleton.mpr rfl))
    have hl := rv.length
    exact en_end (I.ok.hd hc) tup_next he (show s.heap.IsTuple a its.toArray from p) hi (by simp; omega) fun g b1 => ⟨rfl, I.turned (t' := s.toks) (fun b o hb q => b1 b o hb q) f0 f1 f3 f4 f5⟩
  self := fun A n s Q E ⟨⟨_, he⟩, _⟩ h => wpAny_pyIter_enum he h
def iEnumT (K : PySem.W.Frag) (ta : TA) : TI := fun σ H R => ta σ H fun vs H1 => ∃ a xs, vs = [.ref a] ∧ SqT K H1 a xs ∧ R (IteT K a xs) H1
theorem rd_enT {K : PySem.W.Frag} {ta : TA} {σ : L2.St} {H : Hp} {R : It → Hp → Prop} (h : ta σ H fun vs H1 => ∃ a xs, vs = [.ref a] ∧ SqT K H1 a xs ∧ R (IteT K a xs) H1) : iEnumT K ta σ H R := h
theorem pi_enumT {X : Cx} {e : Expr} {ta : TA} {p pos tpos : Pos} {elts : List Expr} {kk : Nat} (hg : Gl X "enumerate") (hm : X.mg "enumerate" = none) (ha : PA X [e] ta) (hs : starEach [e] X.env = [(false, eval e X.env)] := by rfl) :
    PI X (.Tuple elts kk tpos) (.Call (.Name "enumerate" p) [e] [] pos) (iEnumT X.K ta) := by
  refine ⟨fun pins s σ H R I h => Call_ (ld_blt I hg hm boot_enumerate (PyProof.Rows.callWith_type1 (thn (ha.run pos pins s σ H _ I h) fun us s1 ⟨vs, H1, I1, r1, a, xs, ex, hq, q⟩ => ?_) hs rfl))⟩
  subst ex
  obtain ⟨u, rfl, r⟩ := vals1 r1
  cases r
  obtain ⟨its, rv, p', hz⟩ := I1.tuple hq
  refine en_call (show s1.heap.IsTuple a its.toArray from p') ?_
  have kp : ∀ b o, s1.heap.get? b = some o → (enPush a s1.heap).get? b = some o := fun b o hb => Heap.get?_push_of_some _ (Heap.get?_push_of_some _ hb)
  have hz : (itPush a s1.heap).objs.size = s1.heap.objs.size + 1 := Heap.size_push ..
  have ge : IsEnum (enPush a s1.heap) (s1.heap.objs.size + 1) s1.heap.objs.size 0 .none := by
    have z := Heap.get?_push_size (itPush a s1.heap) (o := { cls := .type "enumerate", data := .fields #[.none, .bool false, .ref s1.heap.objs.size, rawInt 0, .none, .none] }) rfl
    rw [hz] at z
    exact z
  refine wpAny_pyIter_enum ge ?_
  refine ⟨s1.heap.objs.size + 1, [s1.heap.objs.size + 1, s1.heap.objs.size], _, _, H1, rfl, I1.kept (t' := s1.toks) kp, turn_enT a _ _ xs, ⟨⟨.none, ge⟩, ⟨_, Heap.get?_push_of_some _ (Heap.get?_push_size _ rfl), rfl, rfl⟩, Nat.succ_ne_self _⟩, fun b hb => ?_, q⟩
  have le : s1.heap.objs.size ≤ b := by
    rcases List.mem_cons.mp hb with z | z
    · rw [z]; exact Nat.le_add_right _ _
    · rw [List.mem_singleton.mp z]; exact Nat.le_refl _
  exact I1.fpOk le (I1.hok.fresh le)
theorem walk_enT {K : PySem.W.Frag} {a : Addr} {xs : List V} : L2.Walk (IteT K a xs) xs.length (fun H => SqT K H a xs) (fun i H v H' => ∃ T x, v = .ref T ∧ H T = none ∧ H' = upd H T (.tup [nv i, x]) ∧ xs[i]? = some x) :=
  ⟨fun _ _ hi h => ⟨h, hi⟩, fun _ h => ⟨h, Nat.le_refl _⟩, fun _ _ _ _ _ _ y => y⟩
end
end Cs
-- CsPaths
namespace Cs
open PySem PySem.Spec PyProof.Rows L2
open Vamrqa (nameByte goodName goodPath cutAt folderOf clash)
/-- the written tuple of the signs -/
structure TSigns (K : PySem.W.Frag) (mg : Str → Option Value) : Prop where
  ex : ∃ a, mg "SIGNS" = some (.ref a) ∧ ∀ H, SqT K H a [.int 95, .int 46, .int 45]
section
variable {P : Program} {w : World} {K : PySem.W.Frag} {mg : Str → Option Value} {base : Heap}
abbrev sNameByte : Stmt := top 12
abbrev NNameByte : List Str := ["byte"]
theorem scNameByte : FnScope NNameByte ["byte"] (defScope sNameByte) := ⟨rfl, rfl, rfl, by decide +kernel, rfl, by decide +kernel, by decide +kernel⟩
def spNameByte : Sp := fun vs H Q _ => ∃ c : Nat, vs = [nv c] ∧ Q (.bl (nameByte c)) H
theorem in_signs (c : Nat) : inV (nv c) [.int 95, .int 46, .int 45] = (decide (c = 95) || decide (c = 46) || decide (c = 45)) := by
  show ((decide ((95 : Int) = (c : Int)) || (decide ((46 : Int) = (c : Int)) || (decide ((45 : Int) = (c : Int)) || false)))) = _
  have h1 : decide ((95 : Int) = (c : Int)) = decide (c = 95) := decide_eq_decide.mpr (by omega)
  have h2 : decide ((46 : Int) = (c : Int)) = decide (c = 46) := decide_eq_decide.mpr (by omega)
  have h3 : decide ((45 : Int) = (c : Int)) = decide (c = 45) := decide_eq_decide.mpr (by omega)
  rw [h1, h2, h3, Bool.or_false, Bool.or_assoc]
theorem nameByte_eq (c : Nat) : nameByte c = ((decide (97 ≤ c) && decide (c ≤ 122)) || ((decide (48 ≤ c) && decide (c ≤ 57)) || inV (nv c) [.int 95, .int 46, .int 45])) := by
  rw [in_signs]
  unfold nameByte
  simp only [Bool.or_assoc]
theorem ok_nameByte (F : Df K mg "is_name_byte" sNameByte) (T : Tx mg) (S : TSigns K mg) : C8.Cal P w K mg base 1 "is_name_byte" spNameByte [] := by
  obtain ⟨aS, hS, tS⟩ := S.ex
  have c_SIGNS : ∃ u, mg "SIGNS" = some u ∧ RelV (.ref aS) u := ⟨_, hS, rfl⟩
  refine F.cal scNameByte (fun _ _ _ _ _ _ us hl => match us, hl with | [_], _ => rfl) (fun vs H Q E h => ?_) (fun f cdv A outer s H vs Q E hr h => ?_)
  · obtain ⟨c, rfl, _⟩ := h
    rfl
  · obtain ⟨c, rfl, k⟩ := h
    rw [nameByte_eq] at k
    refine ⟨_, (pss_one (ps_ret (pe_or (pe_chain op_le op_le pe_int (pv 0) pe_int) (pe_or (pe_chain op_le op_le pe_int (pv 0) pe_int) (pe_one (pe_cmpR op_in_seq (pv 0) (C8.pe_gc (by rfl) c_SIGNS) (by rfl))))))), ?_⟩
    refine rd_ret ?_
    refine anv_use (anv_or (anv_chain anv_c (anv_var rfl) anv_c) fun _ => anv_or (anv_chain anv_c (anv_var rfl) anv_c) fun _ => anv_in (anv_var rfl) anv_c (tS H) rfl rfl) ?_
    have e1 : ∀ a b : Nat, (decide ((a : Int) ≤ (c : Int)) && decide ((c : Int) ≤ (b : Int))) = (decide (a ≤ c) && decide (c ≤ b)) := fun a b => by
      rw [decide_eq_decide.mpr (show (a : Int) ≤ (c : Int) ↔ a ≤ c by omega), decide_eq_decide.mpr (show (c : Int) ≤ (b : Int) ↔ c ≤ b by omega)]
    have e2 := e1 97 122
    have e3 := e1 48 57
    rw [← e2, ← e3] at k
    exact k
abbrev sIsName : Stmt := top 13
abbrev NIsName : List Str := ["name", "byte"]
theorem scIsName : FnScope NIsName ["name"] (defScope sIsName) := ⟨rfl, rfl, rfl, by decide +kernel, rfl, by decide +kernel, by decide +kernel⟩
def spIsName : Sp := fun vs H Q _ => ∃ (a : Addr) (n : List Nat), vs = [.ref a] ∧ H a = some (.tup (nvs n)) ∧ n.length ≤ 1000 ∧ ∀ H', Same H H' → Q (.bl (goodName n)) H'
theorem ok_isName (F : Df K mg "is_name" sIsName) (T : Tx mg) (G_is_name_byte : C8.Cal P w K mg base 1 "is_name_byte" spNameByte []) : C8.Cal P w K mg base 2 "is_name" spIsName [] := by
  refine F.cal scIsName (fun _ _ _ _ _ _ us hl => match us, hl with | [_], _ => rfl) (fun vs H Q E h => ?_) (fun f cdv A outer s H vs Q E hr h => ?_)
  · obtain ⟨a, n, rfl, _⟩ := h
    rfl
  · obtain ⟨a, n, rfl, ha, zn, k⟩ := h
    refine ⟨_, (pss_one (ps_ret (pe_and (pe_chain op_le op_le pe_int (pe_callB call_lenS (by rfl) T.len PySem.boot_len (pa_cons (pv 0) pa_nil)) (C8.pe_gc (by rfl) T.c_LONGEST_NAME)) (pe_one (pe_callB (cr_all rfl) (by rfl) T.all (by decide +kernel) (pa_cons (pe_lc (own := [("byte", 1)]) (g := gName 1) (tt := tYes) (by rfl) scIsName.nd (pi_tup (pv 0)) (blkOk_by (own := [("byte", 1)]) (N := NIsName) (sc := defScope sIsName) (by decide +kernel)) (fun _ _ _ _ _ => pg_name (i := 1) scIsName.nd rfl (Or.inl rfl)) (fun _ _ _ _ _ => pts_nil) (fun _ _ _ _ _ => (C8.pe_c G_is_name_byte hr (by decide) (by rfl) (pa_cons (pv 1) pa_nil)))) pa_nil)))))), ?_⟩
    refine rd_ret ?_
    refine rd_andV ?_
    refine anv_use (anv_chain anv_c (anv_lenT (anv_var rfl) (SqT.of ha)) anv_c) ?_
    refine ⟨_, rfl, ?_⟩
    have e0 : (decide ((1 : Int) ≤ ((nvs n).length : Int)) && decide (((nvs n).length : Int) ≤ 12)) = (decide (1 ≤ n.length) && decide (n.length ≤ 12)) := by
      rw [nvs_len, decide_eq_decide.mpr (show (1 : Int) ≤ (n.length : Int) ↔ 1 ≤ n.length by omega), decide_eq_decide.mpr (show (n.length : Int) ≤ 12 ↔ n.length ≤ 12 by omega)]
    rw [e0]
    have eg : goodName n = ((decide (1 ≤ n.length) && decide (n.length ≤ 12)) && n.all nameByte) := rfl
    rw [eg] at k
    refine rd_cond (fun c => ?_) (fun c => ?_)
    · rw [c, Bool.true_and] at k
      walk_at "rd"
      refine ⟨a, rfl, ⟨_, SqT.of ha⟩, fun D hD => ?_⟩
      refine lc_B (L2.walk_tup (K := K) (a := a) (xs := nvs n)) (fun i => nameByte (n.getD i 0)) (by rw [nvs_len]; omega) hD (fun _ => rfl) (fun H' s' => SqT.of (s' _ _ ha)) (fun i H' x H2 _ _ y => y.1) (fun i x H' hi s' y R r => ?_) (fun H' s' hd => ?_)
      · have hx := y.2
        rw [nvs_len] at hi
        rw [nvs_at hi] at hx
        have hx := Option.some.inj hx
        subst hx
        walk_at "rd"
        exact ⟨_, rfl, r _ (Same.refl _)⟩
      · walk_at "rd"
        refine rd_all hd ?_
        rw [range_all, nvs_len, all_at n 0 nameByte]
        exact k H' s'
    · rw [c, Bool.false_and] at k
      exact k H (Same.refl H)
/-! names_of -/
theorem cut_byte {p : List Nat} {b k : Nat} (hb : b ≤ k) (hk : k < p.length) (h : p.getD k 0 = 47) : cutAt (cutN p b k).reverse (p.drop k) = cutN p b k :: cutAt (cutN p (k + 1) (k + 1)).reverse (p.drop (k + 1)) := by
  rw [drop_at hk, cutN_self]
  show (if p.getD k 0 = 47 then (cutN p b k).reverse.reverse :: cutAt [] (p.drop (k + 1)) else _) = _
  rw [if_pos h, List.reverse_reverse]; rfl
theorem cut_sign {p : List Nat} {b k : Nat} (hb : b ≤ k) (hk : k < p.length) (h : ¬ p.getD k 0 = 47) : cutAt (cutN p b k).reverse (p.drop k) = cutAt (cutN p b (k + 1)).reverse (p.drop (k + 1)) := by
  rw [drop_at hk, cutN_more hb hk, List.reverse_append]
  show (if p.getD k 0 = 47 then _ else cutAt (p.getD k 0 :: (cutN p b k).reverse) (p.drop (k + 1))) = _
  rw [if_neg h]; rfl
theorem cut_last {p : List Nat} {b : Nat} (hb : b ≤ p.length) : cutAt (cutN p b p.length).reverse (p.drop p.length) = [p.drop b] := by
  rw [List.drop_length]
  show [(cutN p b p.length).reverse.reverse] = _
  rw [List.reverse_reverse]
  unfold cutN
  rw [List.take_of_length_le (by rw [List.length_drop]; omega)]
abbrev sNamesOf : Stmt := top 14
abbrev NNamesOf : List Str := ["path", "names", "begin", "place", "byte"]
theorem scNamesOf : FnScope NNamesOf ["path"] (defScope sNamesOf) := ⟨rfl, rfl, rfl, by decide +kernel, rfl, by decide +kernel, by decide +kernel⟩
def spNamesOf : Sp := fun vs H Q _ => ∃ (a : Addr) (p : List Nat), vs = [.ref a] ∧ H a = some (.tup (nvs p)) ∧ p.length ≤ 1000 ∧ ∀ H' r, Same H H' → TupsAt H' r (Vamrqa.names p) → Q (.ref r) H'
theorem cutAt_len : ∀ (r n : List Nat), (cutAt n r).length ≤ r.length + 1
  | [], n => Nat.le_refl _
  | c :: r, n => by
    show (if c = 47 then n.reverse :: cutAt [] r else cutAt (c :: n) r).length ≤ r.length + 1 + 1
    split
    · have := cutAt_len r []
      rw [List.length_cons]; omega
    · have := cutAt_len r (c :: n)
      omega
theorem cutAt_short : ∀ (r n : List Nat), ∀ x ∈ cutAt n r, x.length ≤ n.length + r.length
  | [], n, x, h => by
    have e : x = n.reverse := List.mem_singleton.mp h
    rw [e, List.length_reverse]; omega
  | c :: r, n, x, h => by
    have h' : x ∈ (if c = 47 then n.reverse :: cutAt [] r else cutAt (c :: n) r) := h
    have l1 : (c :: r).length = r.length + 1 := rfl
    split at h'
    · rcases List.mem_cons.mp h' with e | h'
      · rw [e, List.length_reverse]; omega
      · have := cutAt_short r [] x h'
        have l2 : ([] : List Nat).length = 0 := rfl
        omega
    · have := cutAt_short r (c :: n) x h'
      have l2 : (c :: n).length = n.length + 1 := rfl
      omega
theorem ok_namesOf (F : Df K mg "names_of" sNamesOf) (T : Tx mg) : C8.Cal P w K mg base 1 "names_of" spNamesOf [] := by
  refine F.cal scNamesOf (fun _ _ _ _ _ _ us hl => match us, hl with | [_], _ => rfl) (fun vs H Q E h => ?_) (fun f cdv A outer s H vs Q E hr h => ?_)
  · obtain ⟨a, p, rfl, _⟩ := h
    rfl
  · obtain ⟨a, p, rfl, ha, zp, k⟩ := h
    refine ⟨_, (pss_cons (ps_set (i := 1) scNamesOf.nd rfl (Or.inl rfl) (pe_lst pa_nil))
      (pss_cons (ps_set (i := 2) scNamesOf.nd rfl (Or.inl rfl) pe_int)
      (pss_cons (ps_for PassesOwn.never rfl (pi_enumT (by rfl) T.enumerate (pa_cons (pv 0) pa_nil)) (pg_tup (by rfl) (pgs_cons (pg_name (i := 3) scNamesOf.nd rfl (Or.inl rfl)) (pgs_cons (pg_name (i := 4) scNamesOf.nd rfl (Or.inl rfl)) pgs_nil)))
        (pss_one (ps_if (pt_cmpR op_eq (pv 4) (C8.pe_gc (by rfl) T.c_SLASH) (nomark _))
          (pss_cons (ps_expr (pe_bm PySem.F.plainAttrs_list PySem.F.slot_list_append PySem.F.type_list_append mt_append (pv 1) (pa_cons (pe_slice sl_tupA (pv 0) (po_some (pv 2)) (po_some (pv 3))) pa_nil)))
          (pss_one (ps_set (i := 2) scNamesOf.nd rfl (Or.inl rfl) (pe_op op_add (pv 3) pe_int))))
          pss_nil)))
      (pss_cons (ps_expr (pe_bm PySem.F.plainAttrs_list PySem.F.slot_list_append PySem.F.type_list_append mt_append (pv 1) (pa_cons (pe_slice sl_tupA (pv 0) (po_some (pv 2)) po_none) pa_nil)))
      (pss_one (ps_ret (pv 1))))))), ?_⟩
    walk_at "rd"
    refine ⟨by show 0 ≤ sizeLine; decide, fun r hr0 => ?_⟩
    walk_at "rd"
    refine rd_enT ?_
    walk_at "rd"
    refine ⟨_, _, rfl, SqT.of ((sm_new hr0) _ _ ha), L2.for_it (walk_enT (K := K) (a := a) (xs := nvs p)) (fun i σ H' => ∃ (ns : List (List Nat)) (b : Nat) (v3 v4 : Option V), σ = [some (.ref a), some (.ref r), some (nv b), v3, v4] ∧ b ≤ i ∧ Same H H' ∧ TupsAt H' r ns ∧
      ns ++ cutAt (cutN p b i).reverse (p.drop i) = Vamrqa.names p) ?_ ?_ ?_ ?_⟩
    · exact ⟨[], 0, none, none, rfl, Nat.le_refl _, sm_new hr0, ⟨[], upd_same, rfl, fun x hx => (by cases hx)⟩, rfl⟩
    · rintro i σ H' _ ⟨ns, b, v3, v4, rfl, _, s1, _⟩
      exact SqT.of (s1 _ _ ha)
    · rintro i x σ H1 H2 hi ⟨ns, b, v3, v4, rfl, hb, s1, ht, tg⟩ ⟨t, y, rfl, ht0, rfl, hy⟩
      rw [nvs_len] at hi
      rw [nvs_at hi] at hy
      have hy := Option.some.inj hy
      subst hy
      have s2 := s1.trans (sm_new (o := .tup [nv i, nv (p.getD i 0)]) ht0)
      have ha2 := s2 _ _ ha
      have ht2 := ht.same (sm_new (o := .tup [nv i, nv (p.getD i 0)]) ht0)
      refine rd_gtup (SqT.of upd_same) rfl ?_
      walk_at "rd"
      refine rd_dec (fun c => ?_) (fun c => ?_)
      · have c' : p.getD i 0 = 47 := by omega
        rw [cut_byte hb hi c'] at tg
        obtain ⟨ps, p1, p2, p3⟩ := ht2
        walk_at "rd"
        refine ⟨ty_lst p1, ?_⟩
        walk_at "rd"
        refine rd_slT ha2 (cutV_nn p b i) fun q H3 s3 e3 => ?_
        walk_at "rd"
        obtain ⟨xs, x1, x2, x3⟩ := TupsAt.add (TupsAt.same s3 ⟨ps, p1, p2, p3⟩) e3
        refine rd_append x1 (by rw [x2]; exact szl (by have := cutAt_len p []; have := congrArg List.length tg; have e : Vamrqa.names p = cutAt [] p := rfl; rw [List.length_append, e] at this; omega)) ?_
        walk_at "rd"
        refine ⟨ns ++ [cutN p b i], i + 1, _, _, rfl, Nat.le_refl _, sm_mut (s2.trans s3) hr0, x3, ?_⟩
        rw [← tg, List.append_assoc]; rfl
      · have c' : ¬ p.getD i 0 = 47 := by omega
        rw [cut_sign hb hi c'] at tg
        walk_at "rd"
        exact ⟨ns, b, _, _, rfl, by omega, s2, ht2, tg⟩
    · rintro σ H1 ⟨ns, b, v3, v4, rfl, hb, s1, ht, tg⟩
      rw [nvs_len] at hb tg
      rw [cut_last hb] at tg
      have ha2 := s1 _ _ ha
      obtain ⟨ps, p1, p2, p3⟩ := ht
      walk_at "rd"
      refine ⟨ty_lst p1, ?_⟩
      walk_at "rd"
      refine rd_slT ha2 (cutV_ne p b) fun q H3 s3 e3 => ?_
      walk_at "rd"
      obtain ⟨xs, x1, x2, x3⟩ := TupsAt.add (TupsAt.same s3 ⟨ps, p1, p2, p3⟩) e3
      refine rd_append x1 (by rw [x2]; exact szl (by have := cutAt_len p []; have := congrArg List.length tg; have e : Vamrqa.names p = cutAt [] p := rfl; rw [List.length_append, e] at this; omega)) ?_
      walk_at "rd"
      rw [tg] at x3
      exact k _ _ (sm_mut (s1.trans s3) hr0) x3
abbrev sIsPath : Stmt := top 15
abbrev NIsPath : List Str := ["path", "names", "name"]
theorem scIsPath : FnScope NIsPath ["path"] (defScope sIsPath) := ⟨rfl, rfl, rfl, by decide +kernel, rfl, by decide +kernel, by decide +kernel⟩
def spIsPath : Sp := fun vs H Q _ => ∃ (a : Addr) (p : List Nat), vs = [.ref a] ∧ H a = some (.tup (nvs p)) ∧ p.length ≤ 1000 ∧ ∀ H', Same H H' → Q (.bl (goodPath p)) H'
theorem ok_isPath (F : Df K mg "is_path" sIsPath) (T : Tx mg) (G_names_of : C8.Cal P w K mg base 1 "names_of" spNamesOf []) (G_is_name : C8.Cal P w K mg base 2 "is_name" spIsName []) : C8.Cal P w K mg base 3 "is_path" spIsPath [] := by
  refine F.cal scIsPath (fun _ _ _ _ _ _ us hl => match us, hl with | [_], _ => rfl) (fun vs H Q E h => ?_) (fun f cdv A outer s H vs Q E hr h => ?_)
  · obtain ⟨a, p, rfl, _⟩ := h
    rfl
  · obtain ⟨a, p, rfl, ha, zp, k⟩ := h
    refine ⟨_, (pss_cons (ps_if (pt_cmpR op_gt (pe_callB call_lenS (by rfl) T.len PySem.boot_len (pa_cons (pv 0) pa_nil)) (C8.pe_gc (by rfl) T.c_LONGEST_PATH) (nomark _))
        (pss_one (ps_ret pe_bl))
        pss_nil)
      (pss_cons (ps_set (i := 1) scIsPath.nd rfl (Or.inl rfl) (C8.pe_c G_names_of hr (by decide) (by rfl) (pa_cons (pv 0) pa_nil)))
      (pss_one (ps_ret (pe_and (pe_cmpR op_le (pe_callB call_lenS (by rfl) T.len PySem.boot_len (pa_cons (pv 1) pa_nil)) (C8.pe_gc (by rfl) T.c_MOST_NAMES) (nomark _)) (pe_one (pe_callB (cr_all rfl) (by rfl) T.all (by decide +kernel) (pa_cons (pe_lc (own := [("name", 2)]) (g := gName 2) (tt := tYes) (by rfl) scIsPath.nd (pi_list (pv 1)) (blkOk_by (own := [("name", 2)]) (N := NIsPath) (sc := defScope sIsPath) (by decide +kernel)) (fun _ _ _ _ _ => pg_name (i := 2) scIsPath.nd rfl (Or.inl rfl)) (fun _ _ _ _ _ => pts_nil) (fun _ _ _ _ _ => (C8.pe_c G_is_name hr (by decide) (by rfl) (pa_cons (pv 2) pa_nil)))) pa_nil)))))))), ?_⟩
    have eg : goodPath p = ((decide (p.length ≤ 40) && decide ((Vamrqa.names p).length ≤ 4)) && (Vamrqa.names p).all goodName) := rfl
    rw [eg] at k
    walk_at "rd"
    refine rd_lenT (SqT.of ha) ?_
    walk_at "rd"
    refine rd_dec (fun c => ?_) (fun c => ?_)
    · rw [nvs_len] at c
      walk_at "rd"
      rw [decide_eq_false (by omega)] at k
      exact k H (Same.refl H)
    · rw [nvs_len] at c
      rw [decide_eq_true (by omega), Bool.true_and] at k
      walk_at "rd"
      refine ⟨a, p, rfl, ha, zp, fun H1 r s1 hr1 => ?_⟩
      obtain ⟨ps, p1, p2, p3⟩ := hr1
      walk_at "rd"
      refine rd_lenL (SqL.of p1) ?_
      walk_at "rd"
      have el : (ps.map fun x => V.ref x.1).length = (Vamrqa.names p).length := by rw [List.length_map, ← p2, List.length_map]
      refine rd_dec (fun d => ?_) (fun d => ?_)
      · rw [el] at d
        rw [decide_eq_true (by omega), Bool.true_and] at k
        walk_at "rd"
        refine ⟨r, rfl, ⟨_, SqL.of p1⟩, fun D hD => ?_⟩
        refine lc_B (L2.walk_list (K := K) (a := r) (xs := ps.map fun x => V.ref x.1)) (fun i => goodName ((Vamrqa.names p).getD i [])) (by rw [el]; omega) hD (fun _ => rfl) (fun H' s' => SqL.of (s' _ _ p1)) (fun i H' x H2 _ _ y => y.1) (fun i x H' hi s' y R q => ?_) (fun H' s' hd => ?_)
        · have hx := y.2
          rw [List.getElem?_map] at hx
          rw [List.length_map] at hi
          rw [List.getElem?_eq_getElem hi] at hx
          have hx : V.ref ps[i].1 = x := Option.some.inj hx
          subst hx
          have hn : (Vamrqa.names p).getD i [] = ps[i].2 := by
            rw [← p2, List.getD_eq_getElem?_getD, List.getElem?_map, List.getElem?_eq_getElem hi]; rfl
          have hm : ps[i].2 ∈ cutAt [] p := by
            have e : cutAt [] p = Vamrqa.names p := rfl
            rw [e, ← p2]
            exact List.mem_map.mpr ⟨_, List.getElem_mem hi, rfl⟩
          have zs := cutAt_short p [] _ hm
          have l0 : ([] : List Nat).length = 0 := rfl
          walk_at "rd"
          refine ⟨_, _, rfl, s' _ _ (p3 _ (List.getElem_mem hi)), by omega, fun H4 s4 => ?_⟩
          rw [← hn]
          exact q H4 s4
        · walk_at "rd"
          refine rd_all hd ?_
          rw [range_all, el, all_at (Vamrqa.names p) [] goodName]
          exact k H' (s1.trans s')
      · rw [el] at d
        rw [decide_eq_false (by omega)] at k
        exact k H1 s1
end
end Cs
-- CsFolders
namespace Cs
open PySem PySem.Spec PyProof.Rows L2
open Vamrqa (folderOf clash)
def fold47 (p : List Nat) (n : Nat) : List (List Nat) := ((List.range n).filter fun i => decide (p.getD i 0 = 47)).map fun i => p.take i
def foldersOf (p : List Nat) : List (List Nat) := fold47 p p.length
theorem fold47_yes {p : List Nat} {n : Nat} (h : p.getD n 0 = 47) : fold47 p (n + 1) = fold47 p n ++ [p.take n] := by
  unfold fold47
  rw [List.range_succ, List.filter_append, List.map_append, List.filter_cons, if_pos (decide_eq_true h)]; rfl
theorem fold47_no {p : List Nat} {n : Nat} (h : ¬ p.getD n 0 = 47) : fold47 p (n + 1) = fold47 p n := by
  unfold fold47
  rw [List.range_succ, List.filter_append, List.map_append, List.filter_cons, if_neg (by rw [decide_eq_false h]; decide)]
  exact List.append_nil _
theorem fold47_len (p : List Nat) (n : Nat) : (fold47 p n).length ≤ n := by
  unfold fold47
  rw [List.length_map]
  have := List.length_filter_le (fun i => decide (p.getD i 0 = 47)) (List.range n)
  rw [List.length_range] at this
  exact this
theorem prefix_iff : ∀ (x p : List Nat), (x ++ [47]).isPrefixOf p = true ↔ x.length < p.length ∧ p.getD x.length 0 = 47 ∧ p.take x.length = x
  | [], [] => by
    refine ⟨fun h => ?_, fun h => ?_⟩
    · cases h
    · exact absurd h.1 (Nat.lt_irrefl _)
  | [], b :: p => by
    show ((47 == b) && ([] : List Nat).isPrefixOf p) = true ↔ _
    rw [List.isPrefixOf_nil_left, Bool.and_true, beq_iff_eq]
    exact ⟨fun h => ⟨Nat.succ_pos _, h.symm, rfl⟩, fun h => h.2.1.symm⟩
  | a :: x, [] => by
    refine ⟨fun h => ?_, fun h => ?_⟩
    · cases h
    · exact absurd h.1 (Nat.not_lt_zero _)
  | a :: x, b :: p => by
    show ((a == b) && (x ++ [47]).isPrefixOf p) = true ↔ _
    rw [Bool.and_eq_true, beq_iff_eq, prefix_iff x p]
    constructor
    · rintro ⟨rfl, h1, h2, h3⟩
      exact ⟨Nat.succ_lt_succ h1, h2, congrArg (a :: ·) h3⟩
    · rintro ⟨h1, h2, h3⟩
      have h3' : b :: p.take x.length = a :: x := h3
      obtain ⟨e1, e2⟩ := List.cons.inj h3'
      exact ⟨e1.symm, Nat.lt_of_succ_lt_succ h1, h2, e2⟩
theorem folders_iff (x p : List Nat) : decide (x ∈ foldersOf p) = folderOf x p := by
  have h : x ∈ foldersOf p ↔ folderOf x p = true := by
    show x ∈ foldersOf p ↔ (x ++ [47]).isPrefixOf p = true
    rw [prefix_iff]
    unfold foldersOf fold47
    rw [List.mem_map]
    constructor
    · rintro ⟨i, hi, e⟩
      obtain ⟨h1, h2⟩ := List.mem_filter.mp hi
      have h1 := List.mem_range.mp h1
      have h2 := of_decide_eq_true h2
      have hl : x.length = i := by rw [← e, List.length_take]; omega
      rw [hl]
      exact ⟨h1, h2, e⟩
    · rintro ⟨h1, h2, h3⟩
      exact ⟨x.length, List.mem_filter.mpr ⟨List.mem_range.mpr h1, decide_eq_true h2⟩, h3⟩
  by_cases c : x ∈ foldersOf p
  · rw [decide_eq_true c, h.mp c]
  · rw [decide_eq_false c]
    cases e : folderOf x p with
    | false => rfl
    | true => exact absurd (h.mpr e) c
section
variable {P : Program} {w : World} {K : PySem.W.Frag} {mg : Str → Option Value} {base : Heap}
abbrev sFoldersOf : Stmt := top 16
abbrev NFoldersOf : List Str := ["path", "place", "byte"]
theorem scFoldersOf : FnScope NFoldersOf ["path"] (defScope sFoldersOf) := ⟨rfl, rfl, rfl, by decide +kernel, rfl, by decide +kernel, by decide +kernel⟩
def spFolders : Sp := fun vs H Q _ => ∃ (a : Addr) (p : List Nat), vs = [.ref a] ∧ H a = some (.tup (nvs p)) ∧ p.length ≤ 1000 ∧ ∀ H' r, Same H H' → TupsAt H' r (foldersOf p) → Q (.ref r) H'
theorem ok_folders (F : Df K mg "folders_of" sFoldersOf) (T : Tx mg) : C8.Cal P w K mg base 1 "folders_of" spFolders [] := by
  refine F.cal scFoldersOf (fun _ _ _ _ _ _ us hl => match us, hl with | [_], _ => rfl) (fun vs H Q E h => ?_) (fun f cdv A outer s H vs Q E hr h => ?_)
  · obtain ⟨a, p, rfl, _⟩ := h
    rfl
  · obtain ⟨a, p, rfl, ha, zp, k⟩ := h
    refine ⟨_, (pss_one (ps_ret (pe_lc (own := [("place", 1), ("byte", 2)]) (g := gTup K 2 (gCons (gName 1) (gCons (gName 2) gNil))) (tt := tTest (tOp rEq (tVar 2) (tC (.int 47)))) (te := tSl (rSlA K) (tVar 0) tNoPart (tPart (tVar 1))) (by rfl) scFoldersOf.nd (pi_enumT (by rfl) T.enumerate (pa_cons (pv 0) pa_nil)) (blkOk_by (own := [("place", 1), ("byte", 2)]) (N := NFoldersOf) (sc := defScope sFoldersOf) (by decide +kernel)) (fun _ _ _ _ _ => (pg_tup (by rfl) (pgs_cons (pg_name (i := 1) scFoldersOf.nd rfl (Or.inl rfl)) (pgs_cons (pg_name (i := 2) scFoldersOf.nd rfl (Or.inl rfl)) pgs_nil)))) (fun _ _ _ _ _ => pts_one (pt_cmpR op_eq (pv 2) (C8.pe_gc (by rfl) T.c_SLASH) (nomark _))) (fun _ _ _ _ _ => (pe_slice sl_tupA (pv 0) po_none (po_some (pv 1))))))), ?_⟩
    walk_at "rd"
    refine rd_enT ?_
    walk_at "rd"
    refine ⟨_, _, rfl, SqT.of ha, fun D hD => ?_⟩
    refine L2.lc_it (walk_enT (K := K) (a := a) (xs := nvs p)) (fun i H' => Same H H' ∧ TupsAt H' D (fold47 p i)) ⟨sm_new hD, [], upd_same, rfl, fun x hx => (by cases hx)⟩ (fun i H' _ q => SqT.of (q.1 _ _ ha)) ?_ ?_
    · rintro i x H1 H2 hi ⟨s1, ht⟩ ⟨t, y, rfl, ht0, rfl, hy⟩
      rw [nvs_len] at hi
      rw [nvs_at hi] at hy
      have hy := Option.some.inj hy
      subst hy
      have s2 := s1.trans (sm_new (o := .tup [nv i, nv (p.getD i 0)]) ht0)
      have ha2 := s2 _ _ ha
      have ht2 := ht.same (sm_new (o := .tup [nv i, nv (p.getD i 0)]) ht0)
      refine rd_gtup (SqT.of upd_same) rfl ?_
      walk_at "rd"
      refine ⟨rfl, ?_⟩
      walk_at "rd"
      refine rd_dec (fun c => ?_) (fun c => ?_)
      · have c' : p.getD i 0 = 47 := by omega
        walk_at "rd"
        refine rd_slT ha2 (cutV_en p i) fun q H3 s3 e3 => ?_
        obtain ⟨xs, x1, x2, x3⟩ := TupsAt.add (ht2.same s3) e3
        refine ⟨xs, x1, by rw [x2]; exact szl (by have := fold47_len p i; omega), sm_mut (s2.trans s3) hD, ?_⟩
        rw [fold47_yes c']; exact x3
      · have c' : ¬ p.getD i 0 = 47 := by omega
        rw [fold47_no c']
        exact ⟨s2, ht2⟩
    · rintro H1 ⟨s1, ht⟩
      rw [nvs_len] at ht
      exact k _ _ s1 ht
abbrev sDoClash : Stmt := top 17
abbrev NDoClash : List Str := ["path", "other"]
theorem scDoClash : FnScope NDoClash ["path", "other"] (defScope sDoClash) := ⟨rfl, rfl, rfl, by decide +kernel, rfl, by decide +kernel, by decide +kernel⟩
def spDoClash : Sp := fun vs H Q _ => ∃ (a b : Addr) (p q : List Nat), vs = [.ref a, .ref b] ∧ H a = some (.tup (nvs p)) ∧ H b = some (.tup (nvs q)) ∧ p.length ≤ 1000 ∧ q.length ≤ 1000 ∧ ∀ H', Same H H' → Q (.bl (clash p q)) H'
theorem ok_doClash (F : Df K mg "do_clash" sDoClash) (T : Tx mg) (G_folders_of : C8.Cal P w K mg base 1 "folders_of" spFolders []) : C8.Cal P w K mg base 2 "do_clash" spDoClash [] := by
  refine F.cal scDoClash (fun _ _ _ _ _ _ us hl => match us, hl with | [_, _], _ => rfl) (fun vs H Q E h => ?_) (fun f cdv A outer s H vs Q E hr h => ?_)
  · obtain ⟨a, b, p, q, rfl, _⟩ := h
    rfl
  · obtain ⟨a, b, p, q, rfl, ha, hb, zp, zq, k⟩ := h
    have hu65 := hu65_of hr
    refine ⟨_, (pss_one (ps_ret (pe_or (pe_cmpR (op_inD hu65) (pv 0) (C8.pe_c G_folders_of hr (by decide) (by rfl) (pa_cons (pv 1) pa_nil)) (by rfl)) (pe_one (pe_cmpR (op_inD hu65) (pv 1) (C8.pe_c G_folders_of hr (by decide) (by rfl) (pa_cons (pv 0) pa_nil)) (by rfl)))))), ?_⟩
    have eg : clash p q = (folderOf p q || folderOf q p) := rfl
    rw [eg] at k
    walk_at "rd"
    refine ⟨b, q, rfl, hb, zq, fun H1 r s1 hr1 => ?_⟩
    refine rd_inTs (SqT.of (s1 _ _ ha)) hr1 ?_
    rw [folders_iff]
    refine ⟨_, rfl, ?_⟩
    refine rd_cond (fun c => ?_) (fun c => ?_)
    · rw [c, Bool.true_or] at k
      exact k H1 s1
    · rw [c, Bool.false_or] at k
      walk_at "rd"
      refine ⟨a, p, rfl, s1 _ _ ha, zp, fun H2 r2 s2 hr2 => ?_⟩
      refine rd_inTs (SqT.of (s2 _ _ (s1 _ _ hb))) hr2 ?_
      rw [folders_iff]
      exact k H2 (s1.trans s2)
end
end Cs
-- CsDict
/-! Trees as dicts. -/
namespace Cs
open PySem PySem.Spec PyProof.Rows L2
open Vamrqa (File folderOf clash)
abbrev Tr := Vamrqa.Tree
def keyOf (p : List Nat) : List Key := p.map fun (n : Nat) => (Sum.inl (n : Int) : Key)
theorem keyOf_kV (p : List Nat) : (keyOf p).map kV = nvs p := by
  unfold keyOf nvs
  rw [List.map_map]; rfl
theorem keyOf_inj : ∀ {p q : List Nat}, keyOf p = keyOf q → p = q
  | [], [], _ => rfl
  | [], _ :: _, h => by cases h
  | _ :: _, [], h => by cases h
  | a :: p, b :: q, h => by
    obtain ⟨e1, e2⟩ := List.cons.inj (show (Sum.inl (a : Int) : Key) :: keyOf p = Sum.inl (b : Int) :: keyOf q from h)
    have e3 : (a : Int) = (b : Int) := Sum.inl.inj e1
    have e4 : a = b := by omega
    rw [e4, keyOf_inj e2]
/-- a file and where its lines stand -/
abbrev Ent := File × Addr
def entK (e : Ent) : List Key × V := (keyOf e.1.path, V.ref e.2)
/-- the dict at d holds these files, in the order in which they came -/
def DictAt (H : Hp) (d : Addr) (fs : Tr) : Prop := ∃ es : List Ent, H d = some (.dT (es.map entK)) ∧ es.map (·.1) = fs ∧ ∀ e ∈ es, H e.2 = some (.tup (nvs e.1.lines))
/-- .. the files of a tree, in some order -/
def TreeAt (H : Hp) (d : Addr) (t : Tr) : Prop := ∃ fs : Tr, DictAt H d fs ∧ fs.Perm t
section
variable {H H' : Hp} {d : Addr} {fs t : Tr}
theorem DictAt.same (s : Same H H') (h : DictAt H d fs) : DictAt H' d fs := by
  obtain ⟨es, a, b, c⟩ := h
  exact ⟨es, s _ _ a, b, fun x hx => s _ _ (c x hx)⟩
theorem TreeAt.same (s : Same H H') (h : TreeAt H d t) : TreeAt H' d t := by
  obtain ⟨fs, a, b⟩ := h
  exact ⟨fs, a.same s, b⟩
theorem look_none : ∀ {es : List Ent} {p : List Nat}, Vamrqa.Tree.get (es.map (·.1)) p = none → valV (es.map entK) (keyOf p) = none
  | [], _, _ => rfl
  | e :: es, p, h => by
    rw [List.map_cons, get_cons] at h
    by_cases c : e.1.path = p
    · rw [if_pos c] at h; cases h
    · rw [if_neg c] at h
      rw [List.map_cons, valV_neg (p := entK e) (fun z => c (keyOf_inj z))]
      exact look_none h
theorem look_some : ∀ {es : List Ent} {p l : List Nat}, Vamrqa.Tree.get (es.map (·.1)) p = some l → ∃ a, valV (es.map entK) (keyOf p) = some (.ref a) ∧ ∃ e ∈ es, e.2 = a ∧ e.1.lines = l
  | [], _, _, h => by cases h
  | e :: es, p, l, h => by
    rw [List.map_cons, get_cons] at h
    by_cases c : e.1.path = p
    · rw [if_pos c] at h
      refine ⟨e.2, ?_, e, List.mem_cons_self .., rfl, Option.some.inj h⟩
      rw [List.map_cons, valV_pos (p := entK e) (show keyOf e.1.path = keyOf p by rw [c])]; rfl
    · rw [if_neg c] at h
      obtain ⟨a, h1, f, hf, h2⟩ := look_some h
      refine ⟨a, ?_, f, List.mem_cons_of_mem _ hf, h2⟩
      rw [List.map_cons, valV_neg (p := entK e) (fun z => c (keyOf_inj z))]; exact h1
/-- what stands at a path -/
theorem dict_get {b : Addr} {p : List Nat} (h : DictAt H d fs) (hb : H b = some (.tup (nvs p))) : ∃ o, DGet H d (.ref b) o ∧ OptAt H (o.getD .non) (Vamrqa.Tree.get fs p) ∧ (o.isSome = Vamrqa.Tree.has fs p) ∧ ∀ l, Vamrqa.Tree.get fs p = some l → ∃ a, o = some (.ref a) ∧ H a = some (.tup (nvs l)) := by
  obtain ⟨es, h1, h2, h3⟩ := h
  subst h2
  have g : DGet H d (.ref b) (valV (es.map entK) (keyOf p)) := DGet.t h1 (by rw [keyOf_kV]; exact hb)
  rw [has_get]
  cases c : Vamrqa.Tree.get (es.map (·.1)) p with
  | none =>
    rw [look_none c] at g
    exact ⟨none, g, rfl, rfl, fun l hl => (by cases hl)⟩
  | some l =>
    obtain ⟨a, e1, f, hf, e2, e3⟩ := look_some c
    rw [e1] at g
    have ha : H a = some (.tup (nvs l)) := by rw [← e2, ← e3]; exact h3 f hf
    refine ⟨_, g, ⟨a, rfl, ha⟩, rfl, fun m hm => ?_⟩
    cases hm
    exact ⟨a, rfl, ha⟩
theorem upd_frz {od : Obj} {u o : HO} {b : Addr} (hb : H b = some o) (hd : H d = some (.frz od u)) (ho : ∀ od u, o ≠ .frz od u) {o' : HO} : upd H d o' b = some o := by
  rw [upd_ne]
  · exact hb
  · intro e
    rw [e, hd] at hb
    exact ho _ _ (Option.some.inj hb).symm
theorem ne_of_none' {E : Addr} {o : HO} (h : H E = none) (hd : H d = some o) : E ≠ d := fun e => by rw [e, hd] at h; cases h
/-- under a lock and behind it -/
theorem sm_lock {od : Obj} {u : HO} (hd : H d = some u) : ∀ b o, H b = some o → b ≠ d → upd H d (.frz od u) b = some o := fun b o hb ne => by rw [upd_ne ne]; exact hb
theorem sm_unlock {od : Obj} {u : HO} (hd : H d = some u) (s : Same (upd H d (.frz od u)) H') : Same H (upd H' d u) := fun b o hb => by
  by_cases e : b = d
  · subst e
    rw [hd] at hb
    rw [upd_same]; exact hb
  · rw [upd_ne e]
    exact s b o (by rw [upd_ne e]; exact hb)
theorem lock_tup {od : Obj} {u : HO} {b : Addr} {xs : List V} (hd : H d = some u) (hu : ∀ xs, u ≠ .tup xs) (hb : H b = some (.tup xs)) : upd H d (.frz od u) b = some (.tup xs) := tup_mut hb hd hu
theorem DictAt.unlock {od : Obj} {u : HO} {c : Addr} (h : DictAt H c fs) (hd : H d = some (.frz od u)) : DictAt (upd H d u) c fs := by
  obtain ⟨es, a, b, k⟩ := h
  exact ⟨es, upd_frz a hd (fun _ _ z => by cases z), b, fun x hx => upd_frz (k x hx) hd (fun _ _ z => by cases z)⟩
/-- a file put behind the others -/
theorem DictAt.put {b a : Addr} {p l : List Nat} (h : DictAt H d fs) (hp : p ∉ paths fs) (hb : H b = some (.tup (nvs p))) (ha : H a = some (.tup (nvs l))) (hz : fs.length ≤ 10000) :
    ∃ H2, DPut H d (.ref b) (.ref a) H2 ∧ (∃ o, H2 = upd H d (.dT o)) ∧ DictAt H2 d (fs ++ [⟨p, l⟩]) := by
  obtain ⟨es, h1, h2, h3⟩ := h
  subst h2
  have n : Vamrqa.Tree.get (es.map (·.1)) p = none := get_none_iff.mpr hp
  refine ⟨_, DPut.t h1 (by rw [keyOf_kV]; exact hb) (by rw [List.length_map]; rw [List.length_map] at hz; exact szl (by omega)), ⟨_, rfl⟩, es ++ [(⟨p, l⟩, a)], ?_, by rw [List.map_append]; rfl, fun e he => ?_⟩
  · rw [upd_same, putK_new _ (look_none n), List.map_append]; rfl
  · rcases List.mem_append.mp he with he | he
    · exact tup_mut (h3 e he) h1 (fun _ z => by cases z)
    · rw [List.mem_singleton.mp he]
      exact tup_mut ha h1 (fun _ z => by cases z)
theorem DictAt.len (h : DictAt H d fs) : ∃ kvs, H d = some (.dT kvs) ∧ kvs.length = fs.length := by
  obtain ⟨es, a, b, _⟩ := h
  exact ⟨_, a, by rw [List.length_map, ← b, List.length_map]⟩
end
section
variable {K : PySem.W.Frag} {σ : L2.St} {H : Hp} {D : Ends} {Q : VK}
theorem rd_lenD {d : Addr} {fs : Tr} (h : DictAt H d fs) (q : Q (.int (fs.length : Int)) H) : rLenT [.ref d] H Q := by
  obtain ⟨kvs, a, b⟩ := h.len
  exact ⟨d, kvs, rfl, a, by rw [b]; exact q⟩
theorem rd_lock {t : TS} {d : Addr} {kvs : List (List Key × V)} (hd : H d = some (.dT kvs)) (h : ∀ od, t ⟨fun σ' H' => H' d = some (.frz od (.dT kvs)) ∧ D.nx σ' (upd H' d (.dT kvs)), fun v H' => H' d = some (.frz od (.dT kvs)) ∧ D.rt v (upd H' d (.dT kvs)),
    fun σ' H' => H' d = some (.frz od (.dT kvs)) ∧ D.bk σ' (upd H' d (.dT kvs)), fun σ' H' => H' d = some (.frz od (.dT kvs)) ∧ D.ct σ' (upd H' d (.dT kvs))⟩ σ (upd H d (.frz od (.dT kvs)))) : tLock t D σ H := ⟨d, _, hd, trivial, h⟩
theorem rd_lockE {t : TE} {d : Addr} {kvs : List (List Key × V)} (hd : H d = some (.dT kvs)) (h : ∀ od, t σ (upd H d (.frz od (.dT kvs))) fun v H' => H' d = some (.frz od (.dT kvs)) ∧ Q v (upd H' d (.dT kvs))) : tLockE t σ H Q := ⟨d, _, hd, trivial, h⟩
theorem rd_ikeys {td : TE} {R : It → Hp → Prop} (h : td σ H fun x H1 => ∃ d o, x = .ref d ∧ ∃ kvs, H1 d = some (.frz o (.dT kvs)) ∧ R (Itkt d o kvs) H1) (mono : ∀ Q Q' : VK, (∀ v H1, Q v H1 → Q' v H1) → td σ H Q → td σ H Q') : iKeys td σ H R := by
  refine mono _ _ (fun v H1 q => ?_) h
  obtain ⟨d, o, e, kvs, a, b⟩ := q
  exact ⟨d, o, e, .inr ⟨kvs, a, b⟩⟩
theorem rd_ikeysV {i : Nat} {d : Addr} {o : Obj} {kvs : List (List Key × V)} {R : It → Hp → Prop} (hi : σ[i]? = some (some (.ref d))) (a : H d = some (.frz o (.dT kvs))) (b : R (Itkt d o kvs) H) : iKeys (tVar i) σ H R := ⟨_, hi, d, o, rfl, .inr ⟨kvs, a, b⟩⟩
theorem rd_dget {td ty : TE} (h : td σ H fun x H1 => ty σ H1 fun y H2 => ∃ a v, x = .ref a ∧ DGet H2 a y (some v) ∧ Q v H2) : tDGet td ty σ H Q := h
theorem rd_din {td ty : TE} (h : ty σ H fun y H1 => td σ H1 fun x H2 => ∃ a o, x = .ref a ∧ DGet H2 a y o ∧ Q (.bl o.isSome) H2) : tDIn ty td σ H Q := h
theorem rd_dnin {td ty : TE} (h : ty σ H fun y H1 => td σ H1 fun x H2 => ∃ a o, x = .ref a ∧ DGet H2 a y o ∧ Q (.bl (!o.isSome)) H2) : tDNotIn ty td σ H Q := h
theorem rd_dput {td ty tv : TE} (h : tv σ H fun v H1 => td σ H1 fun x H2 => ty σ H2 fun y H3 => ∃ a H4, x = .ref a ∧ DPut H3 a y v H4 ∧ D.nx σ H4) : sDPut td ty tv D σ H := h
theorem rd_dnewT (h : ∀ p, H p = none → Q (.ref p) (upd H p (.dT []))) : tDNewT σ H Q := h
theorem rd_dget1 {td ty : TE} (h : td σ H fun x H1 => ∃ a, x = .ref a ∧ IsD H1 a ∧ ty σ H1 fun y H2 => ∃ o, DGet H2 a y o ∧ Q (o.getD .non) H2) : tDGet1 td ty σ H Q := h
end
end Cs
-- CsTreesC
namespace Cs
open PySem PySem.Spec PyProof.Rows L2
open Vamrqa (File folderOf clash)
section
variable {P : Program} {w : World} {K : PySem.W.Frag} {mg : Str → Option Value} {base : Heap}
abbrev sAreLines : Stmt := top 25
abbrev NAreLines : List Str := ["lines", "line"]
theorem scAreLines : FnScope NAreLines ["lines"] (defScope sAreLines) := ⟨rfl, rfl, rfl, by decide +kernel, rfl, by decide +kernel, by decide +kernel⟩
/-- the lines as they're handed in: whole numbers -/
def spAreLines : Sp := fun vs H Q _ => ∃ (a : Addr) (ns : List Int), vs = [.ref a] ∧ H a = some (.tup (ns.map V.int)) ∧ ns.length ≤ 1000 ∧ ∀ H', Same H H' → Q (.bl (Vamrqd.goodLines ns)) H'
theorem goodLines_eq (ns : List Int) : Vamrqd.goodLines ns = (decide (ns.length ≤ 40) && ns.all fun n => decide (0 ≤ n) && decide (n ≤ 999999)) := by
  have e : Vamrqd.goodLines ns = ((ns.all fun n => decide (0 ≤ n)) && (decide ((ns.map Int.toNat).length ≤ 40) && (ns.map Int.toNat).all fun n => decide (n ≤ 999999))) := rfl
  rw [e, List.length_map, List.all_map]
  have h : ∀ l : List Int, ((l.all fun n => decide (0 ≤ n)) && (l.all fun n => decide (n.toNat ≤ 999999))) = l.all fun n => decide (0 ≤ n) && decide (n ≤ 999999) := by
    intro l
    induction l with
    | nil => rfl
    | cons a l ih =>
      rw [List.all_cons, List.all_cons, List.all_cons, ← ih]
      by_cases h0 : 0 ≤ a
      · have e1 : decide (a.toNat ≤ 999999) = decide (a ≤ 999999) := decide_eq_decide.mpr (by omega)
        rw [decide_eq_true h0, e1, Bool.true_and, Bool.true_and]
        cases decide (a ≤ 999999) <;> simp
      · rw [decide_eq_false h0]; rfl
  have h' := h ns
  show ((ns.all fun n => decide (0 ≤ n)) && (decide (ns.length ≤ 40) && (ns.all fun n => decide (n.toNat ≤ 999999)))) = _
  rw [← h']
  cases decide (ns.length ≤ 40) <;> simp
theorem ok_areLines (F : Df K mg "are_lines" sAreLines) (T : Tx mg) : C8.Cal P w K mg base 1 "are_lines" spAreLines [] := by
  refine F.cal scAreLines (fun _ _ _ _ _ _ us hl => match us, hl with | [_], _ => rfl) (fun vs H Q E h => ?_) (fun f cdv A outer s H vs Q E hr h => ?_)
  · obtain ⟨a, ns, rfl, _⟩ := h
    rfl
  · obtain ⟨a, ns, rfl, ha, zn, k⟩ := h
    refine ⟨_, (pss_one (ps_ret (pe_and (pe_cmpR op_le (pe_callB call_lenS (by rfl) T.len PySem.boot_len (pa_cons (pv 0) pa_nil)) (C8.pe_gc (by rfl) T.c_MOST_LINES) (nomark _)) (pe_one (pe_callB (cr_all rfl) (by rfl) T.all (by decide +kernel) (pa_cons (pe_lc (own := [("line", 1)]) (g := gName 1) (tt := tYes) (by rfl) scAreLines.nd (pi_tup (pv 0)) (blkOk_by (own := [("line", 1)]) (N := NAreLines) (sc := defScope sAreLines) (by decide +kernel)) (fun _ _ _ _ _ => pg_name (i := 1) scAreLines.nd rfl (Or.inl rfl)) (fun _ _ _ _ _ => pts_nil) (fun _ _ _ _ _ => (pe_chain op_le op_le pe_int (pv 1) (C8.pe_gc (by rfl) T.c_GREATEST_LINE)))) pa_nil)))))), ?_⟩
    rw [goodLines_eq] at k
    have el : (ns.map V.int).length = ns.length := List.length_map ..
    walk_at "rd"
    refine rd_lenT (SqT.of ha) ?_
    walk_at "rd"
    refine rd_dec (fun c => ?_) (fun c => ?_)
    · rw [el] at c
      rw [decide_eq_true (by omega), Bool.true_and] at k
      walk_at "rd"
      refine ⟨a, rfl, ⟨_, SqT.of ha⟩, fun D hD => ?_⟩
      refine lc_B (L2.walk_tup (K := K) (a := a) (xs := ns.map V.int)) (fun i => decide (0 ≤ ns.getD i 0) && decide (ns.getD i 0 ≤ 999999)) (by rw [el]; omega) hD (fun _ => rfl) (fun H' s' => SqT.of (s' _ _ ha)) (fun i H' x H2 _ _ y => y.1) (fun i x H' hi s' y R r => ?_) (fun H' s' hd => ?_)
      · have hx := y.2
        rw [el] at hi
        rw [List.getElem?_map, List.getElem?_eq_getElem hi] at hx
        have hx : V.int ns[i] = x := Option.some.inj hx
        subst hx
        have e : ns.getD i 0 = ns[i] := by rw [List.getD_eq_getElem?_getD, List.getElem?_eq_getElem hi]; rfl
        have r' := r H' (Same.refl _)
        rw [e] at r'
        exact anv_use (anv_chain anv_c (anv_var rfl) anv_c) r'
      · walk_at "rd"
        refine rd_all hd ?_
        rw [range_all, el, all_at ns 0 fun n => decide (0 ≤ n) && decide (n ≤ 999999)]
        exact k H' s'
    · rw [el] at c
      rw [decide_eq_false (by omega), Bool.false_and] at k
      exact k H (Same.refl H)
abbrev sWithout : Stmt := top 27
abbrev NWithout : List Str := ["tree", "path", "changed", "other"]
theorem scWithout : FnScope NWithout ["tree", "path"] (defScope sWithout) := ⟨rfl, rfl, rfl, by decide +kernel, rfl, by decide +kernel, by decide +kernel⟩
def spWithout : Sp := fun vs H Q _ => ∃ (d a : Addr) (fs : Tr) (p : List Nat), vs = [.ref d, .ref a] ∧ DictAt H d fs ∧ (paths fs).Nodup ∧ H a = some (.tup (nvs p)) ∧ fs.length ≤ 1000 ∧
  ∀ H' c, Same H H' → H c = none → DictAt H' c (Vamrqa.Tree.drop fs p) → Q (.ref c) H'
theorem drop_more_no {fs : Tr} {p : List Nat} {i : Nat} {f : File} (h : fs[i]? = some f) (e : ¬ f.path = p) : Vamrqa.Tree.drop (fs.take (i + 1)) p = Vamrqa.Tree.drop (fs.take i) p ++ [f] := by
  unfold Vamrqa.Tree.drop
  rw [take_more h, List.filter_append, List.filter_cons, if_pos (by rw [decide_eq_false e]; rfl)]; rfl
theorem drop_more_yes {fs : Tr} {p : List Nat} {i : Nat} {f : File} (h : fs[i]? = some f) (e : f.path = p) : Vamrqa.Tree.drop (fs.take (i + 1)) p = Vamrqa.Tree.drop (fs.take i) p := by
  unfold Vamrqa.Tree.drop
  rw [take_more h, List.filter_append, List.filter_cons, if_neg (by rw [decide_eq_true e]; decide)]
  exact List.append_nil _
theorem take_fresh {fs : Tr} {i : Nat} {f : File} (nd : (paths fs).Nodup) (h : fs[i]? = some f) : f.path ∉ paths (fs.take i) := by
  intro hm
  obtain ⟨g, hg, e⟩ := List.mem_map.mp hm
  obtain ⟨j, hj, ej⟩ := List.getElem_of_mem hg
  have hi := (List.getElem?_eq_some_iff.mp h).1
  have ei := (List.getElem?_eq_some_iff.mp h).2
  rw [List.length_take] at hj
  rw [List.getElem_take] at ej
  have lp : (paths fs).length = fs.length := List.length_map ..
  have nd' := List.pairwise_iff_getElem.mp nd j i (by omega) (by omega) (by omega)
  refine nd' ?_
  unfold paths
  rw [List.getElem_map, List.getElem_map, ej, ei]
  exact e
theorem ok_without (F : Df K mg "without_file" sWithout) (T : Tx mg) : C8.Cal P w K mg base 1 "without_file" spWithout [] := by
  refine F.cal scWithout (fun _ _ _ _ _ _ us hl => match us, hl with | [_, _], _ => rfl) (fun vs H Q E h => ?_) (fun f cdv A outer s H vs Q E hr h => ?_)
  · obtain ⟨d, a, fs, p, rfl, _⟩ := h
    rfl
  · obtain ⟨d, a, fs, p, rfl, hd, nd, ha, zf, k⟩ := h
    have hu := hu_of hr
    have hu64 := hu64_of hr
    refine ⟨_, (pss_cons (ps_set (i := 2) scWithout.nd rfl (Or.inl rfl) pe_dnewT)
      (pss_cons (ps_lock (ps_for PassesOwn.never rfl (pi_keys (pv 0)) (pg_name (i := 3) scWithout.nd rfl (Or.inl rfl))
        (pss_one (ps_if (pt_cmpR (op_neD hu64) (pv 3) (pv 1) (nomark _))
          (pss_one (ps_dput hu (pv 2) (pv 3) (pe_dget hu (pv 0) (pv 3) (fun _ _ => rfl)) rfl))
          pss_nil))))
      (pss_one (ps_ret (pv 2))))), ?_⟩
    walk_at "rd"
    refine rd_dnewT fun c hc => ?_
    walk_at "rd"
    have s0 := sm_new (o := .dT []) hc
    have hd0 := hd.same s0
    obtain ⟨es, e1, e2, e3⟩ := id hd0
    refine rd_lock e1 fun od => ?_
    obtain ⟨H0, eH0⟩ : ∃ H0, H0 = upd H c (.dT []) := ⟨_, rfl⟩
    rw [← eH0] at s0 hd0 e1 e3 ⊢
    have ha0 : H0 a = some (.tup (nvs p)) := s0 _ _ ha
    have hc0 : H0 c = some (.dT []) := by rw [eH0]; exact upd_same
    have ncd : c ≠ d := fun q => by
      obtain ⟨kv, z, _⟩ := hd.len
      rw [← q, hc] at z; cases z
    obtain ⟨HL, eHL⟩ : ∃ HL, HL = upd H0 d (.frz od (.dT (es.map entK))) := ⟨_, rfl⟩
    rw [← eHL]
    have hdL : HL d = some (.frz od (.dT (es.map entK))) := by rw [eHL]; exact upd_same
    have hLt : ∀ {b : Addr} {xs : List V}, H0 b = some (.tup xs) → HL b = some (.tup xs) := fun hb => by rw [eHL]; exact lock_tup e1 (fun _ z => by cases z) hb
    have len : es.length = fs.length := by rw [← e2, List.length_map]
    walk_at "rd"
    refine rd_ikeysV rfl hdL ?_
    refine L2.for_it (L2.walk_keysT (d := d) (o := od) (kvs := es.map entK)) (fun i σ H' => ∃ v : Option V, σ = [some (.ref d), some (.ref a), some (.ref c), v] ∧ (∀ b o, HL b = some o → b ≠ c → H' b = some o) ∧ DictAt H' c (Vamrqa.Tree.drop (fs.take i) p)) ?_ ?_ ?_ ?_
    · refine ⟨none, rfl, fun b o h _ => h, [], ?_, rfl, fun x hx => (by cases hx)⟩
      rw [eHL, upd_ne ncd]; exact hc0
    · rintro i σ H' _ ⟨v, rfl, s1, _⟩
      exact s1 _ _ hdL (Ne.symm ncd)
    · rintro i x σ H1 H2 hi ⟨v, rfl, s1, hdc⟩ ⟨rfl, key, val, q, hk, rfl, hq⟩
      rw [List.length_map] at hi
      rw [List.getElem?_map, List.getElem?_eq_getElem hi] at hk
      have hk : entK es[i] = (key, val) := Option.some.inj hk
      have hf : fs[i]? = some es[i].1 := by rw [← e2, List.getElem?_map, List.getElem?_eq_getElem hi]; rfl
      have ek : key = keyOf es[i].1.path := (congrArg Prod.fst hk).symm
      rw [ek, keyOf_kV] at hq
      have tc : ∀ {b : Addr} {xs : List V}, HL b = some (.tup xs) → H2 b = some (.tup xs) := fun {b xs} hb => s1 b _ hb (by
        intro z
        rw [z, eHL, upd_ne ncd, hc0] at hb; cases hb)
      have ha2 := tc (hLt ha0)
      have hl2 := tc (hLt (e3 _ (List.getElem_mem hi)))
      have hd2 := s1 _ _ hdL (Ne.symm ncd)
      have fr := take_fresh nd hf
      walk_at "rd"
      refine rd_neT (SqT.of hq) (SqT.of ha2) ?_
      walk_at "rd"
      refine rd_ndec (fun c1 => ?_) (fun c1 => ?_)
      · refine rd_dput ?_
        refine rd_dget ?_
        walk_at "rd"
        have lk := look_some (es := es) (p := es[i].1.path) (l := es[i].1.lines) (by rw [e2]; exact mem_get nd (List.mem_of_getElem? hf))
        obtain ⟨b, lk1, f, hfm, lk2, lk3⟩ := lk
        have hb2 : H2 b = some (.tup (nvs es[i].1.lines)) := by
          rw [← lk2, ← lk3]
          exact tc (hLt (e3 f hfm))
        refine ⟨d, .ref b, rfl, .inr ⟨_, keyOf es[i].1.path, q, .inr ⟨od, hd2⟩, rfl, by rw [keyOf_kV]; exact hq, lk1.symm⟩, ?_⟩
        walk_at "rd"
        have nin : es[i].1.path ∉ paths (Vamrqa.Tree.drop (fs.take i) p) := fun z => by
          obtain ⟨g, hg, eg⟩ := List.mem_map.mp z
          exact fr (List.mem_map.mpr ⟨g, (List.mem_filter.mp hg).1, eg⟩)
        obtain ⟨H3, dp, ⟨o, eo⟩, hd3⟩ := hdc.put nin hq hb2 (by
          have h1 := List.length_filter_le (fun f : File => !decide (f.path = p)) (fs.take i)
          have h2 : (Vamrqa.Tree.drop (fs.take i) p).length ≤ (fs.take i).length := h1
          rw [List.length_take] at h2
          omega)
        refine ⟨c, H3, rfl, dp, _, rfl, fun b o hb nb => ?_, ?_⟩
        · rw [eo, upd_ne nb]; exact s1 b o hb nb
        · rw [drop_more_no hf c1]; exact hd3
      · walk_at "rd"
        refine ⟨_, rfl, s1, ?_⟩
        rw [drop_more_yes hf c1]; exact hdc
    · rintro σ H1 ⟨v, rfl, s1, hdc⟩
      rw [List.length_map, len, List.take_length] at hdc
      have hd1 := s1 _ _ hdL (Ne.symm ncd)
      refine ⟨hd1, ?_⟩
      walk_at "rd"
      refine k _ c (fun b o hb => ?_) hc (hdc.unlock hd1)
      by_cases e : b = d
      · subst e
        have z := s0 _ _ hb
        rw [e1] at z
        rw [upd_same, z]
      · have nb : b ≠ c := ne_of_none hb hc
        rw [upd_ne e]
        exact s1 b o (by rw [eHL, upd_ne e]; exact s0 _ _ hb) nb
abbrev sWithFile : Stmt := top 26
abbrev NWithFile : List Str := ["tree", "path", "lines", "changed"]
theorem scWithFile : FnScope NWithFile ["tree", "path", "lines"] (defScope sWithFile) := ⟨rfl, rfl, rfl, by decide +kernel, rfl, by decide +kernel, by decide +kernel⟩
def spWithFile : Sp := fun vs H Q _ => ∃ (d a b : Addr) (fs : Tr) (p l : List Nat), vs = [.ref d, .ref a, .ref b] ∧ DictAt H d fs ∧ (paths fs).Nodup ∧ H a = some (.tup (nvs p)) ∧ H b = some (.tup (nvs l)) ∧ fs.length ≤ 1000 ∧
  ∀ H' c, Same H H' → DictAt H' c (Vamrqa.Tree.drop fs p ++ [⟨p, l⟩]) → Q (.ref c) H'
theorem drop_short (fs : Tr) (p : List Nat) : (Vamrqa.Tree.drop fs p).length ≤ fs.length := List.length_filter_le _ _
theorem drop_gone (fs : Tr) (p : List Nat) : p ∉ paths (Vamrqa.Tree.drop fs p) := fun z => by
  obtain ⟨g, hg, e⟩ := List.mem_map.mp z
  have := (List.mem_filter.mp hg).2
  rw [decide_eq_true e] at this; cases this
theorem ok_withFile (F : Df K mg "with_file" sWithFile) (T : Tx mg) (G_without_file : C8.Cal P w K mg base 1 "without_file" spWithout []) : C8.Cal P w K mg base 2 "with_file" spWithFile [] := by
  refine F.cal scWithFile (fun _ _ _ _ _ _ us hl => match us, hl with | [_, _, _], _ => rfl) (fun vs H Q E h => ?_) (fun f cdv A outer s H vs Q E hr h => ?_)
  · obtain ⟨d, a, b, fs, p, l, rfl, _⟩ := h
    rfl
  · obtain ⟨d, a, b, fs, p, l, rfl, hd, nd, ha, hb, zf, k⟩ := h
    have hu := hu_of hr
    refine ⟨_, (pss_cons (ps_set (i := 3) scWithFile.nd rfl (Or.inl rfl) (C8.pe_c G_without_file hr (by decide) (by rfl) (pa_cons (pv 0) (pa_cons (pv 1) pa_nil))))
      (pss_cons (ps_dput hu (pv 3) (pv 1) (pv 2) rfl)
      (pss_one (ps_ret (pv 3))))), ?_⟩
    walk_at "rd"
    refine ⟨d, a, fs, p, rfl, hd, nd, ha, zf, fun H1 c s1 hc h1 => ?_⟩
    walk_at "rd"
    refine rd_dput ?_
    walk_at "rd"
    have zd := drop_short fs p
    obtain ⟨H2, dp, ⟨o, eo⟩, h2⟩ := h1.put (drop_gone fs p) (s1 _ _ ha) (s1 _ _ hb) (by omega)
    refine ⟨c, H2, rfl, dp, ?_⟩
    walk_at "rd"
    refine k H2 c ?_ h2
    rw [eo]
    exact sm_mut s1 hc
/-- a comprehension of truth values over the paths of a tree -/
theorem lc_paths {σ : L2.St} {H : Hp} {d : Addr} {fs : Tr} {es : List Ent} {od : Obj} {j : Nat} {te : TE} {vs : List Nat} {E : Addr} {Qd : Hp → Prop} (g : File → Bool) (hz : fs.length ≤ 1000) (hd : H d = some (.frz od (.dT (es.map entK)))) (e2 : es.map (·.1) = fs) (hE : H E = none)
    (hw : ∀ x, wipe ((wipe σ vs).set j (some x)) vs = wipe σ vs)
    (hs : ∀ f q H', f ∈ fs → Same H H' → H' q = some (.tup (nvs f.path)) → ∀ R : VK, (∀ H4, Same H' H4 → R (.bl (g f)) H4) → te ((wipe σ vs).set j (some (.ref q))) H' R)
    (q : ∀ H', Same H H' → H' E = some (.lst ((fs.map g).map V.bl)) → Qd H') : LcGo (Itkt d od (es.map entK)) (gName j) tYes te vs σ H E Qd := by
  have len : es.length = fs.length := by rw [← e2, List.length_map]
  refine lc_B (L2.walk_keysT (d := d) (o := od) (kvs := es.map entK)) (fun i => g (fs.getD i ⟨[], []⟩)) (by rw [List.length_map]; omega) hE hw (fun H' s' => s' _ _ hd) (fun i H' x H2 _ _ y => y.1) (fun i x H' hi s' y R r => ?_) (fun H' s' hl => ?_)
  · obtain ⟨_, key, val, b, hk, rfl, hq⟩ := y
    rw [List.length_map] at hi
    rw [List.getElem?_map, List.getElem?_eq_getElem hi] at hk
    have hk : entK es[i] = (key, val) := Option.some.inj hk
    have hf : fs[i]? = some es[i].1 := by rw [← e2, List.getElem?_map, List.getElem?_eq_getElem hi]; rfl
    have ek : key = keyOf es[i].1.path := (congrArg Prod.fst hk).symm
    rw [ek, keyOf_kV] at hq
    have eg : fs.getD i ⟨[], []⟩ = es[i].1 := by rw [List.getD_eq_getElem?_getD, hf]; rfl
    rw [eg] at r
    exact hs es[i].1 b H' (List.mem_of_getElem? hf) s' hq R r
  · refine q H' s' ?_
    rw [hl, List.length_map, len]
    have e : (List.range fs.length).map (fun i => g (fs.getD i ⟨[], []⟩)) = fs.map g := by
      refine List.ext_getElem (by simp) fun n h1 h2 => ?_
      rw [List.length_map, List.length_range] at h1
      simp [List.getElem?_eq_getElem h1]
    rw [e]
abbrev sClashesIn : Stmt := top 28
abbrev NClashesIn : List Str := ["tree", "path", "other"]
theorem scClashesIn : FnScope NClashesIn ["tree", "path"] (defScope sClashesIn) := ⟨rfl, rfl, rfl, by decide +kernel, rfl, by decide +kernel, by decide +kernel⟩
def spClashes : Sp := fun vs H Q _ => ∃ (d a : Addr) (fs : Tr) (p : List Nat), vs = [.ref d, .ref a] ∧ DictAt H d fs ∧ H a = some (.tup (nvs p)) ∧ fs.length ≤ 1000 ∧ p.length ≤ 1000 ∧ (∀ f ∈ fs, f.path.length ≤ 1000) ∧
  ∀ H', Same H H' → Q (.bl (Vamrqa.Tree.clashes fs p)) H'
theorem map_any (fs : Tr) (g : File → Bool) : (fs.map g).any id = fs.any g := by rw [List.any_map]; rfl
theorem ok_clashes (F : Df K mg "clashes_in" sClashesIn) (T : Tx mg) (G_do_clash : C8.Cal P w K mg base 2 "do_clash" spDoClash []) : C8.Cal P w K mg base 3 "clashes_in" spClashes [] := by
  refine F.cal scClashesIn (fun _ _ _ _ _ _ us hl => match us, hl with | [_, _], _ => rfl) (fun vs H Q E h => ?_) (fun f cdv A outer s H vs Q E hr h => ?_)
  · obtain ⟨d, a, fs, p, rfl, _⟩ := h
    rfl
  · obtain ⟨d, a, fs, p, rfl, hd, ha, zf, zp, zq, k⟩ := h
    refine ⟨_, (pss_one (ps_ret (pe_callB (cr_any rfl) (by rfl) T.any (by decide +kernel) (pa_cons (pe_lock (pe_lc (own := [("other", 2)]) (g := gName 2) (tt := tYes) (by rfl) scClashesIn.nd (pi_keys (pv 0)) (blkOk_by (own := [("other", 2)]) (N := NClashesIn) (sc := defScope sClashesIn) (by decide +kernel)) (fun _ _ _ _ _ => pg_name (i := 2) scClashesIn.nd rfl (Or.inl rfl)) (fun _ _ _ _ _ => pts_nil) (fun _ _ _ _ _ => (C8.pe_c G_do_clash hr (by decide) (by rfl) (pa_cons (pv 1) (pa_cons (pv 2) pa_nil)))))) pa_nil)))), ?_⟩
    obtain ⟨es, e1, e2, e3⟩ := id hd
    walk_at "rd"
    refine rd_lockE e1 fun od => ?_
    have haL : upd H d (.frz od (.dT (es.map entK))) a = some (.tup (nvs p)) := lock_tup e1 (fun _ z => by cases z) ha
    walk_at "rd"
    refine rd_ikeysV rfl upd_same fun D hD => ?_
    refine lc_paths (fun f => clash p f.path) zf upd_same e2 hD (fun _ => rfl) (fun f q H' hf s' hq R r => ?_) (fun H' s' hl => ?_)
    · walk_at "rd"
      exact ⟨a, q, p, f.path, rfl, s' _ _ haL, hq, zp, zq f hf, fun H4 s4 => r H4 s4⟩
    · refine ⟨s' _ _ upd_same, ?_⟩
      have nD : D ≠ d := ne_of_none' hD upd_same
      walk_at "rd"
      refine rd_any (by rw [upd_ne nD]; exact hl) ?_
      rw [map_any]
      exact k _ (sm_unlock e1 s')
abbrev sHasFolder : Stmt := top 29
abbrev NHasFolder : List Str := ["files", "path", "folder"]
theorem scHasFolder : FnScope NHasFolder ["files"] (defScope sHasFolder) := ⟨rfl, rfl, rfl, by decide +kernel, rfl, by decide +kernel, by decide +kernel⟩
def hasFolder (fs : Tr) : Bool := fs.any fun f => (foldersOf f.path).any fun x => Vamrqa.Tree.has fs x
theorem hasFolder_eq (fs : Tr) : hasFolder fs = fs.any fun f => fs.any fun g => folderOf f.path g.path := by
  have h : ∀ b c : Bool, (b = true ↔ c = true) → b = c := fun b c h => by
    cases b <;> cases c
    · rfl
    · exact absurd (h.mpr rfl) (by decide)
    · exact absurd (h.mp rfl) (by decide)
    · rfl
  refine h _ _ ⟨fun z => ?_, fun z => ?_⟩
  · obtain ⟨g, hg, z⟩ := List.any_eq_true.mp z
    obtain ⟨x, hx, z⟩ := List.any_eq_true.mp z
    obtain ⟨f, hf, e⟩ := List.mem_map.mp (has_iff.mp z)
    refine List.any_eq_true.mpr ⟨f, hf, List.any_eq_true.mpr ⟨g, hg, ?_⟩⟩
    rw [← folders_iff, e]
    exact decide_eq_true hx
  · obtain ⟨f, hf, z⟩ := List.any_eq_true.mp z
    obtain ⟨g, hg, z⟩ := List.any_eq_true.mp z
    rw [← folders_iff] at z
    exact List.any_eq_true.mpr ⟨g, hg, List.any_eq_true.mpr ⟨f.path, of_decide_eq_true z, has_iff.mpr (List.mem_map.mpr ⟨f, hf, rfl⟩)⟩⟩
def spHasFolder : Sp := fun vs H Q _ => ∃ (d : Addr) (fs : Tr), vs = [.ref d] ∧ DictAt H d fs ∧ fs.length ≤ 1000 ∧ (∀ f ∈ fs, f.path.length ≤ 1000) ∧ ∀ H', Same H H' → Q (.bl (hasFolder fs)) H'
theorem ok_hasFolder (F : Df K mg "has_folder_among" sHasFolder) (T : Tx mg) (G_folders_of : C8.Cal P w K mg base 1 "folders_of" spFolders []) : C8.Cal P w K mg base 2 "has_folder_among" spHasFolder [] := by
  refine F.cal scHasFolder (fun _ _ _ _ _ _ us hl => match us, hl with | [_], _ => rfl) (fun vs H Q E h => ?_) (fun f cdv A outer s H vs Q E hr h => ?_)
  · obtain ⟨d, fs, rfl, _⟩ := h
    rfl
  · obtain ⟨d, fs, rfl, hd, zf, zq, k⟩ := h
    have hu := hu_of hr
    refine ⟨_, (pss_cons (ps_lock (ps_for PassesOwn.never rfl (pi_keys (pv 0)) (pg_name (i := 1) scHasFolder.nd rfl (Or.inl rfl))
        (pss_one (ps_if (pt_val (pe_callB (cr_any rfl) (by rfl) T.any (by decide +kernel) (pa_cons (pe_lc (own := [("folder", 2)]) (g := gName 2) (tt := tYes) (by rfl) scHasFolder.nd (pi_list (C8.pe_c G_folders_of hr (by decide) (by rfl) (pa_cons (pv 1) pa_nil))) (blkOk_by (own := [("folder", 2)]) (N := NHasFolder) (sc := defScope sHasFolder) (by decide +kernel)) (fun _ _ _ _ _ => pg_name (i := 2) scHasFolder.nd rfl (Or.inl rfl)) (fun _ _ _ _ _ => pts_nil) (fun _ _ _ _ _ => (pe_cmp (pc_din hu (pv 2) (pv 0))))) pa_nil)))
          (pss_one (ps_ret pe_bl))
          pss_nil))))
      (pss_one (ps_ret pe_bl))), ?_⟩
    obtain ⟨es, e1, e2, e3⟩ := id hd
    have len : es.length = fs.length := by rw [← e2, List.length_map]
    walk_at "rd"
    refine rd_lock e1 fun od => ?_
    obtain ⟨HL, eHL⟩ : ∃ HL, HL = upd H d (.frz od (.dT (es.map entK))) := ⟨_, rfl⟩
    rw [← eHL]
    have hdL : HL d = some (.frz od (.dT (es.map entK))) := by rw [eHL]; exact upd_same
    have un : ∀ {H'}, Same HL H' → Same H (upd H' d (.dT (es.map entK))) := fun s => sm_unlock e1 (by rw [← eHL]; exact s)
    walk_at "rd"
    refine rd_ikeysV rfl hdL ?_
    refine L2.for_it (L2.walk_keysT (d := d) (o := od) (kvs := es.map entK)) (fun i σ H' => ∃ v : Option V, σ = [some (.ref d), v, none] ∧ Same HL H' ∧ ((fs.take i).any fun f => (foldersOf f.path).any fun x => Vamrqa.Tree.has fs x) = false) ?_ ?_ ?_ ?_
    · exact ⟨none, rfl, Same.refl _, rfl⟩
    · rintro i σ H' _ ⟨v, rfl, s1, _⟩
      exact s1 _ _ hdL
    · rintro i x σ H1 H2 hi ⟨v, rfl, s1, nf⟩ ⟨rfl, key, val, q, hk, rfl, hq⟩
      rw [List.length_map] at hi
      rw [List.getElem?_map, List.getElem?_eq_getElem hi] at hk
      have hk : entK es[i] = (key, val) := Option.some.inj hk
      have hf : fs[i]? = some es[i].1 := by rw [← e2, List.getElem?_map, List.getElem?_eq_getElem hi]; rfl
      have ek : key = keyOf es[i].1.path := (congrArg Prod.fst hk).symm
      rw [ek, keyOf_kV] at hq
      have hm := List.mem_of_getElem? hf
      walk_at "rd"
      refine ⟨q, es[i].1.path, rfl, hq, zq _ hm, fun H3 r s3 hr3 => ?_⟩
      obtain ⟨ps, p1, p2, p3⟩ := id hr3
      refine ⟨r, rfl, ⟨_, SqL.of p1⟩, fun D hD => ?_⟩
      have lp : (ps.map fun x => V.ref x.1).length = (foldersOf es[i].1.path).length := by rw [List.length_map, ← p2, List.length_map]
      have zl := fold47_len es[i].1.path es[i].1.path.length
      have zi := zq _ hm
      refine lc_B (L2.walk_list (K := K) (a := r) (xs := ps.map fun x => V.ref x.1)) (fun n => Vamrqa.Tree.has fs ((foldersOf es[i].1.path).getD n [])) (by rw [lp]; unfold foldersOf; omega) hD (fun _ => rfl) (fun H' s' => SqL.of (s' _ _ p1)) (fun i H' x H2 _ _ y => y.1) (fun n x H' hn s' y R rr => ?_) (fun H' s' hl => ?_)
      · have hx := y.2
        rw [List.length_map] at hn
        rw [List.getElem?_map, List.getElem?_eq_getElem hn] at hx
        have hx : V.ref ps[n].1 = x := Option.some.inj hx
        subst hx
        have en : (foldersOf es[i].1.path).getD n [] = ps[n].2 := by
          rw [← p2, List.getD_eq_getElem?_getD, List.getElem?_map, List.getElem?_eq_getElem hn]; rfl
        rw [en] at rr
        have hb := s' _ _ (p3 _ (List.getElem_mem hn))
        have hd' : H' d = some (.frz od (.dT (es.map entK))) := s' _ _ (s3 _ _ (s1 _ _ hdL))
        refine rd_din ?_
        walk_at "rd"
        refine ⟨d, _, rfl, .inr ⟨_, keyOf ps[n].2, _, .inr ⟨od, hd'⟩, rfl, by rw [keyOf_kV]; exact hb, rfl⟩, ?_⟩
        have eb : (valV (es.map entK) (keyOf ps[n].2)).isSome = Vamrqa.Tree.has fs ps[n].2 := by
          rw [has_get, ← e2]
          cases c : Vamrqa.Tree.get (es.map (·.1)) ps[n].2 with
          | none => rw [look_none c]; rfl
          | some l =>
            obtain ⟨a, z, _⟩ := look_some c
            rw [z]; rfl
        rw [eb]
        exact rr H' (Same.refl _)
      · walk_at "rd"
        refine rd_any hl ?_
        rw [range_any, lp, any_at (foldersOf es[i].1.path) [] fun x => Vamrqa.Tree.has fs x]
        walk_at "rd"
        refine rd_cond (fun c => ?_) (fun c => ?_)
        · walk_at "rd"
          refine ⟨s' _ _ (s3 _ _ (s1 _ _ hdL)), ?_⟩
          have hb : hasFolder fs = true := List.any_eq_true.mpr ⟨_, hm, c⟩
          rw [hb] at k
          exact k _ (un (s1.trans (s3.trans s')))
        · walk_at "rd"
          refine ⟨_, rfl, s1.trans (s3.trans s'), ?_⟩
          rw [take_more hf, List.any_append, nf, Bool.false_or, List.any_cons, c]; rfl
    · rintro σ H1 ⟨v, rfl, s1, nf⟩
      rw [List.length_map, len, List.take_length] at nf
      refine ⟨s1 _ _ hdL, ?_⟩
      walk_at "rd"
      have hb : hasFolder fs = false := nf
      rw [hb] at k
      exact k _ (un s1)
abbrev sWhyNo : Stmt := top 30
abbrev NWhyNo : List Str := ["files", "path"]
theorem scWhyNo : FnScope NWhyNo ["files"] (defScope sWhyNo) := ⟨rfl, rfl, rfl, by decide +kernel, rfl, by decide +kernel, by decide +kernel⟩
def spWhyNo : Sp := fun vs H Q _ => ∃ (d : Addr) (fs : Tr), vs = [.ref d] ∧ DictAt H d fs ∧ (paths fs).Nodup ∧ fs.length ≤ 1000 ∧ (∀ f ∈ fs, f.path.length ≤ 1000) ∧ ∀ H', Same H H' → Q (nv (whyNo fs)) H'
theorem ok_whyNo (F : Df K mg "why_no_tree" sWhyNo) (T : Tx mg) (G_has_folder_among : C8.Cal P w K mg base 2 "has_folder_among" spHasFolder []) : C8.Cal P w K mg base 3 "why_no_tree" spWhyNo [] := by
  refine F.cal scWhyNo (fun _ _ _ _ _ _ us hl => match us, hl with | [_], _ => rfl) (fun vs H Q E h => ?_) (fun f cdv A outer s H vs Q E hr h => ?_)
  · obtain ⟨d, fs, rfl, _⟩ := h
    rfl
  · obtain ⟨d, fs, rfl, hd, nd, zf, zq, k⟩ := h
    have hu := hu_of hr
    refine ⟨_, (pss_cons (ps_if (pt_val (C8.pe_c G_has_folder_among hr (by decide) (by rfl) (pa_cons (pv 0) pa_nil)))
        (pss_one (ps_ret (C8.pe_gc (by rfl) T.c_PATH_IS_FOLDER)))
        pss_nil)
      (pss_cons (ps_if (pt_cmpR op_gt (pe_callB call_len_dT (by rfl) T.len PySem.boot_len (pa_cons (pv 0) pa_nil)) (C8.pe_gc (by rfl) T.c_MOST_FILES) (nomark _))
        (pss_one (ps_ret (C8.pe_gc (by rfl) T.c_TOO_MANY_FILES)))
        pss_nil)
      (pss_cons (ps_if (pt_val (pe_callB (cr_any rfl) (by rfl) T.any (by decide +kernel) (pa_cons (pe_lock (pe_lc (own := [("path", 1)]) (g := gName 1) (tt := tYes) (te := tOp (rI0 fun i j => .bl (decide (j < i))) (tCB (rLenS K) (tCons (tDGet (tVar 0) (tVar 1)) tNil)) (tC (.int 40))) (by rfl) scWhyNo.nd (pi_keys (pv 0)) (blkOk_by (own := [("path", 1)]) (N := NWhyNo) (sc := defScope sWhyNo) (by decide +kernel)) (fun _ _ _ _ _ => pg_name (i := 1) scWhyNo.nd rfl (Or.inl rfl)) (fun _ _ _ _ _ => pts_nil) (fun _ _ _ _ _ => (pe_cmpR op_gt (pe_callB call_lenS (by rfl) T.len PySem.boot_len (pa_cons (pe_dget hu (pv 0) (pv 1) (fun _ _ => rfl)) pa_nil)) (C8.pe_gc (by rfl) T.c_MOST_LINES) (nomark _))))) pa_nil)))
        (pss_one (ps_ret (C8.pe_gc (by rfl) T.c_TOO_MANY_LINES)))
        pss_nil)
      (pss_one (ps_ret pe_int))))), ?_⟩
    have ew : whyNo fs = if hasFolder fs = true then 4 else if 12 < fs.length then 5 else if (fs.any fun f => decide (40 < f.lines.length)) = true then 6 else 0 := by
      rw [hasFolder_eq]; rfl
    rw [ew] at k
    walk_at "rd"
    refine ⟨d, fs, rfl, hd, zf, zq, fun H1 s1 => ?_⟩
    walk_at "rd"
    refine rd_cond (fun c => ?_) (fun c => ?_)
    · rw [if_pos c] at k
      walk_at "rd"
      exact k H1 s1
    · rw [if_neg (by rw [c]; decide)] at k
      walk_at "rd"
      have hd1 := hd.same s1
      refine rd_lenD hd1 ?_
      walk_at "rd"
      refine rd_dec (fun c2 => ?_) (fun c2 => ?_)
      · rw [if_pos (by omega)] at k
        walk_at "rd"
        exact k H1 s1
      · rw [if_neg (by omega)] at k
        obtain ⟨es, e1, e2, e3⟩ := id hd1
        walk_at "rd"
        refine rd_lockE e1 fun od => ?_
        have hLt : ∀ {b : Addr} {xs : List V}, H1 b = some (.tup xs) → upd H1 d (.frz od (.dT (es.map entK))) b = some (.tup xs) := fun hb => lock_tup e1 (fun _ z => by cases z) hb
        walk_at "rd"
        refine rd_ikeysV rfl upd_same fun D hD => ?_
        refine lc_paths (fun f => decide (40 < f.lines.length)) zf upd_same e2 hD (fun _ => rfl) (fun f q H' hf s' hq R r => ?_) (fun H' s' hl => ?_)
        · have lk := look_some (es := es) (p := f.path) (l := f.lines) (by rw [e2]; exact mem_get nd hf)
          obtain ⟨b, lk1, g, hgm, lk2, lk3⟩ := lk
          have hb : H' b = some (.tup (nvs f.lines)) := by
            rw [← lk2, ← lk3]
            exact s' _ _ (hLt (e3 g hgm))
          walk_at "rd"
          refine rd_dget ?_
          walk_at "rd"
          refine ⟨d, .ref b, rfl, .inr ⟨_, keyOf f.path, q, .inr ⟨od, s' _ _ upd_same⟩, rfl, by rw [keyOf_kV]; exact hq, lk1.symm⟩, ?_⟩
          walk_at "rd"
          refine rd_lenT (SqT.of hb) ?_
          walk_at "rd"
          have e : decide ((40 : Int) < ((nvs f.lines).length : Int)) = decide (40 < f.lines.length) := decide_eq_decide.mpr (by rw [nvs_len]; omega)
          rw [e]
          exact r H' (Same.refl _)
        · refine ⟨s' _ _ upd_same, ?_⟩
          have nD : D ≠ d := ne_of_none' hD upd_same
          walk_at "rd"
          refine rd_any (by rw [upd_ne nD]; exact hl) ?_
          rw [map_any]
          walk_at "rd"
          refine rd_cond (fun c3 => ?_) (fun c3 => ?_)
          · rw [if_pos c3] at k
            walk_at "rd"
            exact k _ (s1.trans (sm_unlock e1 s'))
          · rw [if_neg (by rw [c3]; decide)] at k
            walk_at "rd"
            exact k _ (s1.trans (sm_unlock e1 s'))
end
end Cs
-- CsEdit
/-! Edits. -/
namespace Cs
open PySem PySem.Spec PyProof.Rows L2
open Vamrqa (alikeFront hunkOf)
abbrev edNames : List Str := ["kind", "path", "place", "old", "new"]
def edKind : Vamrqa.Edit → Nat
  | .add _ _ => 0
  | .del _ _ => 1
  | .move _ _ => 2
  | .hunk _ _ _ _ => 3
def edPlace : Vamrqa.Edit → Nat
  | .hunk _ i _ _ => i
  | _ => 0
def edOld : Vamrqa.Edit → List Nat
  | .del _ l => l
  | .hunk _ _ o _ => o
  | _ => []
def edNew : Vamrqa.Edit → List Nat
  | .add _ l => l
  | .hunk _ _ _ n => n
  | _ => []
abbrev edFs (k i : Int) (pa oa na : Addr) : List (Str × V) := [("kind", .int k), ("path", .ref pa), ("place", .int i), ("old", .ref oa), ("new", .ref na)]
/-- an edit -/
def EdA (C : Addr) (H : Hp) (a : Addr) (e : Vamrqa.Edit) : Prop := ∃ dx pa oa na, H a = some (.ins C dx (edFs (edKind e : Nat) (edPlace e : Nat) pa oa na)) ∧ H pa = some (.tup (nvs (pathE e))) ∧ H oa = some (.tup (nvs (edOld e))) ∧ H na = some (.tup (nvs (edNew e)))
theorem stays_ed (C : Addr) : Stays (EdA C) := ⟨fun s ⟨dx, pa, oa, na, a, b, c, d⟩ => ⟨dx, pa, oa, na, s _ _ a, s _ _ b, s _ _ c, s _ _ d⟩, fun {H a r x xs ys} ⟨dx, pa, oa, na, a1, b, c, d⟩ hr => by
  refine ⟨dx, pa, oa, na, ?_, tup_mut b hr (fun _ z => by cases z), tup_mut c hr (fun _ z => by cases z), tup_mut d hr (fun _ z => by cases z)⟩
  rw [upd_ne]
  · exact a1
  · intro e
    rw [e, hr] at a1; cases a1⟩
section
variable {P : Program} {w : World} {K : PySem.W.Frag} {mg : Str → Option Value} {base : Heap} {C : Addr}
abbrev sEdInit : Stmt := inClass (top 35) 0
abbrev NEdInit : List Str := ["self", "kind", "path", "place", "old", "new"]
theorem scEdInit : FnScope NEdInit ["self", "kind", "path", "place", "old", "new"] (defScope sEdInit) := ⟨rfl, rfl, rfl, by decide +kernel, rfl, by decide +kernel, by decide +kernel⟩
def spEdInit (C : Addr) : Sp := fun vs H Q _ => ∃ (a dx pa oa na : Addr) (k i : Int), vs = [.ref a, .int k, .ref pa, .int i, .ref oa, .ref na] ∧ H a = some (.ins C dx []) ∧ ∀ H', Off H H' (fun x => x = a) → H' a = some (.ins C dx (edFs k i pa oa na)) → Q .non H'
theorem ok_edInit (F : Mkd K mg "Edit" C "Edit.__init__" sEdInit) (L : Kl K C edNames) : C8.Mak P w K mg base 1 "Edit" C (spEdInit C) [] := by
  refine F.mak scEdInit (fun _ _ _ _ _ _ us hl => match us, hl with | [_, _, _, _, _, _], _ => rfl) (fun vs H Q E h => ?_) (fun f cdv A outer s H vs Q E hr h => ?_)
  · obtain ⟨a, dx, pa, oa, na, k, i, rfl, _⟩ := h
    rfl
  · obtain ⟨a, dx, pa, oa, na, k, i, rfl, ha, q⟩ := h
    refine ⟨_, (pss_cons (ps_fld (pv 0) (pv 1) rfl)
      (pss_cons (ps_fld (pv 0) (pv 2) rfl)
      (pss_cons (ps_fld (pv 0) (pv 3) rfl)
      (pss_cons (ps_fld (pv 0) (pv 4) rfl)
      (pss_one (ps_fld (pv 0) (pv 5) rfl)))))), ?_⟩
    refine rd_seq (rd_sfldV (anv_var rfl) (anv_var rfl) ha L.cls (L.nos _ (by simp)) (show 0 < 1000 by decide) ?_)
    refine rd_seq (rd_sfldV (anv_var rfl) (anv_var rfl) upd_same L.cls (L.nos _ (by simp)) (show 1 < 1000 by decide) ?_)
    refine rd_seq (rd_sfldV (anv_var rfl) (anv_var rfl) upd_same L.cls (L.nos _ (by simp)) (show 2 < 1000 by decide) ?_)
    refine rd_seq (rd_sfldV (anv_var rfl) (anv_var rfl) upd_same L.cls (L.nos _ (by simp)) (show 3 < 1000 by decide) ?_)
    refine rd_sfldV (anv_var rfl) (anv_var rfl) upd_same L.cls (L.nos _ (by simp)) (show 4 < 1000 by decide) ?_
    exact q _ (((((Off.upd (S := fun x => x = a) rfl).trans (Off.upd (S := fun x => x = a) rfl)).trans (Off.upd (S := fun x => x = a) rfl)).trans (Off.upd (S := fun x => x = a) rfl)).trans (Off.upd (S := fun x => x = a) rfl)) upd_same
theorem rd_make {C : Addr} {sp : Sp} {E : XK} {t : TA} {σ : L2.St} {H : Hp} {Q : VK} (h : t σ H fun vs H1 => ∀ x dx, H1 x = none → H1 dx = none → dx ≠ x → sp (.ref x :: (vs ++ [])) (upd (upd H1 dx (.own x)) x (.ins C dx [])) (fun v H2 => v = .non ∧ Q (.ref x) H2) E) : tMake C sp [] E t σ H Q := h
theorem mkEd {H1 : Hp} {Q : VK} {k i : Int} {pa oa na : Addr} (e : Vamrqa.Edit) (hk : k = (edKind e : Nat)) (hi : i = (edPlace e : Nat)) (h1 : H1 pa = some (.tup (nvs (pathE e)))) (h2 : H1 oa = some (.tup (nvs (edOld e)))) (h3 : H1 na = some (.tup (nvs (edNew e))))
    (q : ∀ H2 x, Same H1 H2 → EdA C H2 x e → Q (.ref x) H2) : ∀ x dx, H1 x = none → H1 dx = none → dx ≠ x → spEdInit C (.ref x :: ([.int k, .ref pa, .int i, .ref oa, .ref na] ++ [])) (upd (upd H1 dx (.own x)) x (.ins C dx [])) (fun v H2 => v = .non ∧ Q (.ref x) H2) C8.E0 := by
  intro x dx hx hdx nx
  refine ⟨x, dx, pa, oa, na, k, i, rfl, upd_same, fun H2 o h => ⟨rfl, ?_⟩⟩
  have s0 : Same H1 (upd (upd H1 dx (.own x)) x (.ins C dx [])) := fun y u hy => by
    rw [upd_ne (ne_of_none hy hx), upd_ne (ne_of_none hy hdx)]; exact hy
  have s1 : Same H1 H2 := o.same s0 fun y e => e ▸ hx
  subst hk hi
  exact q H2 x s1 ⟨dx, pa, oa, na, h, s1 _ _ h1, s1 _ _ h2, s1 _ _ h3⟩
theorem anv_min {σ : L2.St} {H : Hp} {ta tb : TE} {i j : Int} (ha : AnV ta σ H (.int i)) (hb : AnV tb σ H (.int j)) :
    AnV (tCB (fun xs H Q => ∃ i j : Int, xs = [.int i, .int j] ∧ Q (.int (if j < i then j else i)) H) (tCons ta (tCons tb tNil))) σ H (.int (if j < i then j else i)) := fun R q => ha _ (hb _ ⟨i, j, rfl, q⟩)
theorem anv_eqN {σ : L2.St} {H : Hp} {ta tb : TE} {i j : Int} (ha : AnV ta σ H (.int i)) (hb : AnV tb σ H (.int j)) : AnV (tOp rEq ta tb) σ H (.bl (decide (i = j))) := fun R q => ha _ (hb _ (rd_eqN q))
abbrev sAlike : Stmt := top 36
abbrev NAlike : List Str := ["lines", "others", "count"]
theorem scAlike : FnScope NAlike ["lines", "others"] (defScope sAlike) := ⟨rfl, rfl, rfl, by decide +kernel, rfl, by decide +kernel, by decide +kernel⟩
def spAlike : Sp := fun vs H Q _ => ∃ (p q : Addr) (l m : List Nat), vs = [.ref p, .ref q] ∧ H p = some (.tup (nvs l)) ∧ H q = some (.tup (nvs m)) ∧ Q (nv (alikeFront l m)) H
theorem ok_alike (F : Df K mg "alike_from_the_beginning" sAlike) (T : Tx mg) : C8.Cal P w K mg base 1 "alike_from_the_beginning" spAlike [] := by
  refine F.cal scAlike (fun _ _ _ _ _ _ us hl => match us, hl with | [_, _], _ => rfl) (fun vs H Q E h => ?_) (fun f cdv A outer s H vs Q E hr h => ?_)
  · obtain ⟨p, q, l, m, rfl, _⟩ := h
    rfl
  · obtain ⟨p, q, l, m, rfl, hp, hq, k⟩ := h
    refine ⟨_, (pss_cons (ps_set (i := 2) scAlike.nd rfl (Or.inl rfl) pe_int)
      (pss_cons (ps_while PassesOwn.never (PW.pt (pw_and (pt_cmpR op_lt (pv 2) (pe_callB (call_min2 rfl) (by rfl) T.min (by decide +kernel) (pa_cons (pe_callB call_lenS (by rfl) T.len PySem.boot_len (pa_cons (pv 0) pa_nil)) (pa_cons (pe_callB call_lenS (by rfl) T.len PySem.boot_len (pa_cons (pv 1) pa_nil)) pa_nil))) (nomark _)) (pw_and1 (pt_cmpR op_eq (pe_ix ix_tup (pv 0) (pv 2) (fun _ _ => rfl)) (pe_ix ix_tup (pv 1) (pv 2) (fun _ _ => rfl)) (nomark _)))))
        (pss_one (ps_aug (i := 2) scAlike.nd rfl (.inl rfl) pe_int ip_add)))
      (pss_one (ps_ret (pv 2))))), ?_⟩
    walk_at "rd"
    refine rd_while (fun n σ H' => H' = H ∧ ∃ c, σ = [some (.ref p), some (.ref q), some (nv c)] ∧ alikeFront l m = c + alikeFront (l.drop c) (m.drop c) ∧ n = l.length - c) l.length ⟨rfl, 0, rfl, (Nat.zero_add _).symm, rfl⟩ ?_
    rintro n σ H' ⟨rfl, c, rfl, ea, rfl⟩
    have lt : An (tTest (tOp (rI0 fun i j => .bl (decide (i < j))) (tVar 2) (tCB (fun xs H Q => ∃ i j : Int, xs = [.int i, .int j] ∧ Q (.int (if j < i then j else i)) H) (tCons (tCB (rLenS K) (tCons (tVar 0) tNil)) (tCons (tCB (rLenS K) (tCons (tVar 1) tNil)) tNil))))) [some (.ref p), some (.ref q), some (nv c)] H' (decide (c < l.length) && decide (c < m.length)) := by
      refine an_to (an_test (anv_I0 (anv_var rfl) (anv_min (anv_lenT (anv_var rfl) (SqT.of hp)) (anv_lenT (anv_var rfl) (SqT.of hq))))) ?_
      rw [nvs_len, nvs_len, ← Bool.decide_and]
      refine decide_eq_decide.mpr ?_
      by_cases h : (m.length : Int) < (l.length : Int)
      · rw [if_pos h]; omega
      · rw [if_neg h]; omega
    refine an_use (an_and lt (b := decide (l.getD c 0 = m.getD c 0)) fun h => ?_) ?_
    · rw [Bool.and_eq_true, decide_eq_true_iff, decide_eq_true_iff] at h
      refine an_to (an_test (anv_eqN (anv_ixT (anv_var rfl) (anv_var rfl) (SqT.of hp) (nvs_at h.1)) (anv_ixT (anv_var rfl) (anv_var rfl) (SqT.of hq) (nvs_at h.2)))) ?_
      exact decide_eq_decide.mpr (by omega)
    · refine rd_cond (fun hb => ?_) (fun hb => ?_)
      · rw [Bool.and_eq_true, Bool.and_eq_true, decide_eq_true_iff, decide_eq_true_iff, decide_eq_true_iff] at hb
        refine ⟨_, fun σ' H' h => h, ?_⟩
        walk_at "rd"
        refine ⟨l.length - (c + 1), by omega, rfl, c + 1, rfl, alike_on ea hb.1.1 hb.1.2 hb.2, rfl⟩
      · have off := alike_off ea fun ⟨a, b, e⟩ => by
          rw [decide_eq_true a, decide_eq_true b, decide_eq_true e] at hb; cases hb
        walk_at "rd"
        rw [off] at k
        exact k
abbrev sHunkB : Stmt := top 37
abbrev NHunkB : List Str := ["path", "old", "new", "place", "left_out"]
theorem scHunkB : FnScope NHunkB ["path", "old", "new"] (defScope sHunkB) := ⟨rfl, rfl, rfl, by decide +kernel, rfl, by decide +kernel, by decide +kernel⟩
def spHunkB (C : Addr) : Sp := fun vs H Q _ => ∃ (r p q : Addr) (x l m : List Nat), vs = [.ref r, .ref p, .ref q] ∧ H r = some (.tup (nvs x)) ∧ H p = some (.tup (nvs l)) ∧ H q = some (.tup (nvs m)) ∧ ∀ H' a, Same H H' → EdA C H' a (hunkOf x l m) → Q (.ref a) H'
theorem ok_hunkB (F : Df K mg "hunk_between" sHunkB) (T : Tx mg) (G_alike_from_the_beginning : C8.Cal P w K mg base 1 "alike_from_the_beginning" spAlike []) (G_Edit : C8.Mak P w K mg base 1 "Edit" C (spEdInit C) []) : C8.Cal P w K mg base 3 "hunk_between" (spHunkB C) [] := by
  refine F.cal scHunkB (fun _ _ _ _ _ _ us hl => match us, hl with | [_, _, _], _ => rfl) (fun vs H Q E h => ?_) (fun f cdv A outer s H vs Q E hr h => ?_)
  · obtain ⟨r, p, q, x, l, m, rfl, _⟩ := h
    rfl
  · obtain ⟨r, p, q, x, l, m, rfl, hr0, hp, hq, k⟩ := h
    refine ⟨_, (pss_cons (ps_set (i := 3) scHunkB.nd rfl (Or.inl rfl) (C8.pe_c G_alike_from_the_beginning hr (by decide) (by rfl) (pa_cons (pv 1) (pa_cons (pv 2) pa_nil))))
      (pss_cons (ps_set (i := 1) scHunkB.nd rfl (Or.inl rfl) (pe_slice sl_tupA (pv 1) (po_some (pv 3)) po_none))
      (pss_cons (ps_set (i := 2) scHunkB.nd rfl (Or.inl rfl) (pe_slice sl_tupA (pv 2) (po_some (pv 3)) po_none))
      (pss_cons (ps_set (i := 4) scHunkB.nd rfl (Or.inl rfl) (C8.pe_c G_alike_from_the_beginning hr (by decide) (by rfl) (pa_cons (pe_revT (pv 1)) (pa_cons (pe_revT (pv 2)) pa_nil))))
      (pss_one (ps_ret (C8.pe_mk G_Edit hr (by decide) (by rfl) (pa_cons (C8.pe_gc (by rfl) T.c_HUNK) (pa_cons (pv 0) (pa_cons (pv 3) (pa_cons (pe_slice sl_tupA (pv 1) po_none (po_some (pe_op op_sub (pe_callB call_lenS (by rfl) T.len PySem.boot_len (pa_cons (pv 1) pa_nil)) (pv 4)))) (pa_cons (pe_slice sl_tupA (pv 2) po_none (po_some (pe_op op_sub (pe_callB call_lenS (by rfl) T.len PySem.boot_len (pa_cons (pv 2) pa_nil)) (pv 4)))) pa_nil)))))))))))), ?_⟩
    walk_at "rd"
    refine ⟨p, q, l, m, rfl, hp, hq, ?_⟩
    walk_at "rd"
    refine rd_slT hp (c := l.drop (alikeFront l m)) (cutV_ne l _) fun p1 H1 s1 hp1 => ?_
    walk_at "rd"
    refine rd_slT (s1 _ _ hq) (c := m.drop (alikeFront l m)) (cutV_ne m _) fun q1 H2 s2 hq1 => ?_
    walk_at "rd"
    have hp2 := s2 _ _ hp1
    refine rd_revT (anv_var rfl) (SqT.of hp2) fun p3 hp3 => ?_
    walk_at "rd"
    have s3 := sm_new (o := .tup (nvs (l.drop (alikeFront l m)).reverse)) hp3
    refine rd_revT (anv_var rfl) (SqT.of (s3 _ _ hq1)) fun q3 hq3 => ?_
    walk_at "rd"
    have s4 := sm_new (o := .tup (nvs (m.drop (alikeFront l m)).reverse)) hq3
    refine ⟨p3, q3, _, _, rfl, s4 _ _ upd_same, upd_same, ?_⟩
    have s24 := s3.trans s4
    have hp4 := s24 _ _ hp2
    have hq4 := s24 _ _ hq1
    have hr4 := s24 _ _ (s2 _ _ (s1 _ _ hr0))
    have sA := (s1.trans s2).trans s24
    generalize upd (upd H2 p3 (.tup (nvs (l.drop (alikeFront l m)).reverse))) q3 (.tup (nvs (m.drop (alikeFront l m)).reverse)) = H4 at hp4 hq4 hr4 sA ⊢
    walk_at "rd"
    refine rd_make ?_
    walk_at "rd"
    refine rd_lenT (SqT.of hp4) ?_
    walk_at "rd"
    have cut : ∀ v : List Nat, alikeFront (l.drop (alikeFront l m)).reverse (m.drop (alikeFront l m)).reverse ≤ v.length → cutV (nvs v) none (some (((nvs v).length : Int) - ((alikeFront (l.drop (alikeFront l m)).reverse (m.drop (alikeFront l m)).reverse : Nat) : Int))) = nvs (v.take (v.length - alikeFront (l.drop (alikeFront l m)).reverse (m.drop (alikeFront l m)).reverse)) := fun v hv => by
      have e : (((nvs v).length : Int) - ((alikeFront (l.drop (alikeFront l m)).reverse (m.drop (alikeFront l m)).reverse : Nat) : Int)) = ((v.length - alikeFront (l.drop (alikeFront l m)).reverse (m.drop (alikeFront l m)).reverse : Nat) : Int) := by
        rw [nvs_len]; omega
      rw [e, cutV_en]
    have al := alike_le (l.drop (alikeFront l m)).reverse (m.drop (alikeFront l m)).reverse
    rw [List.length_reverse, List.length_reverse] at al
    refine rd_slT hp4 (cut _ al.1) fun o5 H5 s5 ho5 => ?_
    walk_at "rd"
    refine rd_lenT (SqT.of (s5 _ _ hq4)) ?_
    walk_at "rd"
    refine rd_slT (s5 _ _ hq4) (cut _ al.2) fun n6 H6 s6 hn6 => ?_
    walk_at "rd"
    refine mkEd (hunkOf x l m) rfl rfl (s6 _ _ (s5 _ _ hr4)) (s6 _ _ ho5) hn6 fun H7 a s7 he => ?_
    exact k H7 a (((sA.trans s5).trans s6).trans s7) he
end
end Cs
-- CsTab
/-! Tables of sets, of every size that comes. -/
namespace Cs
open PySem PyProof.Rows L2
/-- a mask of a table: the round meets every slot -/
structure Msk (m : Nat) : Prop where
  round : ∀ i, i ≤ m → ∀ j, j ≤ m → ∃ k, k ≤ m ∧ lcgI m i k = j
  odd : m % 2 = 1
  kind : m = 7 ∨ m = 15 ∨ m = 31 ∨ m = 63 ∨ m = 127
theorem Msk.top {m : Nat} (M : Msk m) : m ≤ 127 := by
  have := M.kind
  omega
def meetB (n : Nat) : Bool := (List.range (n + 1)).all fun j => (List.range (n + 1)).any fun b => lcgN n b == j
theorem msk_by {m : Nat} (h : meetB m = true) (h0 : lcgN m (m + 1) = 0) (t : m = 7 ∨ m = 15 ∨ m = 31 ∨ m = 63 ∨ m = 127) : Msk m := by
  have hit : ∀ j, j ≤ m → ∃ b, b ≤ m ∧ lcgN m b = j := fun j hj => by
    have h1 := List.all_eq_true.mp h j (List.mem_range.mpr (by omega))
    obtain ⟨b, q1, q2⟩ := List.any_eq_true.mp h1
    exact ⟨b, by have := List.mem_range.mp q1; omega, beq_iff_eq.mp q2⟩
  have wrap : ∀ k, lcgN m (m + 1 + k) = lcgN m k := fun k => by
    induction k with
    | zero => exact h0
    | succ k ih => exact congrArg (fun z => (z * 5 + 1) % (m + 1)) ih
  refine ⟨fun i hi j hj => ?_, by omega, t⟩
  obtain ⟨a, a1, a2⟩ := hit i hi
  obtain ⟨b, b1, b2⟩ := hit j hj
  by_cases c : a ≤ b
  · exact ⟨b - a, by omega, by rw [← a2, lcgN_add, Nat.add_sub_cancel' c, b2]⟩
  · refine ⟨m + 1 + b - a, by omega, ?_⟩
    rw [← a2, lcgN_add, Nat.add_sub_cancel' (by omega), wrap, b2]
theorem msk7 : Msk 7 := msk_by (by decide +kernel) (by decide +kernel) (by decide)
theorem msk15 : Msk 15 := msk_by (by decide +kernel) (by decide +kernel) (by decide)
theorem msk31 : Msk 31 := msk_by (by decide +kernel) (by decide +kernel) (by decide)
theorem msk63 : Msk 63 := msk_by (by decide +kernel) (by decide +kernel) (by decide)
theorem msk127 : Msk 127 := msk_by (by decide +kernel) (by decide +kernel) (by decide)
theorem msk_of {m : Nat} (h : m = 7 ∨ m = 15 ∨ m = 31 ∨ m = 63 ∨ m = 127) : Msk m := by
  rcases h with h | h | h | h | h <;> subst h
  · exact msk7
  · exact msk15
  · exact msk31
  · exact msk63
  · exact msk127
def sizesB : Bool := (List.range 128).all fun n => decide (n < SetTable.sizeAbove n) && (SetTable.sizeAbove n == 8 || SetTable.sizeAbove n == 16 || SetTable.sizeAbove n == 32 || SetTable.sizeAbove n == 64 || SetTable.sizeAbove n == 128)
theorem size_msk {n : Nat} (h : n < 128) : ∃ m, SetTable.sizeAbove n = m + 1 ∧ n ≤ m ∧ Msk m := by
  have all_ : sizesB = true := by decide +kernel
  have q := List.all_eq_true.mp all_ n (List.mem_range.mpr h)
  simp only [Bool.and_eq_true, Bool.or_eq_true, decide_eq_true_eq, beq_iff_eq] at q
  obtain ⟨q1, q2⟩ := q
  refine ⟨SetTable.sizeAbove n - 1, by omega, by omega, msk_of (by omega)⟩
/-- a run that begins at the slot, early enough -/
theorem begins_at {m : Nat} (M : Msk m) (h : Int) {j : Nat} (hj : j ≤ m) : ∃ n, n < SetTable.turns m ∧ runI m (SetTable.bits h) n = j := by
  obtain ⟨k, q1, q2⟩ := M.round _ (runI_le m (SetTable.bits h) 12) j hj
  exact ⟨12 + k, by unfold SetTable.turns; omega, (runI_tail (bits_lt h) k).trans q2⟩
theorem way_top {m : Nat} (h : Int) (k : Nat) : way m h k ≤ m := by
  have r0 : SetTable.bits h % (m + 1) ≤ m := Nat.le_of_lt_succ (Nat.mod_lt _ (Nat.succ_pos m))
  have r1 := runEnd_bd r0
  have q := nth_in (m := m) k (runAt m (SetTable.bits h % (m + 1)) (SetTable.bits h)) (show SetTable.bits h % (m + 1) + (SetTable.runEnd m (SetTable.bits h % (m + 1)) - SetTable.bits h % (m + 1)) ≤ m by omega)
  exact Nat.le_trans (Nat.le_add_right _ _) q
/-- the way meets each slot within the bound -/
theorem way_meets {m : Nat} (M : Msk m) (h : Int) {j : Nat} (hj : j ≤ m) : ∃ k, k < 10 * SetTable.turns m ∧ way m h k = j := by
  obtain ⟨n, q1, q2⟩ := begins_at M h hj
  obtain ⟨k, q3, q4⟩ := run_nth m (SetTable.bits h) n
  refine ⟨k, by omega, ?_⟩
  show SetTable.Probe.j _ = j
  rw [q4]; exact q2
/-- the first step of the way at which something is so -/
theorem way_first {m : Nat} (M : Msk m) (h : Int) (p : Nat → Prop) {j : Nat} (hj : j ≤ m) (hp : p j) : ∃ K, K < 10 * SetTable.turns m ∧ p (way m h K) ∧ ∀ k, k < K → ¬ p (way m h k) := by
  obtain ⟨k, q1, q2⟩ := way_meets M h hj
  obtain ⟨K, r1, r2, r3⟩ := st_least (p := fun k => p (way m h k)) k (show p (way m h k) by rw [q2]; exact hp)
  exact ⟨K, Nat.lt_of_le_of_lt r1 q1, r2, r3⟩
/-- a table that finds each of its hashes again -/
structure Tab (t : SetTable) (hs : List Int) : Prop where
  up : Ris t.place.toList
  none_ : t.dummies = #[]
  size : t.place.size = hs.length
  msk : Msk t.mask
  low : ∀ x ∈ t.place.toList, x ≤ t.mask
  find : ∀ (i : Nat) (h : Int) (j : Nat), hs[i]? = some h → t.place.toList[i]? = some j → ∃ k, way t.mask h k = j ∧ ∀ k', k' < k → way t.mask h k' ∈ t.place.toList
section
variable {t : SetTable} {hs : List Int}
theorem Tab.gap (T : Tab t hs) (hl : hs.length ≤ t.mask) (h : Int) : ∃ K, K < 10 * SetTable.turns t.mask ∧ way t.mask h K ∉ t.place.toList ∧ ∀ k, k < K → way t.mask h k ∈ t.place.toList := by
  obtain ⟨j, j1, j2⟩ := st_missing t.place.toList (t.mask + 1) (by rw [Array.length_toList, T.size]; omega)
  obtain ⟨K, q1, q2, q3⟩ := way_first T.msk h (fun j => j ∉ t.place.toList) (Nat.le_of_lt_succ j1) j2
  exact ⟨K, q1, q2, fun k hk => Classical.not_not.mp (q3 k hk)⟩
theorem Tab.ahead (T : Tab t hs) {h : Int} {K i j : Nat} (hK : way t.mask h K ∉ t.place.toList) (hi : hs[i]? = some h) (hj : t.place.toList[i]? = some j) : ∃ k, k < K ∧ way t.mask h k = j := by
  obtain ⟨k, q1, q2⟩ := T.find i h j hi hj
  refine ⟨k, Nat.lt_of_not_le fun c => ?_, q1⟩
  rcases Nat.lt_or_eq_of_le c with c | c
  · exact hK (q2 K c)
  · rw [c, q1] at hK
    exact hK (List.mem_of_getElem? hj)
theorem Tab.put (T : Tab t hs) {h : Int} {j K : Nat} (ej : way t.mask h K = j) (hj : j ∉ t.place.toList) (hb : ∀ k, k < K → way t.mask h k ∈ t.place.toList) :
    SetTable.below t.place j ≤ hs.length ∧ Tab (t.put j).1 (hs.take (SetTable.below t.place j) ++ h :: hs.drop (SetTable.below t.place j)) ∧ (t.put j).1.fill = hs.length + 1 := by
  have lo : SetTable.below t.place j ≤ t.place.size := (below_cut T.up j).1
  have ld : SetTable.below t.place j ≤ t.place.toList.length := by rw [Array.length_toList]; exact lo
  have lh : SetTable.below t.place j ≤ hs.length := by rw [← T.size]; exact lo
  have pl := put_place t j
  have sz : (t.put j).1.place.size = hs.length + 1 := by
    rw [← Array.length_toList, pl, len_ins _ ld, Array.length_toList, T.size]
  have keep : ∀ x, x ∈ t.place.toList → x ∈ (t.put j).1.place.toList := fun x hx => by
    rw [pl]; exact mem_ins.2 (Or.inr hx)
  refine ⟨lh, ?_, ?_⟩
  · refine ⟨ris_insert T.up fun e => hj (List.mem_of_getElem? (by rw [Array.getElem?_toList]; exact e)), put_dm T.none_ j, by rw [len_ins _ lh]; exact sz, T.msk, ?_, ?_⟩
    · intro x hx
      rw [pl] at hx
      rcases mem_ins.1 hx with e | e
      · rw [e, ← ej]; exact way_top h K
      · exact T.low x e
    · intro i g x h1 h2
      rw [tins_get hs lh] at h1
      rw [pl, tins_get _ ld] at h2
      show ∃ k, way t.mask g k = x ∧ ∀ k', k' < k → way t.mask g k' ∈ (t.put j).1.place.toList
      have old : ∀ i', hs[i']? = some g → t.place.toList[i']? = some x → ∃ k, way t.mask g k = x ∧ ∀ k', k' < k → way t.mask g k' ∈ (t.put j).1.place.toList := fun i' a b => by
        obtain ⟨k, c, d⟩ := T.find i' g x a b
        exact ⟨k, c, fun k' z => keep _ (d k' z)⟩
      by_cases c : i < SetTable.below t.place j
      · rw [if_pos c] at h1 h2
        exact old i h1 h2
      · rw [if_neg c] at h1 h2
        by_cases d : i = SetTable.below t.place j
        · rw [if_pos d] at h1 h2
          cases h1
          cases h2
          exact ⟨K, ej, fun k' z => keep _ (hb k' z)⟩
        · rw [if_neg d] at h1 h2
          exact old (i - 1) h1 h2
  · show (t.put j).1.place.size + (t.put j).1.dummies.size = hs.length + 1
    rw [sz, put_dm T.none_ j]; rfl
end
/-! laid anew -/
section
variable {m : Nat}
/-- the free slot that is taken for a hash -/
theorem takes (M : Msk m) (owner : Array (Option Nat)) (h : Int) {j : Nat} (hj : j ≤ m) (hf : oAt owner j = none) :
    ∃ K, SetTable.layClean.free m owner (SetTable.turns m) (SetTable.bits h % (m + 1)) (SetTable.bits h) = some (way m h K) ∧ oAt owner (way m h K) = none ∧ ∀ k, k < K → oAt owner (way m h k) ≠ none := by
  obtain ⟨n, n1, n2⟩ := begins_at M h hj
  have at_ : way m h (off m (SetTable.bits h % (m + 1)) (SetTable.bits h) n) = j := by
    show SetTable.Probe.j _ = j
    rw [nth_off, itL_run]; exact n2
  obtain ⟨K, q1, q2, q3⟩ := st_least (p := fun k => oAt owner (way m h k) = none) _ (show oAt owner (way m h (off m (SetTable.bits h % (m + 1)) (SetTable.bits h) n)) = none by rw [at_]; exact hf)
  have none_of : ∀ o : Option Nat, o = none → o.isNone = true := fun o e => by rw [e]; rfl
  have some_of : ∀ o : Option Nat, o ≠ none → o.isNone = false := fun o e => by
    cases o with
    | none => exact absurd rfl e
    | some _ => rfl
  exact ⟨K, free_spec m owner (SetTable.turns m) n _ _ K n1 q1 (fun k hk => some_of _ (q3 k hk)) (none_of _ q2), q2, q3⟩
theorem lay_one (M : Msk m) {done : List Int} {owner : Array (Option Nat)} (W : Own m done owner) (hl : done.length ≤ m) (h : Int) :
    ∃ j, SetTable.layClean.free m owner (SetTable.turns m) (SetTable.bits h % (m + 1)) (SetTable.bits h) = some j ∧ Own m (done ++ [h]) (owner.setIfInBounds j (some done.length)) := by
  obtain ⟨ps, p1, p2⟩ := W.ps
  obtain ⟨j0, a1, a2⟩ := st_missing ps (m + 1) (by omega)
  have a1 := Nat.le_of_lt_succ a1
  have free0 : oAt owner j0 = none := Classical.byContradiction fun c => a2 (p2 j0 a1 c)
  obtain ⟨K, b1, b2, b3⟩ := takes M owner h a1 free0
  generalize ej : way m h K = j at b1 b2
  have jm : j ≤ m := ej ▸ way_top h K
  have js : j < owner.size := by rw [W.sz]; omega
  have new := oAt_set_self (some done.length) js
  have old : ∀ i, i ≠ j → oAt (owner.setIfInBounds j (some done.length)) i = oAt owner i := fun i e => oAt_set_ne _ e
  have still : ∀ i, oAt owner i ≠ none → oAt (owner.setIfInBounds j (some done.length)) i ≠ none := fun i e => by
    by_cases c : i = j
    · rw [c, new]; exact fun z => by cases z
    · rw [old i c]; exact e
  have len1 : (done ++ [h]).length = done.length + 1 := by rw [List.length_append]; rfl
  refine ⟨j, b1, by rw [Array.size_setIfInBounds]; exact W.sz, fun i k hi e => ?_, fun k hk => ?_, j :: ps, by rw [List.length_cons, len1, p1], fun i hi e => ?_⟩
  · by_cases c : i = j
    · rw [c, new] at e
      cases e
      exact ⟨h, K, by rw [List.getElem?_append_right (Nat.le_refl _), Nat.sub_self]; rfl, ej.trans c.symm, fun k' z => still _ (b3 k' z)⟩
    · rw [old i c] at e
      obtain ⟨g, K', c1, c2, c3⟩ := W.at_ i k hi e
      exact ⟨g, K', by rw [List.getElem?_append_left (List.getElem?_eq_some_iff.mp c1).1]; exact c1, c2, fun k' z => still _ (c3 k' z)⟩
  · rw [len1] at hk
    rcases Nat.lt_succ_iff_lt_or_eq.mp hk with c | c
    · obtain ⟨i, d1, d2⟩ := W.all k c
      refine ⟨i, d1, ?_⟩
      rw [old i fun z => by rw [z, b2] at d2; cases d2]
      exact d2
    · exact ⟨j, jm, by rw [new, c]⟩
  · by_cases c : i = j
    · rw [c]; exact List.mem_cons_self
    · rw [old i c] at e
      exact List.mem_cons_of_mem _ (p2 i hi e)
theorem lay_more (M : Msk m) : ∀ (todo done : List Int) (owner : Array (Option Nat)), Own m done owner → done.length + todo.length ≤ m →
    ∃ o, todo.foldl (stepF m) (some (owner, done.length)) = some (o, done.length + todo.length) ∧ Own m (done ++ todo) o
  | [], done, owner, W, _ => ⟨owner, rfl, by rw [List.append_nil]; exact W⟩
  | h :: todo, done, owner, W, hl => by
    have hl' : done.length + (todo.length + 1) ≤ m := hl
    obtain ⟨j, q1, q2⟩ := lay_one M W (by omega) h
    have e1 : (done ++ [h]).length = done.length + 1 := by rw [List.length_append]; rfl
    obtain ⟨o, q3, q4⟩ := lay_more M todo (done ++ [h]) _ q2 (by omega)
    rw [e1] at q3
    refine ⟨o, ?_, ?_⟩
    · show todo.foldl (stepF m) (stepF m (some (owner, done.length)) h) = some (o, done.length + (todo.length + 1))
      rw [stepF_some q1, q3, Nat.add_assoc, Nat.add_comm 1]
    · rw [List.append_assoc] at q4; exact q4
theorem lay_all (M : Msk m) {hs : Array Int} (hn : hs.size ≤ m) : ∃ o, SetTable.layClean m hs = some o ∧ Own m hs.toList o := by
  obtain ⟨o, q1, q2⟩ := lay_more M hs.toList [] _ (Own.init m) (by show 0 + hs.toList.length ≤ m; rw [Array.length_toList]; omega)
  refine ⟨o, ?_, q2⟩
  have q1 : hs.toList.foldl (stepF m) (some (Array.replicate (m + 1) none, 0)) = _ := q1
  rw [layClean_eq, q1]; rfl
/-- what is laid: a table, and an order of what was there -/
theorem laid_tab (M : Msk m) (finger moves : Nat) (led plain : Bool) {hs : Array Int} (hn : hs.size ≤ m) :
    ∃ t' order, SetTable.laid m finger moves led plain hs = some (t', order) ∧ order.toList.Perm (List.range hs.size) ∧ Tab t' (order.toList.map fun i => hs.getD i 0) ∧ t'.mask = m ∧ t'.led = led ∧ t'.plain = plain := by
  obtain ⟨owner, e, W⟩ := lay_all M hn
  obtain ⟨up, inr⟩ := ris_live (fun j => owner.getD j none) (List.range (m + 1)) List.pairwise_lt_range
  have up : Ris ((liveOf m owner).map Prod.fst) := up
  have inr : ∀ x ∈ (liveOf m owner).map Prod.fst, x ∈ List.range (m + 1) := inr
  have cover : ∀ k, k < hs.size → k ∈ (liveOf m owner).map Prod.snd := fun k hk => by
    obtain ⟨j, b1, b2⟩ := W.all k (by rw [Array.length_toList]; exact hk)
    exact List.mem_map.mpr ⟨(j, k), (mem_live W.sz).2 ⟨b1, b2⟩, rfl⟩
  have many : (liveOf m owner).length = hs.size := by
    obtain ⟨ps, p1, p2⟩ := W.ps
    have le1 := nat_nodup_len _ ps (List.Pairwise.imp (fun h => Nat.ne_of_lt h) up) fun x hx => by
      obtain ⟨⟨y, k⟩, q1, q2⟩ := List.mem_map.mp hx
      cases q2
      obtain ⟨b1, b2⟩ := (mem_live W.sz).1 q1
      exact p2 y b1 (by rw [b2]; exact fun z => by cases z)
    have le2 := nat_nodup_len (List.range hs.size) _ List.nodup_range fun k hk => cover k (List.mem_range.mp hk)
    rw [List.length_map, p1, Array.length_toList] at le1
    rw [List.length_map, List.length_range] at le2
    exact Nat.le_antisymm le1 le2
  refine ⟨{ mask := m, place := ((liveOf m owner).map Prod.fst).toArray, dummies := #[], finger, led, moves, plain }, ((liveOf m owner).map Prod.snd).toArray, ?_, ?_, ?_, rfl, rfl, rfl⟩
  · show (SetTable.layClean m hs).bind _ = _
    rw [e]; rfl
  · exact perm_range hs.size _ (by show ((liveOf m owner).map Prod.snd).length = _; rw [List.length_map]; exact many) cover
  · refine ⟨up, rfl, ?_, M, fun x hx => Nat.le_of_lt_succ (List.mem_range.mp (inr x hx)), fun i h j h1 h2 => ?_⟩
    · show ((liveOf m owner).map Prod.fst).toArray.size = (((liveOf m owner).map Prod.snd).map _).length
      rw [List.size_toArray, List.length_map, List.length_map, List.length_map]
    · have h1 : (((liveOf m owner).map Prod.snd).map fun i => hs.getD i 0)[i]? = some h := h1
      have h2 : ((liveOf m owner).map Prod.fst)[i]? = some j := h2
      rw [List.map_map, List.getElem?_map] at h1
      rw [List.getElem?_map] at h2
      obtain ⟨⟨y, k⟩, g1, g2⟩ := Option.map_eq_some_iff.mp h2
      rw [g1] at h1
      have g2 : y = j := g2
      subst g2
      have g3 : hs.getD k 0 = h := Option.some.inj h1
      obtain ⟨b1, b2⟩ := (mem_live W.sz).1 (List.mem_of_getElem? g1)
      obtain ⟨g, K, c1, c2, c3⟩ := W.at_ y k b1 b2
      have g4 : g = h := by
        rw [← g3, Array.getD_eq_getD_getElem?, ← Array.getElem?_toList, c1]; rfl
      subst g4
      refine ⟨K, c2, fun k' hk' => ?_⟩
      show way m g k' ∈ (liveOf m owner).map Prod.fst
      cases z : oAt owner (way m g k') with
      | none => exact absurd z (c3 k' hk')
      | some q => exact List.mem_map.mpr ⟨(way m g k', q), (mem_live W.sz).2 ⟨way_top g k', z⟩, rfl⟩
end
end Cs
-- CsSet
/-! Sets of tuples of whole numbers. -/
namespace Cs
open PySem PyProof.Rows L2
section
variable {P : Program} {w : World} {A : Around} {E : Value → Shared → Prop} {s : Shared} {a : Addr} {L : List (Addr × List Int)} {es : Array (Int × Value)} {ep : Nat} {t : SetTable}
/-- a set in the heap: its rows, its table -/
structure Sg (P : Program) (w : World) (h : Heap) (a : Addr) (L : List (Addr × List Int)) (es : Array (Int × Value)) (ep : Nat) (t : SetTable) : Prop where
  obj : ∃ o, h.get? a = some o ∧ o.ExactSet ∧ o.data = .set es ep t
  row : es.toList = rowsOf P w L
  tab : Tab t (L.map fun p => thash P w p.2)
  once : (L.map (·.2)).Nodup
  keys : ∀ p ∈ L, IsT P w h p.2 p.1
  flat : t.plain = true
  seen : w.params.followText "set-order" = true ∨ t.led = true
  wide : L.length * 5 < t.mask * 3
  most : L.length ≤ 60
theorem Sg.count (S : Sg P w s.heap a L es ep t) : es.size = L.length := by
  rw [← Array.length_toList, S.row]; exact List.length_map _
theorem fits_of (e1 : t.dummies = #[]) (e2 : t.place.size = es.size) (e3 : es.size ≤ t.mask) : t.fits es.size = true := by
  have e4 : t.fill = t.place.size := by
    show t.place.size + t.dummies.size = t.place.size
    rw [e1]; rfl
  show (t.place.size == es.size && decide (t.fill ≤ t.mask)) = true
  rw [e4, e2, beq_self_eq_true, decide_eq_true e3]; rfl
theorem Sg.fit (S : Sg P w s.heap a L es ep t) : t.fits es.size = true := by
  have e1 := S.tab.size
  rw [List.length_map] at e1
  have e2 := S.count
  have e3 := S.wide
  exact fits_of S.tab.none_ (by omega) (by omega)
theorem row_at (r : es.toList = rowsOf P w L) {i : Nat} {p : Addr × List Int} (h : L[i]? = some p) : es[i]? = some (thash P w p.2, Value.ref p.1) := by
  rw [← Array.getElem?_toList, r]
  show (L.map _)[i]? = _
  rw [List.getElem?_map, h]; rfl
theorem no_dummy (m : Nat) : ∀ (n : Nat) (p : SetTable.Probe), p.dummy = none → (nth m p n).dummy = none
  | 0, _, h => h
  | n + 1, p, h => no_dummy m n (adv m p) (by
    unfold adv
    split
    · exact h
    · exact h)
/-- the search from the c-th step of its way on -/
theorem seek (S : Sg P w s.heap a L es ep t) {x : Addr} {k : List Int} (kx : IsT P w s.heap k x) (cap : A.units < cLine) {N : Nat} (n1 : N < 10 * SetTable.turns t.mask)
    (n2 : way t.mask (thash P w k) N ∉ t.place.toList) (n3 : ∀ c, c < N → way t.mask (thash P w k) c ∈ t.place.toList) {Q : SetFound → Shared → Prop}
    (yes : k ∈ L.map (·.2) → Q (.there none) s) (no : k ∉ L.map (·.2) → Q (.free (way t.mask (thash P w k) N) false) s) :
    ∀ (f c : Nat) (st : Option SetTable.Probe), st.getD (t.probeStart (thash P w k)) = nth t.mask (t.probeStart (thash P w k)) c → c ≤ N → N - c < f →
      (∀ (i : Nat) p, L[i]? = some p → p.2 = k → ∃ c', c ≤ c' ∧ c' < N ∧ t.place.toList[i]? = some (way t.mask (thash P w k) c')) →
      wpAny (model P w) A (setSearchFrom a (.ref x) (thash P w k) true f st) Q E s
  | 0, c, st, _, _, z, _ => absurd z (Nat.not_lt_zero _)
  | f + 1, c, st, est, cN, z, later => by
    obtain ⟨o, o1, o2, o3⟩ := S.obj
    rw [setSearchFrom_succ]
    refine wpAny_bind (wpAny_setState_of o1 o3 S.fit ?_)
    dsimp only
    refine wp_if_neg (show ¬ t.gaveWay = true by
      show ¬ (t.mask % 2 == 0) = true
      rw [S.tab.msk.odd]; decide) ?_
    try refine wpAny_bind (wpAny_pure ?_)
    have shift : ∀ q, nth t.mask (nth t.mask (t.probeStart (thash P w k)) c) q = nth t.mask (t.probeStart (thash P w k)) (c + q) := fun q => (nth_add t.mask c _ q).symm
    have slot : ∀ q, (nth t.mask (nth t.mask (t.probeStart (thash P w k)) c) q).j = way t.mask (thash P w k) (c + q) := fun q => congrArg SetTable.Probe.j (shift q)
    have cN' : c + (N - c) = N := by omega
    have hashes : ∀ (i : Nat) p, L[i]? = some p → (es[i]?.map (·.1)).getD 0 = thash P w p.2 := fun i p q => by
      rw [row_at S.row q]; rfl
    rcases go_spec t S.tab.up S.tab.none_ (fun i => (es[i]?.map (·.1)).getD 0) (thash P w k) (10 * SetTable.turns t.mask) (N - c) _ (no_dummy t.mask c _ rfl) (by omega)
      (fun q hq => by rw [slot]; exact n3 (c + q) (by omega)) (by rw [slot, cN']; exact n2) with ⟨q, i, q1, q2, q3, q4, q5⟩ | ⟨q4, q5⟩
    · have met : t.probe (fun i => (es[i]?.map (·.1)).getD 0) (thash P w k) (st.getD (t.probeStart (thash P w k))) = some (.candidate (way t.mask (thash P w k) (c + q)) i (nth t.mask (t.probeStart (thash P w k)) (c + (q + 1)))) := by
        rw [est, ← slot, ← shift]; exact q5
      rw [met]
      dsimp only
      rw [slot] at q2
      have il : i < L.length := by
        have h1 := (List.getElem?_eq_some_iff.mp q2).1
        have h2 := S.tab.size
        rw [List.length_map] at h2
        rw [Array.length_toList] at h1
        omega
      obtain ⟨p, pe⟩ : ∃ p, L[i]? = some p := ⟨_, List.getElem?_eq_getElem il⟩
      have pm := List.mem_of_getElem? pe
      have pk := S.keys p pm
      have live := slot_live S.tab.up q2
      have go : wpAny (model P w) A (searchRest a (.ref x) (thash P w k) true f es t (way t.mask (thash P w k) (c + q)) i (nth t.mask (t.probeStart (thash P w k)) (c + (q + 1)))) Q E s := by
        unfold searchRest
        rw [row_at S.row pe]
        dsimp only
        refine wpAny_bind (wpAny_holding (wpAny_eqBool_tuple cap pk kx ?_))
        refine wpAny_bind (wpAny_setState_of o1 o3 S.fit ?_)
        dsimp only
        by_cases ek : p.2 = k
        · refine wp_if_pos (by simp [ek]) ?_
          exact wpAny_pure (yes (List.mem_map.mpr ⟨p, pm, ek⟩))
        · refine wp_if_neg (by simp [ek]) ?_
          try refine wpAny_bind (wpAny_pure ?_)
          rw [sameMem]
          dsimp only
          simp only [if_true, live, row_at S.row pe]
          refine wpAny_bind (wpAny_isSame_ref_self (wpAny_bind (wpAny_pure ?_)))
          simp only [if_true]
          refine wp_if_neg (by simp [ek]) ?_
          refine seek S kx cap n1 n2 n3 yes no f (c + (q + 1)) _ rfl (by omega) (by omega) fun i0 p0 d1 d2 => ?_
          obtain ⟨c', d3, d4, d5⟩ := later i0 p0 d1 d2
          refine ⟨c', Nat.lt_of_not_le fun le => ?_, d4, d5⟩
          have le : c' ≤ c + q := le
          rcases Nat.lt_or_eq_of_le le with lt | eq
          · refine q4 (c' - c) i0 (by omega) (by rw [slot, Nat.add_sub_cancel' d3]; exact d5) ?_
            show (es[i0]?.map (·.1)).getD 0 = _
            rw [hashes i0 p0 d1, d2]
          · rw [eq] at d5
            have two := slot_live S.tab.up d5
            rw [live] at two
            cases two
            rw [pe] at d1
            cases d1
            exact ek d2
      by_cases hl : t.led = true
      · refine wp_if_neg (by rw [hl]; decide) ?_
        try refine wpAny_bind (wpAny_pure ?_)
        exact go
      · refine wp_if_pos (by simp [hl]) ?_
        refine wpAny_bind (seen_tup kx (fun y my => ?_) ?_)
        · obtain ⟨e, m1, m2⟩ := List.mem_map.mp my
          have m3 : e ∈ es.toList := by simpa using (by simpa using m1 : e ∈ es ∧ e.1 = thash P w k).1
          rw [S.row] at m3
          obtain ⟨u, m4, m5⟩ := List.mem_map.mp m3
          exact ⟨u.2, u.1, by rw [← m2, ← m5], S.keys u m4⟩
        · refine wp_if_neg (by decide) ?_
          try refine wpAny_bind (wpAny_pure ?_)
          exact go
    · have met : t.probe (fun i => (es[i]?.map (·.1)).getD 0) (thash P w k) (st.getD (t.probeStart (thash P w k))) = some (.empty (way t.mask (thash P w k) N) none) := by
        have e := slot (N - c)
        rw [cN'] at e
        rw [est, ← e]; exact q5
      rw [met]
      dsimp only
      refine wpAny_pure (no fun m => ?_)
      obtain ⟨p0, m1, m2⟩ := List.mem_map.mp m
      obtain ⟨i0, d1⟩ := List.mem_iff_getElem?.mp m1
      obtain ⟨c', d3, d4, d5⟩ := later i0 p0 d1 m2
      refine q4 (c' - c) i0 (by omega) (by rw [slot, Nat.add_sub_cancel' d3]; exact d5) ?_
      show (es[i0]?.map (·.1)).getD 0 = _
      rw [hashes i0 p0 d1, m2]
/-- .. as adding asks for it -/
theorem seek_all (S : Sg P w s.heap a L es ep t) {x : Addr} {k : List Int} (kx : IsT P w s.heap k x) (cap : A.units < cLine) {Q : SetFound → Shared → Prop} (yes : k ∈ L.map (·.2) → Q (.there none) s)
    (no : ∀ N j, k ∉ L.map (·.2) → way t.mask (thash P w k) N = j → j ∉ t.place.toList → (∀ c, c < N → way t.mask (thash P w k) c ∈ t.place.toList) → Q (.free j false) s) : wpAny (model P w) A (setSearch a (.ref x) (thash P w k) true) Q E s := by
  have h0 := S.wide
  obtain ⟨N, n1, n2, n3⟩ := S.tab.gap (by rw [List.length_map]; omega) (thash P w k)
  have n4 : N < 2000 := by
    have := S.tab.msk.top
    unfold SetTable.turns at n1
    omega
  unfold setSearch
  refine seek S kx cap n1 n2 n3 yes (fun q => no N _ q rfl n2 n3) 100000 0 none rfl (Nat.zero_le _) (by omega) fun i p e1 e2 => ?_
  have g : (L.map fun p => thash P w p.2)[i]? = some (thash P w k) := by rw [List.getElem?_map, e1, ← e2]; rfl
  have il : i < t.place.toList.length := by
    rw [Array.length_toList, S.tab.size]
    exact (List.getElem?_eq_some_iff.mp g).1
  obtain ⟨c, c1, c2⟩ := S.tab.ahead n2 g (List.getElem?_eq_getElem il)
  exact ⟨c, Nat.zero_le _, c1, by rw [c2]; exact List.getElem?_eq_getElem il⟩
theorem Sg.same (S : Sg P w s.heap a L es ep t) {h' : Heap} (o : ∀ o, s.heap.get? a = some o → h'.get? a = some o) (k : ∀ p ∈ L, IsT P w h' p.2 p.1) : Sg P w h' a L es ep t := by
  obtain ⟨u, u1, u2⟩ := S.obj
  exact ⟨⟨u, o u u1, u2⟩, S.row, S.tab, S.once, k, S.flat, S.seen, S.wide, S.most⟩
/-- laid anew, in a larger table -/
theorem relay {o : Obj} (o1 : s.heap.get? a = some o) (o2 : o.ExactSet) (o3 : o.data = .set es ep t) (r : es.toList = rowsOf P w L) (T : Tab t (L.map fun p => thash P w p.2)) (once : (L.map (·.2)).Nodup) (keys : ∀ p ∈ L, IsT P w s.heap p.2 p.1)
    (flat : t.plain = true) (seen : w.params.followText "set-order" = true ∨ t.led = true) (most : L.length ≤ 60) (lm : L.length ≤ t.mask) {wanted : Nat} (w1 : wanted < 128) (w2 : L.length * 2 ≤ wanted) (w3 : 0 < wanted) {Q : Unit → Shared → Prop}
    (q : ∀ h' L' es' ep' t', Heap.SameBut a s.heap h' → Sg P w h' a L' es' ep' t' → L'.Perm L → wanted ≤ t'.mask → Q () { s with heap := h' }) : wpAny (model P w) A (setRelay a wanted) Q E s := by
  obtain ⟨M, z1, z2, z3⟩ := size_msk w1
  have top := z3.top
  have sz : es.size = L.length := by
    rw [← Array.length_toList, r]; exact List.length_map _
  have tsz := T.size
  rw [List.length_map] at tsz
  obtain ⟨t', order, e1, e2, e3, e4, e5, e6⟩ := laid_tab z3 t.finger (t.movedTo M) t.led t.plain (hs := es.map (·.1)) (by rw [Array.size_map, sz]; omega)
  rw [Array.size_map, sz] at e2
  obtain ⟨L', r1, r2, r3⟩ := order_rows L es order r e2
  rw [← r3] at e3
  have sz' : (order.filterMap (es[·]?)).size = es.size := by
    rw [sz, ← r2.length_eq, ← Array.length_toList, r1]; exact List.length_map _
  have rel : t.relaid (es.map (·.1)) wanted = some (t', order) := by
    show SetTable.laid (SetTable.sizeAbove wanted - 1) t.finger (t.movedTo (SetTable.sizeAbove wanted - 1)) t.led t.plain (es.map (·.1)) = _
    rw [z1]; exact e1
  rw [setRelay_eq]
  refine wpAny_bind (wpAny_setState_of o1 o3 (fits_of T.none_ (by omega) (by omega)) ?_)
  dsimp only
  refine wp_if_neg (by rw [z1, sizeLine_eq]; omega) ?_
  try refine wpAny_bind (wpAny_pure ?_)
  rw [rel]
  dsimp only
  refine wpAny_bind (wp_if_neg (by rw [sz']; simp) ?_)
  try refine wpAny_bind (wpAny_pure ?_)
  refine wpAny_pure ?_
  dsimp only
  refine wpAny_storeSet_of o1 o3 ?_ (by rw [sz', sz, sizeLine_eq]; omega)
  have sb : Heap.SameBut a s.heap (s.heap.update a (Obj.putSet (order.filterMap (es[·]?)) t')) := Heap.SameBut.update ..
  refine q _ L' _ (ep + 1) t' sb ⟨⟨_, store_at o1 o3, ⟨o2.1, o2.2.1, o2.2.2⟩, rfl⟩, r1, e3, (r2.map (·.2)).nodup_iff.mpr once, fun p m => isT_same (keys p (r2.mem_iff.mp m)) o1 o3 sb, by rw [e6]; exact flat, by rw [e5]; exact seen, ?_, by rw [r2.length_eq]; exact most⟩ r2 (by rw [e4]; exact z2)
  rw [r2.length_eq, e4]
  omega
/-- one more -/
theorem addOne (S : Sg P w s.heap a L es ep t) {x : Addr} {k : List Int} (kx : IsT P w s.heap k x) (cap : A.units < cLine) (few : L.length < 36) {Q : Bool → Shared → Prop}
    (q : ∀ b h' L' es' ep' t', Heap.SameBut a s.heap h' → Sg P w h' a L' es' ep' t' → (k ∈ L.map (·.2) → L' = L) → (k ∉ L.map (·.2) → L'.Perm ((x, k) :: L)) → Q b { s with heap := h' }) :
    wpAny (model P w) A (setAddHashed a (.ref x) (thash P w k)) Q E s := by
  obtain ⟨o, o1, o2, o3⟩ := S.obj
  have cnt := S.count
  have wide := S.wide
  unfold setAddHashed
  refine wpAny_holding ?_
  rw [show (100000 : Nat) = 99999 + 1 from rfl, setAddHashedIn_succ]
  refine wpAny_bind (wpAny_setState_of o1 o3 S.fit ?_)
  dsimp only
  refine wp_if_neg (show ¬ byScan (.ref x) es = true by simp [byScan, Value.scannable]) ?_
  try refine wpAny_bind (wpAny_pure ?_)
  refine wpAny_bind (seek_all S kx cap (fun m => ?_) fun N j m ej n2 n3 => ?_)
  · dsimp only
    exact wpAny_pure (q false s.heap L es ep t (Heap.SameBut.refl a s.heap) S (fun _ => rfl) fun z => absurd m z)
  · dsimp only
    refine wpAny_bind (wpAny_setState_of o1 o3 S.fit ?_)
    dsimp only
    obtain ⟨b1, b2, b3⟩ := S.tab.put ej n2 n3
    have mk1 : (t.put j).1.mask = t.mask := rfl
    have ld1 : (t.put j).1.led = t.led := rfl
    have pl1 : (t.put j).1.plain = true := S.flat
    have pos : (t.put j).2 = SetTable.below t.place j := rfl
    generalize ept : t.put j = pt at b2 b3 mk1 ld1 pl1 pos ⊢
    obtain ⟨t1, pp⟩ := pt
    dsimp only at b2 b3 mk1 ld1 pl1 pos ⊢
    subst pos
    first
      | (refine wpAny_bind ?_; refine wp_if_pos pl1 ?_; refine hashBy_tup kx ?_)
      | refine wp_if_pos pl1 (wpAny_bind (hashBy_tup kx ?_))
    simp only [if_true]
    have row1 : (SetTable.insertAt es (SetTable.below t.place j) (thash P w k, Value.ref x)).toList = rowsOf P w (L.take (SetTable.below t.place j) ++ (x, k) :: L.drop (SetTable.below t.place j)) := by
      rw [SetTable.toList_insertAt, S.row, rows_put]
    rw [List.length_map] at b1
    generalize SetTable.below t.place j = n at b1 b2 row1 ⊢
    have pm := L2.put_perm L n (x, k)
    have ln : (L.take n ++ (x, k) :: L.drop n).length = L.length + 1 := pm.length_eq
    have hashes : ((L.map fun p => thash P w p.2).take n ++ thash P w k :: (L.map fun p => thash P w p.2).drop n) = (L.take n ++ (x, k) :: L.drop n).map fun p => thash P w p.2 := by
      rw [List.map_append, List.map_cons, List.map_take, List.map_drop]
    rw [hashes] at b2
    have once1 : ((L.take n ++ (x, k) :: L.drop n).map (·.2)).Nodup := (pm.map (·.2)).nodup_iff.mpr (List.nodup_cons.mpr ⟨m, S.once⟩)
    have size1 : (SetTable.insertAt es n (thash P w k, Value.ref x)).size = L.length + 1 := by
      rw [← Array.length_toList, row1, ← ln]; exact List.length_map _
    rw [List.length_map] at b3
    generalize SetTable.insertAt es n (thash P w k, Value.ref x) = es1 at row1 size1 ⊢
    generalize L.take n ++ (x, k) :: L.drop n = L1 at pm ln b2 once1 row1
    refine wpAny_bind (wpAny_storeSet_of o1 o3 ?_ (by rw [size1, sizeLine_eq]; omega))
    have sb : Heap.SameBut a s.heap (s.heap.update a (Obj.putSet es1 t1)) := Heap.SameBut.update ..
    have oo := store_at (es' := es1) (t' := t1) o1 o3
    generalize s.heap.update a (Obj.putSet es1 t1) = h1 at sb oo ⊢
    have keys1 : ∀ p ∈ L1, IsT P w h1 p.2 p.1 := fun p hp => by
      cases pm.mem_iff.mp hp with
      | head => exact isT_same kx o1 o3 sb
      | tail _ hp => exact isT_same (S.keys p hp) o1 o3 sb
    have seen1 : w.params.followText "set-order" = true ∨ t1.led = true := by rw [ld1]; exact S.seen
    have kd := S.tab.msk.kind
    have ft : t1.tooFull = true ↔ (L.length + 1) * 5 ≥ t.mask * 3 := by
      show decide (t1.fill * 5 ≥ t1.mask * 3) = true ↔ _
      rw [decide_eq_true_eq, b3, mk1]
    by_cases full : t1.tooFull = true
    · have full' := ft.mp full
      have small : L.length + 1 ≤ 19 := by omega
      have gr : SetTable.grown (L.length + 1) = (L.length + 1) * 4 := by
        unfold SetTable.grown
        rw [if_neg (by omega)]
      first
        | (refine wpAny_bind ?_; refine wp_if_pos (by simp [full]) ?_)
        | (refine wp_if_pos (by simp [full]) ?_; refine wpAny_bind ?_)
      rw [cnt, gr]
      refine relay (s := { s with heap := h1 }) oo ⟨o2.1, o2.2.1, o2.2.2⟩ rfl row1 b2 once1 keys1 pl1 seen1 (by omega) (by rw [mk1]; omega) (by omega) (by omega) (by omega) fun h2 L2 es2 ep2 t2 sb2 S2 pm2 _ => ?_
      exact wpAny_pure (q true h2 L2 es2 ep2 t2 (sb.trans sb2) S2 (fun z => absurd z m) fun _ => pm2.trans pm)
    · have full' : ¬ (L.length + 1) * 5 ≥ t.mask * 3 := fun z => full (ft.mpr z)
      first
        | refine wp_if_neg (by simp [full]) ?_
        | (refine wpAny_bind ?_; refine wp_if_neg (by simp [full]) ?_; refine wpAny_pure ?_)
      exact wpAny_pure (q true h1 L1 es1 (ep + 1) t1 sb ⟨⟨_, oo, ⟨o2.1, o2.2.1, o2.2.2⟩, rfl⟩, row1, b2, once1, keys1, pl1, seen1, by rw [ln, mk1]; omega, by omega⟩ (fun z => absurd z m) fun _ => pm)
end
end Cs
-- CsUnion
/-! One set taken into another. -/
namespace Cs
open PySem PyProof.Rows L2
section
variable {P : Program} {w : World} {A : Around} {E : Value → Shared → Prop} {s : Shared} {a b : Addr} {L M : List (Addr × List Int)} {es eo : Array (Int × Value)} {ep epo : Nat} {t to : SetTable}
theorem room (S : Sg P w s.heap a L es ep t) {more : Nat} (few : L.length + more ≤ 60) {Q : Unit → Shared → Prop}
    (q : ∀ h' L' es' ep' t', Heap.SameBut a s.heap h' → Sg P w h' a L' es' ep' t' → L'.Perm L → (L'.length + more) * 5 < t'.mask * 3 → Q () { s with heap := h' }) : wpAny (model P w) A (setRoomFor a more) Q E s := by
  obtain ⟨o, o1, o2, o3⟩ := S.obj
  have sz := S.tab.size
  rw [List.length_map] at sz
  have wd := S.wide
  have od := S.tab.msk.odd
  unfold setRoomFor
  refine wpAny_bind (wpAny_setState_of o1 o3 S.fit ?_)
  dsimp only
  by_cases c : (t.fill + more) * 5 ≥ t.mask * 3
  · have fl : t.fill = L.length := by
      show t.place.size + t.dummies.size = _
      rw [S.tab.none_, sz]; rfl
    have e : t.roomFor more = some ((t.place.size + more) * 2) := if_pos c
    rw [e]
    exact relay o1 o2 o3 S.row S.tab S.once S.keys S.flat S.seen S.most (by omega) (by omega) (by omega) (by omega) fun h' L' es' ep' t' q1 q2 q3 q4 => q h' L' es' ep' t' q1 q2 q3 (by rw [q3.length_eq]; omega)
  · have e : t.roomFor more = none := if_neg c
    rw [e]
    have fl : t.fill = L.length := by
      show t.place.size + t.dummies.size = _
      rw [S.tab.none_, sz]; rfl
    exact wpAny_pure (q s.heap L es ep t (Heap.SameBut.refl a s.heap) S (List.Perm.refl L) (by omega))
/-- the walk over a set: its rows, in some order -/
theorem walked (R : Sg P w s.heap b M eo epo to) {others : List Addr} {filled : Option Addr} {Q : Array (Int × Value) → Shared → Prop} (q : ∀ xs : Array (Int × Value), xs.toList.Perm (rowsOf P w M) → Q xs s) : wpAny (model P w) A (setWalkUnseen b others filled) Q E s := by
  obtain ⟨o, o1, o2, o3⟩ := R.obj
  unfold setWalkUnseen
  refine wpAny_bind (wpAny_setState_of o1 o3 R.fit ?_)
  dsimp only
  refine wpAny_bind (wpAny_byText ?_)
  have known : (w.params.followText "set-order" || (to.led && to.plain) || decide (eo.size ≤ 1)) = true := by
    rcases R.seen with e | e
    · rw [e]; rfl
    · rw [e, R.flat]; simp
  refine wp_if_pos known ?_
  unfold setWalk
  refine wpAny_bind (wpAny_setState_of o1 o3 R.fit ?_)
  dsimp only
  refine wpAny_bind (wpAny_byText ?_)
  by_cases bt : w.params.followText "set-order" = true
  · refine wp_if_pos bt ?_
    refine wpAny_bind (wpAny_askSetting (wpAny_pure (q _ ?_)))
    rw [← R.row]
    exact pick_perm _ _
  · refine wp_if_neg bt ?_
    try refine wpAny_bind (wpAny_pure ?_)
    refine wp_if_neg (show ¬ (!to.plain && decide (eo.size > 1)) = true by rw [R.flat]; simp) ?_
    try refine wpAny_bind (wpAny_pure ?_)
    have ld : to.led = true := R.seen.resolve_left bt
    refine wpAny_bind ?_
    show wpAny (model P w) A (if (!to.led && decide (eo.size > 1)) = true then _ else _) _ E s
    refine wp_if_neg (by rw [ld]; simp) ?_
    refine wpAny_pure (wpAny_pure (q eo ?_))
    rw [R.row]
theorem perm_lift {α β : Type} {f : α → β} : ∀ {m : List α} {l : List β}, l.Perm (m.map f) → ∃ m' : List α, m'.Perm m ∧ m'.map f = l
  | [], l, p => ⟨[], .refl _, (List.Perm.eq_nil p).symm⟩
  | x :: m, l, p => by
    have mem : f x ∈ l := p.mem_iff.mpr List.mem_cons_self
    obtain ⟨l1, l2, rfl⟩ := List.append_of_mem mem
    have p2 : (l1 ++ l2).Perm (m.map f) := List.Perm.cons_inv (List.perm_middle.symm.trans p)
    obtain ⟨m', q1, q2⟩ := perm_lift p2
    obtain ⟨m1, m2, rfl, e1, e2⟩ := List.map_eq_append_iff.mp q2
    refine ⟨m1 ++ x :: m2, List.perm_middle.trans (q1.cons x), ?_⟩
    rw [List.map_append, List.map_cons, e1, e2]
/-- what one set has of another's first rows -/
structure Has (L M done N : List (Addr × List Int)) : Prop where
  from_ : ∀ p ∈ N, p ∈ L ∨ p ∈ M
  keys : ∀ k, k ∈ N.map (·.2) ↔ k ∈ L.map (·.2) ∨ k ∈ done.map (·.2)
  len : N.length ≤ L.length + done.length
theorem Has.start {L M L' : List (Addr × List Int)} (p : L'.Perm L) : Has L M [] L' :=
  ⟨fun x hx => .inl (p.mem_iff.mp hx), fun k => by rw [(p.map (·.2)).mem_iff]; simp, by rw [p.length_eq]; exact Nat.le_refl _⟩
theorem Has.step {L M done N N' : List (Addr × List Int)} {x : Addr × List Int} (h : Has L M done N) (hx : x ∈ M) (h1 : x.2 ∈ N.map (·.2) → N' = N) (h2 : x.2 ∉ N.map (·.2) → N'.Perm (x :: N)) : Has L M (done ++ [x]) N' := by
  have ld : (done ++ [x]).length = done.length + 1 := by rw [List.length_append]; rfl
  have kd : ∀ k, k ∈ (done ++ [x]).map (·.2) ↔ k ∈ done.map (·.2) ∨ k = x.2 := fun k => by
    rw [List.map_append, List.mem_append]
    simp
  by_cases c : x.2 ∈ N.map (·.2)
  · rw [h1 c]
    refine ⟨h.from_, fun k => ?_, by rw [ld]; exact Nat.le_succ_of_le h.len⟩
    rw [h.keys, kd]
    constructor
    · rintro (q | q)
      · exact .inl q
      · exact .inr (.inl q)
    · rintro (q | q | q)
      · exact .inl q
      · exact .inr q
      · rw [q]; exact (h.keys _).mp c
  · have p := h2 c
    refine ⟨fun y hy => ?_, fun k => ?_, by rw [p.length_eq, ld]; exact Nat.succ_le_succ h.len⟩
    · cases p.mem_iff.mp hy with
      | head => exact .inr hx
      | tail _ q => exact h.from_ y q
    · rw [(p.map (·.2)).mem_iff, List.map_cons, List.mem_cons, h.keys, kd]
      constructor
      · rintro (q | q | q)
        · exact .inr (.inr q)
        · exact .inl q
        · exact .inr (.inl q)
      · rintro (q | q | q)
        · exact .inr (.inl q)
        · exact .inr (.inr q)
        · exact .inl q
/-- one set taken into another -/
theorem taken (S : Sg P w s.heap a L es ep t) (R : Sg P w s.heap b M eo epo to) (ab : a ≠ b) (few : L.length + M.length ≤ 36) {each : Sem Unit} (he : ∀ (s' : Shared) (Q' : Unit → Shared → Prop), s'.heap.get? b = s.heap.get? b → Q' () s' → wpAny (model P w) A each Q' E s') (cap : A.units < cLine) {Q : Unit → Shared → Prop}
    (q : ∀ h' N es' ep' t', Heap.SameBut a s.heap h' → Sg P w h' a N es' ep' t' → Has L M M N → Q () { s with heap := h' }) : wpAny (model P w) A (setMerge a b each) Q E s := by
  obtain ⟨o, o1, o2, o3⟩ := S.obj
  obtain ⟨u, u1, u2, u3⟩ := R.obj
  have cnt := R.count
  unfold setMerge
  refine wp_if_neg (by simp [ab]) ?_
  try refine wpAny_bind (wpAny_pure ?_)
  refine wpAny_bind (wpAny_setState_of u1 u3 R.fit ?_)
  dsimp only
  by_cases e0 : M = []
  · subst e0
    have ee : eo.isEmpty = true := by
      rw [Array.isEmpty_iff_size_eq_zero, cnt]; rfl
    refine wp_if_pos ee ?_
    exact wpAny_pure (q s.heap L es ep t (Heap.SameBut.refl a s.heap) S (Has.start (List.Perm.refl L)))
  · have ne : ¬ eo.isEmpty = true := by
      rw [Array.isEmpty_iff_size_eq_zero, cnt]
      exact fun z => e0 (List.eq_nil_of_length_eq_zero z)
    refine wp_if_neg ne ?_
    try refine wpAny_bind (wpAny_pure ?_)
    have pos : 0 < M.length := List.length_pos_iff.mpr e0
    rw [cnt]
    refine wpAny_bind (room S (by omega) fun h1 L1 es1 ep1 t1 sb S1 pm wd1 => ?_)
    have S1' : Sg P w ({ s with heap := h1 } : Shared).heap a L1 es1 ep1 t1 := S1
    have R1 : Sg P w ({ s with heap := h1 } : Shared).heap b M eo epo to := R.same (fun o z => (sb.2 b (Ne.symm ab)).trans z) fun p hp => isT_same (R.keys p hp) o1 o3 sb
    obtain ⟨v, v1, v2, v3⟩ := S1'.obj
    refine wpAny_bind (wpAny_setState_of v1 v3 S1'.fit ?_)
    dsimp only
    have fill : t1.fill = L1.length := by
      have h := S1.tab.size
      rw [List.length_map] at h
      show t1.place.size + t1.dummies.size = _
      rw [S1.tab.none_, h]; rfl
    have ll := pm.length_eq
    by_cases c0 : L = []
    · subst c0
      have l1 : L1 = [] := List.Perm.eq_nil pm
      have f0 : t1.fill = 0 := by rw [fill, l1]; rfl
      have seen : ∀ x : Bool, x = (t1.led && to.led) → w.params.followText "set-order" = true ∨ x = true := fun x e => by
        rcases S1.seen with z | z
        · exact .inl z
        · rcases R1.seen with y | y
          · exact .inl y
          · right; rw [e, z, y]; rfl
      have has : ∀ N : List (Addr × List Int), N.Perm M → Has [] M M N := fun N p => ⟨fun y hy => .inr (p.mem_iff.mp hy), fun k => by rw [(p.map (·.2)).mem_iff]; simp, by rw [p.length_eq]; show M.length ≤ 0 + M.length; omega⟩
      by_cases c1 : (t1.mask == to.mask && to.dummies.isEmpty) = true
      · have rd : t1.road to = .slotForSlot := by
          unfold SetTable.road
          rw [f0, if_neg (by decide), if_pos c1]
        rw [rd]
        dsimp only
        refine wpAny_storeSet_of v1 v3 ?_ (by rw [cnt, sizeLine_eq]; omega)
        have sb2 : Heap.SameBut a h1 (h1.update a (Obj.putSet eo { to with finger := t1.finger, led := t1.led && to.led, moves := t1.moves, plain := t1.plain && to.plain })) := Heap.SameBut.update ..
        refine q _ M eo (ep1 + 1) _ (sb.trans sb2) ⟨⟨_, store_at v1 v3, ⟨v2.1, v2.2.1, v2.2.2⟩, rfl⟩, R1.row, ⟨R1.tab.up, R1.tab.none_, R1.tab.size, R1.tab.msk, R1.tab.low, R1.tab.find⟩, R1.once, fun p hp => isT_same (R1.keys p hp) v1 v3 sb2, ?_, seen _ rfl, R1.wide, R1.most⟩ (has M (List.Perm.refl M))
        show (t1.plain && to.plain) = true
        rw [S1.flat, R1.flat]; rfl
      · have rd : t1.road to = .clean := by
          unfold SetTable.road
          rw [f0, if_neg (by decide), if_neg c1]
        rw [rd]
        dsimp only
        have l0 : L1.length = 0 := by rw [l1]; rfl
        obtain ⟨t', order, e1, e2, e3, e4, e5, e6⟩ := laid_tab S1.tab.msk t1.finger t1.moves (t1.led && to.led) (t1.plain && to.plain) (hs := eo.map (·.1)) (by rw [Array.size_map, cnt]; omega)
        rw [Array.size_map, cnt] at e2
        obtain ⟨N, r1, r2, r3⟩ := order_rows M eo order R1.row e2
        rw [← r3] at e3
        have sz' : (order.filterMap (eo[·]?)).size = eo.size := by
          rw [cnt, ← r2.length_eq, ← Array.length_toList, r1]; exact List.length_map _
        rw [e1]
        refine wpAny_bind ?_
        show wpAny (model P w) A (if (Array.size _ != Array.size _) = true then _ else _) _ E _
        refine wp_if_neg (by rw [sz']; simp) ?_
        try refine wpAny_bind (wpAny_pure ?_)
        refine wpAny_pure ?_
        dsimp only
        refine wpAny_storeSet_of v1 v3 ?_ (by rw [sz', cnt, sizeLine_eq]; omega)
        have sb2 : Heap.SameBut a h1 (h1.update a (Obj.putSet (order.filterMap (eo[·]?)) t')) := Heap.SameBut.update ..
        refine q _ N _ (ep1 + 1) t' (sb.trans sb2) ⟨⟨_, store_at v1 v3, ⟨v2.1, v2.2.1, v2.2.2⟩, rfl⟩, r1, e3, (r2.map (·.2)).nodup_iff.mpr R1.once, fun p hp => isT_same (R1.keys p (r2.mem_iff.mp hp)) v1 v3 sb2, ?_, seen _ e5, ?_, by rw [r2.length_eq]; exact R1.most⟩ (has N r2)
        · rw [e6, S1.flat, R1.flat]; rfl
        · rw [r2.length_eq, e4]; omega
    · have rd : t1.road to = .oneByOne := by
        unfold SetTable.road
        have nz : L.length ≠ 0 := fun z => c0 (List.eq_nil_of_length_eq_zero z)
        have nb : (t1.fill != 0) = true := by rw [fill, ll]; exact bne_iff_ne.mpr nz
        rw [if_pos nb]
      rw [rd]
      dsimp only
      refine wpAny_bind (walked R1 fun xs px => ?_)
      obtain ⟨M', p1, p2⟩ := perm_lift (f := fun p : Addr × List Int => (thash P w p.2, Value.ref p.1)) px
      have p3 : xs.toList = rowsOf P w M' := p2.symm
      refine wpAny_bind ?_
      rw [← Array.forIn_toList, p3]
      refine wpAny_forIn_list _ (fun rest r s' => ∃ done todo h' N es' ep' t', rest = rowsOf P w todo ∧ M' = done ++ todo ∧ s' = { s with heap := h' } ∧ Heap.SameBut a s.heap h' ∧ Sg P w h' a N es' ep' t' ∧ Has L M done N) _ ?_ ?_ _ _ ⟨[], M', h1, L1, es1, ep1, t1, rfl, rfl, rfl, sb, S1, Has.start pm⟩
      · rintro x rest r s' ⟨done, todo, h', N, es', ep', t', er, em, rfl, sb', S', hs⟩
        cases todo with
        | nil => cases er
        | cons y todo =>
          obtain ⟨ex, er2⟩ := List.cons.inj (show x :: rest = (thash P w y.2, Value.ref y.1) :: rowsOf P w todo from er)
          subst ex
          have my : y ∈ M := p1.mem_iff.mp (by rw [em]; exact List.mem_append_right _ List.mem_cons_self)
          have ky : IsT P w h' y.2 y.1 := isT_same (R.keys y my) o1 o3 sb'
          have hl : N.length ≤ L.length + done.length := hs.len
          have lm : M'.length = M.length := p1.length_eq
          rw [em, List.length_append, List.length_cons] at lm
          refine wpAny_bind (wpAny_holding (addOne (s := { s with heap := h' }) S' ky cap (by omega) fun bb h2 N2 es2 ep2 t2 sb2 S2 a1 a2 => ?_))
          have sb3 := sb'.trans sb2
          have same : h2.get? b = s.heap.get? b := sb3.2 b (Ne.symm ab)
          refine wpAny_bind (he { s with heap := h2 } _ same ?_)
          refine wpAny_bind (wpAny_setState_of (s := { s with heap := h2 }) (same.trans u1) u3 R.fit ?_)
          dsimp only
          refine wp_if_neg (by simp) ?_
          refine wpAny_pure ⟨done ++ [y], todo, h2, N2, es2, ep2, t2, er2, by rw [em, List.append_assoc]; rfl, rfl, sb3, S2, hs.step my a1 a2⟩
      · rintro r s' ⟨done, todo, h', N, es', ep', t', er, em, rfl, sb', S', hs⟩
        cases todo with
        | cons y l => cases er
        | nil =>
          rw [List.append_nil] at em
          subst em
          have kd : ∀ k, k ∈ M'.map (·.2) ↔ k ∈ M.map (·.2) := fun k => (p1.map (·.2)).mem_iff
          exact wpAny_pure (q h' N es' ep' t' sb' S' ⟨hs.from_, fun k => by rw [hs.keys, kd], by rw [← p1.length_eq]; exact hs.len⟩)
end
end Cs
-- CsSetOps
/-! a | b, set(d), sorted(a). -/
namespace Cs
open PySem PyProof.Rows L2
section
variable {P : Program} {w : World} {A : Around} {E : Value → Shared → Prop} {s : Shared} {a b : Addr} {L M : List (Addr × List Int)} {es eo : Array (Int × Value)} {ep epo : Nat} {t to : SetTable}
theorem Sg.isSet (S : Sg P w s.heap a L es ep t) : s.TypeIs (.ref a) "set" := by
  obtain ⟨o, o1, o2, _⟩ := S.obj
  exact ⟨o, o1, o2.1⟩
theorem any_set (h : s.TypeIs (.ref a) "set") {Q : Bool → Shared → Prop} (q : Q true s) : wpAny (model P w) A (Builtin.Frozenset.isAnySet (.ref a)) Q E s := by
  unfold Builtin.Frozenset.isAnySet orM
  refine wpAny_bind (wpAny_isInstance h sub_set_self ?_)
  exact wpAny_pure q
theorem base_set (h : s.TypeIs (.ref a) "set") {Q : Value → Shared → Prop} (q : Q (.type "set") s) : wpAny (model P w) A (Builtin.Frozenset.baseOf a) Q E s := by
  unfold Builtin.Frozenset.baseOf
  refine wpAny_bind (wpAny_isInstance h sub_set_self ?_)
  exact wpAny_pure q
/-- the object of a new set -/
abbrev bare (w : World) : Obj := { cls := .type "set", dict := none, data := .set #[] 0 (.fresh 0 0 (!w.params.followText "set-order")) }
theorem set_new {Q : Value → Shared → Prop} (q : Q (.ref s.heap.objs.size) { s with heap := s.heap.push (bare w) }) : wpAny (model P w) A (newSet (.type "set")) Q E s := by
  unfold newSet
  refine wpAny_bind (wpAny_byText ?_)
  dsimp only
  simp only [newObj]
  exact wpAny_bind (wpAny_alloc (wpAny_pure q))
theorem sg_new {h : Heap} (o : h.get? a = some (bare w)) : Sg P w h a [] #[] 0 (.fresh 0 0 (!w.params.followText "set-order")) := by
  refine ⟨⟨_, o, ⟨rfl, rfl, rfl⟩, rfl⟩, rfl, ⟨List.Pairwise.nil, rfl, rfl, msk7, fun x hx => (by cases hx), fun i h j z => (by simp at z)⟩, List.nodup_nil, fun p hp => (by cases hp), rfl, ?_, (by decide : 0 * 5 < 7 * 3), (by decide : 0 ≤ 60)⟩
  cases e : w.params.followText "set-order" with
  | true => exact .inl rfl
  | false => exact .inr rfl
/-- a copy of a set -/
theorem copied (S : Sg P w s.heap a L es ep t) (few : L.length ≤ 36) (cap : A.units < cLine) {Q : Value → Shared → Prop}
    (q : ∀ h' N es' ep' t', (∀ c o, s.heap.get? c = some o → h'.get? c = some o) → Sg P w h' s.heap.objs.size N es' ep' t' → Has [] L L N → Q (.ref s.heap.objs.size) { s with heap := h' }) : wpAny (model P w) A (Builtin.Frozenset.copyOf a) Q E s := by
  obtain ⟨o, o1, o2, o3⟩ := S.obj
  have lt : a < s.heap.objs.size := Heap.lt_size o1
  unfold Builtin.Frozenset.copyOf
  refine wpAny_bind (base_set S.isSet (wpAny_bind (set_new ?_)))
  have fresh : (s.heap.push (bare w)).get? s.heap.objs.size = some (bare w) := Heap.get?_push_size _ rfl
  have kp : ∀ c u, s.heap.get? c = some u → (s.heap.push (bare w)).get? c = some u := fun c u e => Heap.get?_push_of_some _ e
  have S0 : Sg P w ({ s with heap := s.heap.push (bare w) } : Shared).heap s.heap.objs.size [] #[] 0 (.fresh 0 0 (!w.params.followText "set-order")) := sg_new fresh
  have R0 : Sg P w ({ s with heap := s.heap.push (bare w) } : Shared).heap a L es ep t := S.same (kp a) fun p hp => isT_keep (S.keys p hp) kp
  have keep : ∀ h', Heap.SameBut s.heap.objs.size (s.heap.push (bare w)) h' → ∀ c u, s.heap.get? c = some u → h'.get? c = some u := fun h' sb c u e => (sb.2 c (Nat.ne_of_lt (Heap.lt_size e))).trans (kp c u e)
  unfold Builtin.Frozenset.addrOf
  refine wpAny_bind (wpAny_pure ?_)
  refine wpAny_bind (taken S0 R0 (Nat.ne_of_gt lt) (by show 0 + L.length ≤ 36; omega) (fun s' Q' _ z => wpAny_pure z) cap fun h' N es' ep' t' sb S' hs => ?_)
  exact wpAny_pure (q h' N es' ep' t' (keep h' sb) S' hs)
theorem entry_set_or : entryFor table "set.__or__" = some Builtin.«frozenset.__or__» := entryFor_alias (id' := "frozenset.__or__") (by kernel_rfl) rfl (by decide +kernel) (by kernel_rfl)
theorem args2 (a b : Value) : argsOk "set.__or__" ⟨[a, b], []⟩ := PySem.F.args_set_or_2 a b
/-- a | b -/
theorem union_ (S : Sg P w s.heap a L es ep t) (R : Sg P w s.heap b M eo epo to) (ab : a ≠ b) (few : L.length + M.length ≤ 36) (cap : A.units + 4 < cLine) {Q : Value → Shared → Prop}
    (q : ∀ h' N es' ep' t', (∀ c o, s.heap.get? c = some o → h'.get? c = some o) → Sg P w h' s.heap.objs.size N es' ep' t' → Has L M M N → Q (.ref s.heap.objs.size) { s with heap := h' }) : wpAny (model P w) A (binaryOp .BitOr (.ref a) (.ref b)) Q E s := by
  refine wpAny_binaryOp_same S.isSet R.isSet PySem.F.fills_set_or PySem.F.slot_set_or ?_
  refine wpAny_call_entry PySem.F.slot_set_or S.isSet entry_set_or ?_ (args2 _ _)
  unfold Builtin.«frozenset.__or__»
  show wpAny (model P w) A.in1 (Builtin.Frozenset.slot1 "__or__" _ >>= _) _ E s
  have e1 : Builtin.Frozenset.slot1 "__or__" ⟨[.ref a, .ref b], []⟩ = pure (.ref a, .ref b) := by
    simp [Builtin.Frozenset.slot1, slotArgs]
  rw [e1]
  refine wpAny_bind (wpAny_pure ?_)
  dsimp only
  simp only [Bool.false_eq_true, if_false]
  refine wpAny_bind ?_
  unfold andM
  refine wpAny_bind (any_set S.isSet ?_)
  dsimp only [toBool]
  refine any_set R.isSet ?_
  simp only [Bool.not_true, Bool.false_eq_true, if_false]
  unfold Builtin.Frozenset.addrOf
  refine wpAny_bind (wpAny_pure ?_)
  refine wpAny_bind ?_
  show wpAny (model P w) A.in1 (Builtin.Frozenset.copyOf a >>= _) _ E s
  have cap1 : A.in1.units < cLine := by
    have : A.in1.units ≤ A.units + 4 := by first | exact Nat.le_refl _ | (show A.units + _ ≤ A.units + 4; omega)
    omega
  refine wpAny_bind (copied S (by omega) cap1 fun h1 N1 es1 ep1 t1 kp S1 hs1 => ?_)
  have ne : (Value.ref b != Value.ref a) = true := by simp [Ne.symm ab]
  refine wp_if_pos ne ?_
  obtain ⟨u, u1, u2, u3⟩ := R.obj
  have lt : b < s.heap.objs.size := Heap.lt_size u1
  have u1' : ({ s with heap := h1 } : Shared).heap.get? b = some u := kp b u u1
  have R1 : Sg P w ({ s with heap := h1 } : Shared).heap b M eo epo to := R.same (kp b) fun p hp => isT_keep (R.keys p hp) kp
  have S1' : Sg P w ({ s with heap := h1 } : Shared).heap s.heap.objs.size N1 es1 ep1 t1 := S1
  unfold Builtin.Frozenset.addrOf
  refine wpAny_bind (wpAny_pure ?_)
  refine wpAny_bind (wpAny_holding ?_)
  unfold Builtin.Frozenset.updateFrom
  refine wpAny_bind (any_set R1.isSet ?_)
  refine wp_if_pos rfl ?_
  unfold Builtin.Frozenset.addrOf
  refine wpAny_bind (wpAny_pure ?_)
  unfold Builtin.Frozenset.merge setEpoch
  refine wpAny_bind (wpAny_bind (wpAny_setState_of u1' u3 R1.fit (wpAny_pure ?_)))
  have le1 : N1.length ≤ L.length := by
    have := hs1.len
    have z : ([] : List (Addr × List Int)).length = 0 := rfl
    omega
  refine taken S1' R1 (Nat.ne_of_gt lt) (by omega) (fun s' Q' e z => ?_) cap1 fun h2 N es2 ep2 t2 sb S2 hs2 => ?_
  · unfold Builtin.Frozenset.unchanged setEpoch
    refine wpAny_bind (wpAny_bind (wpAny_setState_of (e.trans u1') u3 R1.fit (wpAny_pure ?_)))
    refine wp_if_neg (by simp) ?_
    exact wpAny_pure z
  · refine wpAny_pure (wpAny_pure ⟨_, rfl, fun z => (by cases z), ?_⟩)
    refine q h2 N es2 ep2 t2 (fun c o e => (sb.2 c (Nat.ne_of_lt (Heap.lt_size e))).trans (kp c o e)) S2 ⟨fun p hp => ?_, fun k => ?_, Nat.le_trans hs2.len (Nat.add_le_add_right le1 _)⟩
    · rcases hs2.from_ p hp with z | z
      · rcases hs1.from_ p z with y | y
        · cases y
        · exact .inl y
      · exact .inr z
    · rw [hs2.keys, hs1.keys]
      simp
end
end Cs
-- CsSetDict
namespace Cs
open PySem PyProof.Rows L2
section
variable {P : Program} {w : World} {A : Around} {E : Value → Shared → Prop} {s : Shared}
/-- the keys of a dict put into a set, one by one -/
theorem from_dict {a d : Addr} {o : Obj} {de : Array DictEntry} {ep : Nat} {ks : List (Addr × List Int)} {id : String} (o1 : s.heap.get? d = some o) (o2 : o.ExactDict) (o3 : o.data = .dict de ep) (sm : (d == sysModules) = false)
    (ent : de.toList.map (fun e => (e.key, e.hash)) = ks.map fun p => (Value.ref p.1, thash P w p.2)) (keys : ∀ p ∈ ks, IsT P w s.heap p.2 p.1) (few : ks.length ≤ 36) (na : s.heap.get? a = some (bare w)) (cap : A.units < cLine) {Q : Unit → Shared → Prop}
    (q : ∀ h' N es' ep' t', Heap.SameBut a s.heap h' → Sg P w h' a N es' ep' t' → Has [] ks ks N → Q () { s with heap := h' }) : wpAny (model P w) A (Builtin.Frozenset.updateFrom id a (.ref d)) Q E s := by
  have isD : s.TypeIs (.ref d) "dict" := ⟨o, o1, o2.1⟩
  have ad : a ≠ d := fun e => by
    rw [e, o1] at na
    cases na
    cases o3
  have cnt : de.size = ks.length := by
    have := congrArg List.length ent
    rw [List.length_map, List.length_map, Array.length_toList] at this
    exact this
  unfold Builtin.Frozenset.updateFrom Builtin.Frozenset.isAnySet orM
  refine wpAny_bind (wpAny_bind (wpAny_isInstance isD PySem.F.sub_dict_set ?_))
  refine wpAny_isInstance isD PySem.F.sub_dict_frozenset ?_
  refine wp_if_neg Bool.false_ne_true ?_
  try refine wpAny_bind (wpAny_pure ?_)
  refine wpAny_bind (wpAny_typeOf isD ?_)
  refine wp_if_pos (by decide) ?_
  refine wpAny_bind (wpAny_rule ?_)
  unfold Builtin.Frozenset.addrOf
  refine wpAny_bind (wpAny_pure ?_)
  refine wp_if_neg (by rw [sm]; exact Bool.false_ne_true) ?_
  try refine wpAny_bind (wpAny_pure ?_)
  refine wpAny_bind (wpAny_dictEpoch o1 o3 ?_)
  refine wpAny_bind (wpAny_dictEntries o1 o3 ?_)
  have S0 : Sg P w s.heap a [] #[] 0 (.fresh 0 0 (!w.params.followText "set-order")) := sg_new na
  rw [cnt]
  refine wpAny_bind (room S0 (by show 0 + ks.length ≤ 60; omega) fun h1 L1 es1 ep1 t1 sb S1 pm _ => ?_)
  have l1 : L1 = [] := List.Perm.eq_nil pm
  subst l1
  have at_d : ∀ h', Heap.SameBut a s.heap h' → h'.get? d = some o := fun h' b => (b.2 d (Ne.symm ad)).trans o1
  refine wpAny_bind (wpAny_dictEntries (at_d h1 sb) o3 ?_)
  rw [cnt]
  refine wpAny_bind ?_
  refine TI.forIn_rng _ (fun rest r s' => ∃ done todo h' N es' ep' t', rest = List.range' done.length todo.length ∧ ks = done ++ todo ∧ s' = { s with heap := h' } ∧ Heap.SameBut a s.heap h' ∧ Sg P w h' a N es' ep' t' ∧ Has [] ks done N) _ ?_ ?_ _ ⟨[], ks, h1, [], es1, ep1, t1, rfl, rfl, rfl, sb, S1, Has.start pm⟩
  · rintro i rest r s' ⟨done, todo, h', N, es', ep', t', er, em, rfl, sb', S', hs⟩
    cases todo with
    | nil => cases er
    | cons y todo =>
      rw [List.length_cons, List.range'_succ] at er
      obtain ⟨ei, er2⟩ := List.cons.inj er
      subst ei
      have at_i : ks[done.length]? = some y := by
        rw [em, List.getElem?_append_right (Nat.le_refl _), Nat.sub_self]; rfl
      obtain ⟨en, h1e, h2e⟩ : ∃ en, de[done.length]? = some en ∧ (en.key, en.hash) = (Value.ref y.1, thash P w y.2) := by
        have g := congrArg (fun l => l[done.length]?) ent
        simp only [List.getElem?_map, at_i, Option.map_some] at g
        obtain ⟨en, g1, g2⟩ := Option.map_eq_some_iff.mp g
        rw [Array.getElem?_toList] at g1
        exact ⟨en, g1, g2⟩
      obtain ⟨k1, k2⟩ := Prod.mk.inj h2e
      have my : y ∈ ks := List.mem_of_getElem? at_i
      obtain ⟨ob, ob1, _, ob3⟩ := S0.obj
      have ky : IsT P w h' y.2 y.1 := isT_same (keys y my) ob1 ob3 sb'
      have ln := congrArg List.length em
      rw [List.length_append, List.length_cons] at ln
      have hl := hs.len
      have z : ([] : List (Addr × List Int)).length = 0 := rfl
      refine wpAny_bind (wpAny_dictEntries (at_d h' sb') o3 ?_)
      rw [h1e]
      dsimp only
      rw [k1, k2]
      refine wpAny_bind (wpAny_holding (addOne (s := { s with heap := h' }) S' ky cap (by omega) fun bb h2 N2 es2 ep2 t2 sb2 S2 a1 a2 => ?_))
      have sb3 := sb'.trans sb2
      refine wpAny_bind (wpAny_dictEpoch (s := { s with heap := h2 }) (at_d h2 sb3) o3 ?_)
      refine wp_if_neg (by simp) ?_
      refine wpAny_pure ⟨done ++ [y], todo, h2, N2, es2, ep2, t2, ?_, by rw [em, List.append_assoc]; rfl, rfl, sb3, S2, hs.step my a1 a2⟩
      rw [er2, List.length_append]; rfl
  · rintro r s' ⟨done, todo, h', N, es', ep', t', er, em, rfl, sb', S', hs⟩
    cases todo with
    | cons y l => cases er
    | nil =>
      rw [List.append_nil] at em
      subst em
      exact wpAny_pure (q h' N es' ep' t' sb' S' hs)
/-- set(d) -/
theorem set_call {d : Addr} {o : Obj} {de : Array DictEntry} {ep : Nat} {ks : List (Addr × List Int)} (o1 : s.heap.get? d = some o) (o2 : o.ExactDict) (o3 : o.data = .dict de ep) (sm : (d == sysModules) = false)
    (ent : de.toList.map (fun e => (e.key, e.hash)) = ks.map fun p => (Value.ref p.1, thash P w p.2)) (keys : ∀ p ∈ ks, IsT P w s.heap p.2 p.1) (few : ks.length ≤ 36) (cap : A.units + 8 < cLine) {Q : Value → Shared → Prop}
    (q : ∀ h' N es' ep' t', (∀ c o, s.heap.get? c = some o → h'.get? c = some o) → Sg P w h' s.heap.objs.size N es' ep' t' → Has [] ks ks N → Q (.ref s.heap.objs.size) { s with heap := h' }) : wpAny (model P w) A (call (.type "set") [.ref d]) Q E s := by
  obtain ⟨mc, mt, mro_⟩ := PySem.F.called_set.mro
  have made_ := PySem.F.called_set.made
  have sub_ := PySem.F.called_set.sub
  have not_ := PySem.F.called_set.notType
  have can_ := PySem.F.called_set.canCreate
  have ok_ := PySem.F.typeCall_set_1 (.ref d)
  refine wpAny_call ?_
  refine codeAny_of_tree ?_
  show wpAny _ _ (callAny (.type "set") _) _ _ _
  refine wpAny_pure ⟨Code.quiet_builtin _ (by decide +kernel), ?_⟩
  refine codeAny_builtin PySem.F.entry_type_call ?_
  rw [Around.under_plain (weight_type_call_type "set" [Value.ref d] []) rfl]
  repeat (any_goals (first | assumption | wp_step))
  have fresh : (s.heap.push (bare w)).get? s.heap.objs.size = some (bare w) := Heap.get?_push_size _ rfl
  have kp : ∀ c u, s.heap.get? c = some u → (s.heap.push (bare w)).get? c = some u := fun c u e => Heap.get?_push_of_some _ e
  refine codeAny_mono (code_set_led1 (.ref d) (E := E) (Q₁ := fun v s1 => v = .ref s.heap.objs.size ∧ s1 = { s with heap := s.heap.push (bare w) }) ⟨rfl, rfl⟩) fun r s1 g => ?_
  cases r with
  | error e => exact g
  | ok fl =>
    cases fl with
    | next => exact g.elim
    | brk => exact g.elim
    | cont => exact g.elim
    | ret v =>
      obtain ⟨rfl, rfl⟩ := g
      have isS : Shared.TypeIs { s with heap := s.heap.push (bare w) } (.ref s.heap.objs.size) "set" := ⟨_, fresh, rfl⟩
      have li_ := PySem.F.called_set.init.lookup
      have bi_ := PySem.F.called_set.init.bind (.ref s.heap.objs.size)
      repeat (any_goals (first | assumption | wp_step))
      refine codeAny_mono (codeAny_call_builtin (R := wants (fun r s2 => r = .none ∧ ∃ h' N es' ep' t', s2 = { s with heap := h' } ∧ (∀ c o, s.heap.get? c = some o → h'.get? c = some o) ∧ Sg P w h' s.heap.objs.size N es' ep' t' ∧ Has [] ks ks N) E)
        PySem.F.called_set.init.plain PySem.F.entry_set_init (check_set_init_1 isS ?_)) fun r2 s2 g2 => ?_
      · unfold Builtin.«set.__init__» noKeywords
        generalize eU : Builtin.Frozenset.updateFrom = U
        wp_walk
        subst eU
        have cap2 : A.in1.in1.units < cLine := by
          have : A.in1.in1.units ≤ A.units + 8 := by first | exact Nat.le_refl _ | (show A.units + _ + _ ≤ A.units + 8; omega) | (show A.units + _ ≤ A.units + 8; omega)
          omega
        refine from_dict (s := { s with heap := s.heap.push (bare w) }) (kp d o o1) o2 o3 sm ent (fun p hp => isT_keep (keys p hp) kp) few fresh cap2 fun h' N es' ep' t' sb S' hs => ?_
        refine wpAny_pure ⟨rfl, h', N, es', ep', t', rfl, fun c u e => ?_, S', hs⟩
        exact (sb.2 c (Nat.ne_of_lt (Heap.lt_size e))).trans (kp c u e)
      · cases r2 with
        | error e => exact g2
        | ok fl2 =>
          cases fl2 with
          | next => exact g2.elim
          | brk => exact g2.elim
          | cont => exact g2.elim
          | ret v2 =>
            obtain ⟨rfl, h', N, es', ep', t', rfl, k1, k2, k3⟩ := g2
            repeat (any_goals (first | assumption | wp_step))
            exact q h' N es' ep' t' k1 k2 k3
end
end Cs
-- CsCluster
namespace Cs
open PySem PySem.Spec PyProof.Rows L2
abbrev clNames : List Str := ["place", "end", "ours", "theirs"]
/-- a cluster, as an object -/
def ClA (C : Addr) (H : Hp) (a oa ta : Addr) (c : Cl) : Prop := ∃ dx, H a = some (.ins C dx [("place", nv c.place), ("end", nv c.fin), ("ours", .ref oa), ("theirs", .ref ta)]) ∧ TrisAt H oa c.ours ∧ TrisAt H ta c.theirs ∧ oa ≠ ta
theorem ClA.off {C : Addr} {H H' : Hp} {S : Addr → Prop} {a oa ta : Addr} {c : Cl} (h : ClA C H a oa ta c) (s : Off H H' S) (nt : ∀ y, S y → ∀ ys, H y ≠ some (.tup ys)) (n1 : ¬ S a) (n2 : ¬ S oa) (n3 : ¬ S ta) : ClA C H' a oa ta c := by
  obtain ⟨dx, h1, h2, h3, h4⟩ := h
  exact ⟨dx, s _ _ h1 n1, h2.out s nt n2, h3.out s nt n3, h4⟩
theorem ClA.same {C : Addr} {H H' : Hp} {a oa ta : Addr} {c : Cl} (h : ClA C H a oa ta c) (s : Same H H') : ClA C H' a oa ta c := by
  obtain ⟨dx, h1, h2, h3, h4⟩ := h
  exact ⟨dx, s _ _ h1, h2.same s, h3.same s, h4⟩
section
variable {P : Program} {w : World} {K : PySem.W.Frag} {mg : Str → Option Value} {base : Heap} {C : Addr}
abbrev sClInit : Stmt := inClass (top 43) 0
abbrev NClInit : List Str := ["self", "place"]
theorem scClInit : FnScope NClInit ["self", "place"] (defScope sClInit) := ⟨rfl, rfl, rfl, by decide +kernel, rfl, by decide +kernel, by decide +kernel⟩
/-- a new cluster -/
def spClInit (C : Addr) : Sp := fun vs H Q _ => ∃ (a dx : Addr) (n : Nat), vs = [.ref a, nv n] ∧ H a = some (.ins C dx []) ∧ ∀ H' oa ta, Off H H' (fun x => x = a) → H oa = none → H ta = none → ClA C H' a oa ta (Cl.fresh n) → Q .non H'
theorem ok_clInit (F : Mkd K mg "Cluster" C "Cluster.__init__" sClInit) (L : Kl K C clNames) (T : Tx mg) : C8.Mak P w K mg base 1 "Cluster" C (spClInit C) [] := by
  refine F.mak scClInit (fun _ _ _ _ _ _ us hl => match us, hl with | [_, _], _ => rfl) (fun vs H Q E h => ?_) (fun f cdv A outer s H vs Q E hr h => ?_)
  · obtain ⟨a, dx, n, rfl, _⟩ := h
    rfl
  · obtain ⟨a, dx, n, rfl, ha, k⟩ := h
    refine ⟨_, (pss_cons (ps_fld (pv 0) (pv 1) rfl)
      (pss_cons (ps_fld (pv 0) (pv 1) rfl)
      (pss_cons (ps_fld (pv 0) (pe_lst pa_nil) rfl)
      (pss_one (ps_fld (pv 0) (pe_lst pa_nil) rfl))))), ?_⟩
    refine rd_seq (rd_sfldV (anv_var rfl) (anv_var rfl) ha L.cls (L.nos _ (by simp)) (show 0 < 1000 by decide) ?_)
    refine rd_seq (rd_sfldV (anv_var rfl) (anv_var rfl) upd_same L.cls (L.nos _ (by simp)) (show 1 < 1000 by decide) ?_)
    refine rd_seq (rd_sfldL (fun _ => anv_var rfl) upd_same L.cls (L.nos _ (by simp)) (show 2 < 1000 by decide) fun oa hoa => ?_)
    refine rd_sfldL (fun _ => anv_var rfl) upd_same L.cls (L.nos _ (by simp)) (show 3 < 1000 by decide) fun ta hta => ?_
    have u1 : oa ≠ a := fun e => by
      rw [e, upd_same] at hoa; cases hoa
    have u2 : ta ≠ a := fun e => by
      rw [e, upd_same] at hta; cases hta
    rw [upd_ne u2] at hta
    have u3 : ta ≠ oa := fun e => by
      rw [e, upd_same] at hta; cases hta
    rw [upd_ne u3, upd_ne u2, upd_ne u2] at hta
    rw [upd_ne u1, upd_ne u1] at hoa
    refine k _ oa ta ?_ hoa hta ?_
    · intro x u hx n
      have n1 : x ≠ oa := ne_of_none hx hoa
      have n2 : x ≠ ta := ne_of_none hx hta
      rw [upd_ne n, upd_ne n2, upd_ne n, upd_ne n1, upd_ne n, upd_ne n]; exact hx
    · refine ⟨dx, ?_, ⟨[], ?_, rfl, fun x hx => by cases hx⟩, ⟨[], ?_, rfl, fun x hx => by cases hx⟩, fun e => u3 e.symm⟩
      · rw [upd_same]; rfl
      · rw [upd_ne u1, upd_ne fun e => u3 e.symm, upd_ne u1, upd_same]; rfl
      · rw [upd_ne u2, upd_same]; rfl
theorem anv_max {σ : L2.St} {H : Hp} {ta tb : TE} {i j : Nat} (ha : AnV ta σ H (nv i)) (hb : AnV tb σ H (nv j)) :
    AnV (tCB (fun xs H Q => ∃ i j : Int, xs = [.int i, .int j] ∧ Q (.int (if j > i then j else i)) H) (tCons ta (tCons tb tNil))) σ H (nv (max i j)) := fun R q => ha _ (hb _ ⟨(i : Int), (j : Int), rfl, by
  have e : (if (j : Int) > (i : Int) then (j : Int) else (i : Int)) = ((max i j : Nat) : Int) := by
    by_cases h : (j : Int) > (i : Int)
    · rw [if_pos h, Nat.max_eq_right (by omega)]
    · rw [if_neg h, Nat.max_eq_left (by omega)]
  rw [e]; exact q⟩)
theorem take_end {D : Ends} {H : Hp} {a dx oa ta t : Addr} {v1 : V} {c : Cl} {x : Tri} (L : Kl K C clNames)
    (h1 : H a = some (.ins C dx [("place", nv c.place), ("end", nv c.fin), ("ours", .ref oa), ("theirs", .ref ta)])) (ht : TriAt H t x)
    (q : D.nx [some (.ref a), some v1, some (.ref t)] (upd H a (.ins C dx [("place", nv c.place), ("end", nv (max c.fin (x.1 + x.2.1.length))), ("ours", .ref oa), ("theirs", .ref ta)]))) :
    sFld K (tVar 0) (tCB (fun xs H Q => ∃ i j : Int, xs = [.int i, .int j] ∧ Q (.int (if j > i then j else i)) H) (tCons (tFld K (tVar 0) "end") (tCons (tOp (rI0 fun i j => .int (i + j)) (tOp (rIxT K) (tVar 2) (tC (.int 0))) (tCB (rLenS K) (tCons (tOp (rIxT K) (tVar 2) (tC (.int 1))) tNil))) tNil))) "end" D [some (.ref a), some v1, some (.ref t)] H := by
  obtain ⟨b1, b2, g1, g2, g3⟩ := ht
  refine rd_sfldV (y := nv (max c.fin (x.1 + x.2.1.length))) (anv_max (anv_fld (anv_var rfl) h1 L.cls (L.nos _ (by simp)) rfl) (anv_to (anv_I0 (anv_ixT (i := 0) (anv_var rfl) anv_c (SqT.of g1) rfl) (anv_lenT (anv_ixT (i := 1) (anv_var rfl) anv_c (SqT.of g1) rfl) (SqT.of g2))) ?_)) (anv_var rfl) h1 L.cls (L.nos _ (by simp)) (show 4 < 1000 by decide) q
  show V.int ((x.1 : Int) + ((nvs x.2.1).length : Int)) = _
  rw [nvs_len]
  exact congrArg V.int (by omega)
abbrev sTakeIn : Stmt := inClass (top 43) 1
abbrev NTakeIn : List Str := ["self", "side", "hunk"]
theorem scTakeIn : FnScope NTakeIn ["self", "side", "hunk"] (defScope sTakeIn) := ⟨rfl, rfl, rfl, by decide +kernel, rfl, by decide +kernel, by decide +kernel⟩
/-- a hunk more -/
def spTakeIn (C : Addr) : Sp := fun vs H Q _ => ∃ (a t oa ta : Addr) (c : Cl) (x : Sid), vs = [.ref a, .int (if x.1 = true then 0 else 1), .ref t] ∧ ClA C H a oa ta c ∧ TriAt H t x.2 ∧ c.ours.length ≤ 100000 ∧ c.theirs.length ≤ 100000 ∧
  ∀ H', Off H H' (fun y => y = a ∨ y = oa ∨ y = ta) → ClA C H' a oa ta (c.add x) → Q .non H'
theorem ok_takeIn (F : Md K C "take_in" "Cluster.take_in" sTakeIn) (L : Kl K C clNames) (T : Tx mg) : C8.Met P w K mg base 1 C "take_in" (spTakeIn C) [] := by
  refine F.met L.cls scTakeIn (fun _ _ _ _ _ _ us hl => match us, hl with | [_, _, _], _ => rfl) (fun vs H Q E h => ?_) (fun f cdv A outer s H vs Q E hr h => ?_)
  · obtain ⟨a, t, oa, ta, c, x, rfl, _⟩ := h
    rfl
  · obtain ⟨a, t, oa, ta, c, ⟨b, x⟩, rfl, hc, ht, z1, z2, k⟩ := h
    have hc0 := hc
    obtain ⟨dx, h1, h2, h3, h4⟩ := hc
    refine ⟨_, (pss_cons (ps_if (pt_cmpR op_eq (pv 1) (C8.pe_gc (by rfl) T.c_OURS) (nomark _))
        (pss_one (ps_expr (pe_bm PySem.F.plainAttrs_list PySem.F.slot_list_append PySem.F.type_list_append mt_append (pe_fld (pv 0) rfl) (pa_cons (pv 2) pa_nil))))
        (pss_one (ps_expr (pe_bm PySem.F.plainAttrs_list PySem.F.slot_list_append PySem.F.type_list_append mt_append (pe_fld (pv 0) rfl) (pa_cons (pv 2) pa_nil)))))
      (pss_one (ps_fld (pv 0) (pe_callB (call_max2 rfl) (by rfl) T.max (by decide +kernel) (pa_cons (pe_fld (pv 0) rfl) (pa_cons (pe_op op_add (pe_ix ix_tup (pv 2) pe_int (fun _ _ => rfl)) (pe_callB call_lenS (by rfl) T.len PySem.boot_len (pa_cons (pe_ix ix_tup (pv 2) pe_int (fun _ _ => rfl)) pa_nil))) pa_nil))) rfl))), ?_⟩
    cases b with
    | true =>
      obtain ⟨xs, e1, e2, e3⟩ := h2.add ht
      refine rd_seq (rd_if (rd_test (rd_op (rd_var rfl (rd_c (rd_eqN (rd_bl (rd_dec (fun _ => ?_) fun e => (e rfl).elim))))))))
      refine rd_drop (rd_bm (rd_fld (anv_var rfl) h1 L.cls (L.nos _ (by simp)) rfl ⟨ty_lst e1, ?_⟩))
      refine rd_cons (rd_var rfl (rd_nil ?_))
      refine rd_append e1 (by rw [e2]; exact szl (by omega)) ?_
      have na : a ≠ oa := fun e => by
        rw [e, e1] at h1; cases h1
      have g1 : upd H oa (.lst (xs ++ [.ref t])) a = some (.ins C dx [("place", nv c.place), ("end", nv c.fin), ("ours", .ref oa), ("theirs", .ref ta)]) := by rw [upd_ne na]; exact h1
      have o1 : Off H (upd H oa (.lst (xs ++ [.ref t]))) (fun y => y = a ∨ y = oa ∨ y = ta) := Off.upd (.inr (.inl rfl))
      have ht1 : TriAt (upd H oa (.lst (xs ++ [.ref t]))) t x := ht.mut e1
      refine take_end L g1 ht1 ?_
      refine k _ (o1.trans (Off.upd (.inl rfl))) ?_
      have nt : ∀ y, y = a → ∀ ys, upd H oa (.lst (xs ++ [.ref t])) y ≠ some (.tup ys) := fun y e ys z => by
        rw [e, g1] at z; cases z
      refine ⟨dx, upd_same, ?_, ?_, h4⟩
      · rw [Cl.add_ours_t]
        exact e3.out (Off.upd (S := fun y => y = a) rfl) nt fun e => na e.symm
      · rw [Cl.add_theirs_t]
        have nt2 : ∀ y, y = oa → ∀ ys, H y ≠ some (.tup ys) := fun y e ys z => by
          rw [e, e1] at z; cases z
        refine (h3.out (Off.upd (S := fun y => y = oa) rfl) nt2 fun e => h4 e.symm).out (Off.upd (S := fun y => y = a) rfl) nt fun e => ?_
        obtain ⟨ys, z⟩ := h3.obj
        rw [e, h1] at z; cases z
    | false =>
      obtain ⟨xs, e1, e2, e3⟩ := h3.add ht
      refine rd_seq (rd_if (rd_test (rd_op (rd_var rfl (rd_c (rd_eqN (rd_bl (rd_dec (fun e => by cases e) fun _ => ?_))))))))
      refine rd_drop (rd_bm (rd_fld (anv_var rfl) h1 L.cls (L.nos _ (by simp)) rfl ⟨ty_lst e1, ?_⟩))
      refine rd_cons (rd_var rfl (rd_nil ?_))
      refine rd_append e1 (by rw [e2]; exact szl (by omega)) ?_
      have na : a ≠ ta := fun e => by
        rw [e, e1] at h1; cases h1
      have g1 : upd H ta (.lst (xs ++ [.ref t])) a = some (.ins C dx [("place", nv c.place), ("end", nv c.fin), ("ours", .ref oa), ("theirs", .ref ta)]) := by rw [upd_ne na]; exact h1
      have o1 : Off H (upd H ta (.lst (xs ++ [.ref t]))) (fun y => y = a ∨ y = oa ∨ y = ta) := Off.upd (.inr (.inr rfl))
      have ht1 : TriAt (upd H ta (.lst (xs ++ [.ref t]))) t x := ht.mut e1
      refine take_end L g1 ht1 ?_
      refine k _ (o1.trans (Off.upd (.inl rfl))) ?_
      have nt : ∀ y, y = a → ∀ ys, upd H ta (.lst (xs ++ [.ref t])) y ≠ some (.tup ys) := fun y e ys z => by
        rw [e, g1] at z; cases z
      refine ⟨dx, upd_same, ?_, ?_, h4⟩
      · rw [Cl.add_ours_f]
        have nt2 : ∀ y, y = ta → ∀ ys, H y ≠ some (.tup ys) := fun y e ys z => by
          rw [e, e1] at z; cases z
        refine (h2.out (Off.upd (S := fun y => y = ta) rfl) nt2 fun e => h4 e).out (Off.upd (S := fun y => y = a) rfl) nt fun e => ?_
        obtain ⟨ys, z⟩ := h2.obj
        rw [e, h1] at z; cases z
      · rw [Cl.add_theirs_f]
        exact e3.out (Off.upd (S := fun y => y = a) rfl) nt fun e => na e.symm
end
end Cs
-- CsSortTri
/-! sorted(l), l a list of triples (int, int, object) whose two numbers differ from triple to triple. -/
namespace Cs
open PySem PySem.Spec PyProof.Rows L2 SrtO
/-- a triple in the heap -/
def T3 (h : Heap) (v : Value) (x y : Int) (z : Value) : Prop := ∃ (a : Addr) (o : Obj) (t u : Tok) (n : Nat), v = .ref a ∧ h.get? a = some o ∧ o.cls = .type "tuple" ∧ o.data = .seq #[.int x t, .int y u, z] n
theorem T3.keep {h h' : Heap} {v : Value} {x y : Int} {z : Value} : T3 h v x y z → (∀ b o, h.get? b = some o → o.cls = .type "tuple" → h'.get? b = some o) → T3 h' v x y z := by
  rintro ⟨a, o, t, u, n, e1, e2, e3, e4⟩ k
  exact ⟨a, o, t, u, n, e1, k a o e2 e3, e3, e4⟩
theorem firsts3 {h : Heap} : ∀ {vs : List Value}, (∀ v ∈ vs, ∃ x y z, T3 h v x y z) → ∃ fs : List Value, PySem.W.KatTups h vs fs ∧ fs.length = vs.length ∧ ∀ f ∈ fs, ∃ x t, f = Value.int x t
  | [], _ => ⟨[], .nil, rfl, fun f q => by cases q⟩
  | v :: vs, g => by
    obtain ⟨fs, a1, a2, a3⟩ := firsts3 fun q m => g q (List.mem_cons_of_mem v m)
    obtain ⟨x, y, z, a, o, t, u, n, rfl, e2, e3, e4⟩ := g v List.mem_cons_self
    refine ⟨.int x t :: fs, .cons e2 e3 e4 rfl a1, congrArg Nat.succ a2, ?_⟩
    intro f m
    cases m with
    | head => exact ⟨x, t, rfl⟩
    | tail _ m => exact a3 f m
section
variable {prog : Program} {w : World} {A : Around} {E : Value → Shared → Prop} {s : Shared}
theorem cmp3 {vs : List Value} {k : Value → Int × Int} (hp : ∀ v ∈ vs, ∃ z, T3 s.heap v (k v).1 (k v).2 z) (inj : ∀ v ∈ vs, ∀ u ∈ vs, k v = k u → v = u) : Cmp prog w A s (tuples' true) (fun p => p.1 ∈ vs) (lt2 fun v u => lexB (k v) (k u)) := by
  rintro ⟨v, v'⟩ ⟨u, u'⟩ (m1 : v ∈ vs) (m2 : u ∈ vs)
  show wpAny (model prog w) A (keyLt' (tuples' true) v u) (fun r s' => s' = s ∧ r = lexB (k v) (k u)) (fun _ _ => False) s
  obtain ⟨z, a, o, t1, t2, n, rfl, e2, _, e4⟩ := hp v m1
  obtain ⟨z', a', o', t1', t2', n', rfl, e2', _, e4'⟩ := hp u m2
  refine PySem.W.kat_lt e2 e4 e2' e4' ?_
  refine PySem.W.kat_cons (SeqAt.EqAt.int_int (k (.ref a)).1 t1 (k (.ref a')).1 t1' prog w _ _ ?_)
  refine PySem.W.kat_go (fun q => ?_) fun q => ?_
  · have q1 : (k (.ref a)).1 = (k (.ref a')).1 := by simpa using q
    refine PySem.W.kat_yes ?_
    refine PySem.W.kat_cons (SeqAt.EqAt.int_int (k (.ref a)).2 t2 (k (.ref a')).2 t2' prog w _ _ ?_)
    refine PySem.W.kat_go (fun q => ?_) fun q => ?_
    · have q2 : (k (.ref a)).2 = (k (.ref a')).2 := by simpa using q
      have same := inj _ m1 _ m2 (Prod.ext q1 q2)
      cases same
      have hz : z = z' := by
        have g := e2.symm.trans e2'
        cases g
        have g := e4.symm.trans e4'
        simp at g
        exact g.1.2.2
      subst hz
      refine PySem.W.kat_yes (PySem.W.kat_cons (SeqAt.EqAt.same z prog w _ _ ?_))
      refine PySem.W.kat_yes (PySem.W.kat_nil ⟨rfl, ?_⟩)
      rw [lexB_no.mpr (by omega)]; rfl
    · have q2 : (k (.ref a)).2 ≠ (k (.ref a')).2 := by simpa using q
      refine PySem.W.kat_no (TS.oneLt_ints _ ⟨rfl, ?_⟩)
      show _ = lexB _ _
      unfold lexB
      rw [if_pos q1]
  · have q1 : (k (.ref a)).1 ≠ (k (.ref a')).1 := by simpa using q
    refine PySem.W.kat_no (TS.oneLt_ints _ ⟨rfl, ?_⟩)
    show _ = lexB _ _
    unfold lexB
    rw [if_neg q1]
theorem able3 {a : Addr} {vs : List Value} {k : Value → Int × Int} (h0 : 0 < vs.length) (hp : ∀ v ∈ vs, ∃ z, T3 s.heap v (k v).1 (k v).2 z) (inj : ∀ v ∈ vs, ∀ u ∈ vs, k v = k u → v = u) (ha : ∀ o, s.heap.get? a = some o → o.cls ≠ .type "tuple") :
    SortableO prog w A s a vs fun v u => lexB (k v) (k u) := by
  intro h' keep
  have hp' : ∀ v ∈ vs, ∃ z, T3 h' v (k v).1 (k v).2 z := fun v m => (hp v m).imp fun z q => q.keep fun b o g c => keep b o (fun e => ha o (e ▸ g) c) g
  obtain ⟨fs, f1, f2, f3⟩ := firsts3 (h := h') (vs := vs) fun v m => (hp' v m).imp' (fun _ => (k v).1) fun z q => ⟨(k v).2, z, q⟩
  refine ⟨tuples' true, fun Q E hq => PySem.W.kat_kind (T := .type "int") f1 (f2 ▸ h0) (fun f m => ?_) rfl ?_, cmp3 hp' inj⟩
  · obtain ⟨x, t, rfl⟩ := f3 f m
    exact PySem.W.Looks.now
  · have e : (Value.type "int" != Value.type "tuple") = true := by decide +kernel
    rw [e]; exact hq
theorem sorted3 {l : Addr} {vs : List Value} {k : Value → Int × Int} {Q : Value → Shared → Prop} (hl : s.heap.IsList l vs.toArray) (hz : vs.length ≤ sizeLine) (hp : ∀ v ∈ vs, ∃ z, T3 s.heap v (k v).1 (k v).2 z) (inj : ∀ v ∈ vs, ∀ u ∈ vs, k v = k u → v = u)
    (h : ∀ (h' : Heap) (d : Addr) (out : List Value), Srtd (fun v u => lexB (k v) (k u)) out → Stb (fun v u => lexB (k v) (k u)) out vs → (∀ b o, s.heap.get? b = some o → h'.get? b = some o) → s.heap.objs.size ≤ d → (∃ n, h'.get? d = some (seqObj "list" out.toArray n)) → Q (.ref d) { s with heap := h' }) :
    wpAny (model prog w) A (call (.builtin "sorted") [.ref l]) Q E s :=
  sorted_ord (swo_lex k) hl hz (fun two h₁ a g1 g2 => able3 (s := { s with heap := h₁ }) (Nat.lt_of_lt_of_le Nat.zero_lt_two two) (fun v m => (hp v m).imp fun z q => q.keep fun b o g _ => (g2 b o g).2) inj fun o g c => by
    have g3 := g.symm.trans g1
    cases g3
    exact absurd (Value.type.inj c) (by decide)) fun out o1 o2 => h _ _ out o1 o2 (fun b o g => sortedAll_old g) (Nat.le_succ _) (sortedAll_at s.heap vs out.toArray)
end
theorem vtri {x y z : V} : ∀ {us : List Value}, Vals [x, y, z] us → ∃ a b c, us = [a, b, c] ∧ RelV x a ∧ RelV y b ∧ RelV z c
  | _, .cons h1 (.cons h2 (.cons h3 .nil)) => ⟨_, _, _, rfl, h1, h2, h3⟩
/-- sorted(l), as a reading -/
def rSorted3 (K : PySem.W.Frag) : List V → Hp → VK → Prop := fun vs H Q => ∃ (a : Addr) (xs : List V) (k : V → Int × Int), vs = [.ref a] ∧ SqL K H a xs ∧ (∀ x ∈ xs, ∃ t z, x = .ref t ∧ H t = some (.tup [.int (k x).1, .int (k x).2, z])) ∧ (∀ x ∈ xs, ∀ y ∈ xs, k x = k y → x = y) ∧
  ∀ ys p, Srtd (ltP k) ys → ys.Perm xs → H p = none → Q (.ref p) (upd H p (.lst ys))
theorem cr_sortedTri {X : Cx} : CallR X (.builtin "sorted") (rSorted3 X.K) := by
  intro pins s σ H vs us Q I r h
  obtain ⟨a, xs, k, rfl, hs, hx, inj, q⟩ := h
  obtain ⟨its, rv, hl, hz⟩ := I.list hs
  obtain ⟨u, rfl, ru⟩ := vals1 r
  cases (show u = Value.ref a from ru)
  obtain ⟨e1, e2⟩ := refs_back rv fun x m => (hx x m).imp fun t q => q.elim fun z q => q.1
  have mem : ∀ t, Value.ref t ∈ its → V.ref t ∈ xs := fun t m => by
    rw [e1]; exact List.mem_map.mpr ⟨_, m, rfl⟩
  refine sorted3 (k := fun u => k (backV u)) hl.isList (rv.length ▸ hz) (fun v m => ?_) (fun v m v' m' g => ?_) fun h' d out h1 h2 kp hd hn => ?_
  · obtain ⟨t, rfl⟩ := e2 v m
    obtain ⟨t', z, g1, g2⟩ := hx _ (mem t m)
    cases g1
    obtain ⟨_, its2, r2, o, ho, hc, n, hd⟩ := I.hok _ _ g2
    obtain ⟨u1, u2, u3, rfl, ⟨t1, rfl⟩, ⟨t2, rfl⟩, rz⟩ := vtri r2
    exact ⟨u3, t, o, t1, t2, n, rfl, ho, hc, hd⟩
  · obtain ⟨t, rfl⟩ := e2 v m
    obtain ⟨t', rfl⟩ := e2 v' m'
    have g2 := inj _ (mem t m) _ (mem t' m') g
    cases g2; rfl
  · have h3 : ∀ u ∈ out, ∃ a, u = Value.ref a := fun u m => e2 u (h2.perm.mem_iff.mp m)
    obtain ⟨n, hn⟩ := hn
    have pm : (out.map backV).Perm xs := by
      rw [e1]; exact h2.perm.map backV
    have fr := I.hok.fresh hd
    refine ⟨.ref d, upd H d (.lst (out.map backV)), I.laid (t' := s.toks) kp hd ⟨?_, out, n, vals_back h3, hn⟩, rfl, q _ d (srtd_map h1) pm fr⟩
    rw [pm.length_eq]; exact hz
end Cs
-- CsClusters
namespace Cs
open PySem PySem.Spec PyProof.Rows L2
open Vamrqc
def sideI (x : Sid) : Int := if x.1 = true then 0 else 1
/-- the triples (place, side, hunk), in a list -/
def SidAt (H : Hp) (x : Addr × Addr × Sid) : Prop := H x.1 = some (.tup [nv x.2.2.2.1, .int (sideI x.2.2), .ref x.2.1]) ∧ TriAt H x.2.1 x.2.2.2
def SidsAt (H : Hp) (r : Addr) (xs : List Sid) : Prop := ∃ ts : List (Addr × Addr × Sid), H r = some (.lst (ts.map fun x => V.ref x.1)) ∧ ts.map (·.2.2) = xs ∧ ∀ x ∈ ts, SidAt H x
theorem SidAt.same {H H' : Hp} {x : Addr × Addr × Sid} (s : Same H H') (h : SidAt H x) : SidAt H' x := ⟨s _ _ h.1, h.2.same s⟩
theorem SidAt.mut {H : Hp} {r : Addr} {xs ys : List V} {x : Addr × Addr × Sid} (h : SidAt H x) (hr : H r = some (.lst xs)) : SidAt (upd H r (.lst ys)) x := ⟨tup_mut h.1 hr (fun _ z => by cases z), h.2.mut hr⟩
theorem SidsAt.same {H H' : Hp} {r : Addr} {xs : List Sid} (s : Same H H') (h : SidsAt H r xs) : SidsAt H' r xs := by
  obtain ⟨ts, a, b, c⟩ := h
  exact ⟨ts, s _ _ a, b, fun x hx => (c x hx).same s⟩
theorem SidsAt.add {H : Hp} {r t u : Addr} {xs : List Sid} {x : Sid} (h : SidsAt H r xs) (h1 : H t = some (.tup [nv x.2.1, .int (sideI x), .ref u])) (h2 : TriAt H u x.2) : ∃ ys, H r = some (.lst ys) ∧ ys.length = xs.length ∧ SidsAt (upd H r (.lst (ys ++ [.ref t]))) r (xs ++ [x]) := by
  obtain ⟨ts, a, b, c⟩ := h
  have hx : SidAt H (t, u, x) := ⟨h1, h2⟩
  refine ⟨_, a, by rw [List.length_map, ← b, List.length_map], ts ++ [(t, u, x)], ?_, by rw [List.map_append, b]; rfl, fun y hy => ?_⟩
  · rw [upd_same, List.map_append]; rfl
  · rcases List.mem_append.mp hy with hy | hy
    · exact (c y hy).mut a
    · rw [List.mem_singleton.mp hy]
      exact hx.mut a
theorem SidsAt.app {H : Hp} {r q : Addr} {xs ys : List Sid} (h : SidsAt H r xs) (g : SidsAt H q ys) : ∃ vs ws, H r = some (.lst vs) ∧ H q = some (.lst ws) ∧ vs.length + ws.length = xs.length + ys.length ∧ SidsAt (upd H r (.lst (vs ++ ws))) r (xs ++ ys) := by
  obtain ⟨ts, a, b, c⟩ := h
  obtain ⟨us, d, e, f⟩ := g
  refine ⟨_, _, a, d, by rw [← b, ← e, List.length_map, List.length_map, List.length_map, List.length_map], ts ++ us, ?_, by rw [List.map_append, b, e], fun y hy => ?_⟩
  · rw [upd_same, List.map_append]
  · rcases List.mem_append.mp hy with hy | hy
    · exact (c y hy).mut a
    · exact (f y hy).mut a
theorem lc_sided {K : PySem.W.Frag} (s : Bool) {c : Int} (hc : c = if s = true then 0 else 1) {σ : L2.St} {H1 : Hp} {D r : Addr} {Qd : Hp → Prop} {hs : List Tri} (hD : H1 D = none) (ht : TrisAt H1 r hs) (hz : hs.length ≤ 100000) (hσ : σ.length = 7)
    (q : ∀ H', Same H1 H' → SidsAt H' D (hs.map fun h => (s, h)) → Qd H') :
    LcGo (Itl K r) (gName 6) tYes (tTup (tCons (tOp (rIxT K) (tVar 6) (tC (.int 0))) (tCons (tC (.int c)) (tCons (tVar 6) tNil)))) [6] σ H1 D Qd := by
  obtain ⟨ts, t1, t2, t3⟩ := ht
  have zt : ts.length = hs.length := by rw [← t2, List.length_map]
  refine L2.lc_it (walk_list (K := K) (a := r) (xs := ts.map fun x => V.ref x.1)) (fun i H' => Same H1 H' ∧ SidsAt H' D ((hs.take i).map fun h => (s, h))) ⟨sm_new hD, [], upd_same, rfl, fun x hx => (by cases hx)⟩ (fun i H' _ g => SqL.of (g.1 _ _ t1)) ?_ ?_
  · rintro i x H2 H3 hi ⟨s1, g1⟩ ⟨rfl, hx⟩
    rw [List.getElem?_map] at hx
    cases e1 : ts[i]? with
    | none => rw [e1] at hx; cases hx
    | some y =>
      rw [e1] at hx
      have hx : V.ref y.1 = x := Option.some.inj hx
      subst hx
      have hy : hs[i]? = some y.2 := by rw [← t2, List.getElem?_map, e1]; rfl
      have il : i < hs.length := (List.getElem?_eq_some_iff.mp hy).1
      have gy := (t3 y (List.mem_of_getElem? e1)).same s1
      obtain ⟨b1, b2, g2, g3, g4⟩ := id gy
      have v6 : (((wipe σ [6]).set 6 (some (V.ref y.1))))[6]? = some (some (V.ref y.1)) := by
        rw [List.getElem?_set]
        have : 6 < (wipe σ [6]).length := by rw [wipe_length, hσ]; decide
        rw [if_pos rfl, if_pos this]
      refine rd_name ⟨?_, rd_yes (iteT ?_)⟩
      · show List.set (List.set (List.set σ 6 none) 6 _) 6 none = List.set σ 6 none
        rw [List.set_set, List.set_set]
      · refine rd_tup (rd_cons (rd_op (rd_var v6 (rd_c (rd_ixT (k := 0) (SqT.of g2) rfl rfl ?_)))))
        refine rd_cons (rd_c (rd_cons (rd_var v6 (rd_nil ⟨by show 3 ≤ sizeLine; decide, fun p hp => ?_⟩))))
        have g5 : SidsAt (upd H3 p (.tup [nv y.2.1, .int c, .ref y.1])) D ((hs.take i).map fun h => (s, h)) := g1.same (sm_new hp)
        subst hc
        obtain ⟨ys, a1, a2, a3⟩ := SidsAt.add (t := p) (u := y.1) (x := (s, y.2)) g5 upd_same (gy.same (sm_new hp))
        refine ⟨ys, a1, ?_, sm_mut (s1.trans (sm_new hp)) hD, ?_⟩
        · rw [a2, List.length_map, List.length_take]; exact szl (by omega)
        · rw [take_more hy, List.map_append]; exact a3
  · rintro H2 ⟨s1, g1⟩
    rw [List.length_map, zt, List.take_length] at g1
    exact q H2 s1 g1
theorem map_pick {α β γ : Type} {f : α → β} {g : α → γ} : ∀ {ts : List α} {ys : List β}, (∀ y ∈ ys, ∃ t ∈ ts, f t = y) → ∃ us : List α, us.map f = ys ∧ ∀ u ∈ us, u ∈ ts
  | ts, [], _ => ⟨[], rfl, fun u h => by cases h⟩
  | ts, y :: ys, h => by
    obtain ⟨us, a, b⟩ := map_pick (f := f) (g := g) (ts := ts) (ys := ys) fun z hz => h z (List.mem_cons_of_mem _ hz)
    obtain ⟨t, c, d⟩ := h y List.mem_cons_self
    refine ⟨t :: us, by rw [List.map_cons, a, d], fun u hu => ?_⟩
    cases hu with
    | head => exact c
    | tail _ hu => exact b u hu
open Classical in
/-- what a value stands for -/
noncomputable def behind {α β γ : Type} [Inhabited γ] (f : α → β) (g : α → γ) (ts : List α) (y : β) : γ := if h : ∃ t ∈ ts, f t = y then g h.choose else default
theorem behind_at {α β γ : Type} [Inhabited γ] {f : α → β} {g : α → γ} {ts : List α} (inj : ∀ t ∈ ts, ∀ u ∈ ts, f t = f u → g t = g u) {t : α} (h : t ∈ ts) : behind f g ts (f t) = g t := by
  have e : ∃ u ∈ ts, f u = f t := ⟨t, h, rfl⟩
  unfold behind
  rw [dif_pos e]
  exact inj _ e.choose_spec.1 _ h e.choose_spec.2
/-- a permutation of the values is one of what they stand for -/
theorem perm_behind {α β γ : Type} [Inhabited γ] {f : α → β} {g : α → γ} {ts : List α} {ys : List β} (inj : ∀ t ∈ ts, ∀ u ∈ ts, f t = f u → g t = g u) (p : ys.Perm (ts.map f)) : ∃ us : List α, us.map f = ys ∧ (∀ u ∈ us, u ∈ ts) ∧ (us.map g).Perm (ts.map g) := by
  obtain ⟨us, a, b⟩ := map_pick (f := f) (g := g) (ts := ts) (ys := ys) fun y hy => by
    obtain ⟨t, h1, h2⟩ := List.mem_map.mp (p.mem_iff.mp hy)
    exact ⟨t, h1, h2⟩
  refine ⟨us, a, b, ?_⟩
  have e1 : us.map g = ys.map (behind f g ts) := by
    rw [← a, List.map_map]
    exact List.map_congr_left fun u hu => (behind_at inj (b u hu)).symm
  have e2 : ts.map g = (ts.map f).map (behind f g ts) := by
    rw [List.map_map]
    exact List.map_congr_left fun u hu => (behind_at inj hu).symm
  rw [e1, e2]
  exact p.map _
theorem nodup_inj {α β : Type} {f : α → β} : ∀ {l : List α}, (l.map f).Nodup → ∀ x ∈ l, ∀ y ∈ l, f x = f y → x = y
  | a :: l, n, x, hx, y, hy, e => by
    rw [List.map_cons, List.nodup_cons] at n
    cases hx with
    | head =>
      cases hy with
      | head => rfl
      | tail _ hy => exact absurd (e ▸ List.mem_map_of_mem hy) n.1
    | tail _ hx =>
      cases hy with
      | head => exact absurd (e ▸ List.mem_map_of_mem hx) n.1
      | tail _ hy => exact nodup_inj n.2 x hx y hy e
/-- the two numbers of a triple in the heap -/
def kOf (H : Hp) : V → Int × Int
  | .ref a => match H a with
    | some (.tup [.int i, .int j, _]) => (i, j)
    | _ => (0, 0)
  | _ => (0, 0)
theorem kOf_at {H : Hp} {a : Addr} {i j : Int} {z : V} (h : H a = some (.tup [.int i, .int j, z])) : kOf H (.ref a) = (i, j) := by
  simp only [kOf, h]
theorem skey_le {H : Hp} {x y : Addr × Addr × Sid} (hx : SidAt H x) (hy : SidAt H y) (h : ltP (kOf H) (V.ref y.1) (V.ref x.1) = false) : skey x.2.2 ≤ skey y.2.2 := by
  have e1 := kOf_at hx.1
  have e2 := kOf_at hy.1
  have h := SrtO.lexB_no.mp h
  rw [e1, e2] at h
  unfold skey
  unfold sideI at h
  cases q1 : x.2.2.1 <;> cases q2 : y.2.2.1 <;> simp [q1, q2] at h ⊢ <;> omega
theorem key_eq {H : Hp} {x y : Addr × Addr × Sid} (hx : SidAt H x) (hy : SidAt H y) (h : kOf H (V.ref y.1) = kOf H (V.ref x.1)) : skey x.2.2 = skey y.2.2 := by
  have e1 := kOf_at hx.1
  have e2 := kOf_at hy.1
  rw [e1, e2] at h
  have h1 := congrArg Prod.fst h
  have h2 := congrArg Prod.snd h
  unfold sideI at h2
  unfold skey
  cases q1 : x.2.2.1 <;> cases q2 : y.2.2.1 <;> simp [q1, q2] at h1 h2 ⊢ <;> omega
/-- sorted(l) of them -/
theorem rd_sortSids {K : PySem.W.Frag} {H : Hp} {Q : VK} {d : Addr} {b o t : List Nat} (h : SidsAt H d (sids b o t)) (q : ∀ p (us : List (Addr × Addr × Sid)), H p = none → (∀ u ∈ us, SidAt H u) → (us.map (·.2.2)).map spn = allSpans b o t → (us.map (·.2.2)).Perm (sids b o t) → Q (.ref p) (upd H p (.lst (us.map fun x => V.ref x.1)))) : rSorted3 K [.ref d] H Q := by
  obtain ⟨ts, a1, a2, a3⟩ := h
  have mem : ∀ x ∈ ts, x.2.2 ∈ sids b o t := fun x hx => by
    rw [← a2]; exact List.mem_map_of_mem hx
  have nd := sids_keys b o t
  rw [← a2, List.map_map] at nd
  refine ⟨d, _, kOf H, rfl, SqL.of a1, fun x hx => ?_, fun x hx y hy e => ?_, fun ys p hs hp hn => ?_⟩
  · obtain ⟨u, h1, rfl⟩ := List.mem_map.mp hx
    refine ⟨u.1, .ref u.2.1, rfl, ?_⟩
    rw [kOf_at (a3 u h1).1]
    exact (a3 u h1).1
  · obtain ⟨u, h1, rfl⟩ := List.mem_map.mp hx
    obtain ⟨v, h2, rfl⟩ := List.mem_map.mp hy
    have g := key_eq (a3 v h2) (a3 u h1) e
    rw [nodup_inj nd u h1 v h2 g.symm]
  · have inj : ∀ t ∈ ts, ∀ u ∈ ts, V.ref t.1 = V.ref u.1 → t.2.2 = u.2.2 := fun u h1 v h2 e => by
      have g := key_eq (a3 u h1) (a3 v h2) (by rw [e])
      rw [nodup_inj nd u h1 v h2 g]
    obtain ⟨us, b1, b2, b3⟩ := perm_behind (g := fun x : Addr × Addr × Sid => x.2.2) inj hp
    rw [a2] at b3
    subst b1
    have f : ∀ u ∈ us, SidAt H u := fun u hu => a3 u (b2 u hu)
    refine q p us hn f (sorted_spans b3 ?_) b3
    · have hs := List.pairwise_map.mp hs
      refine List.pairwise_map.mpr ?_
      refine List.Pairwise.imp_of_mem (fun {x y} hx hy g => ?_) hs
      exact skey_le (f x hx) (f y hy) g
/-- what belongs to a cluster's object -/
def FP (q : Addr × Addr × Addr × Cl) (y : Addr) : Prop := y = q.1 ∨ y = q.2.1 ∨ y = q.2.2.1
/-- clusters, in a list -/
def ClsAt (C : Addr) (H : Hp) (r : Addr) (cs : List Cl) : Prop := ∃ qs : List (Addr × Addr × Addr × Cl), H r = some (.lst (qs.map fun q => V.ref q.1)) ∧ qs.map (·.2.2.2) = cs ∧ ∀ q ∈ qs, ClA C H q.1 q.2.1 q.2.2.1 q.2.2.2
/-- .. while they are put together: none shares an object with another, with the list r or with what is kept -/
def CI (C : Addr) (Fb : Addr → Prop) (H : Hp) (r : Addr) (m n : Nat) (cs : List Cl) : Prop := ∃ qs : List (Addr × Addr × Addr × Cl), H r = some (.lst (qs.map fun q => V.ref q.1)) ∧ qs.map (·.2.2.2) = cs ∧
  (∀ q ∈ qs, ClA C H q.1 q.2.1 q.2.2.1 q.2.2.2 ∧ (∀ y, FP q y → ¬ Fb y ∧ y ≠ r) ∧ q.2.2.2.items.length ≤ n) ∧ qs.Pairwise (fun p q => ∀ y, FP p y → ¬ FP q y) ∧ qs.length ≤ m
theorem CI.out {C : Addr} {Fb : Addr → Prop} {H : Hp} {r : Addr} {m n : Nat} {cs : List Cl} (h : CI C Fb H r m n cs) : ClsAt C H r cs := by
  obtain ⟨qs, a, b, c, _, _⟩ := h
  exact ⟨qs, a, b, fun q hq => (c q hq).1⟩
theorem CI.mono {C : Addr} {Fb : Addr → Prop} {H : Hp} {r : Addr} {m n m' n' : Nat} {cs : List Cl} (h : CI C Fb H r m n cs) (h1 : m ≤ m') (h2 : n ≤ n') : CI C Fb H r m' n' cs := by
  obtain ⟨qs, a, b, c, d, e⟩ := h
  exact ⟨qs, a, b, fun q hq => ⟨(c q hq).1, (c q hq).2.1, Nat.le_trans (c q hq).2.2 h2⟩, d, Nat.le_trans e h1⟩
theorem ClA.fp {C : Addr} {H : Hp} {q : Addr × Addr × Addr × Cl} (h : ClA C H q.1 q.2.1 q.2.2.1 q.2.2.2) : ∀ y, FP q y → ∀ ys, H y ≠ some (.tup ys) := by
  obtain ⟨dx, h1, h2, h3, h4⟩ := h
  rintro y (e | e | e) ys z
  · rw [e, h1] at z; cases z
  · obtain ⟨xs, g⟩ := h2.obj
    rw [e, g] at z; cases z
  · obtain ⟨xs, g⟩ := h3.obj
    rw [e, g] at z; cases z
theorem ClA.some {C : Addr} {H : Hp} {q : Addr × Addr × Addr × Cl} (h : ClA C H q.1 q.2.1 q.2.2.1 q.2.2.2) : ∀ y, FP q y → H y ≠ none := by
  obtain ⟨dx, h1, h2, h3, h4⟩ := h
  rintro y (e | e | e) z
  · rw [e, h1] at z; cases z
  · obtain ⟨xs, g⟩ := h2.obj
    rw [e, g] at z; cases z
  · obtain ⟨xs, g⟩ := h3.obj
    rw [e, g] at z; cases z
theorem CI.push {C : Addr} {Fb : Addr → Prop} {H H1 : Hp} {r a oa ta : Addr} {m n : Nat} {cs : List Cl} {c : Cl} (h : CI C Fb H r m n cs) (fb : ∀ y, Fb y → H y ≠ none) (s : Same H H1) (hc : ClA C H1 a oa ta c) (f1 : H a = none) (f2 : H oa = none) (f3 : H ta = none) (hn : c.items.length ≤ n) :
    ∃ xs, H1 r = some (.lst xs) ∧ xs.length = cs.length ∧ CI C Fb (upd H1 r (.lst (xs ++ [.ref a]))) r (m + 1) n (cs ++ [c]) := by
  obtain ⟨qs, a1, a2, a3, a4, a5⟩ := h
  have g1 := s _ _ a1
  have nr : ∀ y, H y = none → y ≠ r := fun y e z => by
    rw [z, a1] at e; cases e
  have fresh : ∀ y, FP (a, oa, ta, c) y → H y = none := by
    rintro y (e | e | e)
    · exact e ▸ f1
    · exact e ▸ f2
    · exact e ▸ f3
  have o1 : ∀ xs, Off H1 (upd H1 r (.lst xs)) (fun y => y = r) := fun xs => Off.upd rfl
  have nt : ∀ y, y = r → ∀ ys, H1 y ≠ some (.tup ys) := fun y e ys z => by
    rw [e, g1] at z; cases z
  refine ⟨_, g1, by rw [← a2, List.length_map, List.length_map], qs ++ [(a, oa, ta, c)], ?_, by rw [List.map_append, a2]; rfl, ?_, ?_, ?_⟩
  · rw [upd_same, List.map_append]; rfl
  · intro q hq
    rcases List.mem_append.mp hq with hq | hq
    · obtain ⟨b1, b2, b3⟩ := a3 q hq
      exact ⟨(b1.same s).off (o1 _) nt (b2 _ (.inl rfl)).2 (b2 _ (.inr (.inl rfl))).2 (b2 _ (.inr (.inr rfl))).2, b2, b3⟩
    · rw [List.mem_singleton.mp hq]
      exact ⟨hc.off (o1 _) nt (nr _ f1) (nr _ f2) (nr _ f3), fun y hy => ⟨fun z => fb y z (fresh y hy), nr y (fresh y hy)⟩, hn⟩
  · refine List.pairwise_append.mpr ⟨a4, List.pairwise_singleton _ _, fun p hp q hq y hy hy2 => ?_⟩
    rw [List.mem_singleton.mp hq] at hy2
    exact (a3 p hp).1.some y hy (fresh y hy2)
  · rw [List.length_append]; exact Nat.succ_le_succ a5
theorem CI.last {C : Addr} {Fb : Addr → Prop} {H : Hp} {r : Addr} {m n : Nat} {cs : List Cl} {c : Cl} (h : CI C Fb H r m n (cs ++ [c])) :
    ∃ xs a oa ta, H r = some (.lst (xs ++ [.ref a])) ∧ ClA C H a oa ta c ∧ c.items.length ≤ n ∧ (∀ y, (y = a ∨ y = oa ∨ y = ta) → ¬ Fb y ∧ y ≠ r) ∧
      ∀ H' c', Off H H' (fun y => y = a ∨ y = oa ∨ y = ta) → ClA C H' a oa ta c' → c'.items.length ≤ n + 1 → CI C Fb H' r m (n + 1) (cs ++ [c']) := by
  obtain ⟨qs, a1, a2, a3, a4, a5⟩ := h
  obtain ⟨ps, u, rfl⟩ : ∃ ps u, qs = ps ++ [u] := by
    rcases List.eq_nil_or_concat qs with e | ⟨ps, u, e⟩
    · rw [e] at a2
      exact absurd (congrArg List.length a2) (by simp)
    · exact ⟨ps, u, by rw [e]; simp⟩
  rw [List.map_append] at a2
  obtain ⟨e1, e2⟩ := List.append_inj' a2 rfl
  have e2 : u.2.2.2 = c := (List.cons.inj e2).1
  subst e1
  obtain ⟨a, oa, ta, c0⟩ := u
  have e2 : c0 = c := e2
  subst e2
  obtain ⟨b1, b2, b3⟩ := a3 _ (List.mem_append_right _ (List.mem_singleton_self _))
  rw [List.map_append] at a1
  refine ⟨_, a, oa, ta, a1, b1, b3, b2, fun H' c' o hc hn => ?_⟩
  have nt := ClA.fp (q := (a, oa, ta, c0)) b1
  have pw := List.pairwise_append.mp a4
  refine ⟨ps ++ [(a, oa, ta, c')], ?_, by rw [List.map_append]; rfl, ?_, ?_, ?_⟩
  · rw [List.map_append]
    refine o _ _ a1 fun z => ?_
    exact (b2 _ z).2 rfl
  · intro q hq
    rcases List.mem_append.mp hq with hq | hq
    · obtain ⟨d1, d2, d3⟩ := a3 q (List.mem_append_left _ hq)
      have dj : ∀ y, FP q y → ¬ (y = a ∨ y = oa ∨ y = ta) := pw.2.2 q hq _ (List.mem_singleton_self _)
      exact ⟨d1.off o nt (dj _ (.inl rfl)) (dj _ (.inr (.inl rfl))) (dj _ (.inr (.inr rfl))), d2, Nat.le_succ_of_le d3⟩
    · rw [List.mem_singleton.mp hq]
      exact ⟨hc, b2, hn⟩
  · refine List.pairwise_append.mpr ⟨pw.1, List.pairwise_singleton _ _, fun p hp q hq => ?_⟩
    rw [List.mem_singleton.mp hq]
    exact pw.2.2 p hp (a, oa, ta, c0) (List.mem_singleton_self _)
  · rw [List.length_append] at a5 ⊢
    exact a5
theorem ours_len (c : Cl) : c.ours.length ≤ c.items.length := by
  unfold Cl.ours
  rw [List.length_map]
  exact List.length_filter_le _ _
theorem theirs_len (c : Cl) : c.theirs.length ≤ c.items.length := by
  unfold Cl.theirs
  rw [List.length_map]
  exact List.length_filter_le _ _
theorem anv_last {K : PySem.W.Frag} {σ : L2.St} {H : Hp} {i : Nat} {p : Addr} {xs : List V} {v : V} (hi : σ[i]? = some (some (.ref p))) (h : H p = some (.lst (xs ++ [v]))) : AnV (tOp (rIxL K) (tVar i) (tUn (rU fun i => .int (-i)) (tC (.int 1)))) σ H v := fun R q =>
  rd_op (rd_var hi (rd_un (rd_c (rd_U (rd_ixLast (SqL.of h) q)))))
section
variable {P : Program} {w : World} {K : PySem.W.Frag} {mg : Str → Option Value} {base : Heap} {C : Addr}
theorem clus_take {D : Ends} {Fb : Addr → Prop} {σ : L2.St} {H : Hp} {r u : Addr} {m n : Nat} {cs : List Cl} {c : Cl} {x : Sid} (h3 : σ[3]? = some (some (.ref r))) (h5 : σ[5]? = some (some (.int (sideI x)))) (h6 : σ[6]? = some (some (.ref u)))
    (h : CI C Fb H r m n (cs ++ [c])) (ht : TriAt H u x.2) (hn : n ≤ 100000) (q : ∀ H', Off H H' (fun y => ¬ Fb y) → CI C Fb H' r m (n + 1) (cs ++ [c.add x]) → D.nx σ H') :
    tDrop (tMeth C "take_in" (spTakeIn C) [] C8.E0 (tOp (rIxL K) (tVar 3) (tUn (rU fun i => .int (-i)) (tC (.int 1)))) (tCons (tVar 5) (tCons (tVar 6) tNil))) D σ H := by
  obtain ⟨xs, a, oa, ta, e1, e2, e3, e4, e5⟩ := h.last
  have e2' := e2
  obtain ⟨dx, g1, g2, g3, g4⟩ := e2'
  have z1 := ours_len c
  have z2 := theirs_len c
  refine rd_drop ?_
  refine anv_last h3 e1 _ ⟨a, dx, _, rfl, g1, rfl, ?_⟩
  refine rd_cons (rd_var h5 (rd_cons (rd_var h6 (rd_nil ?_))))
  refine ⟨a, u, oa, ta, c, x, rfl, e2, ht, by omega, by omega, fun H' o hc => ?_⟩
  refine q H' (o.mono fun y hy => (e4 y hy).1) (e5 H' _ o hc ?_)
  show (c.items ++ [x]).length ≤ n + 1
  rw [List.length_append]
  exact Nat.succ_le_succ e3
theorem clus_new {D : Ends} {Fb : Addr → Prop} {σ : L2.St} {H : Hp} {r : Addr} {m n place : Nat} {cs : List Cl} (h3 : σ[3]? = some (some (.ref r))) (h4 : σ[4]? = some (some (nv place))) (h : CI C Fb H r m n cs) (fb : ∀ y, Fb y → H y ≠ none) (nr : ¬ Fb r) (hm : m ≤ 100000) (hl : cs.length ≤ 100000)
    (q : ∀ H', Off H H' (fun y => ¬ Fb y) → CI C Fb H' r (m + 1) n (cs ++ [Cl.fresh place]) → D.nx σ H') :
    tDrop (tBM K "list" rAppend (tVar 3) (tCons (tMake C (spClInit C) [] C8.E0 (tCons (tVar 4) tNil)) tNil)) D σ H := by
  obtain ⟨qs0, r1, _⟩ := id h
  refine rd_drop (rd_bm (rd_var h3 ⟨ty_lst r1, ?_⟩))
  refine rd_cons ?_
  show tCons (tVar 4) tNil σ H _
  refine rd_cons (rd_var h4 (rd_nil fun x dx hx hdx nx => ?_))
  have s0 : Same H (upd (upd H dx (.own x)) x (.ins C dx [])) := fun y u hy => by
    rw [upd_ne (ne_of_none hy hx), upd_ne (ne_of_none hy hdx)]; exact hy
  refine ⟨x, dx, place, rfl, upd_same, fun H1 oa ta o1 f1 f2 hc => ⟨rfl, ?_⟩⟩
  have s1 : Same H H1 := o1.same s0 fun y e => e ▸ hx
  obtain ⟨xs, b1, b2, b3⟩ := h.push fb s1 hc hx (sm_free s0 f1) (sm_free s0 f2) (Nat.zero_le _)
  refine rd_nil (rd_append b1 (by rw [b2]; exact szl (by omega)) (q _ ?_ b3))
  intro y u hy n
  have ny : y ≠ r := fun e => n (e ▸ nr)
  rw [upd_ne ny]
  exact s1 y u hy
abbrev sClusters : Stmt := top 44
abbrev NClusters : List Str := ["ours_hunks", "theirs_hunks", "sided", "clusters", "place", "side", "hunk"]
theorem scClusters : FnScope NClusters ["ours_hunks", "theirs_hunks"] (defScope sClusters) := ⟨rfl, rfl, rfl, by decide +kernel, rfl, by decide +kernel, by decide +kernel⟩
/-- clusters_of -/
def spClusters (C : Addr) : Sp := fun vs H Q _ => ∃ (p q : Addr) (b o t : List Nat), vs = [.ref p, .ref q] ∧ TrisAt H p (hks b o) ∧ TrisAt H q (hks b t) ∧ b.length ≤ 1000 ∧ o.length ≤ 1000 ∧ t.length ≤ 1000 ∧
  ∀ H' r (ys : List Sid), Same H H' → ys.map spn = allSpans b o t → ys.Perm (sids b o t) → ClsAt C H' r (cls ys) → Q (.ref r) H'
theorem clStep_new {cs : List Cl} {x : Sid} (h : ∀ ds c, cs = ds ++ [c] → c.fin < x.2.1) : clStep cs x = cs ++ [(Cl.fresh x.2.1).add x] := by
  unfold clStep
  rcases List.eq_nil_or_concat cs with e | ⟨ds, c, e⟩
  · subst e; rfl
  · have e : cs = ds ++ [c] := by rw [e]; simp
    have g := h ds c e
    subst e
    rw [List.getLast?_append]
    show (if c.fin < x.2.1 then _ else _) = _
    rw [if_pos g]
theorem clStep_old {ds : List Cl} {c : Cl} {x : Sid} (h : ¬ c.fin < x.2.1) : clStep (ds ++ [c]) x = ds ++ [c.add x] := by
  unfold clStep
  rw [List.getLast?_append]
  show (if c.fin < x.2.1 then _ else (ds ++ [c]).dropLast ++ _) = _
  rw [if_neg h, List.dropLast_concat]; rfl
theorem clStep_len (cs : List Cl) (x : Sid) : (clStep cs x).length ≤ cs.length + 1 := by
  by_cases h : ∀ ds c, cs = ds ++ [c] → c.fin < x.2.1
  · rw [clStep_new h, List.length_append]; exact Nat.le_refl _
  · have ⟨ds, h⟩ := Classical.not_forall.mp h
    have ⟨c, h⟩ := Classical.not_forall.mp h
    have ⟨e, g⟩ := Classical.not_imp.mp h
    subst e
    rw [clStep_old g, List.length_append, List.length_append]
    show ds.length + 1 ≤ ds.length + 1 + 1
    omega
theorem foldCl_len : ∀ (xs : List Sid) (cs : List Cl), (xs.foldl clStep cs).length ≤ cs.length + xs.length
  | [], cs => Nat.le_refl _
  | x :: xs, cs => by
    have h1 := foldCl_len xs (clStep cs x)
    have h2 := clStep_len cs x
    show (xs.foldl clStep (clStep cs x)).length ≤ cs.length + (xs.length + 1)
    omega
theorem sids_len (b o t : List Nat) : (sids b o t).length = (hks b o).length + (hks b t).length := by
  unfold sids
  rw [List.length_append, List.length_map, List.length_map]
theorem ok_clusters (F : Df K mg "clusters_of" sClusters) (T : Tx mg) (L : Kl K C clNames) (G_Cluster : C8.Mak P w K mg base 1 "Cluster" C (spClInit C) []) (G_Cluster_take_in : C8.Met P w K mg base 1 C "take_in" (spTakeIn C) []) :
    C8.Cal P w K mg base 3 "clusters_of" (spClusters C) [] := by
  refine F.cal scClusters (fun _ _ _ _ _ _ us hl => match us, hl with | [_, _], _ => rfl) (fun vs H Q E h => ?_) (fun f cdv A outer s H vs Q E hr h => ?_)
  · obtain ⟨p, q, b, o, t, rfl, _⟩ := h
    rfl
  · obtain ⟨p, q, b, o, t, rfl, hp, hq, zb, zo, zt, k⟩ := h
    refine ⟨_, (pss_cons (ps_setLc (i := 2) (own := [("hunk", 6)]) (g := gName 6) (tt := tYes) (te := tTup (tCons (tOp (rIxT K) (tVar 6) (tC (.int 0))) (tCons (tC (.int 0)) (tCons (tVar 6) tNil)))) (by rfl) scClusters.nd rfl rfl (sw_true rfl rfl rfl (by decide +kernel)) (pi_list (pv 0)) (blkOk_by (own := [("hunk", 6)]) (N := NClusters) (sc := defScope sClusters) (by decide +kernel)) (fun _ _ _ _ _ => pg_name (i := 6) scClusters.nd rfl (Or.inl rfl)) (fun _ _ _ _ _ => pts_nil) (fun _ _ _ _ _ => (pe_tup (pa_cons (pe_ix ix_tup (pv 6) pe_int (fun _ _ => rfl)) (pa_cons (C8.pe_gc (by rfl) T.c_OURS) (pa_cons (pv 6) pa_nil))))))
      (pss_cons (ps_expr (pe_bm PySem.F.plainAttrs_list PySem.F.slot_list_extend PySem.F.type_list_extend mt_extend (pv 2) (pa_cons (pe_lc (own := [("hunk", 6)]) (g := gName 6) (tt := tYes) (te := tTup (tCons (tOp (rIxT K) (tVar 6) (tC (.int 0))) (tCons (tC (.int 1)) (tCons (tVar 6) tNil)))) (by rfl) scClusters.nd (pi_list (pv 1)) (blkOk_by (own := [("hunk", 6)]) (N := NClusters) (sc := defScope sClusters) (by decide +kernel)) (fun _ _ _ _ _ => pg_name (i := 6) scClusters.nd rfl (Or.inl rfl)) (fun _ _ _ _ _ => pts_nil) (fun _ _ _ _ _ => (pe_tup (pa_cons (pe_ix ix_tup (pv 6) pe_int (fun _ _ => rfl)) (pa_cons (C8.pe_gc (by rfl) T.c_THEIRS) (pa_cons (pv 6) pa_nil)))))) pa_nil)))
      (pss_cons (ps_set (i := 3) scClusters.nd rfl (Or.inl rfl) (pe_lst pa_nil))
      (pss_cons (ps_for PassesOwn.never rfl (pi_list (pe_callB (cr_sortedTri) (by rfl) T.sorted (by decide +kernel) (pa_cons (pv 2) pa_nil))) (pg_tup (by rfl) (pgs_cons (pg_name (i := 4) scClusters.nd rfl (Or.inl rfl)) (pgs_cons (pg_name (i := 5) scClusters.nd rfl (Or.inl rfl)) (pgs_cons (pg_name (i := 6) scClusters.nd rfl (Or.inl rfl)) pgs_nil))))
        (pss_cons (ps_if (PW.pt (pw_or (pt_not (pt_truth (pv 3) (by intro _; rfl))) (pw_or1 (pt_cmpR op_gt (pv 4) (pe_fld (pe_ix ix_list (pv 3) (pe_un un_neg pe_int) (fun _ _ => rfl)) rfl) (nomark _)))))
          (pss_one (ps_expr (pe_bm PySem.F.plainAttrs_list PySem.F.slot_list_append PySem.F.type_list_append mt_append (pv 3) (pa_cons (C8.pe_mk G_Cluster hr (by decide) (by rfl) (pa_cons (pv 4) pa_nil)) pa_nil))))
          pss_nil)
        (pss_one (ps_expr (C8.pe_mt G_Cluster_take_in hr (by decide) (pe_ix ix_list (pv 3) (pe_un un_neg pe_int) (fun _ _ => rfl)) (pa_cons (pv 5) (pa_cons (pv 6) pa_nil)))))))
      (pss_one (ps_ret (pv 3))))))), ?_⟩
    have l1 := hks_len b o
    have l2 := hks_len b t
    have l3 := sids_len b o t
    walk_at "rd"
    obtain ⟨ts, t1, t2, t3⟩ := id hp
    refine ⟨p, rfl, ⟨_, SqL.of t1⟩, fun d hd => ?_⟩
    refine lc_sided true rfl hd hp (by omega) rfl fun H1 s1 g1 => ?_
    walk_at "rd"
    obtain ⟨ts1, u1, u2, u3⟩ := id g1
    refine ⟨ty_lst u1, ?_⟩
    walk_at "rd"
    have hq1 := hq.same s1
    obtain ⟨ts2, w1, w2, w3⟩ := id hq1
    refine ⟨q, rfl, ⟨_, SqL.of w1⟩, fun e he => ?_⟩
    refine lc_sided false rfl he hq1 (by omega) rfl fun H2 s2 g2 => ?_
    walk_at "rd"
    obtain ⟨xs, zs, c1, c2, z1, g3⟩ := SidsAt.app (g1.same s2) g2
    refine ⟨d, e, xs, zs, rfl, rfl, c1, c2, by rw [z1]; exact sz (by rw [List.length_map, List.length_map]; omega), ?_⟩
    have g3 : SidsAt (upd H2 d (.lst (xs ++ zs))) d (sids b o t) := g3
    have s3 : Same H (upd H2 d (.lst (xs ++ zs))) := sm_mut (s1.trans s2) hd
    generalize upd H2 d (.lst (xs ++ zs)) = H3 at g3 s3
    walk_at "rd"
    refine ⟨by show 0 ≤ sizeLine; decide, fun r hr0 => ?_⟩
    walk_at "rd"
    refine rd_sortSids (g3.same (sm_new hr0)) fun pl us hpl fu ez pm => ?_
    have lu : us.length = (sids b o t).length := by
      rw [← pm.length_eq, List.length_map]
    have hpr : pl ≠ r := fun e => by
      rw [e, upd_same] at hpl; cases hpl
    have hpl3 : H3 pl = none := by
      rw [upd_ne hpr] at hpl; exact hpl
    refine ⟨pl, rfl, ⟨_, SqL.of upd_same⟩, ?_⟩
    generalize hHs : upd (upd H3 r (.lst [])) pl (.lst (us.map fun x => V.ref x.1)) = Hs
    have sHs : Same H3 Hs := by
      rw [← hHs]; exact (sm_new hr0).trans (sm_new hpl)
    have plHs : Hs pl = some (.lst (us.map fun x => V.ref x.1)) := by
      rw [← hHs]; exact upd_same
    have rHs : Hs r = some (.lst []) := by
      rw [← hHs, upd_ne fun e => hpr e.symm]; exact upd_same
    have fuHs : ∀ u ∈ us, SidAt Hs u := fun u hu => by
      rw [← hHs]; exact (fu u hu).same (sm_new hpl)
    have lus : us.length ≤ 5000 := by rw [lu, l3]; omega
    let Fb : Addr → Prop := fun y => Hs y ≠ none ∧ y ≠ r
    have nfr : ¬ Fb r := fun z => z.2 rfl
    refine for_list (K := K) (a := pl) (xs := us.map fun x => V.ref x.1) (fun i σ H' => ∃ (v4 v5 v6 : Option V), σ = [some (.ref p), some (.ref q), some (.ref d), some (.ref r), v4, v5, v6] ∧ Off Hs H' (fun y => ¬ Fb y) ∧
      CI C Fb H' r i i (((us.map (·.2.2)).take i).foldl clStep [])) ?_ ?_ ?_ ?_
    · exact ⟨none, none, none, rfl, Off.refl _ _, [], rHs, rfl, fun q hq => (by cases hq), .nil, Nat.le_refl _⟩
    · rintro i σ H' _ ⟨v4, v5, v6, rfl, o1, _⟩
      exact SqL.of (o1 _ _ plHs fun z => z ⟨fun e => (by rw [plHs] at e; cases e), hpr⟩)
    · rintro i x σ H' hx ⟨v4, v5, v6, rfl, o1, g4⟩
      rw [List.getElem?_map] at hx
      cases e1 : us[i]? with
      | none => rw [e1] at hx; cases hx
      | some u =>
        rw [e1] at hx
        have hx : V.ref u.1 = x := Option.some.inj hx
        subst hx
        have il : i < us.length := (List.getElem?_eq_some_iff.mp e1).1
        have hy : (us.map (·.2.2))[i]? = some u.2.2 := by rw [List.getElem?_map, e1]; rfl
        have st := take_more hy
        have fbs : ∀ y u, Hs y = some u → y ≠ r → Fb y := fun y u e n => ⟨by rw [e]; exact fun z => (by cases z), n⟩
        have s4 : Same H3 H' := fun y u e => by
          have e2 := sHs y u e
          exact o1 y u e2 fun z => z (fbs y u e2 (ne_of_none e hr0))
        have nt : ∀ y, ¬ Fb y → ∀ ys, Hs y ≠ some (.tup ys) := fun y n ys e => by
          refine n (fbs y _ e fun z => ?_)
          rw [z, rHs] at e; cases e
        have fue := fuHs u (List.mem_of_getElem? e1)
        have a1 : H' u.1 = some (.tup [nv u.2.2.2.1, .int (sideI u.2.2), .ref u.2.1]) := o1 _ _ fue.1 fun n => nt _ n _ fue.1
        have a2 : TriAt H' u.2.1 u.2.2.2 := fue.2.out o1 nt
        have fb' : ∀ H'', Off Hs H'' (fun y => ¬ Fb y) → ∀ y, Fb y → H'' y ≠ none := fun H'' o y hy z => by
          cases e : Hs y with
          | none => exact hy.1 e
          | some w =>
            rw [o y w e fun n => n hy] at z; cases z
        have ln := foldCl_len ((us.map (·.2.2)).take i) []
        rw [List.length_take, List.length_map] at ln
        have ln : (((us.map (·.2.2)).take i).foldl clStep []).length ≤ 5000 := by
          have : ([] : List Cl).length = 0 := rfl
          omega
        have hi : i ≤ 5000 := by omega
        rw [st, List.foldl_append]
        generalize ((us.map (·.2.2)).take i).foldl clStep [] = cs at g4 ln
        refine rd_gtup (SqT.of a1) rfl ?_
        walk_at "rd"
        obtain ⟨qs, r1, r2, _⟩ := id g4
        have go : ∀ (H5 : Hp) (ds : List Cl) (c : Cl), Off Hs H5 (fun y => ¬ Fb y) → CI C Fb H5 r (i + 1) i (ds ++ [c]) → clStep cs u.2.2 = ds ++ [c.add u.2.2] → ∀ D : Ends, D.nx = (fun (σ : L2.St) (H' : Hp) => ∃ (v4 v5 v6 : Option V), σ = [some (.ref p), some (.ref q), some (.ref d), some (.ref r), v4, v5, v6] ∧ Off Hs H' (fun y => ¬ Fb y) ∧ CI C Fb H' r (i + 1) (i + 1) (clStep cs u.2.2)) →
            tDrop (tMeth C "take_in" (spTakeIn C) [] C8.E0 (tOp (rIxL K) (tVar 3) (tUn (rU fun i => .int (-i)) (tC (.int 1)))) (tCons (tVar 5) (tCons (tVar 6) tNil))) D [some (.ref p), some (.ref q), some (.ref d), some (.ref r), some (nv u.2.2.2.1), some (.int (sideI u.2.2)), some (.ref u.2.1)] H5 := by
          intro H5 ds c o5 g5 e D eD
          refine clus_take (n := i) rfl rfl rfl g5 (fue.2.out o5 nt) (by omega) fun H6 o6 g6 => ?_
          rw [eD]
          exact ⟨_, _, _, rfl, o5.trans o6, e ▸ g6⟩
        refine ⟨_, .inl ⟨_, SqL.of r1, rfl⟩, ?_⟩
        refine rd_cond (fun c1 => ?_) (fun c1 => ?_)
        · refine iteT ?_
          have ec : cs = [] := by
            cases qs with
            | nil => exact r2.symm
            | cons a l => cases c1
          refine clus_new rfl rfl g4 (fb' _ o1) nfr (by omega) (by omega) fun H5 o5 g5 => ?_
          exact go H5 cs _ (o1.trans o5) g5 (clStep_new fun ds c e => by
            rw [ec] at e
            exact absurd (congrArg List.length e) (by simp)) _ rfl
        · obtain ⟨ds, c, ec⟩ : ∃ ds c, cs = ds ++ [c] := by
            rcases List.eq_nil_or_concat cs with e | ⟨ds, c, e⟩
            · rw [e] at r2
              rw [List.map_eq_nil_iff.mp r2] at c1
              cases c1
            · exact ⟨ds, c, by rw [e]; simp⟩
          rw [ec] at g4
          obtain ⟨xs, a, oa, ta, l1, l2, _⟩ := g4.last
          obtain ⟨dx, m1, _⟩ := l2
          walk_at "rd"
          refine rd_fld (anv_last rfl l1) m1 L.cls (L.nos _ (by simp)) rfl ?_
          walk_at "rd"
          refine rd_dec (fun c2 => ?_) (fun c2 => ?_)
          · have c2 : c.fin < u.2.2.2.1 := by omega
            rw [← ec] at g4
            refine clus_new rfl rfl g4 (fb' _ o1) nfr (by omega) (by omega) fun H5 o5 g5 => ?_
            exact go H5 cs _ (o1.trans o5) g5 (clStep_new fun ds' c' e => by
              rw [ec] at e
              have e2 := (List.cons.inj (List.append_inj' e rfl).2).1
              rw [← e2]; exact c2) _ rfl
          · have c2 : ¬ c.fin < u.2.2.2.1 := by omega
            refine rd_next (go H' ds c o1 (g4.mono (Nat.le_succ _) (Nat.le_refl _)) ?_ _ rfl)
            rw [ec]
            exact clStep_old c2
    · rw [List.length_map]
      rintro σ H' ⟨v4, v5, v6, rfl, o1, g4⟩
      have eu : (us.map (·.2.2)).length = us.length := List.length_map _
      rw [← eu, List.take_length] at g4
      walk_at "rd"
      have sf : Same H H' := fun y u e => by
        have e2 := sHs y u (s3 y u e)
        exact o1 y u e2 fun z => z ⟨by rw [e2]; exact fun z => (by cases z), ne_of_none (s3 y u e) hr0⟩
      exact k H' r (us.map fun x => x.2.2) sf ez pm (show ClsAt C H' r (cls (us.map fun x => x.2.2)) from g4.out)
end
end Cs
-- CsSorted
/-! sorted(a), a a set of tuples of whole numbers. -/
namespace Cs
open PySem PyProof.Rows L2
section
variable {P : Program} {w : World} {A : Around} {E : Value → Shared → Prop} {s : Shared}
theorem kat_row {b fin : Bool} {Q : Bool → Shared → Prop} : ∀ {xs ys : List Value} {ns ms : List Int} (i : Nat), IntsAre xs ns → IntsAre ys ms → fin = decide (ns.length < ms.length) → Q (HT.lexLt ns ms) s → PySem.W.KatLex P w A b fin Q (xs.zip ys) i s
  | _, _, _, _, i, .nil, .nil, hf, h => PySem.W.kat_nil (by rw [hf]; exact h)
  | _, _, _, _, i, .nil, .cons m u hy, hf, h => PySem.W.kat_nil (by
    have e : fin = true := by rw [hf]; simp
    rw [e]; exact h)
  | _, _, _, _, i, .cons n t hx, .nil, hf, h => PySem.W.kat_nil (by
    have e : fin = false := by rw [hf]; simp
    rw [e]; exact h)
  | _, _, _, _, i, @IntsAre.cons n t xs ns hx, @IntsAre.cons m u ys ms hy, hf, h => by
    rw [HT.lexLt_cons] at h
    have hf' : fin = decide (ns.length < ms.length) := by
      rw [hf]
      exact decide_eq_decide.mpr ⟨fun z => Nat.lt_of_succ_lt_succ z, fun z => Nat.succ_lt_succ z⟩
    refine PySem.W.kat_cons (wpAny_eqBool_int ?_)
    by_cases e : n = m
    · rw [if_pos e] at h
      rw [show (n == m) = true from beq_iff_eq.mpr e]
      exact PySem.W.kat_yes (kat_row (i + 1) hx hy hf' h)
    · rw [if_neg e] at h
      rw [show (n == m) = false from beq_eq_false_iff_ne.mpr e]
      exact PySem.W.kat_no (TS.oneLt_ints _ h)
/-- what a value of the heap is as a row of numbers -/
def RowOf (h : Heap) (v : Value) (k : List Int) : Prop := ∃ (a : Addr) (o : Obj) (items : Array Value) (n : Nat), v = .ref a ∧ h.get? a = some o ∧ o.cls = .type "tuple" ∧ o.data = .seq items n ∧ IntsAre items.toList k
theorem rowOf_T {h : Heap} {k : List Int} {a : Addr} (x : IsT P w h k a) : RowOf h (.ref a) k := by
  obtain ⟨o, items, n, o1, o2, o3, o4⟩ := x
  exact ⟨a, o, items, n, rfl, o1, o2, o3, ints_of_items o4⟩
theorem RowOf.keep {h h' : Heap} {v : Value} {k : List Int} (x : RowOf h v k) (kp : ∀ b o, h.get? b = some o → o.cls = .type "tuple" → h'.get? b = some o) : RowOf h' v k := by
  obtain ⟨a, o, items, n, e, o1, o2, o3, o4⟩ := x
  exact ⟨a, o, items, n, e, kp a o o1 o2, o2, o3, o4⟩
theorem firstsR {h : Heap} {f : Value → List Int} : ∀ {vs : List Value}, (∀ v ∈ vs, RowOf h v (f v) ∧ f v ≠ []) → ∃ fs : List Value, PySem.W.KatTups h vs fs ∧ fs.length = vs.length ∧ ∀ x ∈ fs, ∃ n t, x = Value.int n t
  | [], _ => ⟨[], .nil, rfl, fun _ q => by cases q⟩
  | v :: vs, g => by
    obtain ⟨fs, a1, a2, a3⟩ := firstsR fun q m => g q (List.mem_cons_of_mem v m)
    obtain ⟨⟨a, o, items, n, rfl, o1, o2, o3, o4⟩, ne⟩ := g v List.mem_cons_self
    generalize f (.ref a) = k at o4 ne
    generalize ei : items.toList = il at o4
    cases o4 with
    | nil => exact absurd rfl ne
    | cons x t o4 =>
      have at0 : items[0]? = some (.int x t) := by rw [← Array.getElem?_toList, ei]; rfl
      refine ⟨.int x t :: fs, .cons o1 o2 o3 at0 a1, congrArg Nat.succ a2, fun y m => ?_⟩
      cases m with
      | head => exact ⟨x, t, rfl⟩
      | tail _ m => exact a3 y m
theorem cmpR {vs : List Value} {f : Value → List Int} (g : ∀ v ∈ vs, RowOf s.heap v (f v)) : SrtO.Cmp P w A s (tuples' true) (fun p => p.1 ∈ vs) (SrtO.lt2 fun v u => HT.lexLt (f v) (f u)) := by
  rintro ⟨v, v'⟩ ⟨u, u'⟩ (m1 : v ∈ vs) (m2 : u ∈ vs)
  show wpAny (model P w) A (keyLt' (tuples' true) v u) (fun r s' => s' = s ∧ r = HT.lexLt (f v) (f u)) (fun _ _ => False) s
  have h1 := g v m1
  have h2 := g u m2
  generalize f v = k at h1 ⊢
  generalize f u = l at h2 ⊢
  obtain ⟨a, o, xs, n, rfl, e2, _, e4, e5⟩ := h1
  obtain ⟨a', o', ys, n', rfl, e2', _, e4', e5'⟩ := h2
  refine PySem.W.kat_lt e2 e4 e2' e4' (kat_row 0 e5 e5' ?_ ⟨rfl, rfl⟩)
  have q1 := e5.length
  have q2 := e5'.length
  rw [Array.length_toList] at q1 q2
  rw [q1, q2]
theorem ableR {a : Addr} {vs : List Value} {f : Value → List Int} (h0 : 0 < vs.length) (g : ∀ v ∈ vs, RowOf s.heap v (f v) ∧ f v ≠ []) (ha : ∀ o, s.heap.get? a = some o → o.cls ≠ .type "tuple") : SrtO.SortableO P w A s a vs fun v u => HT.lexLt (f v) (f u) := by
  intro h' keep
  have g' : ∀ v ∈ vs, RowOf h' v (f v) ∧ f v ≠ [] := fun v m => ⟨(g v m).1.keep fun b o z c => keep b o (fun e => ha o (e ▸ z) c) z, (g v m).2⟩
  obtain ⟨fs, f1, f2, f3⟩ := firstsR g'
  refine ⟨tuples' true, fun Q E hq => PySem.W.kat_kind (T := .type "int") f1 (f2 ▸ h0) (fun x m => ?_) rfl ?_, cmpR fun v m => (g' v m).1⟩
  · obtain ⟨x, t, rfl⟩ := f3 x m
    exact PySem.W.Looks.now
  · have e : (Value.type "int" != Value.type "tuple") = true := by decide +kernel
    rw [e]; exact hq
/-- sorted(a) -/
theorem sorted_set {a : Addr} {L : List (Addr × List Int)} {es : Array (Int × Value)} {ep : Nat} {t : SetTable} (S : Sg P w s.heap a L es ep t) (calm : A.handled = none) (ne : ∀ p ∈ L, p.2 ≠ []) {Q : Value → Shared → Prop}
    (q : ∀ s' p (out : Array Value) (c : Nat) (L' : List (Addr × List Int)), (∀ b o, s.heap.get? b = some o → s'.heap.get? b = some o) → s'.gens = s.gens → s'.os = s.os → s.heap.objs.size ≤ p → s'.heap.get? p = some (seqObj "list" out c) →
      out.toList = L'.map (fun r => Value.ref r.1) → L'.Perm L → L'.Pairwise (fun x y => HT.lexLt y.2 x.2 = false) → Q (.ref p) s') : wpAny (model P w) A (call (.builtin "sorted") [.ref a]) Q E s := by
  obtain ⟨o, o1, o2, o3⟩ := S.obj
  have cnt := S.count
  have most := S.most
  have two : ∀ x ∈ L, ∀ y ∈ L, Value.ref x.1 = Value.ref y.1 → x.2 = y.2 := fun x hx y hy e => by
    have k1 := S.keys x hx
    have k2 := S.keys y hy
    rw [Value.ref.inj e] at k1
    exact k1.inj k2
  have two' : ∀ x ∈ L, ∀ y ∈ L, Value.ref x.1 = Value.ref y.1 → id x = id y := fun x hx y hy e => Prod.ext (Value.ref.inj e) (two x hx y hy e)
  refine Calls.call_function_entry kind_sorted plain_sorted entry_sorted (args_sorted1 _) ?_
  unfold Builtin.«sorted»
  refine wpAny_bind (m := checkCount "sorted" 1 1 _) (wpAny_pure ?_)
  refine wpAny_bind (collect_set (A := A.in1) calm ⟨o, o1, o2.1, o3⟩ S.fit (by unfold scanBound; omega) S.tab.up S.seen fun s1 vs kp1 z1 g1 os1 pm => ?_)
  have rows_ : es.toList.map (·.2) = L.map fun r => Value.ref r.1 := by
    rw [S.row]
    show (L.map _).map _ = _
    rw [List.map_map]; rfl
  rw [rows_] at pm
  have lv : vs.length ≤ 60 := by rw [pm.length_eq, List.length_map]; exact most
  refine wpAny_bind (wpAny_newList ?_ (by rw [sizeLine_eq]; omega))
  have lst : (s1.heap.push (seqObj "list" vs.toArray 0)).get? s1.heap.objs.size = some (seqObj "list" vs.toArray 0) := Heap.get?_push_size _ rfl
  have kp2 : ∀ b u, s.heap.get? b = some u → (s1.heap.push (seqObj "list" vs.toArray 0)).get? b = some u := fun b u e => Heap.get?_push_of_some _ (kp1 b u e)
  let f : Value → List Int := behind (fun p : Addr × List Int => Value.ref p.1) (fun p => p.2) L
  have fL : ∀ x ∈ L, f (Value.ref x.1) = x.2 := fun x hx => behind_at two hx
  have fv : ∀ v ∈ vs, RowOf (s1.heap.push (seqObj "list" vs.toArray 0)) v (f v) ∧ f v ≠ [] := fun v m => by
    obtain ⟨x, hx, rfl⟩ := List.mem_map.mp (pm.mem_iff.mp m)
    rw [fL x hx]
    exact ⟨rowOf_T (isT_keep (S.keys x hx) kp2), ne x hx⟩
  refine wpAny_bind (wpAny_holding (wpAny_call_entry slot_list_sort ⟨_, lst, rfl⟩ entry_list_sort ?_ (args_list_sort _)))
  refine SrtO.list_sort_ord (s := { s1 with heap := s1.heap.push (seqObj "list" vs.toArray 0) }) (NtL.swo_lexL f) lst (by rw [sizeLine_eq]; omega) (fun h2 => ableR (s := { s1 with heap := s1.heap.push (seqObj "list" vs.toArray 0) }) (by omega) fv fun u e c => ?_) fun out h1 h2 => ⟨_, rfl, ?_⟩
  · have e2 := e.symm.trans lst
    cases e2
    exact absurd (Value.type.inj c) (by decide)
  · obtain ⟨L', l1, l2, l3⟩ := perm_behind (g := id) two' (h2.perm.trans pm)
    rw [List.map_id, List.map_id] at l3
    obtain ⟨c, hc⟩ := sortedHeap_at (vs := vs) (out := out.toArray) lst
    refine wpAny_pure ⟨_, rfl, q _ s1.heap.objs.size out.toArray c L' (fun b u e => ?_) g1 os1 z1 hc l1.symm l3 ?_⟩
    · have e1 := kp1 b u e
      have lt := Heap.lt_size e1
      show (sortedHeap (s1.heap.push (seqObj "list" vs.toArray 0)) s1.heap.objs.size vs out.toArray).get? b = some u
      rw [sortedHeap_old (Nat.ne_of_lt lt) (by rw [size_push']; exact Nat.lt_succ_of_lt lt)]
      exact kp2 b u e
    · rw [← l1] at h1
      refine List.Pairwise.imp_of_mem (fun {x y} hx hy g => ?_) (List.pairwise_map.mp h1)
      rw [← fL x (l2 x hx), ← fL y (l2 y hy)]
      exact g
end
end Cs
-- CsSetRules
/-! set(d), a | b, sorted(a) as rules: sets of paths. -/
namespace Cs
open PySem PySem.Spec PyProof.Rows L2
abbrev AP := Addr × List Nat
def toI (p : AP) : Addr × List Int := (p.1, p.2.map fun (n : Nat) => (n : Int))
theorem ints_inj : ∀ {p q : List Nat}, (p.map fun (n : Nat) => (n : Int)) = (q.map fun (n : Nat) => (n : Int)) → p = q
  | [], [], _ => rfl
  | [], _ :: _, h => by cases h
  | _ :: _, [], h => by cases h
  | a :: p, b :: q, h => by
    obtain ⟨e1, e2⟩ := List.cons.inj (show (a : Int) :: _ = (b : Int) :: _ from h)
    rw [Int.ofNat.inj e1, ints_inj e2]
/-- the set at a, by itself -/
structure Sx (P : Program) (w : World) (h : Heap) (a : Addr) (L : List (Addr × List Int)) : Prop where
  ex : ∃ (es : Array (Int × Value)) (ep : Nat) (t : SetTable), (∃ o, h.get? a = some o ∧ o.ExactSet ∧ o.data = .set es ep t) ∧ es.toList = rowsOf P w L ∧ Tab t (L.map fun p => thash P w p.2) ∧ (L.map (·.2)).Nodup ∧ t.plain = true ∧ (w.params.followText "set-order" = true ∨ t.led = true) ∧ L.length * 5 < t.mask * 3 ∧ L.length ≤ 60
def SetHO (P : Program) (w : World) (a : Addr) (L : List AP) : HO := .ext fun h => Sx P w h a (L.map toI)
theorem Sg.x {P : Program} {w : World} {h : Heap} {a : Addr} {L : List (Addr × List Int)} {es : Array (Int × Value)} {ep : Nat} {t : SetTable} (S : Sg P w h a L es ep t) : Sx P w h a L := ⟨es, ep, t, S.obj, S.row, S.tab, S.once, S.flat, S.seen, S.wide, S.most⟩
theorem Sx.g {P : Program} {w : World} {h : Heap} {a : Addr} {L : List (Addr × List Int)} (S : Sx P w h a L) (k : ∀ p ∈ L, IsT P w h p.2 p.1) : ∃ es ep t, Sg P w h a L es ep t := by
  obtain ⟨es, ep, t, e1, e2, e3, e4, e5, e6, e7, e8⟩ := S.ex
  exact ⟨es, ep, t, e1, e2, e3, e4, k, e5, e6, e7, e8⟩
theorem setHO_ok {P : Program} {w : World} {H : Hp} {h : Heap} {a : Addr} {L : List AP} (S : Sx P w h a (L.map toI)) : ObjOk P w H h a (SetHO P w a L) := by
  obtain ⟨es, ep, t, ⟨o, o1, o2⟩, _⟩ := S.ex
  refine ⟨S, ⟨o, o1⟩, fun h1 h2 p k => ?_⟩
  obtain ⟨es', ep', t', ⟨u, u1, u2⟩, r⟩ := Sx.ex p
  exact ⟨es', ep', t', ⟨u, k u u1, u2⟩, r⟩
/-- a set of paths -/
def SetAt (P : Program) (w : World) (H : Hp) (a : Addr) (L : List AP) : Prop := H a = some (SetHO P w a L) ∧ ∀ p ∈ L, H p.1 = some (.tup (nvs p.2))
theorem SetAt.same {P : Program} {w : World} {H H' : Hp} {a : Addr} {L : List AP} (s : Same H H') (h : SetAt P w H a L) : SetAt P w H' a L := ⟨s _ _ h.1, fun p hp => s _ _ (h.2 p hp)⟩
theorem vals_ap : ∀ N : List AP, Vals (N.map fun p => V.ref p.1) (N.map fun p => Value.ref p.1)
  | [] => .nil
  | x :: l => .cons rfl (vals_ap l)
section
variable {X : Cx} {pins : List (Addr × Obj)} {σ : L2.St} {H : Hp} {s : Shared}
theorem key_T (I : Inv X pins σ H s) {p : AP} (h : H p.1 = some (.tup (nvs p.2))) : IsT X.prog X.w s.heap (toI p).2 (toI p).1 := by
  refine Inv.isT I (k := (toI p).2) (SqT.of ?_)
  have e : (toI p).2.map V.int = nvs p.2 := by
    show (p.2.map _).map V.int = _
    rw [List.map_map]; rfl
  rw [e]; exact h
theorem set_g (I : Inv X pins σ H s) {a : Addr} {L : List AP} (h : SetAt X.prog X.w H a L) : ∃ es ep t, Sg X.prog X.w s.heap a (L.map toI) es ep t := by
  refine Sx.g (I.hok a _ h.1).1 fun p hp => ?_
  obtain ⟨q, hq, rfl⟩ := List.mem_map.mp hp
  exact key_T I (h.2 q hq)
/-- what is among the rows of paths is a row of a path -/
theorem back_ap {N : List (Addr × List Int)} {ks : List AP} (h : ∀ p ∈ N, p ∈ ks.map toI) : ∃ L : List AP, L.map toI = N ∧ ∀ p ∈ L, p ∈ ks := map_pick (g := toI) fun p hp => by
  obtain ⟨t, h1, h2⟩ := List.mem_map.mp (h p hp)
  exact ⟨t, h1, h2⟩
theorem key_mem {L : List AP} {k : List Nat} : (k.map fun (n : Nat) => (n : Int)) ∈ (L.map toI).map (·.2) ↔ k ∈ L.map (·.2) := by
  rw [List.map_map]
  constructor
  · intro h
    obtain ⟨p, h1, h2⟩ := List.mem_map.mp h
    exact List.mem_map.mpr ⟨p, h1, ints_inj h2⟩
  · intro h
    obtain ⟨p, h1, h2⟩ := List.mem_map.mp h
    exact List.mem_map.mpr ⟨p, h1, by rw [← h2]; rfl⟩
/-- a | b -/
def rOrT (P : Program) (w : World) : R2 := fun x y H Q => ∃ (a b : Addr) (L M : List AP), x = .ref a ∧ y = .ref b ∧ SetAt P w H a L ∧ SetAt P w H b M ∧ a ≠ b ∧ L.length + M.length ≤ 36 ∧
  ∀ c (N : List AP), H c = none → SetAt P w (upd H c (SetHO P w c N)) c N → (∀ k, k ∈ N.map (·.2) ↔ k ∈ L.map (·.2) ∨ k ∈ M.map (·.2)) → N.length ≤ L.length + M.length → Q (.ref c) (upd H c (SetHO P w c N))
theorem op_orT (cap : X.A.units + 64 < cLine) : OpR X (binaryOp .BitOr) (rOrT X.prog X.w) := by
  intro pins s σ H x y v u Q I rx ry h
  obtain ⟨a, b, L, M, rfl, rfl, ha, hb, ab, few, q⟩ := h
  cases (show v = Value.ref a from rx)
  cases (show u = Value.ref b from ry)
  obtain ⟨es, ep, t, S⟩ := set_g I ha
  obtain ⟨eo, epo, to, R⟩ := set_g I hb
  refine union_ S R ab (by rw [List.length_map, List.length_map]; exact few) (by omega) fun h' N es' ep' t' kp S' hs => ?_
  have fresh := I.hok.fresh (Nat.le_refl s.heap.objs.size)
  obtain ⟨N', e1, e2⟩ := back_ap (N := N) (ks := L ++ M) fun p hp => by
    rw [List.map_append]
    exact List.mem_append.mpr (hs.from_ p hp)
  subst e1
  have all_ : ∀ p ∈ N', H p.1 = some (.tup (nvs p.2)) := fun p hp => by
    rcases List.mem_append.mp (e2 p hp) with z | z
    · exact ha.2 p z
    · exact hb.2 p z
  refine ⟨.ref s.heap.objs.size, upd H s.heap.objs.size (SetHO X.prog X.w s.heap.objs.size N'), I.laid (t' := s.toks) kp (Nat.le_refl _) (setHO_ok S'.x), rfl, q _ N' fresh ⟨upd_same, fun p hp => sm_new fresh _ _ (all_ p hp)⟩ (fun k => ?_) ?_⟩
  · rw [← key_mem, hs.keys, key_mem, key_mem]
  · have := hs.len
    rw [List.length_map, List.length_map, List.length_map] at this
    exact this
theorem less_lex : ∀ p q : List Nat, HT.lexLt (p.map fun (n : Nat) => (n : Int)) (q.map fun (n : Nat) => (n : Int)) = Vamrqa.lessPath p q
  | [], [] => rfl
  | [], _ :: _ => rfl
  | _ :: _, [] => rfl
  | a :: p, b :: q => by
    show HT.lexLt ((a : Int) :: _) ((b : Int) :: _) = (decide (a < b) || (decide (a = b) && Vamrqa.lessPath p q))
    rw [HT.lexLt_cons, less_lex p q]
    by_cases h : a = b
    · subst h
      rw [if_pos rfl, decide_eq_true rfl, decide_eq_false (Nat.lt_irrefl _)]; rfl
    · rw [if_neg (by omega), decide_eq_false h, Bool.false_and, Bool.or_false]
      exact decide_eq_decide.mpr (by omega)
/-- sorted(a) -/
def rSortedS (P : Program) (w : World) : List V → Hp → VK → Prop := fun vs H Q => ∃ (a : Addr) (L : List AP), vs = [.ref a] ∧ SetAt P w H a L ∧ (∀ p ∈ L, p.2 ≠ []) ∧
  ∀ c (N : List AP), H c = none → N.Perm L → (N.map (·.2)).Nodup → N.Pairwise (fun p q => Vamrqa.lessPath q.2 p.2 = false) → Q (.ref c) (upd H c (.lst (N.map fun p => V.ref p.1)))
theorem cr_sortedS (calm : X.calm = true) : CallR X (.builtin "sorted") (rSortedS X.prog X.w) := by
  intro pins s σ H vs us Q I r h
  obtain ⟨a, L, rfl, ha, ne, q⟩ := h
  obtain ⟨es, ep, t, S⟩ := set_g I ha
  rw [Vals.ref1 r]
  refine sorted_set S (I.ok.hd calm) (fun p hp => ?_) fun s' p out c L' kp g o hp hg eo pm pw => ?_
  · obtain ⟨u, hu, rfl⟩ := List.mem_map.mp hp
    exact fun z => ne u hu (List.map_eq_nil_iff.mp z)
  · obtain ⟨N, p1, p2⟩ := perm_lift pm
    subst p2
    have few : N.length ≤ 60 := by
      have := S.most
      rw [List.length_map] at this
      rw [p1.length_eq]; exact this
    have refs : (N.map toI).map (fun r => Value.ref r.1) = N.map fun p => Value.ref p.1 := by rw [List.map_map]; rfl
    rw [refs] at eo
    have rel : Vals (N.map fun p => V.ref p.1) out.toList := by
      rw [eo]
      exact vals_ap N
    have fresh := I.hok.fresh hp
    have J : Inv X pins σ (upd H p (.lst (N.map fun p => V.ref p.1))) { s with heap := s'.heap, gens := s'.gens, drawn := s'.drawn, toks := s'.toks } :=
      Inv.call (ch := []) I (Un.laid kp hp fresh) (I.hok.laid kp hp ⟨by rw [List.length_map, sizeLine_eq]; omega, out.toList, c, rel, hg⟩) (by rw [g]; exact I.bare) fun _ z => nomatch z
    have es' : s' = { s with heap := s'.heap, gens := s'.gens, drawn := s'.drawn, toks := s'.toks } := by
      cases s'; cases s; cases o; rfl
    rw [es']
    refine ⟨.ref p, _, J, rfl, q p N fresh p1 ?_ ?_⟩
    · have n1 := (p1.map (fun x : AP => x.2)).nodup_iff.mpr
      refine n1 ?_
      have o1 := S.once
      rw [List.map_map] at o1
      refine List.pairwise_map.mpr (List.Pairwise.imp (fun {x y} z e => z ?_) (List.pairwise_map.mp o1))
      show (toI x).2 = (toI y).2
      unfold toI
      rw [e]
    · refine List.Pairwise.imp (fun {x y} z => ?_) (List.pairwise_map.mp pw)
      have z : HT.lexLt (toI y).2 (toI x).2 = false := z
      rw [← less_lex]; exact z
/-- set(d) -/
def rSetD (P : Program) (w : World) : List V → Hp → VK → Prop := fun vs H Q => ∃ (d : Addr) (fs : Tr), vs = [.ref d] ∧ DictAt H d fs ∧ fs.length ≤ 36 ∧
  ∀ c (N : List AP), H c = none → SetAt P w (upd H c (SetHO P w c N)) c N → (∀ k, k ∈ N.map (·.2) ↔ k ∈ paths fs) → N.length ≤ fs.length → Q (.ref c) (upd H c (SetHO P w c N))
/-- the keys of a dict of paths and where they stand -/
theorem dict_keys : ∀ {es : List Ent} {xs : List (List Key × Addr × Value)}, Paired (fun (p : List Key × V) (q : List Key × Addr × Value) => p.1 = q.1 ∧ H q.2.1 = some (.tup (p.1.map kV)) ∧ RelV p.2 q.2.2) (es.map entK) xs →
    ∃ ks : List AP, ks.map (·.2) = es.map (fun e => e.1.path) ∧ xs.map (fun q => (q.2.1, q.1)) = ks.map (fun p => (p.1, keyOf p.2)) ∧ ∀ p ∈ ks, H p.1 = some (.tup (nvs p.2))
  | [], _, .nil => ⟨[], rfl, rfl, fun p hp => by cases hp⟩
  | e :: es, _, .cons (b := x) ⟨h1, h2, _⟩ r => by
    obtain ⟨ks, a1, a2, a3⟩ := dict_keys r
    have h1 : keyOf e.1.path = x.1 := h1
    have h2 : H x.2.1 = some (.tup ((keyOf e.1.path).map kV)) := h2
    rw [keyOf_kV] at h2
    refine ⟨(x.2.1, e.1.path) :: ks, by rw [List.map_cons, List.map_cons, a1], by rw [List.map_cons, List.map_cons, a2, h1], fun p hp => ?_⟩
    cases hp with
    | head => exact h2
    | tail _ hp => exact a3 p hp
theorem hash_key (P : Program) (w : World) (p : List Nat) : (tupleKind (mixKind P w)).hash (keyOf p) = thash P w (p.map fun (n : Nat) => (n : Int)) := by
  show tupleKeyHash (mixKind P w) (keyOf p) = tupleKeyHash (intKind P w) _
  unfold tupleKeyHash keyOf
  rw [List.map_map, List.map_map]
  rfl
theorem cr_setD (cap : X.A.units + 64 < cLine) : CallR X (.type "set") (rSetD X.prog X.w) := by
  intro pins s σ H vs us Q I r h
  obtain ⟨d, fs, rfl, hd, few, q⟩ := h
  obtain ⟨es, h1, rfl, h3⟩ := hd
  rw [Vals.ref1 r]
  obtain ⟨z, sm, xs, pr, o, de, ep, o1, o2, o3, o4, o5⟩ := I.hok d _ h1
  obtain ⟨ks, a1, a2, a3⟩ := dict_keys pr
  have lk : ks.length = es.length := by
    have := congrArg List.length a1
    rw [List.length_map, List.length_map] at this
    exact this
  rw [List.length_map] at few
  refine set_call (ks := ks.map toI) o1 o2 o3 sm ?_ (fun p hp => ?_) (by rw [List.length_map, lk]; exact few) (by omega) fun h' N es' ep' t' kp S' hs => ?_
  · rw [o4, List.map_map, List.map_map]
    have e1 : xs.map ((fun e : DictEntry => (e.key, e.hash)) ∘ entryOfKey (tupleKind (mixKind X.prog X.w))) = (xs.map fun q => (q.2.1, q.1)).map fun y => (Value.ref y.1, (tupleKind (mixKind X.prog X.w)).hash y.2) := by
      rw [List.map_map]; rfl
    rw [e1, a2, List.map_map]
    refine List.map_congr_left fun p _ => ?_
    show (Value.ref p.1, (tupleKind (mixKind X.prog X.w)).hash (keyOf p.2)) = (Value.ref p.1, thash X.prog X.w (toI p).2)
    rw [hash_key]; rfl
  · obtain ⟨u, hu, rfl⟩ := List.mem_map.mp hp
    exact key_T I (a3 u hu)
  · obtain ⟨N', e1, e2⟩ := back_ap (N := N) (ks := ks) fun p hp => (hs.from_ p hp).resolve_left fun z => by cases z
    subst e1
    have fresh := I.hok.fresh (Nat.le_refl s.heap.objs.size)
    refine ⟨.ref s.heap.objs.size, upd H s.heap.objs.size (SetHO X.prog X.w s.heap.objs.size N'), I.laid (t' := s.toks) kp (Nat.le_refl _) (setHO_ok S'.x), rfl, q _ N' fresh ⟨upd_same, fun p hp => sm_new fresh _ _ (a3 p (e2 p hp))⟩ (fun k => ?_) ?_⟩
    · rw [← key_mem, hs.keys, key_mem, a1]
      unfold paths
      rw [List.map_map]
      constructor
      · rintro (y | y)
        · cases y
        · exact y
      · exact fun y => .inr y
    · have := hs.len
      rw [List.length_map, List.length_map] at this
      rw [List.length_map, ← lk]
      have z0 : ([] : List (Addr × List Int)).length = 0 := rfl
      omega
end
end Cs
-- CsSortD
/-! sorted(d), d a dict of paths; l.extend(t); calls without arguments. -/
namespace Cs
open PySem PySem.Spec PyProof.Rows L2
section
variable {P : Program} {w : World} {A : Around} {E : Value → Shared → Prop} {s : Shared}
theorem sorted_keys {d : Addr} {o : Obj} {de : Array DictEntry} {ep : Nat} {L : List (Addr × List Int)} (o1 : s.heap.get? d = some o) (o2 : o.ExactDict) (o3 : o.data = .dict de ep) (sm : (d == sysModules) = false)
    (ent : de.toList.map (fun e => e.key) = L.map fun p => Value.ref p.1) (keys : ∀ p ∈ L, IsT P w s.heap p.2 p.1) (once : (L.map (·.2)).Nodup) (few : L.length ≤ 60) (calm : A.handled = none) (ne : ∀ p ∈ L, p.2 ≠ []) {Q : Value → Shared → Prop}
    (q : ∀ (h1 h' : Heap) tk p (out : Array Value) (c : Nat) (L' : List (Addr × List Int)), (∀ b o, s.heap.get? b = some o → h1.get? b = some o) → (∀ b o, h1.get? b = some o → h'.get? b = some o) → h1.objs.size ≤ p → h'.get? p = some (seqObj "list" out c) →
      out.toList = L'.map (fun r => Value.ref r.1) → L'.Perm L → L'.Pairwise (fun x y => HT.lexLt y.2 x.2 = false) → Q (.ref p) { s with heap := h', toks := tk }) : wpAny (model P w) A (call (.builtin "sorted") [.ref d]) Q E s := by
  have cnt : de.size = L.length := by
    have := congrArg List.length ent
    rw [List.length_map, List.length_map, Array.length_toList] at this
    exact this
  have two : ∀ x ∈ L, ∀ y ∈ L, Value.ref x.1 = Value.ref y.1 → x.2 = y.2 := fun x hx y hy e => by
    have k1 := keys x hx
    have k2 := keys y hy
    rw [Value.ref.inj e] at k1
    exact k1.inj k2
  have two' : ∀ x ∈ L, ∀ y ∈ L, Value.ref x.1 = Value.ref y.1 → id x = id y := fun x hx y hy e => Prod.ext (Value.ref.inj e) (two x hx y hy e)
  refine Calls.call_function_entry kind_sorted plain_sorted entry_sorted (args_sorted1 _) ?_
  unfold Builtin.«sorted»
  refine wpAny_bind (m := checkCount "sorted" 1 1 _) (wpAny_pure ?_)
  refine wpAny_bind (PySem.W.kdu_collect (A := A.in1) (PySem.KdlSrc.rawDict (es := de) (ep := ep) sm) calm ⟨o, o1, o2, o3⟩ (by rw [cnt, sizeLine_eq]; omega) fun h1 tk acc kp1 got => ?_)
  have eq_ : acc.toList = L.map fun r => Value.ref r.1 := by
    refine List.ext_getElem? fun i => ?_
    rw [Array.getElem?_toList]
    cases e : acc[i]? with
    | none =>
      have hi : acc.size ≤ i := Array.getElem?_eq_none_iff.mp e
      have hl : L.length ≤ i := by rw [← cnt, ← got.1]; exact hi
      rw [List.getElem?_eq_none (by rw [List.length_map]; exact hl)]
    | some v =>
      obtain ⟨hi, rfl⟩ := got.2 i v e
      rw [← ent, List.getElem?_map, Array.getElem?_toList, Array.getElem?_eq_getElem hi]; rfl
  have pm : acc.toList.Perm (L.map fun r => Value.ref r.1) := by rw [eq_]
  generalize acc.toList = vs at pm
  have lv : vs.length ≤ 60 := by rw [pm.length_eq, List.length_map]; exact few
  refine wpAny_bind (wpAny_newList ?_ (by rw [sizeLine_eq]; omega))
  have lst : (h1.push (seqObj "list" vs.toArray 0)).get? h1.objs.size = some (seqObj "list" vs.toArray 0) := Heap.get?_push_size _ rfl
  have kp2 : ∀ b u, s.heap.get? b = some u → (h1.push (seqObj "list" vs.toArray 0)).get? b = some u := fun b u e => Heap.get?_push_of_some _ (kp1 b u e)
  let f : Value → List Int := behind (fun p : Addr × List Int => Value.ref p.1) (fun p => p.2) L
  have fL : ∀ x ∈ L, f (Value.ref x.1) = x.2 := fun x hx => behind_at two hx
  have fv : ∀ v ∈ vs, RowOf (h1.push (seqObj "list" vs.toArray 0)) v (f v) ∧ f v ≠ [] := fun v m => by
    obtain ⟨x, hx, rfl⟩ := List.mem_map.mp (pm.mem_iff.mp m)
    rw [fL x hx]
    exact ⟨rowOf_T (isT_keep (keys x hx) kp2), ne x hx⟩
  refine wpAny_bind (wpAny_holding (wpAny_call_entry slot_list_sort ⟨_, lst, rfl⟩ entry_list_sort ?_ (args_list_sort _)))
  refine SrtO.list_sort_ord (s := { s with heap := h1.push (seqObj "list" vs.toArray 0), toks := tk }) (NtL.swo_lexL f) lst (by rw [sizeLine_eq]; omega) (fun h2 => ableR (s := { s with heap := h1.push (seqObj "list" vs.toArray 0), toks := tk }) (by omega) fv fun u e c => ?_) fun out h1' h2 => ⟨_, rfl, ?_⟩
  · have e2 := e.symm.trans lst
    cases e2
    exact absurd (Value.type.inj c) (by decide)
  · obtain ⟨L', l1, l2, l3⟩ := perm_behind (g := id) two' (h2.perm.trans pm)
    rw [List.map_id, List.map_id] at l3
    obtain ⟨c, hc⟩ := sortedHeap_at (vs := vs) (out := out.toArray) lst
    refine wpAny_pure ⟨_, rfl, q h1 _ tk h1.objs.size out.toArray c L' kp1 (fun b u e1 => ?_) (Nat.le_refl _) hc l1.symm l3 ?_⟩
    · have lt := Heap.lt_size e1
      show (sortedHeap (h1.push (seqObj "list" vs.toArray 0)) h1.objs.size vs out.toArray).get? b = some u
      rw [sortedHeap_old (Nat.ne_of_lt lt) (by rw [size_push']; exact Nat.lt_succ_of_lt lt)]
      exact Heap.get?_push_of_some _ e1
    · rw [← l1] at h1'
      refine List.Pairwise.imp_of_mem (fun {x y} hx hy g => ?_) (List.pairwise_map.mp h1')
      rw [← fL x (l2 x hx), ← fL y (l2 y hy)]
      exact g
end
section
variable {X : Cx} {pins : List (Addr × Obj)} {σ : L2.St} {H : Hp} {s : Shared}
/-- sorted(d) -/
def rSortedD : List V → Hp → VK → Prop := fun vs H Q => ∃ (d : Addr) (fs : Tr), vs = [.ref d] ∧ DictAt H d fs ∧ fs.length ≤ 60 ∧ (paths fs).Nodup ∧ (∀ f ∈ fs, f.path ≠ []) ∧
  ∀ c (N : List AP), H c = none → (∀ p ∈ N, H p.1 = some (.tup (nvs p.2))) → (N.map (·.2)).Perm (paths fs) → N.Pairwise (fun p q => Vamrqa.lessPath q.2 p.2 = false) → Q (.ref c) (upd H c (.lst (N.map fun p => V.ref p.1)))
theorem cr_sortedD (calm : X.calm = true) : CallR X (.builtin "sorted") rSortedD := by
  intro pins s σ H vs us Q I r h
  obtain ⟨d, fs, rfl, hd, few, nd, ne, q⟩ := h
  obtain ⟨es, h1, rfl, h3⟩ := hd
  rw [Vals.ref1 r]
  obtain ⟨z, sm, xs, pr, o, de, ep, o1, o2, o3, o4, o5⟩ := I.hok d _ h1
  obtain ⟨ks, a1, a2, a3⟩ := dict_keys pr
  have lk : ks.length = es.length := by
    have := congrArg List.length a1
    rw [List.length_map, List.length_map] at this
    exact this
  rw [List.length_map] at few
  have ap : ks.map (·.2) = paths (es.map (·.1)) := by
    rw [a1]
    unfold paths
    rw [List.map_map]; rfl
  refine sorted_keys (L := ks.map toI) o1 o2 o3 sm ?_ (fun p hp => ?_) ?_ (by rw [List.length_map, lk]; exact few) (I.ok.hd calm) (fun p hp => ?_) fun h1' h' tk p out c L' kp1 kp2 hp hg eo pm pw => ?_
  · rw [o4, List.map_map, List.map_map]
    have e1 : xs.map ((fun e : DictEntry => e.key) ∘ entryOfKey (tupleKind (mixKind X.prog X.w))) = (xs.map fun q => (q.2.1, q.1)).map fun y => Value.ref y.1 := by
      rw [List.map_map]; rfl
    rw [e1, a2, List.map_map]; rfl
  · obtain ⟨u, hu, rfl⟩ := List.mem_map.mp hp
    exact key_T I (a3 u hu)
  · rw [List.map_map]
    rw [← ap] at nd
    refine List.pairwise_map.mpr (List.Pairwise.imp (fun {x y} z e => z (ints_inj e)) (List.pairwise_map.mp nd))
  · obtain ⟨u, hu, rfl⟩ := List.mem_map.mp hp
    have hu2 : u.2 ∈ paths (es.map (·.1)) := by rw [← ap]; exact List.mem_map_of_mem hu
    obtain ⟨f, hf, ef⟩ := List.mem_map.mp hu2
    exact fun z => ne f hf (ef.trans (List.map_eq_nil_iff.mp z))
  · obtain ⟨N, p1, p2⟩ := perm_lift pm
    subst p2
    have refs : (N.map toI).map (fun r => Value.ref r.1) = N.map fun p => Value.ref p.1 := by rw [List.map_map]; rfl
    rw [refs] at eo
    have rel : Vals (N.map fun p => V.ref p.1) out.toList := by
      rw [eo]; exact vals_ap N
    have I1 : Inv X pins σ H { s with heap := h1', toks := tk } := I.kept kp1
    have fresh := I1.hok.fresh hp
    refine ⟨.ref p, upd H p (.lst (N.map fun p => V.ref p.1)), I1.laid (t' := tk) kp2 hp ⟨by rw [List.length_map, p1.length_eq, lk, sizeLine_eq]; omega, out.toList, c, rel, hg⟩, rfl, q p N fresh (fun x hx => a3 x (p1.mem_iff.mp hx)) ?_ ?_⟩
    · rw [← ap]
      exact p1.map _
    · refine List.Pairwise.imp (fun {x y} z => ?_) (List.pairwise_map.mp pw)
      have z : HT.lexLt (toI y).2 (toI x).2 = false := z
      rw [← less_lex]; exact z
/-- l.extend(t), t a tuple -/
def rExtendT (K : PySem.W.Frag) : V → List V → Hp → VK → Prop := fun x vs H Q => ∃ l b xs zs, x = .ref l ∧ vs = [.ref b] ∧ H l = some (.lst xs) ∧ SqT K H b zs ∧ xs.length + zs.length ≤ 10000000 ∧ Q .non (upd H l (.lst (xs ++ zs)))
theorem mt_extendT : MtM X "list.extend" (rExtendT X.K) := by
  intro pins s σ H x vs v us Q I rx rv h
  obtain ⟨l, b, xs, zs, rfl, rfl, hH, hB, hz, q⟩ := h
  cases rx
  obtain ⟨u, rfl, ru⟩ := rv.one
  cases ru
  obtain ⟨z, its, n, r, hl, e⟩ := I.lstM hH
  obtain ⟨its2, r2, tp, hz2⟩ := I.tuple hB
  obtain ⟨o, to1, to2, n2, to3⟩ := tp
  have sz : its.length + its2.length ≤ 10000000 := by rw [← r.length, ← r2.length]; exact hz
  refine wpAny_call_entry PySem.F.slot_list_extend ⟨_, e, rfl⟩ PySem.F.entry_list_extend ?_ (PySem.F.args_list_extend_2 _ _)
  unfold Builtin.«list.extend»
  have e1 : selfAndOne "list.extend" ⟨[.ref l, .ref b], []⟩ = pure (.ref l, .ref b) := by simp [selfAndOne, noKeywords]
  rw [e1]
  refine wpAny_bind (wpAny_pure ?_)
  dsimp only
  unfold Builtin.List.listExtendWith
  refine wpAny_bind (wpAny_typeOf (T := "tuple") ⟨o, to1, to2⟩ ?_)
  refine wp_if_pos (by simp) ?_
  refine wpAny_bind (listItems_at to1 to3 ?_)
  refine wpAny_bind (listItems_at e rfl ?_)
  have nl : ¬ (!its.toArray.isEmpty && Builtin.List.listTooLong (its.toArray.size + its2.toArray.size)) = true := by
    rw [notLongL (by rw [List.size_toArray, List.size_toArray, sizeLine_eq]; omega), Bool.and_false]
    exact Bool.false_ne_true
  refine wp_if_neg nl ?_
  refine wpAny_bind (listUpdate_at e rfl ?_ (by rw [List.size_toArray, sizeLine_eq]; omega) (by rw [Array.size_append, List.size_toArray, List.size_toArray, sizeLine_eq]; omega))
  refine wpAny_pure ⟨.none, rfl, .non, _, I.lset (its' := its ++ its2) (t' := s.toks) hH e (by simp) (r.append r2) ?_, rfl, q⟩
  rw [List.length_append, sizeLine_eq]; omega
end
section
variable {X : Cx} {k j : Nat} {C : Addr} {x : Str} {sp : Sp} {dvs : List V} {p pos : Pos}
theorem pe_c0 (c : C8.Cal X.prog X.w X.K X.mg X.base k x sp dvs) (hr : Room j X.A) (hk : k ≤ j) (hg : Gl X x) (hdb : (x == ("__debug__" : Str)) = false := by decide) : PE X (.Call (.Name x p) [] [] pos) (tCall sp dvs C8.E0 tNil) := by
  obtain ⟨f, fd, ps, ds, F, a, kp, b, d⟩ := c.ex
  exact pe_call0 F (hr.mono hk) hg a kp b d C8.pass0 hdb
theorem pe_mk0 (c : C8.Mak X.prog X.w X.K X.mg X.base k x C sp dvs) (hr : Room j X.A) (hk : k + 1 ≤ j) (hg : Gl X x) (hdb : (x == ("__debug__" : Str)) = false := by decide) : PE X (.Call (.Name x p) [] [] pos) (tMake C sp dvs C8.E0 tNil) := by
  obtain ⟨f, fd, ps, ds, M, F, a, b, d⟩ := c.ex
  exact pe_make0 M F (hr.mono hk) hg a b d C8.pass0 hdb
end
end Cs
-- CsMergeT
namespace Cs
open PySem PySem.Spec PyProof.Rows L2
open Vamrqc
/-! sizes -/
theorem stW_size (l : List Nat) (e B : Nat) : ∀ (hs : List Tri) (b : Nat), (∀ h ∈ hs, h.2.2.length ≤ B) → (stW l e b hs).length ≤ hs.length * (l.length + B) + l.length
  | [], b, _ => by
    have := cutN_short l b e
    show (cutN l b e).length ≤ 0 * (l.length + B) + l.length
    omega
  | h :: r, b, hh => by
    have ih := stW_size l e B r (h.1 + h.2.1.length) fun x hx => hh x (List.mem_cons_of_mem _ hx)
    have h1 := hh h List.mem_cons_self
    have h2 := cutN_short l b h.1
    show (cutN l b h.1 ++ (h.2.2 ++ stW l e (h.1 + h.2.1.length) r)).length ≤ (r.length + 1) * (l.length + B) + l.length
    rw [List.length_append, List.length_append, Nat.add_mul]
    omega
def ClSub (P : Sid → Prop) (n : Nat) (cs : List Cl) : Prop := ∀ c ∈ cs, c.items.length ≤ n ∧ ∀ x ∈ c.items, P x
theorem clStep_sub {P : Sid → Prop} {n : Nat} {cs : List Cl} {x : Sid} (h : ClSub P n cs) (hx : P x) : ClSub P (n + 1) (clStep cs x) := by
  by_cases g : ∀ ds c, cs = ds ++ [c] → c.fin < x.2.1
  · rw [clStep_new g]
    intro c hc
    rcases List.mem_append.mp hc with hc | hc
    · exact ⟨Nat.le_succ_of_le (h c hc).1, (h c hc).2⟩
    · rw [List.mem_singleton.mp hc]
      refine ⟨Nat.succ_le_succ (Nat.zero_le n), fun y hy => ?_⟩
      have e : y = x := List.mem_singleton.mp hy
      rw [e]; exact hx
  · have ⟨ds, g⟩ := Classical.not_forall.mp g
    have ⟨c0, g⟩ := Classical.not_forall.mp g
    have ⟨e, g0⟩ := Classical.not_imp.mp g
    subst e
    rw [clStep_old g0]
    intro c hc
    rcases List.mem_append.mp hc with hc | hc
    · have q := h c (List.mem_append_left _ hc)
      exact ⟨Nat.le_succ_of_le q.1, q.2⟩
    · have q := h c0 (List.mem_append_right _ (List.mem_singleton_self _))
      rw [List.mem_singleton.mp hc]
      refine ⟨?_, fun y hy => ?_⟩
      · show (c0.items ++ [x]).length ≤ n + 1
        rw [List.length_append]
        exact Nat.succ_le_succ q.1
      · rcases List.mem_append.mp (show y ∈ c0.items ++ [x] from hy) with hy | hy
        · exact q.2 y hy
        · rw [List.mem_singleton.mp hy]; exact hx
theorem foldCl_sub {P : Sid → Prop} : ∀ (xs : List Sid) (n : Nat) (cs : List Cl), ClSub P n cs → (∀ x ∈ xs, P x) → ClSub P (n + xs.length) (xs.foldl clStep cs)
  | [], n, cs, h, _ => h
  | x :: xs, n, cs, h, g => by
    have q := foldCl_sub xs (n + 1) (clStep cs x) (clStep_sub h (g x List.mem_cons_self)) fun y hy => g y (List.mem_cons_of_mem _ hy)
    have e : n + 1 + xs.length = n + (x :: xs).length := by rw [List.length_cons]; omega
    rw [e] at q
    exact q
/-- the sizes of the clusters of three short texts -/
theorem cls_size {b o t : List Nat} {ys : List Sid} (zb : b.length ≤ 40) (zo : o.length ≤ 40) (zt : t.length ≤ 40) (pm : ys.Perm (sids b o t)) :
    (cls ys).length ≤ 162 ∧ ∀ c ∈ cls ys, c.ours.length ≤ 162 ∧ c.theirs.length ≤ 162 ∧ (∀ h ∈ c.ours, h.2.2.length ≤ 80) ∧ ∀ h ∈ c.theirs, h.2.2.length ≤ 80 := by
  have l0 := pm.length_eq
  have l1 := hks_len b o
  have l2 := hks_len b t
  rw [sids_len] at l0
  have l3 := foldCl_len ys []
  have e0 : ([] : List Cl).length = 0 := rfl
  have hs : ∀ x ∈ ys, x.2.2.2.length ≤ 80 := fun x hx => by
    have hx := pm.mem_iff.mp hx
    unfold sids at hx
    rcases List.mem_append.mp hx with hx | hx
    · obtain ⟨h, hm, rfl⟩ := List.mem_map.mp hx
      have := (hks_new hm).2
      show h.2.2.length ≤ 80
      omega
    · obtain ⟨h, hm, rfl⟩ := List.mem_map.mp hx
      have := (hks_new hm).2
      show h.2.2.length ≤ 80
      omega
  have sub := foldCl_sub (P := fun x => x.2.2.2.length ≤ 80) ys 0 [] (fun c hc => by cases hc) hs
  refine ⟨by unfold cls; omega, fun c hc => ?_⟩
  obtain ⟨q1, q2⟩ := sub c hc
  have z1 := ours_len c
  have z2 := theirs_len c
  refine ⟨by omega, by omega, fun h hm => ?_, fun h hm => ?_⟩
  · obtain ⟨x, hx, rfl⟩ := List.mem_map.mp hm
    exact q2 x (List.mem_filter.mp hx).1
  · obtain ⟨x, hx, rfl⟩ := List.mem_map.mp hm
    exact q2 x (List.mem_filter.mp hx).1
theorem isSet_some (b o t : List Nat) : isSet (some b) (some o) (some t) = isSet b o t := by
  unfold isSet
  simp
theorem setl_some (b o t : List Nat) : setl (some b) (some o) (some t) = some (setl b o t) := by
  unfold setl
  by_cases h : o = b
  · rw [if_pos h, if_pos (by rw [h])]
  · rw [if_neg h, if_neg fun z => h (Option.some.inj z)]
theorem setl_len {n : Nat} (b : List Nat) {o t : List Nat} (h1 : o.length ≤ n) (h2 : t.length ≤ n) : (setl b o t).length ≤ n := by
  unfold setl
  by_cases h : o = b
  · rw [if_pos h]; exact h2
  · rw [if_neg h]; exact h1
section
variable {P : Program} {w : World} {K : PySem.W.Frag} {mg : Str → Option Value} {base : Heap} {C : Addr}
abbrev sMergeTexts : Stmt := top 47
abbrev NMergeTexts : List Str := ["base", "ours", "theirs", "conflicts", "text", "begin", "cluster", "in_base", "in_ours", "in_theirs"]
theorem scMergeTexts : FnScope NMergeTexts ["base", "ours", "theirs"] (defScope sMergeTexts) := ⟨rfl, rfl, rfl, by decide +kernel, rfl, by decide +kernel, by decide +kernel⟩
/-- merge_texts -/
def spMergeTexts : Sp := fun vs H Q _ => ∃ (p q r : Addr) (b o t : List Nat), vs = [.ref p, .ref q, .ref r] ∧ H p = some (.tup (nvs b)) ∧ H q = some (.tup (nvs o)) ∧ H r = some (.tup (nvs t)) ∧ b.length ≤ 40 ∧ o.length ≤ 40 ∧ t.length ≤ 40 ∧
  ∀ H' d x (ys : List Sid), Same H H' → ys.map spn = allSpans b o t → H' d = some (.tup [nv (Cs.mg b ys).conf, .ref x]) → H' x = some (.tup (nvs ((Cs.mg b ys).text ++ b.drop (Cs.mg b ys).at_))) → Q (.ref d) H'
theorem ok_mergeTexts (F : Df K mg "merge_texts" sMergeTexts) (T : Tx mg) (L : Kl K C clNames) (G_hunks_between : C8.Cal P w K mg base 3 "hunks_between" spHunks []) (G_stretch_with : C8.Cal P w K mg base 1 "stretch_with" spStretch [])
    (G_clusters_of : C8.Cal P w K mg base 3 "clusters_of" (spClusters C) []) (G_is_settled : C8.Cal P w K mg base 1 "is_settled" spIsSet []) (G_settled : C8.Cal P w K mg base 1 "settled" spSettled []) :
    C8.Cal P w K mg base 4 "merge_texts" spMergeTexts [] := by
  refine F.cal scMergeTexts (fun _ _ _ _ _ _ us hl => match us, hl with | [_, _, _], _ => rfl) (fun vs H Q E h => ?_) (fun f cdv A outer s H vs Q E hr h => ?_)
  · obtain ⟨p, q, r, b, o, t, rfl, _⟩ := h
    rfl
  · obtain ⟨p, q, r, b, o, t, rfl, hp, hq, hr0, zb, zo, zt, k⟩ := h
    refine ⟨_, (pss_cons (ps_set (i := 3) scMergeTexts.nd rfl (Or.inl rfl) pe_int)
      (pss_cons (ps_set (i := 4) scMergeTexts.nd rfl (Or.inl rfl) (pe_tup pa_nil))
      (pss_cons (ps_set (i := 5) scMergeTexts.nd rfl (Or.inl rfl) pe_int)
      (pss_cons (ps_for PassesOwn.never rfl (pi_list (C8.pe_c G_clusters_of hr (by decide) (by rfl) (pa_cons (C8.pe_c G_hunks_between hr (by decide) (by rfl) (pa_cons (pv 0) (pa_cons (pv 1) pa_nil))) (pa_cons (C8.pe_c G_hunks_between hr (by decide) (by rfl) (pa_cons (pv 0) (pa_cons (pv 2) pa_nil))) pa_nil)))) (pg_name (i := 6) scMergeTexts.nd rfl (Or.inl rfl))
        (pss_cons (ps_set (i := 4) scMergeTexts.nd rfl (Or.inl rfl) (pe_op op_catA (pv 4) (pe_slice sl_tupA (pv 0) (po_some (pv 5)) (po_some (pe_fld (pv 6) rfl)))))
        (pss_cons (ps_set (i := 5) scMergeTexts.nd rfl (Or.inl rfl) (pe_fld (pv 6) rfl))
        (pss_cons (ps_set (i := 7) scMergeTexts.nd rfl (Or.inl rfl) (pe_slice sl_tupA (pv 0) (po_some (pe_fld (pv 6) rfl)) (po_some (pe_fld (pv 6) rfl))))
        (pss_cons (ps_set (i := 8) scMergeTexts.nd rfl (Or.inl rfl) (C8.pe_c G_stretch_with hr (by decide) (by rfl) (pa_cons (pv 0) (pa_cons (pe_fld (pv 6) rfl) (pa_cons (pe_fld (pv 6) rfl) (pa_cons (pe_fld (pv 6) rfl) pa_nil))))))
        (pss_cons (ps_set (i := 9) scMergeTexts.nd rfl (Or.inl rfl) (C8.pe_c G_stretch_with hr (by decide) (by rfl) (pa_cons (pv 0) (pa_cons (pe_fld (pv 6) rfl) (pa_cons (pe_fld (pv 6) rfl) (pa_cons (pe_fld (pv 6) rfl) pa_nil))))))
        (pss_one (ps_if (pt_val (C8.pe_c G_is_settled hr (by decide) (by rfl) (pa_cons (pv 7) (pa_cons (pv 8) (pa_cons (pv 9) pa_nil)))))
          (pss_one (ps_set (i := 4) scMergeTexts.nd rfl (Or.inl rfl) (pe_op op_catA (pv 4) (C8.pe_c G_settled hr (by decide) (by rfl) (pa_cons (pv 7) (pa_cons (pv 8) (pa_cons (pv 9) pa_nil)))))))
          (pss_one (ps_aug (i := 3) scMergeTexts.nd rfl (.inl rfl) pe_int ip_add))))))))))
      (pss_one (ps_ret (pe_tup (pa_cons (pv 3) (pa_cons (pe_op op_catA (pv 4) (pe_slice sl_tupA (pv 0) (po_some (pv 5)) po_none)) pa_nil))))))))), ?_⟩
    walk_at "rd"
    refine ⟨by show 0 ≤ sizeLine; decide, fun d0 hd0 => ?_⟩
    walk_at "rd"
    have s0 := sm_new (o := .tup []) hd0
    refine ⟨p, q, b, o, rfl, s0 _ _ hp, s0 _ _ hq, by omega, by omega, fun H1 r1 s1 g1 => ?_⟩
    walk_at "rd"
    have s01 := s0.trans s1
    refine ⟨p, r, b, t, rfl, s01 _ _ hp, s01 _ _ hr0, by omega, by omega, fun H2 r2 s2 g2 => ?_⟩
    walk_at "rd"
    refine ⟨r1, r2, b, o, t, rfl, g1.same s2, g2, by omega, by omega, by omega, fun H3 r3 ys s3 ez pm g3 => ?_⟩
    have s03 := (s01.trans s2).trans s3
    have d03 : H3 d0 = some (.tup []) := s3 _ _ (s2 _ _ (s1 _ _ upd_same))
    obtain ⟨sz1, sz2⟩ := cls_size zb zo zt pm
    obtain ⟨qs, q1, q2, q3⟩ := g3
    have lq : qs.length = (cls ys).length := by rw [← q2, List.length_map]
    refine ⟨r3, rfl, ⟨_, SqL.of q1⟩, for_list (K := K) (a := r3) (xs := qs.map fun x => V.ref x.1) (fun i σ H' => ∃ (d : Addr) (v6 v7 v8 v9 : Option V) (st : Mg), st = ((cls ys).take i).foldl (mgStep b) ⟨0, [], 0⟩ ∧
      σ = [some (.ref p), some (.ref q), some (.ref r), some (nv st.conf), some (.ref d), some (nv st.at_), v6, v7, v8, v9] ∧ Same H3 H' ∧ H' d = some (.tup (nvs st.text)) ∧ st.text.length ≤ i * 30000) ?_ ?_ ?_ ?_⟩
    · exact ⟨d0, none, none, none, none, _, rfl, rfl, Same.refl _, d03, Nat.zero_le _⟩
    · rintro i σ H' _ ⟨d, v6, v7, v8, v9, st, _, rfl, s4, _⟩
      exact SqL.of (s4 _ _ q1)
    · rintro i x σ H' hx ⟨d, v6, v7, v8, v9, st, est, rfl, s4, hd, zd⟩
      rw [List.getElem?_map] at hx
      cases e1 : qs[i]? with
      | none => rw [e1] at hx; cases hx
      | some u =>
        rw [e1] at hx
        have hx : V.ref u.1 = x := Option.some.inj hx
        subst hx
        have il : i < qs.length := (List.getElem?_eq_some_iff.mp e1).1
        obtain ⟨a, oa, ta, c⟩ := u
        have hy : (cls ys)[i]? = some c := by rw [← q2, List.getElem?_map, e1]; rfl
        obtain ⟨dx, h1, h2, h3, h4⟩ := (q3 _ (List.mem_of_getElem? e1)).same s4
        have h1 : H' a = some (.ins C dx [("place", nv c.place), ("end", nv c.fin), ("ours", .ref oa), ("theirs", .ref ta)]) := h1
        have h2 : TrisAt H' oa c.ours := h2
        have h3 : TrisAt H' ta c.theirs := h3
        obtain ⟨c1, c2, c3, c4⟩ := sz2 c (List.mem_of_getElem? hy)
        have hb : H' p = some (.tup (nvs b)) := s4 _ _ (s03 _ _ hp)
        have zi : i * 30000 ≤ 162 * 30000 := Nat.mul_le_mul_right _ (by omega)
        have y1 := cutN_short b st.at_ c.place
        have y2 := stW_size b c.fin 80 c.ours c.place c3
        have y3 := stW_size b c.fin 80 c.theirs c.place c4
        have y4 : c.ours.length * (b.length + 80) ≤ 162 * 120 := Nat.mul_le_mul c1 (by omega)
        have y5 : c.theirs.length * (b.length + 80) ≤ 162 * 120 := Nat.mul_le_mul c2 (by omega)
        have step : ((cls ys).take (i + 1)).foldl (mgStep b) ⟨0, [], 0⟩ = mgStep b st c := by
          rw [take_more hy, List.foldl_append, ← est]; rfl
        walk_at "rd"
        refine rd_fld (anv_var rfl) h1 L.cls (L.nos _ (by simp)) rfl ?_
        walk_at "rd"
        refine rd_slT hb (cutV_nn b _ _) fun e2 H4 s5 g5 => ?_
        refine rd_catT (s5 _ _ hd) g5 (by omega) fun d1 H5 s6 g6 => ?_
        have s7 := s5.trans s6
        walk_at "rd"
        refine rd_fld (anv_var rfl) (s7 _ _ h1) L.cls (L.nos _ (by simp)) rfl ?_
        walk_at "rd"
        refine rd_fld (anv_var rfl) (s7 _ _ h1) L.cls (L.nos _ (by simp)) rfl ?_
        walk_at "rd"
        refine rd_fld (anv_var rfl) (s7 _ _ h1) L.cls (L.nos _ (by simp)) rfl ?_
        walk_at "rd"
        refine rd_slT (s7 _ _ hb) (cutV_nn b _ _) fun e3 H6 s8 g8 => ?_
        have s9 := s7.trans s8
        walk_at "rd"
        refine rd_fld (anv_var rfl) (s9 _ _ h1) L.cls (L.nos _ (by simp)) rfl ?_
        walk_at "rd"
        refine rd_fld (anv_var rfl) (s9 _ _ h1) L.cls (L.nos _ (by simp)) rfl ?_
        walk_at "rd"
        refine rd_fld (anv_var rfl) (s9 _ _ h1) L.cls (L.nos _ (by simp)) rfl ?_
        walk_at "rd"
        refine ⟨p, oa, b, c.place, c.fin, c.ours, rfl, s9 _ _ hb, h2.same s9, by omega, by omega, fun h hm => Nat.le_trans (c3 h hm) (by decide), fun H7 e4 s10 g10 => ?_⟩
        have s11 := s9.trans s10
        walk_at "rd"
        refine rd_fld (anv_var rfl) (s11 _ _ h1) L.cls (L.nos _ (by simp)) rfl ?_
        walk_at "rd"
        refine rd_fld (anv_var rfl) (s11 _ _ h1) L.cls (L.nos _ (by simp)) rfl ?_
        walk_at "rd"
        refine rd_fld (anv_var rfl) (s11 _ _ h1) L.cls (L.nos _ (by simp)) rfl ?_
        walk_at "rd"
        refine ⟨p, ta, b, c.place, c.fin, c.theirs, rfl, s11 _ _ hb, h3.same s11, by omega, by omega, fun h hm => Nat.le_trans (c4 h hm) (by decide), fun H8 e5 s12 g12 => ?_⟩
        have s13 := s11.trans s12
        have o3 : OptAt H8 (.ref e3) (some (cBase b c)) := ⟨e3, rfl, s12 _ _ (s10 _ _ g8)⟩
        have o4 : OptAt H8 (.ref e4) (some (cOurs b c)) := ⟨e4, rfl, s12 _ _ g10⟩
        have o5 : OptAt H8 (.ref e5) (some (cTheirs b c)) := ⟨e5, rfl, g12⟩
        have g6' : H8 d1 = some (.tup (nvs (st.text ++ cutN b st.at_ c.place))) := s12 _ _ (s10 _ _ (s8 _ _ g6))
        walk_at "rd"
        refine ⟨_, _, _, _, _, _, rfl, o3, o4, o5, ?_⟩
        rw [isSet_some]
        walk_at "rd"
        refine rd_cond (fun k1 => ?_) (fun k1 => ?_)
        · walk_at "rd"
          refine ⟨_, _, _, _, _, _, rfl, o3, o4, o5, fun v ov => ?_⟩
          rw [setl_some] at ov
          obtain ⟨e6, rfl, g14⟩ := ov
          have y6 : (setl (cBase b c) (cOurs b c) (cTheirs b c)).length ≤ 20000 := setl_len _ (by unfold cOurs; omega) (by unfold cTheirs; omega)
          refine rd_catT g6' g14 (by rw [List.length_append]; omega) fun d2 H9 s14 g15 => ?_
          walk_at "rd"
          refine ⟨d2, some (.ref a), some (.ref e3), some (.ref e4), some (.ref e5), mgStep b st c, step.symm, ?_, s4.trans (s13.trans s14), ?_, ?_⟩
          · rw [mgStep_set k1]; rfl
          · rw [mgStep_set k1]; exact g15
          · rw [mgStep_set k1]
            show ((st.text ++ cutN b st.at_ c.place) ++ setl (cBase b c) (cOurs b c) (cTheirs b c)).length ≤ (i + 1) * 30000
            rw [List.length_append, List.length_append]
            omega
        · have k2 : ¬ isSet (cBase b c) (cOurs b c) (cTheirs b c) = true := by rw [k1]; decide
          walk_at "rd"
          refine ⟨d1, some (.ref a), some (.ref e3), some (.ref e4), some (.ref e5), mgStep b st c, step.symm, ?_, s4.trans s13, ?_, ?_⟩
          · rw [mgStep_unset k2]; rfl
          · rw [mgStep_unset k2]; exact g6'
          · rw [mgStep_unset k2]
            show (st.text ++ cutN b st.at_ c.place).length ≤ (i + 1) * 30000
            rw [List.length_append]
            omega
    · rw [List.length_map]
      rintro σ H' ⟨d, v6, v7, v8, v9, st, est, rfl, s4, hd, zd⟩
      rw [lq, List.take_length] at est
      have est : st = Cs.mg b ys := est
      subst est
      have zi : qs.length * 30000 ≤ 162 * 30000 := Nat.mul_le_mul_right _ (by omega)
      have hb : H' p = some (.tup (nvs b)) := s4 _ _ (s03 _ _ hp)
      have zdr : (b.drop (Cs.mg b ys).at_).length ≤ 40 := by rw [List.length_drop]; omega
      walk_at "rd"
      refine rd_slT hb (cutV_ne b _) fun e2 H4 s5 g5 => ?_
      refine rd_catT (s5 _ _ hd) g5 (by omega) fun d1 H5 s6 g6 => ?_
      walk_at "rd"
      refine ⟨by show 2 ≤ sizeLine; decide, fun p1 hp1 => ?_⟩
      exact k _ p1 d1 ys (s03.trans (s4.trans ((s5.trans s6).trans (sm_new hp1)))) ez upd_same (sm_new hp1 _ _ g6)
end
end Cs
-- CsFate
namespace Cs
open PySem PySem.Spec PyProof.Rows L2
open Vamrqc (fateOf)
def Short : Option (List Nat) → Prop
  | none => True
  | some l => l.length ≤ 40
theorem opt_non {H : Hp} {v : V} : ∀ {o : Option (List Nat)}, OptAt H v o → (decide (v = V.non) = decide (o = none))
  | none, h => by
    rw [show v = .non from h]; rfl
  | some l, ⟨a, e, _⟩ => by
    rw [e]; rfl
theorem an_isN {σ : L2.St} {H : Hp} {ta : TE} {x : V} {o : Option (List Nat)} (ha : AnV ta σ H x) (h : OptAt H x o) : An (tTest (tOp (fun x y H Q => y = .non ∧ Q (.bl (decide (x = .non))) H) ta (tC .non))) σ H (decide (o = none)) :=
  an_test fun R q => ha _ ⟨rfl, by rw [opt_non h]; exact q⟩
section
variable {P : Program} {w : World} {K : PySem.W.Frag} {mg : Str → Option Value} {base : Heap}
abbrev sFate : Stmt := top 52
abbrev NFate : List Str := ["base", "ours", "theirs"]
theorem scFate : FnScope NFate ["base", "ours", "theirs"] (defScope sFate) := ⟨rfl, rfl, rfl, by decide +kernel, rfl, by decide +kernel, by decide +kernel⟩
/-- fate -/
def spFate : Sp := fun vs H Q _ => ∃ (x y z : V) (b o t : Option (List Nat)), vs = [x, y, z] ∧ OptAt H x b ∧ OptAt H y o ∧ OptAt H z t ∧ Short b ∧ Short o ∧ Short t ∧
  ∀ H' d v u, Same H H' → H' d = some (.tup [nv (Vamrqc.conflictsIn (fateOf b o t)), v]) → OptAt H' v u → (Vamrqc.conflictsIn (fateOf b o t) = 0 → u = fL (fateOf b o t)) → Q (.ref d) H'
theorem ok_fate (F : Df K mg "fate" sFate) (T : Tx mg) (G_is_settled : C8.Cal P w K mg base 1 "is_settled" spIsSet []) (G_settled : C8.Cal P w K mg base 1 "settled" spSettled []) (G_merge_texts : C8.Cal P w K mg base 4 "merge_texts" spMergeTexts []) :
    C8.Cal P w K mg base 5 "fate" spFate [] := by
  refine F.cal scFate (fun _ _ _ _ _ _ us hl => match us, hl with | [_, _, _], _ => rfl) (fun vs H Q E h => ?_) (fun f cdv A outer s H vs Q E hr h => ?_)
  · obtain ⟨x, y, z, b, o, t, rfl, _⟩ := h
    rfl
  · obtain ⟨x, y, z, b, o, t, rfl, hb, ho, ht, zb, zo, zt, k⟩ := h
    refine ⟨_, (pss_cons (ps_if (pt_val (C8.pe_c G_is_settled hr (by decide) (by rfl) (pa_cons (pv 0) (pa_cons (pv 1) (pa_cons (pv 2) pa_nil)))))
        (pss_one (ps_ret (pe_tup (pa_cons pe_int (pa_cons (C8.pe_c G_settled hr (by decide) (by rfl) (pa_cons (pv 0) (pa_cons (pv 1) (pa_cons (pv 2) pa_nil)))) pa_nil)))))
        pss_nil)
      (pss_cons (ps_if (PW.pt (pw_or (pt_cmpR op_isN (pv 0) pe_non (nomark _)) (pw_or (pt_cmpR op_isN (pv 1) pe_non (nomark _)) (pw_or1 (pt_cmpR op_isN (pv 2) pe_non (nomark _))))))
        (pss_one (ps_ret (pe_tup (pa_cons pe_int (pa_cons pe_non pa_nil)))))
        pss_nil)
      (pss_one (ps_ret (C8.pe_c G_merge_texts hr (by decide) (by rfl) (pa_cons (pv 0) (pa_cons (pv 1) (pa_cons (pv 2) pa_nil)))))))), ?_⟩
    walk_at "rd"
    refine ⟨x, y, z, b, o, t, rfl, hb, ho, ht, ?_⟩
    walk_at "rd"
    refine rd_cond (fun c => ?_) (fun c => ?_)
    · walk_at "rd"
      refine ⟨x, y, z, b, o, t, rfl, hb, ho, ht, fun v hv => ?_⟩
      have e := fate_settled c
      walk_at "rd"
      refine ⟨by show 2 ≤ sizeLine; decide, fun d hd => ?_⟩
      rw [e] at k
      exact k _ d v _ (sm_new hd) upd_same (hv.same (sm_new hd)) fun _ => rfl
    · refine rd_next ?_
      with_reducible apply rd_seq
      with_reducible apply rd_if
      refine an_use (an_or (an_isN (anv_var rfl) hb) fun _ => an_or (an_isN (anv_var rfl) ho) fun _ => an_isN (anv_var rfl) ht) ?_
      refine rd_cond (fun g => ?_) (fun g => ?_)
      · have g2 : b = none ∨ o = none ∨ t = none := by
          rw [Bool.or_eq_true, Bool.or_eq_true, decide_eq_true_eq, decide_eq_true_eq, decide_eq_true_eq] at g
          exact g
        walk_at "rd"
        refine ⟨by show 2 ≤ sizeLine; decide, fun d hd => ?_⟩
        have e := fate_gone c g2
        rw [e] at k
        exact k _ d .non none (sm_new hd) upd_same rfl fun z => by cases z
      · rw [Bool.or_eq_false_iff, Bool.or_eq_false_iff, decide_eq_false_iff_not, decide_eq_false_iff_not, decide_eq_false_iff_not] at g
        obtain ⟨n1, n2, n3⟩ := g
        cases b with
        | none => exact absurd rfl n1
        | some b =>
        cases o with
        | none => exact absurd rfl n2
        | some o =>
        cases t with
        | none => exact absurd rfl n3
        | some t =>
        obtain ⟨p, rfl, gp⟩ := hb
        obtain ⟨q, rfl, gq⟩ := ho
        obtain ⟨r, rfl, gr⟩ := ht
        walk_at "rd"
        refine ⟨p, q, r, b, o, t, rfl, gp, gq, gr, zb, zo, zt, fun H' d x ys s1 e h1 h2 => ?_⟩
        obtain ⟨e1, e2⟩ := fate_three c e
        rw [e1] at k
        refine k H' d (.ref x) (some _) s1 h1 ⟨x, rfl, h2⟩ fun z => ?_
        rw [e2 z]; rfl
end
end Cs
-- CsCarry
namespace Cs
open PySem PySem.Spec PyProof.Rows L2
open Vamrqd (carry Carried stopTold)
/-- what merge answers -/
def MergedAt (H : Hp) (d : Addr) : Out → Prop
  | .conf n => H d = some (.tup [nv 1, nv n])
  | .no n => H d = some (.tup [nv 2, nv n])
  | .tree u => ∃ f, H d = some (.tup [nv 0, .ref f]) ∧ TreeAt H f u
def spMerge : Sp := fun vs H Q _ => ∃ (x y z : Addr) (b o t : Tr), vs = [.ref x, .ref y, .ref z] ∧ TreeAt H x b ∧ TreeAt H y o ∧ TreeAt H z t ∧ Good b ∧ Good o ∧ Good t ∧ ∀ H' d, Same H H' → MergedAt H' d (mergeC b o t) → Q (.ref d) H'
/-- trees, in a list -/
def TreesAt (H : Hp) (r : Addr) (ts : List Tr) : Prop := ∃ qs : List (Addr × Tr), H r = some (.lst (qs.map fun q => V.ref q.1)) ∧ qs.map (·.2) = ts ∧ ∀ q ∈ qs, TreeAt H q.1 q.2
theorem TreesAt.same {H H' : Hp} {r : Addr} {ts : List Tr} (s : Same H H') (h : TreesAt H r ts) : TreesAt H' r ts := by
  obtain ⟨qs, a, b, c⟩ := h
  exact ⟨qs, s _ _ a, b, fun q hq => (c q hq).same s⟩
theorem TreesAt.get {H : Hp} {r : Addr} {ts : List Tr} {i : Nat} {t : Tr} (h : TreesAt H r ts) (g : ts[i]? = some t) : ∃ xs a, H r = some (.lst xs) ∧ xs[i]? = some (.ref a) ∧ TreeAt H a t ∧ xs.length = ts.length := by
  obtain ⟨qs, a, b, c⟩ := h
  rw [← b, List.getElem?_map] at g
  obtain ⟨q, g1, g2⟩ := Option.map_eq_some_iff.mp g
  subst g2
  exact ⟨_, q.1, a, by rw [List.getElem?_map, g1]; rfl, c q (List.mem_of_getElem? g1), by rw [List.length_map, ← b, List.length_map]⟩
theorem DictAt.mut {H : Hp} {r d : Addr} {xs ys : List V} {fs : Tr} (h : DictAt H d fs) (hr : H r = some (.lst xs)) : DictAt (upd H r (.lst ys)) d fs := by
  obtain ⟨es, a, b, c⟩ := h
  refine ⟨es, ?_, b, fun e he => tup_mut (c e he) hr fun _ z => by cases z⟩
  rw [upd_ne]
  · exact a
  · intro e
    rw [e, hr] at a; cases a
theorem TreeAt.mut {H : Hp} {r d : Addr} {xs ys : List V} {t : Tr} (h : TreeAt H d t) (hr : H r = some (.lst xs)) : TreeAt (upd H r (.lst ys)) d t := by
  obtain ⟨fs, a, b⟩ := h
  exact ⟨fs, a.mut hr, b⟩
theorem TreesAt.add {H : Hp} {r d : Addr} {ts : List Tr} {t : Tr} (h : TreesAt H r ts) (ht : TreeAt H d t) : ∃ xs, H r = some (.lst xs) ∧ xs.length = ts.length ∧ TreesAt (upd H r (.lst (xs ++ [.ref d]))) r (ts ++ [t]) := by
  obtain ⟨qs, a, b, c⟩ := h
  refine ⟨_, a, by rw [List.length_map, ← b, List.length_map], qs ++ [(d, t)], ?_, by rw [List.map_append, b]; rfl, fun q hq => ?_⟩
  · rw [upd_same, List.map_append]; rfl
  · rcases List.mem_append.mp hq with hq | hq
    · exact (c q hq).mut a
    · rw [List.mem_singleton.mp hq]
      exact ht.mut a
/-- trees already carried, and what the rest comes to -/
def carried (l : List Tr) : Carried → Carried
  | .trees r => .trees (l ++ r)
  | .halt_ k m => .halt_ k m
theorem carry_next {k : Nat} {below onto t u : Tr} {r : List Tr} (h : Vamrqc.merge below onto t = .tree u) : carry k below onto (t :: r) = carried [u] (carry (k + 1) t u r) := by
  show (match Vamrqc.merge below onto t with
    | .tree u => match carry (k + 1) t u r with
      | .trees l => Carried.trees (u :: l)
      | .halt_ j m => Carried.halt_ j m
    | m => Carried.halt_ k m) = _
  rw [h]
  show (match carry (k + 1) t u r with
      | .trees l => Carried.trees (u :: l)
      | .halt_ j m => Carried.halt_ j m) = _
  cases carry (k + 1) t u r <;> rfl
theorem carry_stop {k : Nat} {below onto t : Tr} {r : List Tr} (h : ∀ u, Vamrqc.merge below onto t ≠ .tree u) : carry k below onto (t :: r) = .halt_ k (Vamrqc.merge below onto t) := by
  show (match Vamrqc.merge below onto t with
    | .tree u => match carry (k + 1) t u r with
      | .trees l => Carried.trees (u :: l)
      | .halt_ j m => Carried.halt_ j m
    | m => Carried.halt_ k m) = _
  cases e : Vamrqc.merge below onto t with
  | tree u => exact absurd e (h u)
  | conflicts n => rfl
  | unfit x => rfl
theorem carried_two (l m : List Tr) (x : Carried) : carried l (carried m x) = carried (l ++ m) x := by
  cases x with
  | trees r => show Carried.trees _ = Carried.trees _; rw [List.append_assoc]
  | halt_ k m => rfl
/-- what carry_on answers -/
def CarriedAt (H0 H : Hp) (p : Addr) : Carried → Prop
  | .trees l => ∃ s c, H p = some (.tup [.ref s, .ref c]) ∧ H s = some (.lst []) ∧ TreesAt H c l ∧ ∀ t ∈ l, Good t
  | .halt_ k m => ∃ s c, H p = some (.tup [.ref s, .ref c]) ∧ H s = some (.lst ((stopTold k m).map V.int)) ∧ stopTold k m ≠ [] ∧ H0 s = none
section
variable {P : Program} {w : World} {K : PySem.W.Frag} {mg : Str → Option Value} {base : Heap}
theorem rd_rng2 {σ : L2.St} {H : Hp} {ta : TA} {R : It → Hp → Prop} (h : ta σ H fun vs H1 => ∃ i j : Int, vs = [.int i, .int j] ∧ (-(2 ^ 62) ≤ i ∧ i < 2 ^ 62 ∧ -(2 ^ 62) ≤ j ∧ j < 2 ^ 62) ∧ R (Itr i (j - i).toNat) H1) : iRng2 ta σ H R := h
/-- what carry answers -/
def OneAt (H0 H : Hp) (p : Addr) (n : Nat) : Out → Prop
  | .tree u => ∃ s f, H p = some (.tup [.ref s, .ref f]) ∧ H s = some (.lst []) ∧ TreeAt H f u
  | .conf k => ∃ s, H p = some (.tup [.ref s, .non]) ∧ H s = some (.lst [nv 1, nv n, nv k]) ∧ H0 s = none
  | .no k => ∃ s, H p = some (.tup [.ref s, .non]) ∧ H s = some (.lst [nv 2, nv n, nv k]) ∧ H0 s = none
abbrev sCarry : Stmt := top 54
abbrev NCarry : List Str := ["trees", "number", "onto", "ending", "found"]
theorem scCarry : FnScope NCarry ["trees", "number", "onto"] (defScope sCarry) := ⟨rfl, rfl, rfl, by decide +kernel, rfl, by decide +kernel, by decide +kernel⟩
def spCarry1 : Sp := fun vs H Q _ => ∃ (r d : Addr) (n : Nat) (ts : List Tr) (o : Tr), vs = [.ref r, nv n, .ref d] ∧ TreesAt H r ts ∧ TreeAt H d o ∧ Good o ∧ (∀ t ∈ ts, Good t) ∧ 1 ≤ n ∧ n < ts.length ∧
  ∀ H' p, Same H H' → OneAt H H' p n (mergeC (ts.getD (n - 1) []) o (ts.getD n [])) → Q (.ref p) H'
theorem ok_carry1 (F : Df K mg "carry" sCarry) (T : Tx mg) (G_merge : C8.Cal P w K mg base 6 "merge" spMerge []) : C8.Cal P w K mg base 7 "carry" spCarry1 [] := by
  refine F.cal scCarry (fun _ _ _ _ _ _ us hl => match us, hl with | [_, _, _], _ => rfl) (fun vs H Q E h => ?_) (fun f cdv A outer s H vs Q E hr h => ?_)
  · obtain ⟨r, d, n, ts, o, rfl, _⟩ := h
    rfl
  · obtain ⟨r, d, n, ts, o, rfl, ht, hd, go, gt, n1, n2, q⟩ := h
    refine ⟨_, (pss_cons (ps_asg (C8.pe_c G_merge hr (by decide) (by rfl) (pa_cons (pe_ix ix_list (pv 0) (pe_op op_sub (pv 1) pe_int) (fun _ _ => rfl)) (pa_cons (pv 2) (pa_cons (pe_ix ix_list (pv 0) (pv 1) (fun _ _ => rfl)) pa_nil)))) (pg_tup (by rfl) (pgs_cons (pg_name (i := 3) scCarry.nd rfl (Or.inl rfl)) (pgs_cons (pg_name (i := 4) scCarry.nd rfl (Or.inl rfl)) pgs_nil))))
      (pss_cons (ps_if (pt_cmpR op_ne (pv 3) (C8.pe_gc (by rfl) T.c_DONE) (nomark _))
        (pss_one (ps_ret (pe_tup (pa_cons (pe_lst (pa_cons (pv 3) (pa_cons (pv 1) (pa_cons (pv 4) pa_nil)))) (pa_cons pe_non pa_nil)))))
        pss_nil)
      (pss_one (ps_ret (pe_tup (pa_cons (pe_lst pa_nil) (pa_cons (pv 4) pa_nil))))))), ?_⟩
    have g1 : ts[n - 1]? = some (ts.getD (n - 1) []) := by
      rw [List.getD_eq_getElem?_getD, List.getElem?_eq_getElem (by omega)]; rfl
    have g2 : ts[n]? = some (ts.getD n []) := by
      rw [List.getD_eq_getElem?_getD, List.getElem?_eq_getElem (by omega)]; rfl
    obtain ⟨xs, a1, b1, b2, b3, b4⟩ := ht.get g1
    obtain ⟨xs', a2, c1, c2, c3, c4⟩ := ht.get g2
    have exs : xs = xs' := by rw [b1] at c1; cases c1; rfl
    subst exs
    walk_at "rd"
    refine rd_ixL (k := n - 1) (SqL.of b1) (by omega) b2 ?_
    walk_at "rd"
    refine rd_ixL (k := n) (SqL.of b1) rfl c2 ?_
    walk_at "rd"
    refine ⟨a1, d, a2, _, o, _, rfl, b3, hd, c3, gt _ (List.mem_of_getElem? g1), go, gt _ (List.mem_of_getElem? g2), fun H3 p s3 hm => ?_⟩
    cases em : mergeC (ts.getD (n - 1) []) o (ts.getD n []) with
    | conf k =>
      rw [em] at hm q
      have hm : H3 p = some (.tup [nv 1, nv k]) := hm
      refine rd_gtup (SqT.of hm) rfl ?_
      walk_at "rd"
      refine rd_ndec (fun _ => ?_) (fun e => absurd e (by decide))
      walk_at "rd"
      refine ⟨by show 3 ≤ sizeLine; decide, fun s0 hs0 => ?_⟩
      walk_at "rd"
      refine ⟨by show 2 ≤ sizeLine; decide, fun p0 hp0 => ?_⟩
      exact q _ p0 (s3.trans ((sm_new hs0).trans (sm_new hp0))) ⟨s0, upd_same, sm_new hp0 _ _ upd_same, sm_free s3 hs0⟩
    | no k =>
      rw [em] at hm q
      have hm : H3 p = some (.tup [nv 2, nv k]) := hm
      refine rd_gtup (SqT.of hm) rfl ?_
      walk_at "rd"
      refine rd_ndec (fun _ => ?_) (fun e => absurd e (by decide))
      walk_at "rd"
      refine ⟨by show 3 ≤ sizeLine; decide, fun s0 hs0 => ?_⟩
      walk_at "rd"
      refine ⟨by show 2 ≤ sizeLine; decide, fun p0 hp0 => ?_⟩
      exact q _ p0 (s3.trans ((sm_new hs0).trans (sm_new hp0))) ⟨s0, upd_same, sm_new hp0 _ _ upd_same, sm_free s3 hs0⟩
    | tree v =>
      rw [em] at hm q
      obtain ⟨e2, hm, hv⟩ := hm
      refine rd_gtup (SqT.of hm) rfl ?_
      walk_at "rd"
      refine rd_ndec (fun e => absurd rfl e) (fun _ => ?_)
      walk_at "rd"
      refine ⟨by show 0 ≤ sizeLine; decide, fun s0 hs0 => ?_⟩
      walk_at "rd"
      refine ⟨by show 2 ≤ sizeLine; decide, fun p0 hp0 => ?_⟩
      exact q _ p0 (s3.trans ((sm_new hs0).trans (sm_new hp0))) ⟨s0, e2, upd_same, sm_new hp0 _ _ upd_same, hv.same ((sm_new hs0).trans (sm_new hp0))⟩
abbrev sCarryOn : Stmt := top 55
abbrev NCarryOn : List Str := ["trees", "first", "onto", "carried", "number", "stop"]
theorem scCarryOn : FnScope NCarryOn ["trees", "first", "onto"] (defScope sCarryOn) := ⟨rfl, rfl, rfl, by decide +kernel, rfl, by decide +kernel, by decide +kernel⟩
def spCarry : Sp := fun vs H Q _ => ∃ (r d : Addr) (k : Nat) (ts : List Tr) (u : Tr), vs = [.ref r, nv k, .ref d] ∧ TreesAt H r ts ∧ TreeAt H d u ∧ Good u ∧ (∀ t ∈ ts, Good t) ∧ 1 ≤ k ∧ k ≤ ts.length ∧ ts.length ≤ 1000 ∧
  ∀ H' p, Same H H' → CarriedAt H H' p (carry k (ts.getD (k - 1) []) u (ts.drop k)) → Q (.ref p) H'
theorem ok_carry (F : Df K mg "carry_on" sCarryOn) (T : Tx mg) (G_carry : C8.Cal P w K mg base 7 "carry" spCarry1 []) : C8.Cal P w K mg base 8 "carry_on" spCarry [] := by
  refine F.cal scCarryOn (fun _ _ _ _ _ _ us hl => match us, hl with | [_, _, _], _ => rfl) (fun vs H Q E h => ?_) (fun f cdv A outer s H vs Q E hr h => ?_)
  · obtain ⟨r, d, k, ts, u, rfl, _⟩ := h
    rfl
  · obtain ⟨r, d, k, ts, u, rfl, ht, hd, gu, gt, k1, k2, zt, q⟩ := h
    refine ⟨_, (pss_cons (ps_set (i := 3) scCarryOn.nd rfl (Or.inl rfl) (pe_lst pa_nil))
      (pss_cons (ps_for PassesOwn.never rfl (pi_range2 (by rfl) T.range (pa_cons (pv 1) (pa_cons (pe_callB call_lenS (by rfl) T.len PySem.boot_len (pa_cons (pv 0) pa_nil)) pa_nil))) (pg_name (i := 4) scCarryOn.nd rfl (Or.inl rfl))
        (pss_cons (ps_asg (C8.pe_c G_carry hr (by decide) (by rfl) (pa_cons (pv 0) (pa_cons (pv 4) (pa_cons (pv 2) pa_nil)))) (pg_tup (by rfl) (pgs_cons (pg_name (i := 5) scCarryOn.nd rfl (Or.inl rfl)) (pgs_cons (pg_name (i := 2) scCarryOn.nd rfl (Or.inl rfl)) pgs_nil))))
        (pss_cons (ps_if (pt_truth (pv 5) (by intro _; rfl))
          (pss_one (ps_ret (pe_tup (pa_cons (pv 5) (pa_cons (pe_lst pa_nil) pa_nil)))))
          pss_nil)
        (pss_one (ps_expr (pe_bm PySem.F.plainAttrs_list PySem.F.slot_list_append PySem.F.type_list_append mt_append (pv 3) (pa_cons (pv 2) pa_nil)))))))
      (pss_one (ps_ret (pe_tup (pa_cons (pe_lst pa_nil) (pa_cons (pv 3) pa_nil))))))), ?_⟩
    walk_at "rd"
    refine ⟨by show 0 ≤ sizeLine; decide, fun c hc => ?_⟩
    walk_at "rd"
    refine rd_rng2 ?_
    walk_at "rd"
    obtain ⟨qs, t1, t2, t3⟩ := ht.same (sm_new (o := .lst []) hc)
    have lq : (qs.map fun q => V.ref q.1).length = ts.length := by rw [List.length_map, ← t2, List.length_map]
    refine rd_lenL (SqL.of t1) ?_
    walk_at "rd"
    rw [lq]
    refine ⟨_, _, rfl, by omega, ?_⟩
    have en : ((ts.length : Int) - (k : Int)).toNat = ts.length - k := by omega
    rw [en]
    refine L2.for_it (walk_range (lo := (k : Int)) (n := ts.length - k)) (fun i σ H' => ∃ (e : Addr) (v4 v5 : Option V) (l : List Tr) (o : Tr), σ = [some (.ref r), some (nv k), some (.ref e), some (.ref c), v4, v5] ∧ Same H H' ∧ TreesAt H' c l ∧ TreeAt H' e o ∧ Good o ∧ (∀ t ∈ l, Good t) ∧ l.length = i ∧
      carry k (ts.getD (k - 1) []) u (ts.drop k) = carried l (carry (k + i) (ts.getD (k + i - 1) []) o (ts.drop (k + i)))) ?_ (fun _ _ _ _ _ => trivial) ?_ ?_
    · refine ⟨d, none, none, [], u, rfl, sm_new hc, ⟨[], upd_same, rfl, fun q hq => (by cases hq)⟩, hd.same (sm_new hc), gu, fun t ht => (by cases ht), rfl, ?_⟩
      rw [Nat.add_zero]
      cases carry k (ts.getD (k - 1) []) u (ts.drop k) <;> rfl
    · rintro i x σ H' H2 hi ⟨e, v4, v5, l, o, rfl, s1, hl, he, go, gl, ll, ec⟩ ⟨rfl, rfl⟩
      have hts := ht.same s1
      walk_at "rd"
      refine ⟨r, e, k + i, ts, o, rfl, hts, he, go, gt, by omega, by omega, fun H3 p s3 hm => ?_⟩
      have g1 : ts[k + i - 1]? = some (ts.getD (k + i - 1) []) := by
        rw [List.getD_eq_getElem?_getD, List.getElem?_eq_getElem (by omega)]; rfl
      have g2 : ts[k + i]? = some (ts.getD (k + i) []) := by
        rw [List.getD_eq_getElem?_getD, List.getElem?_eq_getElem (by omega)]; rfl
      have dr : ts.drop (k + i) = ts.getD (k + i) [] :: ts.drop (k + i + 1) := by
        rw [List.getD_eq_getElem?_getD, List.getElem?_eq_getElem (by omega)]
        exact List.drop_eq_getElem_cons (by omega)
      rw [dr] at ec
      obtain ⟨m1, m2⟩ := merge_stop (b := ts.getD (k + i - 1) []) (o := o) (t := ts.getD (k + i) []) (k + i)
      have one : ∀ n, mergeC (ts.getD (k + i - 1) []) o (ts.getD (k + i) []) = .conf n → carry (k + i) (ts.getD (k + i - 1) []) o (ts.getD (k + i) [] :: ts.drop (k + i + 1)) = .halt_ (k + i) (Vamrqc.merge (ts.getD (k + i - 1) []) o (ts.getD (k + i) [])) := fun n e => carry_stop (m1 n e).1
      have two : ∀ n, mergeC (ts.getD (k + i - 1) []) o (ts.getD (k + i) []) = .no n → carry (k + i) (ts.getD (k + i - 1) []) o (ts.getD (k + i) [] :: ts.drop (k + i + 1)) = .halt_ (k + i) (Vamrqc.merge (ts.getD (k + i - 1) []) o (ts.getD (k + i) [])) := fun n e => carry_stop (m2 n e).1
      cases em : mergeC (ts.getD (k + i - 1) []) o (ts.getD (k + i) []) with
      | conf n =>
        rw [em] at hm
        obtain ⟨s0, hm, hs, fs⟩ := hm
        rw [one n em] at ec
        refine rd_gtup (SqT.of hm) rfl ?_
        walk_at "rd"
        refine ⟨_, .inl ⟨_, SqL.of hs, rfl⟩, ?_⟩
        refine rd_cond (fun _ => ?_) (fun z => by cases z)
        walk_at "rd"
        refine ⟨by show 0 ≤ sizeLine; decide, fun c0 hc0 => ?_⟩
        walk_at "rd"
        refine ⟨by show 2 ≤ sizeLine; decide, fun p0 hp0 => ?_⟩
        rw [ec] at q
        refine q _ p0 (s1.trans (s3.trans ((sm_new hc0).trans (sm_new hp0)))) ⟨s0, c0, upd_same, ?_, ?_, sm_free s1 fs⟩
        · rw [(m1 n em).2]
          exact sm_new hp0 _ _ (sm_new hc0 _ _ hs)
        · rw [(m1 n em).2]; exact fun z => by cases z
      | no n =>
        rw [em] at hm
        obtain ⟨s0, hm, hs, fs⟩ := hm
        rw [two n em] at ec
        refine rd_gtup (SqT.of hm) rfl ?_
        walk_at "rd"
        refine ⟨_, .inl ⟨_, SqL.of hs, rfl⟩, ?_⟩
        refine rd_cond (fun _ => ?_) (fun z => by cases z)
        walk_at "rd"
        refine ⟨by show 0 ≤ sizeLine; decide, fun c0 hc0 => ?_⟩
        walk_at "rd"
        refine ⟨by show 2 ≤ sizeLine; decide, fun p0 hp0 => ?_⟩
        rw [ec] at q
        refine q _ p0 (s1.trans (s3.trans ((sm_new hc0).trans (sm_new hp0)))) ⟨s0, c0, upd_same, ?_, ?_, sm_free s1 fs⟩
        · rw [(m2 n em).2]
          exact sm_new hp0 _ _ (sm_new hc0 _ _ hs)
        · rw [(m2 n em).2]; exact fun z => by cases z
      | tree v =>
        rw [em] at hm
        obtain ⟨s0, e2, hm, hs, hv⟩ := hm
        have gv := merge_good (gt _ (List.mem_of_getElem? g1)) go (gt _ (List.mem_of_getElem? g2)) em
        rw [carry_next (merge_tree em), carried_two] at ec
        refine rd_gtup (SqT.of hm) rfl ?_
        walk_at "rd"
        refine ⟨_, .inl ⟨_, SqL.of hs, rfl⟩, ?_⟩
        refine rd_cond (fun z => by cases z) (fun _ => ?_)
        walk_at "rd"
        obtain ⟨ys, d1, d2, d3⟩ := (hl.same s3).add hv
        refine ⟨ty_lst d1, ?_⟩
        walk_at "rd"
        refine rd_append d1 (by rw [d2]; exact szl (by omega)) ?_
        walk_at "rd"
        refine ⟨e2, some (V.int ((k : Int) + (i : Int))), some (.ref s0), l ++ [v], v, rfl, sm_mut (s1.trans s3) hc, d3, hv.mut d1, gv, ?_, by rw [List.length_append, ll]; rfl, ec⟩
        intro t ht
        rcases List.mem_append.mp ht with ht | ht
        · exact gl t ht
        · rw [List.mem_singleton.mp ht]; exact gv
    · rintro σ H' ⟨e, v4, v5, l, o, rfl, s1, hl, he, go, gl, ll, ec⟩
      walk_at "rd"
      refine ⟨by show 0 ≤ sizeLine; decide, fun s0 hs0 => ?_⟩
      walk_at "rd"
      refine ⟨by show 2 ≤ sizeLine; decide, fun p hp => ?_⟩
      have s2 := (sm_new (o := .lst []) hs0).trans (sm_new (o := .tup [.ref s0, .ref c]) hp)
      have e2 : k + (ts.length - k) = ts.length := by omega
      rw [e2, List.drop_length] at ec
      rw [ec] at q
      refine q _ p (s1.trans s2) ⟨s0, c, upd_same, ?_, ?_, ?_⟩
      · exact sm_new hp _ _ upd_same
      · rw [List.append_nil]; exact hl.same s2
      · rw [List.append_nil]; exact gl
end
end Cs
-- CsMerge
namespace Cs
open PySem PySem.Spec PyProof.Rows L2
open Vamrqa (File)
theorem DictAt.off {H H' : Hp} {S : Addr → Prop} {d : Addr} {fs : Tr} (h : DictAt H d fs) (o : Off H H' S) (nd : ¬ S d) (nt : ∀ y, S y → ∀ ys, H y ≠ some (.tup ys)) : DictAt H' d fs := by
  obtain ⟨es, a, b, c⟩ := h
  exact ⟨es, o _ _ a nd, b, fun e he => o _ _ (c e he) fun z => nt _ z _ (c e he)⟩
theorem rd_getP {σ : L2.St} {H : Hp} {Q : VK} {i j : Nat} {d b : Addr} {fs : Tr} {p : List Nat} (hd : DictAt H d fs) (hi : σ[i]? = some (some (.ref d))) (hj : σ[j]? = some (some (.ref b))) (hb : H b = some (.tup (nvs p))) (q : ∀ v, OptAt H v (Vamrqa.Tree.get fs p) → Q v H) : tDGet1 (tVar i) (tVar j) σ H Q := by
  obtain ⟨kvs, k1, _⟩ := hd.len
  obtain ⟨o, g, oa, _⟩ := dict_get hd hb
  exact rd_dget1 (rd_var hi ⟨d, rfl, .inr ⟨kvs, .inl k1⟩, rd_var hj ⟨o, g, q _ oa⟩⟩)
theorem an_notN {σ : L2.St} {H : Hp} {ta : TE} {x : V} {o : Option (List Nat)} (ha : AnV ta σ H x) (h : OptAt H x o) : An (tTest (tOp (fun x y H Q => y = .non ∧ Q (.bl (!decide (x = .non))) H) ta (tC .non))) σ H (!decide (o = none)) :=
  an_test fun R q => ha _ ⟨rfl, by rw [opt_non h]; exact q⟩
theorem short_get {t : Tr} (g : Good t) (p : List Nat) : Short (Vamrqa.Tree.get t p) := by
  cases e : Vamrqa.Tree.get t p with
  | none => trivial
  | some l => exact g.short _ (get_mem e)
theorem filesAt_next (b o t : Tr) (ps : List (List Nat)) (p : List Nat) : filesAt b o t (ps ++ [p]) = filesAt b o t ps ++ (match fL (fateAt b o t p) with
    | none => []
    | some l => [⟨p, l⟩]) := by
  unfold filesAt
  rw [List.filterMap_append]
  congr 1
  cases e : fL (fateAt b o t p) with
  | none => rw [List.filterMap_cons_none (by rw [e]; rfl)]; rfl
  | some l => rw [List.filterMap_cons_some (b := (⟨p, l⟩ : File)) (by rw [e]; rfl)]; rfl
theorem nAt_next (b o t : Tr) (ps : List (List Nat)) (p : List Nat) : ((ps ++ [p]).map (nAt b o t)).sum = (ps.map (nAt b o t)).sum + nAt b o t p := by
  rw [List.map_append, List.sum_append]
  rfl
theorem perm_paths {t u : Tr} (h : List.Perm t u) (p : List Nat) : p ∈ paths t ↔ p ∈ paths u := (h.map fun f : File => f.path).mem_iff
section
variable {P : Program} {w : World} {K : PySem.W.Frag} {mg : Str → Option Value} {base : Heap}
abbrev sMerge : Stmt := top 53
abbrev NMerge : List Str := ["base", "ours", "theirs", "conflicts", "files", "path", "found", "lines", "reason"]
theorem scMerge : FnScope NMerge ["base", "ours", "theirs"] (defScope sMerge) := ⟨rfl, rfl, rfl, by decide +kernel, rfl, by decide +kernel, by decide +kernel⟩
theorem ok_merge (F : Df K mg "merge" sMerge) (T : Tx mg) (G_fate : C8.Cal P w K mg base 5 "fate" spFate []) (G_why_no_tree : C8.Cal P w K mg base 3 "why_no_tree" spWhyNo []) : C8.Cal P w K mg base 6 "merge" spMerge [] := by
  refine F.cal scMerge (fun _ _ _ _ _ _ us hl => match us, hl with | [_, _, _], _ => rfl) (fun vs H Q E h => ?_) (fun f cdv A outer s H vs Q E hr h => ?_)
  · obtain ⟨x, y, z, b, o, t, rfl, _⟩ := h
    rfl
  · obtain ⟨x, y, z, b, o, t, rfl, hx, hy, hz, gb, go, gt, q⟩ := h
    have hu64 := hu64_of hr
    have hu := hu_of hr
    refine ⟨_, (pss_cons (ps_set (i := 3) scMerge.nd rfl (Or.inl rfl) pe_int)
      (pss_cons (ps_set (i := 4) scMerge.nd rfl (Or.inl rfl) pe_dnewT)
      (pss_cons (ps_for PassesOwn.never rfl (pi_list (pe_callB (cr_sortedS rfl) (by rfl) T.sorted (by decide +kernel) (pa_cons (pe_op (op_orT hu64) (pe_op (op_orT hu64) (pe_callTy (cr_setD hu64) (by rfl) T.set (by decide +kernel) (pa_cons (pv 0) pa_nil)) (pe_callTy (cr_setD hu64) (by rfl) T.set (by decide +kernel) (pa_cons (pv 1) pa_nil))) (pe_callTy (cr_setD hu64) (by rfl) T.set (by decide +kernel) (pa_cons (pv 2) pa_nil))) pa_nil))) (pg_name (i := 5) scMerge.nd rfl (Or.inl rfl))
        (pss_cons (ps_asg (C8.pe_c G_fate hr (by decide) (by rfl) (pa_cons (pe_dget1 hu (pv 0) (pv 5) (by constructor <;> rfl)) (pa_cons (pe_dget1 hu (pv 1) (pv 5) (by constructor <;> rfl)) (pa_cons (pe_dget1 hu (pv 2) (pv 5) (by constructor <;> rfl)) pa_nil)))) (pg_tup (by rfl) (pgs_cons (pg_name (i := 6) scMerge.nd rfl (Or.inl rfl)) (pgs_cons (pg_name (i := 7) scMerge.nd rfl (Or.inl rfl)) pgs_nil))))
        (pss_cons (ps_aug (i := 3) scMerge.nd rfl (.inl rfl) (pv 6) ip_add)
        (pss_one (ps_if (pt_cmpR op_notN (pv 7) pe_non (nomark _))
          (pss_one (ps_dput hu (pv 4) (pv 5) (pv 7) rfl))
          pss_nil)))))
      (pss_cons (ps_if (pt_cmpR op_gt (pv 3) pe_int (nomark _))
        (pss_one (ps_ret (pe_tup (pa_cons (C8.pe_gc (by rfl) T.c_CONFLICTS) (pa_cons (pv 3) pa_nil)))))
        pss_nil)
      (pss_cons (ps_set (i := 8) scMerge.nd rfl (Or.inl rfl) (C8.pe_c G_why_no_tree hr (by decide) (by rfl) (pa_cons (pv 4) pa_nil)))
      (pss_cons (ps_if (pt_cmpR op_ne (pv 8) pe_int (nomark _))
        (pss_one (ps_ret (pe_tup (pa_cons (C8.pe_gc (by rfl) T.c_NO_TREE) (pa_cons (pv 8) pa_nil)))))
        pss_nil)
      (pss_one (ps_ret (pe_tup (pa_cons (C8.pe_gc (by rfl) T.c_DONE) (pa_cons (pv 4) pa_nil))))))))))), ?_⟩
    obtain ⟨fb, xb, pb⟩ := hx
    obtain ⟨fo, yo, po⟩ := hy
    obtain ⟨ft, zt, pt⟩ := hz
    walk_at "rd"
    refine rd_dnewT fun df hdf => ?_
    walk_at "rd"
    have lb : fb.length ≤ 12 := by rw [pb.length_eq]; exact gb.few
    have lo : fo.length ≤ 12 := by rw [po.length_eq]; exact go.few
    have lt : ft.length ≤ 12 := by rw [pt.length_eq]; exact gt.few
    have s1 := sm_new (o := .dT []) hdf
    refine ⟨x, fb, rfl, xb.same s1, by omega, fun c1 N1 hc1 g1 m1 l1 => ?_⟩
    have s2 := sm_new (o := SetHO P w c1 N1) hc1
    walk_at "rd"
    refine ⟨y, fo, rfl, (yo.same s1).same s2, by omega, fun c2 N2 hc2 g2 m2 l2 => ?_⟩
    have s3 := sm_new (o := SetHO P w c2 N2) hc2
    have n12 : c1 ≠ c2 := fun e => by
      rw [← e, upd_same] at hc2; cases hc2
    refine ⟨c1, c2, N1, N2, rfl, rfl, g1.same s3, g2, n12, by omega, fun c3 N3 hc3 g3 m3 l3 => ?_⟩
    have s4 := sm_new (o := SetHO P w c3 N3) hc3
    walk_at "rd"
    refine ⟨z, ft, rfl, (((zt.same s1).same s2).same s3).same s4, by omega, fun c4 N4 hc4 g4 m4 l4 => ?_⟩
    have s5 := sm_new (o := SetHO P w c4 N4) hc4
    have n34 : c3 ≠ c4 := fun e => by
      rw [← e, upd_same] at hc4; cases hc4
    refine ⟨c3, c4, N3, N4, rfl, rfl, g3.same s5, g4, n34, by omega, fun c5 N5 hc5 g5 m5 l5 => ?_⟩
    have s6 := sm_new (o := SetHO P w c5 N5) hc5
    have mem : ∀ k, k ∈ N5.map (·.2) ↔ k ∈ mPaths b o t := fun k => by
      rw [m5, m3, m1, m2, m4, mPaths_mem, perm_paths pb, perm_paths po, perm_paths pt, or_assoc]
    have nonempty : ∀ k, k ∈ mPaths b o t → k ≠ [] := fun k hk => by
      rcases (mPaths_mem b o t k).mp hk with h | h | h
      · obtain ⟨f, hf, rfl⟩ := List.mem_map.mp h
        exact gb.full f hf
      · obtain ⟨f, hf, rfl⟩ := List.mem_map.mp h
        exact go.full f hf
      · obtain ⟨f, hf, rfl⟩ := List.mem_map.mp h
        exact gt.full f hf
    have longest : ∀ k, k ∈ mPaths b o t → k.length ≤ 40 := fun k hk => by
      rcases (mPaths_mem b o t k).mp hk with h | h | h
      · obtain ⟨f, hf, rfl⟩ := List.mem_map.mp h
        exact gb.len f hf
      · obtain ⟨f, hf, rfl⟩ := List.mem_map.mp h
        exact go.len f hf
      · obtain ⟨f, hf, rfl⟩ := List.mem_map.mp h
        exact gt.len f hf
    walk_at "rd"
    refine ⟨c5, N5, rfl, g5, fun p hp => nonempty _ ((mem _).mp (List.mem_map_of_mem hp)), fun pl N hpl pm nd pw => ?_⟩
    have s7 := sm_new (o := .lst (N.map fun p => V.ref p.1)) hpl
    have eN : N.map (·.2) = mPaths b o t := by
      refine ord_ext (ord_of (List.pairwise_map.mpr pw) nd) (mPaths_ord b o t) fun k => ?_
      rw [← mem k]
      exact (pm.map (fun p : AP => p.2)).mem_iff
    have lN : N.length ≤ 36 := by rw [pm.length_eq]; omega
    have sHd := (((((s2.trans s3).trans s4).trans s5).trans s6).trans s7)
    refine ⟨pl, rfl, ⟨_, SqL.of upd_same⟩, ?_⟩
    generalize hE : upd _ pl (HO.lst (List.map (fun p : AP => V.ref p.1) N)) = Hs
    have kN : ∀ p ∈ N, Hs p.1 = some (.tup (nvs p.2)) := fun p hp => by
      rw [← hE]
      exact s7 _ _ (g5.2 p (pm.mem_iff.mp hp))
    have dHs : Hs df = some (.dT []) := by
      rw [← hE]
      exact sHd _ _ (upd_same (H := H) (a := df) (o := .dT []))
    have lHs : Hs pl = some (.lst (N.map fun p => V.ref p.1)) := by
      rw [← hE]; exact upd_same
    have sHs : Same H Hs := by
      rw [← hE]; exact s1.trans sHd
    have nt : ∀ y, y = df → ∀ ys, Hs y ≠ some (.tup ys) := fun y e ys z => by
      rw [e, dHs] at z; cases z
    have npl : pl ≠ df := fun e => by
      rw [e, dHs] at lHs; cases lHs
    have known : ∀ {a : Addr} {u : HO}, H a = some u → ¬ a = df := fun {a u} h e => by
      rw [e, hdf] at h; cases h
    have isD : ∀ {a : Addr} {fs : Tr}, DictAt H a fs → ∀ H', Off Hs H' (fun y => y = df) → DictAt H' a fs := fun {a fs} h H' o1 => by
      obtain ⟨kvs, k1, _⟩ := h.len
      exact (h.same sHs).off o1 (known k1) nt
    refine for_list (K := K) (a := pl) (xs := N.map fun p => V.ref p.1) (fun i σ H' => ∃ (v5 v6 v7 v8 : Option V) (n : Nat) (fs : Tr), σ = [some (.ref x), some (.ref y), some (.ref z), some (nv n), some (.ref df), v5, v6, v7, v8] ∧ Off Hs H' (fun y => y = df) ∧ DictAt H' df fs ∧
      n = (((mPaths b o t).take i).map (nAt b o t)).sum ∧ (∀ p ∈ paths fs, p ∈ (mPaths b o t).take i) ∧ fs.length ≤ i ∧ (n = 0 → fs = filesAt b o t ((mPaths b o t).take i))) ?_ ?_ ?_ ?_
    · exact ⟨none, none, none, none, 0, [], rfl, Off.refl _ _, ⟨[], dHs, rfl, fun e he => (by cases he)⟩, rfl, fun p hp => (by cases hp), Nat.zero_le _, fun _ => rfl⟩
    · rintro i σ H' _ ⟨v5, v6, v7, v8, n, fs, rfl, o1, _⟩
      exact SqL.of (o1 _ _ lHs npl)
    · rintro i v σ H' hv ⟨v5, v6, v7, v8, n, fs, rfl, o1, hf, en, sub, lf, ef⟩
      rw [List.getElem?_map] at hv
      cases e1 : N[i]? with
      | none => rw [e1] at hv; cases hv
      | some u =>
        rw [e1] at hv
        have hv : V.ref u.1 = v := Option.some.inj hv
        subst hv
        obtain ⟨a, p⟩ := u
        have il : i < N.length := (List.getElem?_eq_some_iff.mp e1).1
        have hp : (mPaths b o t)[i]? = some p := by rw [← eN, List.getElem?_map, e1]; rfl
        have st := take_more hp
        have notin : p ∉ (mPaths b o t).take i := fun z => by
          have nd2 : ((mPaths b o t).take i ++ (mPaths b o t).drop i).Nodup := by
            rw [List.take_append_drop]; exact ord_nodup (mPaths_ord b o t)
          have md : p ∈ (mPaths b o t).drop i := List.mem_of_getElem? (i := 0) (by rw [List.getElem?_drop]; exact hp)
          exact (List.nodup_append.mp nd2).2.2 p z p md rfl
        have ha0 := kN _ (List.mem_of_getElem? e1)
        have ha : H' a = some (.tup (nvs p)) := o1 _ _ ha0 fun z => nt _ z _ ha0
        walk_at "rd"
        refine rd_getP (isD xb H' o1) rfl rfl ha fun w0 h0 => ?_
        walk_at "rd"
        refine rd_getP (isD yo H' o1) rfl rfl ha fun w1 h1 => ?_
        walk_at "rd"
        refine rd_getP (isD zt H' o1) rfl rfl ha fun w2 h2 => ?_
        walk_at "rd"
        have nb : (paths fb).Nodup := ((pb.map fun f : File => f.path).nodup_iff).mpr (ordT_nd gb.ord)
        have no : (paths fo).Nodup := ((po.map fun f : File => f.path).nodup_iff).mpr (ordT_nd go.ord)
        have nt' : (paths ft).Nodup := ((pt.map fun f : File => f.path).nodup_iff).mpr (ordT_nd gt.ord)
        rw [get_perm nb pb] at h0
        rw [get_perm no po] at h1
        rw [get_perm nt' pt] at h2
        refine ⟨w0, w1, w2, _, _, _, rfl, h0, h1, h2, short_get gb p, short_get go p, short_get gt p, fun H2 d v u sm hd hv hu => ?_⟩
        have hn : Vamrqc.conflictsIn (Vamrqc.fateOf (Vamrqa.Tree.get b p) (Vamrqa.Tree.get o p) (Vamrqa.Tree.get t p)) = nAt b o t p := rfl
        rw [hn] at hd hu
        have hu : nAt b o t p = 0 → u = fL (fateAt b o t p) := hu
        have en' : n + nAt b o t p = (((mPaths b o t).take (i + 1)).map (nAt b o t)).sum := by rw [st, nAt_next, ← en]
        have o2 : Off Hs H2 (fun y => y = df) := o1.trans (Off.of_same sm)
        refine rd_gtup (SqT.of hd) rfl ?_
        walk_at "rd"
        refine ⟨rfl, _, rfl, ?_⟩
        rw [opt_non hv]
        refine rd_ndec (fun c => ?_) (fun c => ?_)
        · cases u with
          | none => exact absurd rfl c
          | some l =>
            obtain ⟨la, rfl, hla⟩ := hv
            refine rd_dput ?_
            walk_at "rd"
            obtain ⟨H3, d1, ⟨ob, d2⟩, d3⟩ := (hf.same sm).put (p := p) (l := l) (fun z => notin (sub p z)) (sm _ _ ha) hla (by omega)
            refine ⟨df, H3, rfl, d1, ?_⟩
            refine ⟨some (.ref a), some (nv (nAt b o t p)), some (.ref la), v8, n + nAt b o t p, fs ++ [⟨p, l⟩], rfl, o2.trans (by rw [d2]; exact Off.upd rfl), d3, en', fun k hk => ?_, ?_, fun z => ?_⟩
            · rw [st]
              have hk : k ∈ paths fs ++ [p] := by
                unfold paths at hk ⊢
                rw [List.map_append] at hk
                exact hk
              rcases List.mem_append.mp hk with hk | hk
              · exact List.mem_append_left _ (sub k hk)
              · exact List.mem_append_right _ hk
            · rw [List.length_append]
              show fs.length + 1 ≤ i + 1
              omega
            · rw [st, filesAt_next, ← hu (by omega), ← ef (by omega)]
        · subst c
          walk_at "rd"
          refine ⟨some (.ref a), some (nv (nAt b o t p)), some v, v8, n + nAt b o t p, fs, rfl, o2, hf.same sm, en', fun k hk => ?_, Nat.le_succ_of_le lf, fun z => ?_⟩
          · rw [st]; exact List.mem_append_left _ (sub k hk)
          · rw [st, filesAt_next, ← hu (by omega), ← ef (by omega)]
            exact (List.append_nil _).symm
    · rw [List.length_map]
      rintro σ H' ⟨v5, v6, v7, v8, n, fs, rfl, o1, hf, en, sub, lf, ef⟩
      have lm : N.length = (mPaths b o t).length := by rw [← eN, List.length_map]
      rw [lm, List.take_length] at en ef
      have sH : Same H H' := fun a u e => o1 a u (sHs a u e) (known e)
      walk_at "rd"
      refine rd_dec (fun c => ?_) (fun c => ?_)
      · have c : 0 < n := by omega
        walk_at "rd"
        refine ⟨by show 2 ≤ sizeLine; decide, fun d hd => ?_⟩
        refine q _ d (sH.trans (sm_new hd)) ?_
        have e : mergeC b o t = .conf n := by
          unfold mergeC
          rw [← en, if_pos c]
        rw [e]
        exact upd_same
      · have c : n = 0 := by omega
        have ef := ef c
        have c0 : ¬ 0 < n := by omega
        walk_at "rd"
        refine ⟨df, fs, rfl, hf, ?_, by omega, ?_, fun H2 sm => ?_⟩
        · rw [ef]; exact ordT_nd (filesAt_ord b o t (mPaths_ord b o t))
        · intro f hf
          have h := sub f.path (List.mem_map_of_mem hf)
          exact Nat.le_trans (longest _ (List.mem_of_mem_take h)) (by decide)
        · walk_at "rd"
          refine rd_ndec (fun c2 => ?_) (fun c2 => ?_)
          · have c2 : whyNo fs ≠ 0 := fun z => c2 (by rw [z]; rfl)
            walk_at "rd"
            refine ⟨by show 2 ≤ sizeLine; decide, fun d hd => ?_⟩
            refine q _ d ((sH.trans sm).trans (sm_new hd)) ?_
            have e : mergeC b o t = .no (whyNo fs) := by
              unfold mergeC
              rw [← en, if_neg c0, ← ef, if_pos c2]
            rw [e]
            exact upd_same
          · have c2 : whyNo fs = 0 := by omega
            walk_at "rd"
            refine ⟨by show 2 ≤ sizeLine; decide, fun d hd => ?_⟩
            refine q _ d ((sH.trans sm).trans (sm_new hd)) ?_
            have e : mergeC b o t = .tree fs := by
              unfold mergeC
              rw [← en, if_neg c0, ← ef, if_neg (by rw [c2]; exact fun z => z rfl)]
            rw [e]
            exact ⟨df, upd_same, fs, (hf.same sm).same (sm_new hd), List.Perm.refl _⟩
end
end Cs
-- CsOneForm
/-! The one form, and edits done. -/
namespace Cs
open PySem PySem.Spec PyProof.Rows L2
open Vamrqa (File hunkOf formOf gone changedIn come applyEdit)
theorem good_of_perm {fs t : Tr} (h : fs.Perm t) (g : Good t) : (paths fs).Nodup ∧ fs.length ≤ 12 ∧ (∀ f ∈ fs, f.path ≠ []) := ⟨((h.map fun f : File => f.path).nodup_iff).mpr (ordT_nd g.ord), by rw [h.length_eq]; exact g.few, fun f hf => g.full f (h.mem_iff.mp hf)⟩
theorem get_of {fs t : Tr} (h : fs.Perm t) (g : Good t) (p : List Nat) : Vamrqa.Tree.get fs p = Vamrqa.Tree.get t p := get_perm (good_of_perm h g).1 h p
/-- a file, told by its path -/
abbrev AtP : Hp → Addr → File → Prop := fun H a f => TupA H a f.path
theorem stays_atP : Stays AtP := stays_tup.thru _
section
variable {P : Program} {w : World} {K : PySem.W.Frag} {mg : Str → Option Value} {base : Heap} {C : Addr}
/-- sorted(tree): its files in order -/
theorem rd_sortedTree {H : Hp} {Q : VK} {d : Addr} {t : Tr} (h : TreeAt H d t) (g : Good t) (q : ∀ c H', Same H H' → H c = none → LAt AtP H' c t → Q (.ref c) H') : rSortedD [.ref d] H Q := by
  obtain ⟨fs, hd, hp⟩ := h
  obtain ⟨g1, g2, g3⟩ := good_of_perm hp g
  refine ⟨d, fs, rfl, hd, by omega, g1, g3, fun c N hc hN pm pw => ?_⟩
  have s1 := sm_new (o := .lst (N.map fun p => V.ref p.1)) hc
  have eN : N.map (·.2) = paths t := by
    refine ord_ext (ord_of (List.pairwise_map.mpr pw) (pm.nodup_iff.mpr g1)) (ordT_paths.mp g.ord) fun k => ?_
    rw [pm.mem_iff]
    exact perm_paths hp k
  refine q c _ s1 hc (LAt.through (f := fun f : File => f.path) (At := TupA) ⟨N, upd_same, ?_, fun p hp => s1 _ _ (hN p hp)⟩)
  rw [eN]; rfl
theorem an_dnin {σ : L2.St} {H : Hp} {i j : Nat} {a d : Addr} {p : List Nat} {fs t : Tr} (hi : σ[i]? = some (some (.ref a))) (hj : σ[j]? = some (some (.ref d))) (ha : TupA H a p) (hd : DictAt H d fs) (hp : fs.Perm t) (g : Good t) : An (tTest (tDNotIn (tVar i) (tVar j))) σ H (!Vamrqa.Tree.has t p) := fun R r => by
  obtain ⟨o, g1, g2, g3, g4⟩ := dict_get hd ha
  refine rd_test (rd_dnin (rd_var hi (rd_var hj ⟨d, o, rfl, g1, _, rfl, ?_⟩)))
  rw [g3, has_get, get_of hp g, ← has_get]; exact r
theorem an_din {σ : L2.St} {H : Hp} {i j : Nat} {a d : Addr} {p : List Nat} {fs t : Tr} (hi : σ[i]? = some (some (.ref a))) (hj : σ[j]? = some (some (.ref d))) (ha : TupA H a p) (hd : DictAt H d fs) (hp : fs.Perm t) (g : Good t) : An (tTest (tDIn (tVar i) (tVar j))) σ H (Vamrqa.Tree.has t p) := fun R r => by
  obtain ⟨o, g1, g2, g3, g4⟩ := dict_get hd ha
  refine rd_test (rd_din (rd_var hi (rd_var hj ⟨d, o, rfl, g1, _, rfl, ?_⟩)))
  rw [g3, has_get, get_of hp g, ← has_get]; exact r
/-- t[p], there -/
theorem rd_dgetP {σ : L2.St} {H : Hp} {Q : VK} {i : Nat} {te : TE} {a d : Addr} {p l : List Nat} {fs t : Tr} (hi : σ[i]? = some (some (.ref d))) (he : AnV te σ H (.ref a)) (ha : TupA H a p) (hd : DictAt H d fs) (hp : fs.Perm t) (g : Good t) (e : Vamrqa.Tree.get t p = some l) (q : ∀ b, TupA H b l → Q (.ref b) H) : tDGet (tVar i) te σ H Q := by
  obtain ⟨o, g1, g2, g3, g4⟩ := dict_get hd ha
  obtain ⟨b, eb, hb⟩ := g4 l (by rw [get_of hp g]; exact e)
  exact rd_dget (rd_var hi (he _ ⟨d, .ref b, rfl, eb ▸ g1, q b hb⟩))
abbrev sOneForm : Stmt := top 38
abbrev NOneForm : List Str := ["before", "after", "edits", "path"]
theorem scOneForm : FnScope NOneForm ["before", "after"] (defScope sOneForm) := ⟨rfl, rfl, rfl, by decide +kernel, rfl, by decide +kernel, by decide +kernel⟩
def spOneForm (C : Addr) : Sp := fun vs H Q _ => ∃ (d e : Addr) (t u : Tr), vs = [.ref d, .ref e] ∧ TreeAt H d t ∧ TreeAt H e u ∧ Good t ∧ Good u ∧ ∀ H' r, Same H H' → LAt (EdA C) H' r (formOf t u) → Q (.ref r) H'
theorem ok_oneForm (F : Df K mg "one_form" sOneForm) (T : Tx mg) (G_hunk_between : C8.Cal P w K mg base 3 "hunk_between" (spHunkB C) []) (G_Edit : C8.Mak P w K mg base 1 "Edit" C (spEdInit C) []) : C8.Cal P w K mg base 4 "one_form" (spOneForm C) [] := by
  refine F.cal scOneForm (fun _ _ _ _ _ _ us hl => match us, hl with | [_, _], _ => rfl) (fun vs H Q E h => ?_) (fun f cdv A outer s H vs Q E hr h => ?_)
  · obtain ⟨d, e, t, u, rfl, _⟩ := h
    rfl
  · obtain ⟨d, e, t, u, rfl, ht, hu0, gt, gu, k⟩ := h
    have hu64 := hu64_of hr
    have hu := hu_of hr
    refine ⟨_, (pss_cons (ps_setLc (i := 2) (own := [("path", 3)]) (g := gName 3) (by rfl) scOneForm.nd rfl rfl (sw_true rfl rfl rfl (by decide +kernel)) (pi_list (pe_callB (cr_sortedD rfl) (by rfl) T.sorted (by decide +kernel) (pa_cons (pv 0) pa_nil))) (blkOk_by (own := [("path", 3)]) (N := NOneForm) (sc := defScope sOneForm) (by decide +kernel)) (fun _ _ _ _ _ => pg_name (i := 3) scOneForm.nd rfl (Or.inl rfl)) (fun _ _ _ _ _ => pts_one (pt_cmp (pc_dnotin hu (pv 3) (pv 1)))) (fun _ _ _ _ _ => (C8.pe_mk G_Edit hr (by decide) (by rfl) (pa_cons (C8.pe_gc (by rfl) T.c_DEL) (pa_cons (pv 3) (pa_cons pe_int (pa_cons (pe_dget hu (pv 0) (pv 3) (fun _ _ => rfl)) (pa_cons (pe_tup pa_nil) pa_nil))))))))
      (pss_cons (ps_for PassesOwn.never rfl (pi_list (pe_callB (cr_sortedD rfl) (by rfl) T.sorted (by decide +kernel) (pa_cons (pv 0) pa_nil))) (pg_name (i := 3) scOneForm.nd rfl (Or.inl rfl))
        (pss_one (ps_if (PW.pt (pw_and (pt_cmp (pc_din hu (pv 3) (pv 1))) (pw_and1 (pt_cmpR (op_neD hu64) (pe_dget hu (pv 0) (pv 3) (fun _ _ => rfl)) (pe_dget hu (pv 1) (pv 3) (fun _ _ => rfl)) (nomark _)))))
          (pss_one (ps_expr (pe_bm PySem.F.plainAttrs_list PySem.F.slot_list_append PySem.F.type_list_append mt_append (pv 2) (pa_cons (C8.pe_c G_hunk_between hr (by decide) (by rfl) (pa_cons (pv 3) (pa_cons (pe_dget hu (pv 0) (pv 3) (fun _ _ => rfl)) (pa_cons (pe_dget hu (pv 1) (pv 3) (fun _ _ => rfl)) pa_nil)))) pa_nil))))
          pss_nil)))
      (pss_cons (ps_expr (pe_bm PySem.F.plainAttrs_list PySem.F.slot_list_extend PySem.F.type_list_extend mt_extend (pv 2) (pa_cons (pe_lc (own := [("path", 3)]) (g := gName 3) (by rfl) scOneForm.nd (pi_list (pe_callB (cr_sortedD rfl) (by rfl) T.sorted (by decide +kernel) (pa_cons (pv 1) pa_nil))) (blkOk_by (own := [("path", 3)]) (N := NOneForm) (sc := defScope sOneForm) (by decide +kernel)) (fun _ _ _ _ _ => pg_name (i := 3) scOneForm.nd rfl (Or.inl rfl)) (fun _ _ _ _ _ => pts_one (pt_cmp (pc_dnotin hu (pv 3) (pv 0)))) (fun _ _ _ _ _ => (C8.pe_mk G_Edit hr (by decide) (by rfl) (pa_cons (C8.pe_gc (by rfl) T.c_ADD) (pa_cons (pv 3) (pa_cons pe_int (pa_cons (pe_tup pa_nil) (pa_cons (pe_dget hu (pv 1) (pv 3) (fun _ _ => rfl)) pa_nil)))))))) pa_nil)))
      (pss_one (ps_ret (pv 2)))))), ?_⟩
    obtain ⟨ft, dt, pt⟩ := id ht
    obtain ⟨fu, du, pu⟩ := id hu0
    walk_at "rd"
    refine rd_sortedTree ht gt fun c H1 s1 hc hl => ?_
    have zt := gt.few
    have zu := gu.few
    have memT : ∀ x ∈ t, Vamrqa.Tree.get t x.path = some x.lines := fun x hx => mem_get (ordT_nd gt.ord) hx
    have memU : ∀ x ∈ u, Vamrqa.Tree.get u x.path = some x.lines := fun x hx => mem_get (ordT_nd gu.ord) hx
    obtain ⟨xs, x1, x2⟩ := hl.obj
    refine ⟨c, rfl, ⟨_, SqL.of x1⟩, fun D hD => ?_⟩
    refine lc_list stays_atP (stays_ed C) (fun f : File => !Vamrqa.Tree.has u f.path) (fun f => .del f.path f.lines) hl hD (by omega) (fun _ => rfl) (fun a x H' _ s' at' => ?_) (fun a x H' hx s' at' _ R r => ?_) fun H2 s2 hE => ?_
    · exact an_dnin rfl rfl at' (du.same (s1.trans s')) pu gu
    · walk_at "rd"
      refine rd_make ?_
      walk_at "rd"
      refine rd_dgetP rfl (anv_var rfl) at' (dt.same (s1.trans s')) pt gt (memT x hx) fun b hb => ?_
      walk_at "rd"
      refine ⟨by show 0 ≤ sizeLine; decide, fun na hna => ?_⟩
      walk_at "rd"
      have s3 := sm_new (o := .tup []) hna
      exact mkEd (.del x.path x.lines) rfl rfl (s3 _ _ at') (s3 _ _ hb) upd_same fun H3 z s4 hz => r H3 z (s3.trans s4) hz
    · walk_at "rd"
      have hE : LAt (EdA C) H2 D (gone t u) := hE
      have s02 := s1.trans s2
      refine rd_sortedTree (ht.same s02) gt fun c2 H3 s3 hc2 hl2 => ?_
      have hE3 := hE.same (stays_ed C) s3
      have s03 := s02.trans s3
      have hDH : H D = none := sm_free s1 hD
      obtain ⟨ys, y1, y2⟩ := hE3.obj
      obtain ⟨qs, q1, q2, q3⟩ := id hl2
      have lq : qs.length = t.length := by rw [← q2, List.length_map]
      have ncD : c2 ≠ D := fun z => by
        obtain ⟨zs, z1, _⟩ := hE.obj
        rw [z, z1] at hc2; cases hc2
      have sOf : ∀ {H' : Hp}, Off H3 H' (fun y => y = D) → Same H H' := fun o => o.same s03 fun x z => z ▸ hDH
      have tOf : ∀ {H' : Hp} {a : Addr} {l : List V}, Off H3 H' (fun y => y = D) → H3 a = some (.tup l) → H' a = some (.tup l) := fun {H' a l} o h => o _ _ h fun z => by
        have z : a = D := z
        rw [z, y1] at h; cases h
      refine ⟨c2, rfl, ⟨_, SqL.of q1⟩, for_list (K := K) (a := c2) (xs := qs.map fun q => V.ref q.1) (fun i σ H' => ∃ v3, σ = [some (.ref d), some (.ref e), some (.ref D), v3] ∧ Off H3 H' (fun y => y = D) ∧ LAt (EdA C) H' D (gone t u ++ changedIn (t.take i) u)) ?_ ?_ ?_ ?_⟩
      · refine ⟨_, rfl, Off.refl _ _, ?_⟩
        rw [List.take_zero]
        show LAt _ _ _ (gone t u ++ [])
        rw [List.append_nil]; exact hE3
      · rintro i σ H' hi ⟨v3, rfl, o, _⟩
        exact SqL.of (o _ _ q1 ncD)
      · rintro i x σ H' hx ⟨v3, rfl, o, hL⟩
        rw [List.getElem?_map] at hx
        obtain ⟨q, g1, g2⟩ := Option.map_eq_some_iff.mp hx
        subst g2
        have hf : t[i]? = some q.2 := by rw [← q2, List.getElem?_map, g1]; rfl
        have mem := List.mem_of_getElem? hf
        have il := (List.getElem?_eq_some_iff.mp hf).1
        have hq : TupA H' q.1 q.2.path := tOf o (q3 _ (List.mem_of_getElem? g1))
        have sH := sOf o
        have dt' := dt.same sH
        have du' := du.same sH
        have st : changedIn (t.take (i + 1)) u = changedIn (t.take i) u ++ (chg u q.2).toList := by
          rw [changed_eq, changed_eq, take_one hf, List.filterMap_append]
          cases c : chg u q.2 with
          | none => rw [List.filterMap_cons_none c]; rfl
          | some z => rw [List.filterMap_cons_some c]; rfl
        rw [st]
        have zc : (changedIn (t.take i) u).length ≤ 12 := by
          have h1 := List.length_filterMap_le (chg u) (t.take i)
          rw [List.length_take] at h1
          rw [changed_eq]; omega
        have zg : (gone t u).length ≤ 12 := by
          have h1 := List.length_filter_le (fun f : File => !Vamrqa.Tree.has u f.path) t
          show ((t.filter fun f : File => !Vamrqa.Tree.has u f.path).map _).length ≤ 12
          rw [List.length_map]; omega
        walk_at "rd"
        cases eu : Vamrqa.Tree.get u q.2.path with
        | none =>
          have hh : Vamrqa.Tree.has u q.2.path = false := by rw [has_get, eu]; rfl
          refine an_use (an_and (b := true) (an_din rfl rfl hq du' pu gu) fun z => ?_) ?_
          · rw [hh] at z; cases z
          · rw [hh]
            refine rd_cond (fun z => by cases z) (fun _ => ?_)
            refine rd_next ⟨_, rfl, o, ?_⟩
            have c : chg u q.2 = none := by
              unfold chg
              rw [eu]
            rw [c, Option.toList, List.append_nil]
            exact hL
        | some m =>
          have hh : Vamrqa.Tree.has u q.2.path = true := by rw [has_get, eu]; rfl
          refine an_use (an_and (b := !decide (q.2.lines = m)) (an_din rfl rfl hq du' pu gu) fun _ => an_test fun R r => ?_) ?_
          · walk_at "rd"
            refine rd_dgetP rfl (anv_var rfl) hq dt' pt gt (memT _ mem) fun b1 hb1 => ?_
            refine rd_dgetP rfl (anv_var rfl) hq du' pu gu eu fun b2 hb2 => ?_
            exact rd_neT (SqT.of hb1) (SqT.of hb2) r
          · rw [hh, Bool.true_and]
            refine rd_ndec (fun ne => ?_) (fun eq => ?_)
            · have c : chg u q.2 = some (hunkOf q.2.path q.2.lines m) := by
                unfold chg
                rw [eu]
                show (if q.2.lines = m then none else _) = _
                rw [if_neg ne]
              rw [c]
              obtain ⟨zs, z1, z2⟩ := hL.obj
              walk_at "rd"
              refine ⟨ty_lst z1, ?_⟩
              walk_at "rd"
              refine rd_dgetP rfl (anv_var rfl) hq dt' pt gt (memT _ mem) fun b1 hb1 => ?_
              walk_at "rd"
              refine rd_dgetP rfl (anv_var rfl) hq du' pu gu eu fun b2 hb2 => ?_
              walk_at "rd"
              refine ⟨q.1, b1, b2, _, _, _, rfl, hq, hb1, hb2, fun H4 a4 s4 he4 => ?_⟩
              walk_at "rd"
              obtain ⟨ws, w1, w2, w3⟩ := (hL.same (stays_ed C) s4).add (stays_ed C) he4
              refine rd_append w1 (by rw [w2, List.length_append]; exact szl (by omega)) ?_
              walk_at "rd"
              refine ⟨_, rfl, (o.trans (Off.of_same s4)).trans (Off.upd rfl), ?_⟩
              rw [← List.append_assoc]; exact w3
            · refine rd_next ⟨_, rfl, o, ?_⟩
              have c : chg u q.2 = none := by
                unfold chg
                rw [eu]
                show (if q.2.lines = m then none else _) = _
                rw [if_pos eq]
              rw [c, Option.toList, List.append_nil]
              exact hL
      · rintro σ H4 ⟨v3, rfl, o, hL⟩
        rw [List.length_map, lq, List.take_length] at hL
        have sH := sOf o
        obtain ⟨zs, z1, z2⟩ := hL.obj
        walk_at "rd"
        refine ⟨ty_lst z1, ?_⟩
        walk_at "rd"
        refine rd_sortedTree (hu0.same sH) gu fun c5 H5 s5 hc5 hl5 => ?_
        obtain ⟨xs5, x51, x52⟩ := hl5.obj
        refine ⟨c5, rfl, ⟨_, SqL.of x51⟩, fun D5 hD5 => ?_⟩
        have s05 := sH.trans s5
        refine lc_list stays_atP (stays_ed C) (fun f : File => !Vamrqa.Tree.has t f.path) (fun f => .add f.path f.lines) hl5 hD5 (by omega) (fun _ => rfl) (fun a x H' _ s' at' => ?_) (fun a x H' hx s' at' _ R r => ?_) fun H6 s6 hE6 => ?_
        · exact an_dnin rfl rfl at' (dt.same (s05.trans s')) pt gt
        · walk_at "rd"
          refine rd_make ?_
          walk_at "rd"
          refine ⟨by show 0 ≤ sizeLine; decide, fun na hna => ?_⟩
          walk_at "rd"
          have s7 := sm_new (o := .tup []) hna
          refine rd_dgetP rfl (anv_var rfl) (s7 _ _ at') (du.same ((s05.trans s').trans s7)) pu gu (memU x hx) fun b hb => ?_
          walk_at "rd"
          exact mkEd (.add x.path x.lines) rfl rfl (s7 _ _ at') upd_same hb fun H3 z s4 hz => r H3 z (s7.trans s4) hz
        · have hE6 : LAt (EdA C) H6 D5 (come t u) := hE6
          walk_at "rd"
          obtain ⟨as, bs, a1, b1, a2, b2, ab⟩ := (hL.same (stays_ed C) (s5.trans s6)).app (stays_ed C) hE6
          have fl := form_len gt gu
          unfold Vamrqa.formOf at fl
          rw [List.length_append, List.length_append] at fl
          refine ⟨D, D5, as, bs, rfl, rfl, a1, b1, by rw [a2, b2, List.length_append]; exact sz (by omega), ?_⟩
          walk_at "rd"
          refine k _ D ?_ ?_
          · exact sm_mut (sH.trans (s5.trans s6)) hDH
          · unfold Vamrqa.formOf
            rw [← List.append_assoc]; exact ab
end
end Cs
-- CsTreeWith
/-! An edit done. -/
namespace Cs
open PySem PySem.Spec PyProof.Rows L2
open Vamrqa (File hunkOf formOf applyEdit replaced)
theorem drop_perm {fs t : Tr} (h : fs.Perm t) (p : List Nat) : (Vamrqa.Tree.drop fs p).Perm (Vamrqa.Tree.drop t p) := h.filter _
theorem with_perm {fs t : Tr} (h : fs.Perm t) (o : OrdT t) (f : File) : (Vamrqa.Tree.drop fs f.path ++ [f]).Perm (Vamrqa.Tree.put t f) := ((drop_perm h f.path).append_right [f]).trans (put_perm o f)
theorem stW_one (l : List Nat) (i : Nat) (o n : List Nat) : stW l l.length 0 [(i, o, n)] = replaced l i o.length n := by
  show cutN l 0 i ++ (n ++ cutN l (i + o.length) l.length) = l.take i ++ (n ++ l.drop (i + o.length))
  unfold cutN
  rw [List.drop_zero, Nat.sub_zero, List.take_of_length_le (l := l.drop (i + o.length)) (by rw [List.length_drop]; omega)]
theorem apply_hunk {t u : Tr} {p : List Nat} {i : Nat} {o n : List Nat} (h : applyEdit t (.hunk p i o n) = .ok u) : ∃ l, Vamrqa.Tree.get t p = some l ∧ u = Vamrqa.Tree.put t ⟨p, replaced l i o.length n⟩ := by
  have h : (match Vamrqa.Tree.get t p with
    | none => Except.error 1
    | some l => if Vamrqa.standsAt l o i = false then .error 3 else if Vamrqa.LINES < (replaced l i o.length n).length then .error 6 else .ok (Vamrqa.Tree.put t ⟨p, replaced l i o.length n⟩)) = Except.ok u := h
  cases e : Vamrqa.Tree.get t p with
  | none => rw [e] at h; cases h
  | some l =>
    rw [e] at h
    have h : (if Vamrqa.standsAt l o i = false then Except.error 3 else if Vamrqa.LINES < (replaced l i o.length n).length then .error 6 else .ok (Vamrqa.Tree.put t ⟨p, replaced l i o.length n⟩)) = Except.ok u := h
    by_cases c : Vamrqa.standsAt l o i = false
    · rw [if_pos c] at h; cases h
    · rw [if_neg c] at h
      by_cases c2 : Vamrqa.LINES < (replaced l i o.length n).length
      · rw [if_pos c2] at h; cases h
      · rw [if_neg c2] at h
        exact ⟨l, rfl, (Except.ok.inj h).symm⟩
theorem apply_del {t u : Tr} {p l : List Nat} (h : applyEdit t (.del p l) = .ok u) : u = Vamrqa.Tree.drop t p := by
  have h : (match Vamrqa.Tree.get t p with
    | none => Except.error 1
    | some m => if m = l then .ok (Vamrqa.Tree.drop t p) else .error 3) = Except.ok u := h
  cases e : Vamrqa.Tree.get t p with
  | none => rw [e] at h; cases h
  | some m =>
    rw [e] at h
    have h : (if m = l then Except.ok (Vamrqa.Tree.drop t p) else .error 3) = Except.ok u := h
    by_cases c : m = l
    · rw [if_pos c] at h; exact (Except.ok.inj h).symm
    · rw [if_neg c] at h; cases h
theorem apply_add {t u : Tr} {p l : List Nat} (h : applyEdit t (.add p l) = .ok u) : u = Vamrqa.Tree.put t ⟨p, l⟩ := by
  have h : (if Vamrqa.Tree.has t p = true then Except.error 2 else if Vamrqa.Tree.clashes t p = true then .error 4 else if Vamrqa.FILES ≤ t.length then .error 5 else .ok (Vamrqa.Tree.put t ⟨p, l⟩)) = Except.ok u := h
  by_cases c : Vamrqa.Tree.has t p = true
  · rw [if_pos c] at h; cases h
  · rw [if_neg c] at h
    by_cases c : Vamrqa.Tree.clashes t p = true
    · rw [if_pos c] at h; cases h
    · rw [if_neg c] at h
      by_cases c : Vamrqa.FILES ≤ t.length
      · rw [if_pos c] at h; cases h
      · rw [if_neg c] at h; exact (Except.ok.inj h).symm
section
variable {P : Program} {w : World} {K : PySem.W.Frag} {mg : Str → Option Value} {base : Heap} {C : Addr}
abbrev sTreeWith : Stmt := top 39
abbrev NTreeWith : List Str := ["tree", "edit", "lines", "hunk"]
theorem scTreeWith : FnScope NTreeWith ["tree", "edit"] (defScope sTreeWith) := ⟨rfl, rfl, rfl, by decide +kernel, rfl, by decide +kernel, by decide +kernel⟩
def spTreeWith (C : Addr) : Sp := fun vs H Q _ => ∃ (d a : Addr) (t u : Tr) (e : Vamrqa.Edit), vs = [.ref d, .ref a] ∧ TreeAt H d t ∧ OrdT t ∧ t.length ≤ 1000 ∧ (∀ f ∈ t, f.lines.length ≤ 1000) ∧ EdA C H a e ∧ (edNew e).length ≤ 1000 ∧ (∀ p q, e ≠ .move p q) ∧ applyEdit t e = .ok u ∧ ∀ H' c, Same H H' → TreeAt H' c u → Q (.ref c) H'
theorem ok_treeWith (F : Df K mg "tree_with" sTreeWith) (T : Tx mg) (L : Kl K C edNames) (G_with_file : C8.Cal P w K mg base 2 "with_file" spWithFile []) (G_without_file : C8.Cal P w K mg base 1 "without_file" spWithout []) (G_stretch_with : C8.Cal P w K mg base 1 "stretch_with" spStretch []) : C8.Cal P w K mg base 3 "tree_with" (spTreeWith C) [] := by
  refine F.cal scTreeWith (fun _ _ _ _ _ _ us hl => match us, hl with | [_, _], _ => rfl) (fun vs H Q E h => ?_) (fun f cdv A outer s H vs Q E hr h => ?_)
  · obtain ⟨d, a, t, u, e, rfl, _⟩ := h
    rfl
  · obtain ⟨d, a, t, u, e, rfl, ht, ot, zt, zl, he, ze, nm, ea, k⟩ := h
    have hu := hu_of hr
    refine ⟨_, (pss_cons (ps_if (pt_cmpR op_eq (pe_fld (pv 1) rfl) (C8.pe_gc (by rfl) T.c_ADD) (nomark _))
        (pss_one (ps_ret (C8.pe_c G_with_file hr (by decide) (by rfl) (pa_cons (pv 0) (pa_cons (pe_fld (pv 1) rfl) (pa_cons (pe_fld (pv 1) rfl) pa_nil))))))
        pss_nil)
      (pss_cons (ps_if (pt_cmpR op_eq (pe_fld (pv 1) rfl) (C8.pe_gc (by rfl) T.c_DEL) (nomark _))
        (pss_one (ps_ret (C8.pe_c G_without_file hr (by decide) (by rfl) (pa_cons (pv 0) (pa_cons (pe_fld (pv 1) rfl) pa_nil)))))
        pss_nil)
      (pss_cons (ps_set (i := 2) scTreeWith.nd rfl (Or.inl rfl) (pe_dget hu (pv 0) (pe_fld (pv 1) rfl) (fun _ _ => rfl)))
      (pss_cons (ps_set (i := 3) scTreeWith.nd rfl (Or.inl rfl) (pe_tup (pa_cons (pe_fld (pv 1) rfl) (pa_cons (pe_fld (pv 1) rfl) (pa_cons (pe_fld (pv 1) rfl) pa_nil)))))
      (pss_one (ps_ret (C8.pe_c G_with_file hr (by decide) (by rfl) (pa_cons (pv 0) (pa_cons (pe_fld (pv 1) rfl) (pa_cons (C8.pe_c G_stretch_with hr (by decide) (by rfl) (pa_cons (pv 2) (pa_cons pe_int (pa_cons (pe_callB call_lenS (by rfl) T.len PySem.boot_len (pa_cons (pv 2) pa_nil)) (pa_cons (pe_lst (pa_cons (pv 3) pa_nil)) pa_nil))))) pa_nil)))))))))), ?_⟩
    obtain ⟨fs, hd, hp⟩ := id ht
    obtain ⟨dx, pa, oa, na, h1, hpa, hoa, hna⟩ := id he
    have nd : (paths fs).Nodup := ((hp.map fun f : File => f.path).nodup_iff).mpr (ordT_nd ot)
    have zf : fs.length ≤ 1000 := by rw [hp.length_eq]; exact zt
    walk_at "rd"
    refine rd_fld (anv_var rfl) h1 L.cls (L.nos _ (by simp)) rfl ?_
    walk_at "rd"
    cases e with
    | move p q => exact absurd rfl (nm p q)
    | add p l =>
      refine rd_dec (fun _ => ?_) (fun c => absurd rfl c)
      walk_at "rd"
      refine rd_fld (anv_var rfl) h1 L.cls (L.nos _ (by simp)) rfl ?_
      walk_at "rd"
      refine rd_fld (anv_var rfl) h1 L.cls (L.nos _ (by simp)) rfl ?_
      walk_at "rd"
      refine ⟨d, pa, na, fs, p, l, rfl, hd, nd, hpa, hna, zf, fun H1 c s1 h2 => k H1 c s1 ⟨_, h2, ?_⟩⟩
      rw [apply_add ea]
      exact with_perm hp ot ⟨p, l⟩
    | del p l =>
      refine rd_dec (fun c => absurd c (show ¬ ((1 : Nat) : Int) = 0 by decide)) (fun _ => ?_)
      walk_at "rd"
      refine rd_fld (anv_var rfl) h1 L.cls (L.nos _ (by simp)) rfl ?_
      walk_at "rd"
      refine rd_dec (fun _ => ?_) (fun c => absurd rfl c)
      walk_at "rd"
      refine rd_fld (anv_var rfl) h1 L.cls (L.nos _ (by simp)) rfl ?_
      walk_at "rd"
      refine ⟨d, pa, fs, p, rfl, hd, nd, hpa, zf, fun H1 c s1 _ h2 => k H1 c s1 ⟨_, h2, ?_⟩⟩
      rw [apply_del ea]
      exact drop_perm hp p
    | hunk p i o n =>
      obtain ⟨l, gl, eu⟩ := apply_hunk ea
      refine rd_dec (fun c => absurd c (show ¬ ((3 : Nat) : Int) = 0 by decide)) (fun _ => ?_)
      walk_at "rd"
      refine rd_fld (anv_var rfl) h1 L.cls (L.nos _ (by simp)) rfl ?_
      walk_at "rd"
      refine rd_dec (fun c => absurd c (show ¬ ((3 : Nat) : Int) = 1 by decide)) (fun _ => ?_)
      walk_at "rd"
      obtain ⟨ov, g1, g2, g3, g4⟩ := dict_get hd hpa
      obtain ⟨b, eb, hb⟩ := g4 l (by rw [get_perm nd hp]; exact gl)
      refine rd_dget (rd_var rfl ?_)
      refine rd_fld (anv_var rfl) h1 L.cls (L.nos _ (by simp)) rfl ⟨d, .ref b, rfl, eb ▸ g1, ?_⟩
      walk_at "rd"
      refine rd_fld (anv_var rfl) h1 L.cls (L.nos _ (by simp)) rfl ?_
      walk_at "rd"
      refine rd_fld (anv_var rfl) h1 L.cls (L.nos _ (by simp)) rfl ?_
      walk_at "rd"
      refine rd_fld (anv_var rfl) h1 L.cls (L.nos _ (by simp)) rfl ?_
      walk_at "rd"
      refine ⟨by show 3 ≤ sizeLine; decide, fun ha hha => ?_⟩
      have s1 := sm_new (o := .tup [nv i, .ref oa, .ref na]) hha
      walk_at "rd"
      refine rd_fld (anv_var rfl) (s1 _ _ h1) L.cls (L.nos _ (by simp)) rfl ?_
      walk_at "rd"
      refine rd_lenT (SqT.of (s1 _ _ hb)) ?_
      walk_at "rd"
      refine ⟨by show 1 ≤ sizeLine; decide, fun la hla => ?_⟩
      have s2 := sm_new (o := .lst [.ref ha]) hla
      walk_at "rd"
      have s12 := s1.trans s2
      have zll := zl _ (get_mem gl)
      refine ⟨b, la, l, 0, l.length, [(i, o, n)], ?_, s12 _ _ hb, ⟨[(ha, (i, o, n))], upd_same, rfl, fun x hx => ?_⟩, zll, by show 1 ≤ 3000; decide, fun x hx => ?_, fun H3 c3 s3 h3 => ?_⟩
      · rw [nvs_len]; rfl
      · rw [List.mem_singleton.mp hx]
        exact ⟨oa, na, s2 _ _ upd_same, s12 _ _ hoa, s12 _ _ hna⟩
      · rw [List.mem_singleton.mp hx]
        exact Nat.le_trans ze (by decide)
      · rw [stW_one] at h3
        have s13 := s12.trans s3
        walk_at "rd"
        refine ⟨d, pa, c3, fs, p, _, rfl, hd.same s13, nd, s13 _ _ hpa, h3, zf, fun H4 c s4 h4 => k H4 c (s13.trans s4) ⟨_, h4, ?_⟩⟩
        rw [eu]
        exact with_perm hp ot ⟨p, _⟩
end
end Cs
-- CsWork
namespace Cs
open PySem PySem.Spec PyProof.Rows L2
open Vamrqd (carry Carried stopTold)
abbrev wkNames : List Str := ["desk", "trees"]
/-- the state: the desk's tree, the trees behind 0, 1, .. changes -/
def WkA (C : Addr) (H : Hp) (a : Addr) (desk : Tr) (ts : List Tr) : Prop := ∃ dx da ta, H a = some (.ins C dx [("desk", .ref da), ("trees", .ref ta)]) ∧ TreeAt H da desk ∧ TreesAt H ta ts
theorem TreeAt.off {H H' : Hp} {S : Addr → Prop} {d : Addr} {t : Tr} (h : TreeAt H d t) (o : Off H H' S) (nd : ¬ S d) (nt : ∀ y, S y → ∀ ys, H y ≠ some (.tup ys)) : TreeAt H' d t := by
  obtain ⟨fs, a, b⟩ := h
  exact ⟨fs, a.off o nd nt, b⟩
theorem TreeAt.obj {H : Hp} {d : Addr} {t : Tr} (h : TreeAt H d t) : ∃ kvs, H d = some (.dT kvs) := by
  obtain ⟨fs, a, _⟩ := h
  obtain ⟨kvs, k, _⟩ := a.len
  exact ⟨kvs, k⟩
theorem TreesAt.obj {H : Hp} {r : Addr} {ts : List Tr} (h : TreesAt H r ts) : ∃ xs, H r = some (.lst xs) ∧ xs.length = ts.length := by
  obtain ⟨qs, a, b, _⟩ := h
  exact ⟨_, a, by rw [List.length_map, ← b, List.length_map]⟩
/-- an instance may change, trees stay -/
theorem TreesAt.ins {H H' : Hp} {r a C dx : Addr} {fs : List (Str × V)} {ts : List Tr} (h : TreesAt H r ts) (o : Off H H' (fun y => y = a)) (ha : H a = some (.ins C dx fs)) : TreesAt H' r ts := by
  obtain ⟨qs, x, b, c⟩ := h
  have nt : ∀ y, y = a → ∀ ys, H y ≠ some (.tup ys) := fun y e ys z => by
    rw [e, ha] at z; cases z
  refine ⟨qs, o _ _ x fun e => ?_, b, fun q hq => (c q hq).off o (fun e => ?_) nt⟩
  · rw [e, ha] at x; cases x
  · obtain ⟨kvs, k⟩ := (c q hq).obj
    rw [e, ha] at k; cases k
theorem TreeAt.ins {H H' : Hp} {d a C dx : Addr} {fs : List (Str × V)} {t : Tr} (h : TreeAt H d t) (o : Off H H' (fun y => y = a)) (ha : H a = some (.ins C dx fs)) : TreeAt H' d t := by
  refine h.off o (fun e => ?_) fun y e ys z => ?_
  · obtain ⟨kvs, k⟩ := h.obj
    rw [e, ha] at k; cases k
  · rw [e, ha] at z; cases z
theorem WkA.same {C : Addr} {H H' : Hp} {a : Addr} {desk : Tr} {ts : List Tr} (s : Same H H') (h : WkA C H a desk ts) : WkA C H' a desk ts := by
  obtain ⟨dx, da, ta, h1, h2, h3⟩ := h
  exact ⟨dx, da, ta, s _ _ h1, h2.same s, h3.same s⟩
theorem WkA.off {C : Addr} {H H' : Hp} {S : Addr → Prop} {a : Addr} {desk : Tr} {ts : List Tr} {b C' dx' : Addr} {fs : List (Str × V)} (h : WkA C H a desk ts) (o : Off H H' (fun y => y = b)) (hb : H b = some (.ins C' dx' fs)) (n : a ≠ b) : WkA C H' a desk ts := by
  obtain ⟨dx, da, ta, h1, h2, h3⟩ := h
  exact ⟨dx, da, ta, o _ _ h1 n, h2.ins o hb, h3.ins o hb⟩
/-- lists of trees cut and put together -/
theorem TreesAt.new {H : Hp} {p : Addr} {xs : List V} {ts : List Tr} (hp : H p = none) (h : ∃ qs : List (Addr × Tr), xs = qs.map (fun q => V.ref q.1) ∧ qs.map (·.2) = ts ∧ ∀ q ∈ qs, TreeAt H q.1 q.2) : TreesAt (upd H p (.lst xs)) p ts := by
  obtain ⟨qs, rfl, b, c⟩ := h
  exact ⟨qs, upd_same, b, fun q hq => (c q hq).same (sm_new hp)⟩
theorem rd_sf {K : PySem.W.Frag} {σ : L2.St} {H : Hp} {D : Ends} {ta tv : TE} {f : Str} (h : tv σ H fun y H1 => ta σ H1 fun x H2 => ∃ a C dx fs, x = .ref a ∧ H2 a = some (.ins C dx fs) ∧ Cls K C ∧ NoAttr K C f ∧ fs.length < 1000 ∧ D.nx σ (upd H2 a (.ins C dx (putF f y fs)))) : sFld K ta tv f D σ H := h
section
variable {P : Program} {w : World} {K : PySem.W.Frag} {mg : Str → Option Value} {base : Heap} {C : Addr}
abbrev sWkInit : Stmt := inClass (top 68) 0
abbrev NWkInit : List Str := ["self"]
theorem scWkInit : FnScope NWkInit ["self"] (defScope sWkInit) := ⟨rfl, rfl, rfl, by decide +kernel, rfl, by decide +kernel, by decide +kernel⟩
def spWkInit (C : Addr) : Sp := fun vs H Q _ => ∃ (a dx : Addr), vs = [.ref a] ∧ H a = some (.ins C dx []) ∧ ∀ H', Off H H' (fun x => x = a) → WkA C H' a [] [[]] → Q .non H'
theorem ok_wkInit (F : Mkd K mg "Work" C "Work.__init__" sWkInit) (L : Kl K C wkNames) : C8.Mak P w K mg base 1 "Work" C (spWkInit C) [] := by
  refine F.mak scWkInit (fun _ _ _ _ _ _ us hl => match us, hl with | [_], _ => rfl) (fun vs H Q E h => ?_) (fun f cdv A outer s H vs Q E hr h => ?_)
  · obtain ⟨a, dx, rfl, _⟩ := h
    rfl
  · obtain ⟨a, dx, rfl, ha, k⟩ := h
    refine ⟨_, (pss_cons (ps_fld (pv 0) pe_dnewT rfl)
      (pss_one (ps_fld (pv 0) (pe_lst (pa_cons pe_dnewT pa_nil)) rfl))), ?_⟩
    walk_at "rd"
    refine rd_sf (rd_dnewT fun da hda => ?_)
    have nda : a ≠ da := ne_of_none ha hda
    refine anv_var rfl _ ⟨a, C, dx, [], rfl, sm_new hda _ _ ha, L.cls, L.nos _ (by simp), (show 0 < 1000 by decide), ?_⟩
    refine rd_sf (rd_lst (rd_cons (rd_dnewT fun d0 hd0 => rd_nil ⟨by show 1 ≤ sizeLine; decide, fun ta hta => ?_⟩)))
    have n0 : d0 ≠ a := fun e => by
      rw [e, upd_same] at hd0; cases hd0
    have n1 : ta ≠ a := fun e => by
      rw [e, upd_ne fun z => n0 z.symm, upd_same] at hta; cases hta
    have n2 : ta ≠ d0 := fun e => by
      rw [e, upd_same] at hta; cases hta
    rw [upd_ne n2, upd_ne n1] at hta
    rw [upd_ne n0] at hd0
    have n3 : d0 ≠ da := fun e => by
      rw [e, upd_same] at hd0; cases hd0
    have n4 : ta ≠ da := fun e => by
      rw [e, upd_same] at hta; cases hta
    rw [upd_ne n3] at hd0
    rw [upd_ne n4] at hta
    refine anv_var rfl _ ⟨a, C, dx, [("desk", .ref da)], rfl, ?_, L.cls, L.nos _ (by simp), (show 1 < 1000 by decide), ?_⟩
    · rw [upd_ne fun z => n1 z.symm, upd_ne fun z => n0 z.symm, upd_same]; rfl
    · refine k _ (fun y u hy n => ?_) ⟨dx, da, ta, ?_, ⟨[], ⟨[], ?_, rfl, fun e he => (by cases he)⟩, List.Perm.refl _⟩, [(d0, [])], ?_, rfl, fun q hq => ?_⟩
      · have y1 : y ≠ ta := ne_of_none hy hta
        have y2 : y ≠ d0 := ne_of_none hy hd0
        have y3 : y ≠ da := ne_of_none hy hda
        rw [upd_ne n, upd_ne y1, upd_ne y2, upd_ne n, upd_ne y3]; exact hy
      · rw [upd_same]; rfl
      · rw [upd_ne fun z => nda z.symm, upd_ne fun z => n4 z.symm, upd_ne fun z => n3 z.symm, upd_ne fun z => nda z.symm, upd_same]; rfl
      · rw [upd_ne n1, upd_same]; rfl
      · rw [List.mem_singleton.mp hq]
        refine ⟨[], ⟨[], ?_, rfl, fun e he => (by cases he)⟩, List.Perm.refl _⟩
        show upd _ a _ d0 = _
        rw [upd_ne n0, upd_ne fun z => n2 z.symm, upd_same]; rfl
abbrev sChanges : Stmt := inClass (top 68) 1
abbrev NChanges : List Str := ["self"]
theorem scChanges : FnScope NChanges ["self"] (defScope sChanges) := ⟨rfl, rfl, rfl, by decide +kernel, rfl, by decide +kernel, by decide +kernel⟩
def spChanges (C : Addr) : Sp := fun vs H Q _ => ∃ (a : Addr) (desk : Tr) (ts : List Tr), vs = [.ref a] ∧ WkA C H a desk ts ∧ 1 ≤ ts.length ∧ Q (nv (ts.length - 1)) H
theorem ok_changes (F : Md K C "changes" "Work.changes" sChanges) (L : Kl K C wkNames) (T : Tx mg) : C8.Met P w K mg base 1 C "changes" (spChanges C) [] := by
  refine F.met L.cls scChanges (fun _ _ _ _ _ _ us hl => match us, hl with | [_], _ => rfl) (fun vs H Q E h => ?_) (fun f cdv A outer s H vs Q E hr h => ?_)
  · obtain ⟨a, desk, ts, rfl, _⟩ := h
    rfl
  · obtain ⟨a, desk, ts, rfl, ⟨dx, da, ta, h1, h2, h3⟩, pos, k⟩ := h
    refine ⟨_, (pss_one (ps_ret (pe_op op_sub (pe_callB call_lenS (by rfl) T.len PySem.boot_len (pa_cons (pe_fld (pv 0) rfl) pa_nil)) pe_int))), ?_⟩
    obtain ⟨xs, x1, x2⟩ := h3.obj
    refine rd_ret (anv_use (anv_to (anv_I0 (anv_lenL (anv_fld (anv_var rfl) h1 L.cls (L.nos _ (by simp)) rfl) (SqL.of x1)) anv_c) ?_) k)
    rw [x2]
    exact congrArg V.int (by omega)
abbrev sHasChange : Stmt := inClass (top 68) 2
abbrev NHasChange : List Str := ["self", "i"]
theorem scHasChange : FnScope NHasChange ["self", "i"] (defScope sHasChange) := ⟨rfl, rfl, rfl, by decide +kernel, rfl, by decide +kernel, by decide +kernel⟩
def spHasChange (C : Addr) : Sp := fun vs H Q _ => ∃ (a : Addr) (i : Int) (desk : Tr) (ts : List Tr), vs = [.ref a, .int i] ∧ WkA C H a desk ts ∧ 1 ≤ ts.length ∧ Q (.bl (decide (1 ≤ i) && decide (i ≤ ((ts.length - 1 : Nat) : Int)))) H
theorem ok_hasChange (F : Md K C "has_change" "Work.has_change" sHasChange) (L : Kl K C wkNames) (T : Tx mg) (G_Work_changes : C8.Met P w K mg base 1 C "changes" (spChanges C) []) : C8.Met P w K mg base 2 C "has_change" (spHasChange C) [] := by
  refine F.met L.cls scHasChange (fun _ _ _ _ _ _ us hl => match us, hl with | [_, _], _ => rfl) (fun vs H Q E h => ?_) (fun f cdv A outer s H vs Q E hr h => ?_)
  · obtain ⟨a, i, desk, ts, rfl, _⟩ := h
    rfl
  · obtain ⟨a, i, desk, ts, rfl, hW, pos, k⟩ := h
    obtain ⟨dx, da, ta, h1, _⟩ := id hW
    refine ⟨_, (pss_one (ps_ret (pe_chain op_le op_le pe_int (pv 1) (C8.pe_mt0 G_Work_changes hr (by decide) (pv 0))))), ?_⟩
    have ch : AnV (tMeth C "changes" (spChanges C) [] C8.E0 (tVar 0) tNil) (L2.start NHasChange [V.ref a, V.int i]) H (nv (ts.length - 1)) := fun R q => anv_var rfl _ ⟨a, dx, _, rfl, h1, rfl, rd_nil ⟨a, desk, ts, rfl, hW, pos, q⟩⟩
    exact rd_ret (anv_use (anv_chain anv_c (anv_var rfl) ch) k)
theorem carry_len : ∀ (r : List Tr) (k : Nat) (below onto : Tr) (l : List Tr), carry k below onto r = .trees l → l.length = r.length
  | [], k, below, onto, l, h => by
    cases (show Carried.trees [] = Carried.trees l from h); rfl
  | t :: r, k, below, onto, l, h => by
    cases e : Vamrqc.merge below onto t with
    | tree u =>
      rw [carry_next e] at h
      cases e2 : carry (k + 1) t u r with
      | halt_ j m => rw [e2] at h; cases h
      | trees l' =>
        rw [e2] at h
        have h : Carried.trees ([u] ++ l') = Carried.trees l := h
        cases h
        rw [List.length_append, List.length_cons, carry_len r (k + 1) t u l' e2, Nat.add_comm]; rfl
    | conflicts n =>
      rw [carry_stop (fun u z => by rw [e] at z; cases z)] at h; cases h
    | unfit x =>
      rw [carry_stop (fun u z => by rw [e] at z; cases z)] at h; cases h
abbrev sHasTwo : Stmt := inClass (top 68) 3
abbrev NHasTwo : List Str := ["self", "i"]
theorem scHasTwo : FnScope NHasTwo ["self", "i"] (defScope sHasTwo) := ⟨rfl, rfl, rfl, by decide +kernel, rfl, by decide +kernel, by decide +kernel⟩
def spHasTwo (C : Addr) : Sp := fun vs H Q _ => ∃ (a : Addr) (i : Int) (desk : Tr) (ts : List Tr), vs = [.ref a, .int i] ∧ WkA C H a desk ts ∧ 1 ≤ ts.length ∧ Q (.bl ((decide (1 ≤ i) && decide (i ≤ ((ts.length - 1 : Nat) : Int))) && (decide (1 ≤ i + 1) && decide (i + 1 ≤ ((ts.length - 1 : Nat) : Int))))) H
theorem ok_hasTwo (F : Md K C "has_two_changes" "Work.has_two_changes" sHasTwo) (L : Kl K C wkNames) (T : Tx mg) (G_Work_has_change : C8.Met P w K mg base 2 C "has_change" (spHasChange C) []) : C8.Met P w K mg base 3 C "has_two_changes" (spHasTwo C) [] := by
  refine F.met L.cls scHasTwo (fun _ _ _ _ _ _ us hl => match us, hl with | [_, _], _ => rfl) (fun vs H Q E h => ?_) (fun f cdv A outer s H vs Q E hr h => ?_)
  · obtain ⟨a, i, desk, ts, rfl, _⟩ := h
    rfl
  · obtain ⟨a, i, desk, ts, rfl, hW, pos, k⟩ := h
    obtain ⟨dx, da, ta, h1, _⟩ := id hW
    refine ⟨_, (pss_one (ps_ret (pe_and (C8.pe_mt G_Work_has_change hr (by decide) (pv 0) (pa_cons (pv 1) pa_nil)) (pe_one (C8.pe_mt G_Work_has_change hr (by decide) (pv 0) (pa_cons (pe_op op_add (pv 1) pe_int) pa_nil)))))), ?_⟩
    refine rd_ret (anv_use (anv_and (a := decide (1 ≤ i) && decide (i ≤ ((ts.length - 1 : Nat) : Int))) (b := decide (1 ≤ i + 1) && decide (i + 1 ≤ ((ts.length - 1 : Nat) : Int))) ?_ fun _ => ?_) k)
    · intro R q
      exact anv_var rfl _ ⟨a, dx, _, rfl, h1, rfl, rd_cons (rd_var rfl (rd_nil ⟨a, i, desk, ts, rfl, hW, pos, q⟩))⟩
    · intro R q
      exact anv_var rfl _ ⟨a, dx, _, rfl, h1, rfl, rd_cons (rd_op (rd_var rfl (rd_c (rd_I0 (rd_nil ⟨a, i + 1, desk, ts, rfl, hW, pos, q⟩)))))⟩
abbrev sEditsOf : Stmt := inClass (top 68) 4
abbrev NEditsOf : List Str := ["self", "i"]
theorem scEditsOf : FnScope NEditsOf ["self", "i"] (defScope sEditsOf) := ⟨rfl, rfl, rfl, by decide +kernel, rfl, by decide +kernel, by decide +kernel⟩
def spEditsOf (C CE : Addr) : Sp := fun vs H Q _ => ∃ (a : Addr) (i : Nat) (desk : Tr) (ts : List Tr), vs = [.ref a, nv i] ∧ WkA C H a desk ts ∧ (∀ t ∈ ts, Good t) ∧ 1 ≤ i ∧ i < ts.length ∧ ∀ H' r, Same H H' → LAt (EdA CE) H' r (Vamrqa.formOf (ts.getD (i - 1) []) (ts.getD i [])) → Q (.ref r) H'
theorem ok_editsOf {CE : Addr} (F : Md K C "edits_of" "Work.edits_of" sEditsOf) (L : Kl K C wkNames) (T : Tx mg) (G_one_form : C8.Cal P w K mg base 4 "one_form" (spOneForm CE) []) : C8.Met P w K mg base 5 C "edits_of" (spEditsOf C CE) [] := by
  refine F.met L.cls scEditsOf (fun _ _ _ _ _ _ us hl => match us, hl with | [_, _], _ => rfl) (fun vs H Q E h => ?_) (fun f cdv A outer s H vs Q E hr h => ?_)
  · obtain ⟨a, i, desk, ts, rfl, _⟩ := h
    rfl
  · obtain ⟨a, i, desk, ts, rfl, hW, gt, i1, i2, k⟩ := h
    obtain ⟨dx, da, ta, h1, h2, h3⟩ := id hW
    refine ⟨_, (pss_one (ps_ret (C8.pe_c G_one_form hr (by decide) (by rfl) (pa_cons (pe_ix ix_list (pe_fld (pv 0) rfl) (pe_op op_sub (pv 1) pe_int) (fun _ _ => rfl)) (pa_cons (pe_ix ix_list (pe_fld (pv 0) rfl) (pv 1) (fun _ _ => rfl)) pa_nil))))), ?_⟩
    have g1 : ts[i - 1]? = some (ts.getD (i - 1) []) := by
      rw [List.getD_eq_getElem?_getD, List.getElem?_eq_getElem (by omega)]; rfl
    have g2 : ts[i]? = some (ts.getD i []) := by
      rw [List.getD_eq_getElem?_getD, List.getElem?_eq_getElem (by omega)]; rfl
    obtain ⟨xs, a1, b1, b2, b3, b4⟩ := h3.get g1
    obtain ⟨xs', a2, c1, c2, c3, c4⟩ := h3.get g2
    have exs : xs = xs' := by rw [b1] at c1; cases c1; rfl
    subst exs
    walk_at "rd"
    refine rd_fld (anv_var rfl) h1 L.cls (L.nos _ (by simp)) rfl ?_
    walk_at "rd"
    refine rd_ixL (k := i - 1) (SqL.of b1) (by omega) b2 ?_
    walk_at "rd"
    refine rd_fld (anv_var rfl) h1 L.cls (L.nos _ (by simp)) rfl ?_
    walk_at "rd"
    refine rd_ixL (k := i) (SqL.of b1) rfl c2 ?_
    walk_at "rd"
    exact ⟨a1, a2, _, _, rfl, b3, c3, gt _ (List.mem_of_getElem? g1), gt _ (List.mem_of_getElem? g2), k⟩
theorem off_free {H H1 : Hp} {a p : Addr} {u : HO} (o : Off H H1 (fun y => y = a)) (ha : H1 a = some u) (hp : H1 p = none) : H p = none := by
  cases e : H p with
  | none => rfl
  | some v =>
    exfalso
    by_cases c : p = a
    · rw [c, ha] at hp; cases hp
    · rw [o p v e c] at hp; cases hp
abbrev sDoneWith : Stmt := inClass (top 68) 5
abbrev NDoneWith : List Str := ["self", "trees"]
theorem scDoneWith : FnScope NDoneWith ["self", "trees"] (defScope sDoneWith) := ⟨rfl, rfl, rfl, by decide +kernel, rfl, by decide +kernel, by decide +kernel⟩
def spDoneWith (C : Addr) : Sp := fun vs H Q _ => ∃ (a r : Addr) (desk : Tr) (ts us : List Tr), vs = [.ref a, .ref r] ∧ WkA C H a desk ts ∧ TreesAt H r us ∧ 1 ≤ us.length ∧ ∀ H' p, Off H H' (fun y => y = a) → WkA C H' a desk us → H p = none → H' p = some (.lst [nv 0, nv (us.length - 1)]) → Q (.ref p) H'
theorem ok_doneWith (F : Md K C "done_with" "Work.done_with" sDoneWith) (L : Kl K C wkNames) (T : Tx mg) (G_Work_changes : C8.Met P w K mg base 1 C "changes" (spChanges C) []) : C8.Met P w K mg base 2 C "done_with" (spDoneWith C) [] := by
  refine F.met L.cls scDoneWith (fun _ _ _ _ _ _ us hl => match us, hl with | [_, _], _ => rfl) (fun vs H Q E h => ?_) (fun f cdv A outer s H vs Q E hr h => ?_)
  · obtain ⟨a, r, desk, ts, us, rfl, _⟩ := h
    rfl
  · obtain ⟨a, r, desk, ts, us, rfl, hW, hu, pos, k⟩ := h
    obtain ⟨dx, da, ta, h1, h2, h3⟩ := id hW
    refine ⟨_, (pss_cons (ps_fld (pv 0) (pv 1) rfl)
      (pss_one (ps_ret (pe_lst (pa_cons (C8.pe_gc (by rfl) T.c_DONE) (pa_cons (C8.pe_mt0 G_Work_changes hr (by decide) (pv 0)) pa_nil)))))), ?_⟩
    refine rd_seq (rd_sfldV (anv_var rfl) (anv_var rfl) h1 L.cls (L.nos _ (by simp)) (show 2 < 1000 by decide) ?_)
    have o1 : Off H (upd H a (.ins C dx (putF "trees" (.ref r) [("desk", .ref da), ("trees", .ref ta)]))) (fun y => y = a) := Off.upd rfl
    have w1 : WkA C (upd H a (.ins C dx (putF "trees" (.ref r) [("desk", .ref da), ("trees", .ref ta)]))) a desk us := ⟨dx, da, r, upd_same, h2.ins o1 h1, hu.ins o1 h1⟩
    generalize upd H a (.ins C dx (putF "trees" (.ref r) [("desk", .ref da), ("trees", .ref ta)])) = H1 at o1 w1 ⊢
    obtain ⟨dx1, da1, ta1, g1, _⟩ := id w1
    walk_at "rd"
    refine anv_var rfl _ ⟨a, dx1, _, rfl, g1, rfl, rd_nil ⟨a, desk, us, rfl, w1, pos, ?_⟩⟩
    walk_at "rd"
    refine ⟨by show 2 ≤ sizeLine; decide, fun p hp => ?_⟩
    exact k _ p (o1.trans (Off.of_same (sm_new hp))) (w1.same (sm_new hp)) (off_free o1 g1 hp) upd_same
theorem stays_tree : Stays TreeAt := ⟨fun s h => h.same s, fun h hr => h.mut hr⟩
theorem trees_of {H : Hp} {r : Addr} {ts : List Tr} (h : LAt TreeAt H r ts) : TreesAt H r ts := h
theorem lat_of {H : Hp} {r : Addr} {ts : List Tr} (h : TreesAt H r ts) : LAt TreeAt H r ts := h
abbrev sBehind : Stmt := inClass (top 68) 6
abbrev NBehind : List Str := ["self", "lower", "first", "stop", "carried"]
theorem scBehind : FnScope NBehind ["self", "lower", "first"] (defScope sBehind) := ⟨rfl, rfl, rfl, by decide +kernel, rfl, by decide +kernel, by decide +kernel⟩
/-- what it leaves -/
def BehindAt (C : Addr) (H H' : Hp) (a p : Addr) (k : Nat) (desk : Tr) (ts lo : List Tr) (u : Tr) : Prop := Off H H' (fun y => y = a) ∧ H p = none ∧ match carry k (ts.getD (k - 1) []) u (ts.drop k) with
  | .trees l => WkA C H' a desk (lo ++ [u] ++ l) ∧ H' p = some (.lst [nv 0, nv (lo.length + l.length)])
  | .halt_ j m => WkA C H' a desk ts ∧ H' p = some (.lst ((stopTold j m).map V.int))
def spBehind (C : Addr) : Sp := fun vs H Q _ => ∃ (a r : Addr) (k : Nat) (desk : Tr) (ts lo : List Tr) (u : Tr), vs = [.ref a, .ref r, nv k] ∧ WkA C H a desk ts ∧ TreesAt H r (lo ++ [u]) ∧ Good u ∧ (∀ t ∈ ts, Good t) ∧ 1 ≤ k ∧ k ≤ ts.length ∧ ts.length ≤ 100 ∧ lo.length ≤ 100 ∧ ∀ H' p, BehindAt C H H' a p k desk ts lo u → Q (.ref p) H'
theorem ok_behind (F : Md K C "carry_on_behind" "Work.carry_on_behind" sBehind) (L : Kl K C wkNames) (T : Tx mg) (G_Work_done_with : C8.Met P w K mg base 2 C "done_with" (spDoneWith C) []) (G_carry_on : C8.Cal P w K mg base 8 "carry_on" spCarry []) : C8.Met P w K mg base 9 C "carry_on_behind" (spBehind C) [] := by
  refine F.met L.cls scBehind (fun _ _ _ _ _ _ us hl => match us, hl with | [_, _, _], _ => rfl) (fun vs H Q E h => ?_) (fun f cdv A outer s H vs Q E hr h => ?_)
  · obtain ⟨a, r, k, desk, ts, lo, u, rfl, _⟩ := h
    rfl
  · obtain ⟨a, r, k, desk, ts, lo, u, rfl, hW, hl, gu, gt, k1, k2, zt, zo, q⟩ := h
    obtain ⟨dx, da, ta, h1, h2, h3⟩ := id hW
    refine ⟨_, (pss_cons (ps_asg (C8.pe_c G_carry_on hr (by decide) (by rfl) (pa_cons (pe_fld (pv 0) rfl) (pa_cons (pv 2) (pa_cons (pe_ix ix_list (pv 1) (pe_un un_neg pe_int) (fun _ _ => rfl)) pa_nil)))) (pg_tup (by rfl) (pgs_cons (pg_name (i := 3) scBehind.nd rfl (Or.inl rfl)) (pgs_cons (pg_name (i := 4) scBehind.nd rfl (Or.inl rfl)) pgs_nil))))
      (pss_cons (ps_if (pt_truth (pv 3) (by intro _; rfl))
        (pss_one (ps_ret (pv 3)))
        pss_nil)
      (pss_one (ps_ret (C8.pe_mt G_Work_done_with hr (by decide) (pv 0) (pa_cons (pe_op op_cat (pv 1) (pv 4)) pa_nil)))))), ?_⟩
    obtain ⟨qs, q1, q2, q3⟩ := id hl
    have hlast : ∃ (ps : List (Addr × Tr)) (d : Addr), qs = ps ++ [(d, u)] ∧ ps.map (·.2) = lo := by
      rcases List.eq_nil_or_concat qs with e | ⟨ps, x, e⟩
      · rw [e] at q2
        have := congrArg List.length q2
        rw [List.length_append] at this
        simp at this
      · have e : qs = ps ++ [x] := by rw [e]; simp
        rw [e, List.map_append] at q2
        have q2 : ps.map (·.2) ++ [x.2] = lo ++ [u] := q2
        obtain ⟨e1, e2⟩ := List.append_inj' q2 rfl
        refine ⟨ps, x.1, ?_, e1⟩
        rw [e]
        cases e2; rfl
    obtain ⟨ps, d, eq, ep⟩ := hlast
    subst eq
    have hd : TreeAt H d u := q3 (d, u) (List.mem_append_right _ (List.mem_singleton.mpr rfl))
    have q1' : H r = some (.lst ((ps.map fun q => V.ref q.1) ++ [.ref d])) := by rw [q1, List.map_append]; rfl
    walk_at "rd"
    refine rd_fld (anv_var rfl) h1 L.cls (L.nos _ (by simp)) rfl ?_
    walk_at "rd"
    refine rd_ixLast (SqL.of q1') ?_
    walk_at "rd"
    refine ⟨ta, d, k, ts, u, rfl, h3, hd, gu, gt, k1, k2, by omega, fun H1 p s1 hc => ?_⟩
    have hW1 := hW.same s1
    cases e : carry k (ts.getD (k - 1) []) u (ts.drop k) with
    | halt_ j m =>
      rw [e] at hc
      obtain ⟨s0, c, hp, hs, ne, fs⟩ := hc
      refine rd_gtup (SqT.of hp) rfl ?_
      walk_at "rd"
      refine ⟨_, .inl ⟨_, SqL.of hs, rfl⟩, ?_⟩
      refine rd_cond (fun _ => ?_) (fun z => ?_)
      · walk_at "rd"
        refine q H1 s0 ⟨Off.of_same s1, fs, ?_⟩
        rw [e]
        exact ⟨hW1, hs⟩
      · exfalso
        cases q : (stopTold j m) with
        | nil => exact ne q
        | cons x l => rw [q] at z; cases z
    | trees l =>
      rw [e] at hc
      obtain ⟨s0, c, hp, hs, hl2, gl⟩ := hc
      have ll := carry_len _ _ _ _ _ e
      rw [List.length_drop] at ll
      refine rd_gtup (SqT.of hp) rfl ?_
      walk_at "rd"
      refine ⟨_, .inl ⟨_, SqL.of hs, rfl⟩, ?_⟩
      refine rd_cond (fun z => by cases z) (fun _ => ?_)
      walk_at "rd"
      have g1 := s1 _ _ h1
      obtain ⟨dx1, da1, ta1, g1', _⟩ := id hW1
      refine anv_var rfl _ ⟨a, dx1, _, rfl, g1', rfl, ?_⟩
      walk_at "rd"
      obtain ⟨as, a1, a2⟩ := (LAt.obj (lat_of hl)).imp fun _ z => z
      obtain ⟨bs, b1, b2⟩ := LAt.obj (lat_of hl2)
      rw [List.length_append] at a2
      refine ⟨r, c, as, bs, rfl, rfl, s1 _ _ a1, b1, by rw [a2, b2]; exact sz (by show lo.length + 1 + l.length ≤ _; omega), fun p4 hp4 => ?_⟩
      obtain ⟨as', bs', a1', b1', _, _, cat⟩ := ((lat_of hl).same stays_tree s1).cat stays_tree (lat_of hl2) hp4
      have ea : as = as' := by
        have := (s1 _ _ a1).symm.trans a1'
        cases this; rfl
      have eb : bs = bs' := by
        have := b1.symm.trans b1'
        cases this; rfl
      subst ea eb
      walk_at "rd"
      have s4 := sm_new (o := .lst (as ++ bs)) hp4
      refine ⟨a, p4, desk, ts, _, rfl, hW1.same s4, cat, by rw [List.length_append, List.length_append]; show 1 ≤ lo.length + 1 + l.length; omega, fun H5 p5 o5 w5 f5 h5 => ?_⟩
      refine q H5 p5 ⟨(Off.of_same (s1.trans s4)).trans o5, sm_free (s1.trans s4) f5, ?_⟩
      rw [e]
      refine ⟨w5, ?_⟩
      rw [h5, List.length_append, List.length_append]
      have : lo.length + [u].length + l.length - 1 = lo.length + l.length := by show lo.length + 1 + l.length - 1 = _; omega
      rw [this]
end
end Cs
-- CsState
/-! The state, and the calls read off the list. -/
namespace Cs
open Vamrqd (State carry Carried stopTold)
open Vamrqa (File folderOf)
abbrev trs (s : State) : List Tr := s.stack.base :: s.stack.afters
structure Okay (s : State) : Prop where
  desk : Good s.desk
  all : ∀ t ∈ trs s, Good t
  few : s.stack.afters.length ≤ 6
theorem okay_start : Okay Vamrqd.start := ⟨good_nil, fun t ht => by rw [List.mem_singleton.mp ht]; exact good_nil, by decide⟩
theorem whole_id (c : List (List Int)) : PyVamrqd.whole c = c := by
  unfold PyVamrqd.whole
  split <;> rfl
theorem at_eq (s : State) (i : Nat) : s.stack.at_ i = (trs s).getD i [] := by
  unfold Vamrqd.Stack.at_
  cases i with
  | zero => rfl
  | succ i => rfl
theorem at_good {s : State} (h : Okay s) (i : Nat) : Good (s.stack.at_ i) := by
  rw [at_eq, List.getD_eq_getElem?_getD]
  cases e : (trs s)[i]? with
  | none => exact good_nil
  | some t => exact h.all t (List.mem_of_getElem? e)
theorem merge_outC {b o t u : Tr} (h : Vamrqc.merge b o t = .tree u) : mergeC b o t = .tree u := by
  have := mergeC_eq b o t
  rw [h] at this
  exact this.symm
theorem carry_good : ∀ (r : List Tr) (k : Nat) (below onto : Tr) (l : List Tr), Good below → Good onto → (∀ t ∈ r, Good t) → carry k below onto r = .trees l → ∀ t ∈ l, Good t
  | [], k, below, onto, l, _, _, _, h => by
    cases (show Carried.trees [] = Carried.trees l from h)
    exact fun t ht => by cases ht
  | t :: r, k, below, onto, l, gb, go, gr, h => by
    cases e : Vamrqc.merge below onto t with
    | tree u =>
      rw [carry_next e] at h
      have gt := gr t (List.mem_cons_self ..)
      have gu := merge_good gb go gt (merge_outC e)
      cases e2 : carry (k + 1) t u r with
      | halt_ j m => rw [e2] at h; cases h
      | trees l' =>
        rw [e2] at h
        have h : Carried.trees ([u] ++ l') = Carried.trees l := h
        cases h
        intro x hx
        cases hx with
        | head => exact gu
        | tail _ hx => exact carry_good r (k + 1) t u l' gt gu (fun y hy => gr y (List.mem_cons_of_mem _ hy)) e2 x hx
    | conflicts n =>
      rw [carry_stop (fun u z => by rw [e] at z; cases z)] at h; cases h
    | unfit x =>
      rw [carry_stop (fun u z => by rw [e] at z; cases z)] at h; cases h
theorem folder_self (p : List Nat) : folderOf p p = false := by
  unfold Vamrqa.folderOf
  cases e : (p ++ [47]).isPrefixOf p with
  | false => rfl
  | true =>
    have h := (List.isPrefixOf_iff_prefix.mp e).length_le
    rw [List.length_append] at h
    have h : p.length + 1 ≤ p.length := h
    omega
theorem path_len {p : List Nat} (h : Vamrqa.goodPath p = true) : p.length ≤ 40 ∧ p ≠ [] := by
  refine ⟨?_, fun e => ?_⟩
  · unfold Vamrqa.goodPath at h
    rw [Bool.and_eq_true, Bool.and_eq_true, decide_eq_true_eq] at h
    exact h.1.1
  · rw [e] at h
    exact absurd h (by decide)
theorem good_put {t : Tr} (g : Good t) {p l : List Nat} (hp : Vamrqa.goodPath p = true) (hl : l.length ≤ 40) (hc : Vamrqa.Tree.has t p = false → Vamrqa.Tree.clashes t p = false ∧ t.length < 12) : Good (Vamrqa.Tree.put t ⟨p, l⟩) := by
  have apart : ∀ f ∈ t, folderOf p f.path = false ∧ folderOf f.path p = false := fun f hf => by
    cases c : Vamrqa.Tree.has t p with
    | true =>
      obtain ⟨k, hk, ek⟩ := List.mem_map.mp (has_iff.mp c)
      have ek : k.path = p := ek
      rw [← ek]
      exact ⟨g.apart k hk f hf, g.apart f hf k hk⟩
    | false =>
      have := List.any_eq_false.mp (hc c).1 f hf
      have t2 : (folderOf p f.path || folderOf f.path p) = false := by simpa [Vamrqa.clash] using this
      rw [Bool.or_eq_false_iff] at t2
      exact t2
  have mem := put_mem g.ord ⟨p, l⟩
  refine ⟨put_ord g.ord _, ?_, fun f hf => ?_, fun f hf k hk => ?_, fun f hf => ?_, fun f hf => ?_⟩
  · rw [put_len g.ord]
    show (if Vamrqa.Tree.has t p = true then _ else _) ≤ 12
    cases c : Vamrqa.Tree.has t p with
    | true => rw [if_pos rfl]; exact g.few
    | false => rw [if_neg (by decide)]; have := (hc c).2; omega
  · rcases (mem f).mp hf with e | e
    · rw [e]; exact hl
    · exact g.short f e.1
  · rcases (mem f).mp hf with e | e <;> rcases (mem k).mp hk with e2 | e2
    · rw [e, e2]; exact folder_self p
    · rw [e]; exact (apart k e2.1).1
    · rw [e2]; exact (apart f e.1).2
    · exact g.apart f e.1 k e2.1
  · rcases (mem f).mp hf with e | e
    · rw [e]; exact (path_len hp).1
    · exact g.len f e.1
  · rcases (mem f).mp hf with e | e
    · rw [e]; exact (path_len hp).2
    · exact g.full f e.1
theorem good_drop {t : Tr} (g : Good t) (p : List Nat) : Good (Vamrqa.Tree.drop t p) := by
  have sub : ∀ f ∈ Vamrqa.Tree.drop t p, f ∈ t := fun f hf => (List.mem_filter.mp hf).1
  refine ⟨drop_ord g.ord p, Nat.le_trans (drop_short t p) g.few, fun f hf => g.short f (sub f hf), fun f hf k hk => g.apart f (sub f hf) k (sub k hk), fun f hf => g.len f (sub f hf), fun f hf => g.full f (sub f hf)⟩
theorem okay_put {s : State} (h : Okay s) {b : Tr} {l : List Tr} (gb : Good b) (gl : ∀ t ∈ l, Good t) (z : l.length ≤ 6) : Okay (s.put b l).1 := ⟨h.desk, fun t ht => by
  cases ht with
  | head => exact gb
  | tail _ ht => exact gl t ht, z⟩
theorem okay_take {s : State} (h : Okay s) {n : Nat} : ∀ t ∈ s.stack.afters.take n, Good t := fun t ht => h.all t (List.mem_cons_of_mem _ (List.mem_of_mem_take ht))
theorem okay_drop {s : State} (h : Okay s) {n : Nat} : ∀ t ∈ s.stack.afters.drop n, Good t := fun t ht => h.all t (List.mem_cons_of_mem _ (List.mem_of_mem_drop ht))
theorem okay_change {s : State} (h : Okay s) {i : Int} {f : Nat → State × Vamrqd.Answer} (hf : ∀ n, 1 ≤ n → n ≤ s.stack.afters.length → Okay (f n).1) : Okay (Vamrqd.changeOf s i f).1 := by
  unfold Vamrqd.changeOf
  by_cases c : 1 ≤ i ∧ i ≤ s.stack.afters.length
  · rw [if_pos c]; exact hf _ (by omega) (by omega)
  · rw [if_neg c]; exact h
theorem middle_eq {s : State} (h : Okay s) {i n : Nat} (hn : n ≤ (s.stack.change i).length) : ∃ v, s.stack.middle i n = some v ∧ Good v := by
  obtain ⟨v, h1, h2⟩ := form_good (at_good h (i - 1)) (at_good h i) n hn
  refine ⟨v, ?_, h2⟩
  unfold Vamrqd.Stack.middle
  have h1 : Vamrqa.apply (s.stack.at_ (i - 1)) ((s.stack.change i).take n) = .ok v := h1
  rw [h1]
theorem okay_amending {s : State} (h : Okay s) (i : Nat) (hi : i ≤ s.stack.afters.length) : Okay (s.amending i).1 := by
  unfold Vamrqd.State.amending
  cases e : s.stack.amended i s.desk with
  | halt_ k m => exact h
  | trees l =>
    have gl := carry_good _ _ _ _ _ (at_good h i) h.desk (okay_drop h) e
    have zl := carry_len _ _ _ _ _ e
    rw [List.length_drop] at zl
    have zf := h.few
    show Okay (if i = 0 then s.put s.desk l else s.put s.stack.base (s.stack.afters.take (i - 1) ++ (s.desk :: l))).1
    by_cases c : i = 0
    · rw [if_pos c]
      exact okay_put h h.desk gl (by omega)
    · rw [if_neg c]
      refine okay_put h (h.all _ (List.mem_cons_self ..)) (fun t ht => ?_) ?_
      · rcases List.mem_append.mp ht with ht | ht
        · exact okay_take h t ht
        · cases ht with
          | head => exact h.desk
          | tail _ ht => exact gl t ht
      · rw [List.length_append, List.length_take, List.length_cons]; omega
theorem okay_step {s : State} (h : Okay s) (c : Vamrqd.Call) : Okay (Vamrqd.step s c).1 := by
  have zf := h.few
  have gb : Good s.stack.base := h.all _ (List.mem_cons_self ..)
  cases c with
  | list => exact h
  | sizes => exact h
  | edits i => exact okay_change h fun n _ _ => h
  | both i j => exact okay_change h fun n _ _ => okay_change h fun m _ _ => h
  | get p =>
    show Okay (match Vamrqa.Tree.get s.desk p with
      | some l => (s, Vamrqd.Answer.told (Vamrqd.listed l))
      | none => (s, Vamrqd.Answer.refused (-6))).1
    cases Vamrqa.Tree.get s.desk p <;> exact h
  | drop p =>
    show Okay (if Vamrqa.Tree.has s.desk p = true then _ else _ : State × Vamrqd.Answer).1
    by_cases c : Vamrqa.Tree.has s.desk p = true
    · rw [if_pos c]; exact ⟨good_drop h.desk p, h.all, h.few⟩
    · rw [if_neg c]; exact h
  | take i =>
    show Okay (if i < 0 ∨ (s.stack.afters.length : Int) < i then _ else _ : State × Vamrqd.Answer).1
    by_cases c : i < 0 ∨ (s.stack.afters.length : Int) < i
    · rw [if_pos c]; exact h
    · rw [if_neg c]; exact ⟨at_good h _, h.all, h.few⟩
  | begin => exact okay_put h h.desk (fun t ht => by cases ht) (by decide)
  | push =>
    show Okay (if Vamrqd.MOST ≤ s.stack.afters.length then _ else _ : State × Vamrqd.Answer).1
    by_cases c : Vamrqd.MOST ≤ s.stack.afters.length
    · rw [if_pos c]; exact h
    · rw [if_neg c]
      have c : ¬ 6 ≤ s.stack.afters.length := c
      refine okay_put h gb (fun t ht => ?_) (by rw [List.length_append]; show _ + 1 ≤ 6; omega)
      rcases List.mem_append.mp ht with ht | ht
      · exact h.all t (List.mem_cons_of_mem _ ht)
      · rw [List.mem_singleton.mp ht]; exact h.desk
  | amend i => exact okay_change h fun n n1 n2 => okay_amending h n n2
  | rebase => exact okay_amending h 0 (Nat.zero_le _)
  | remove i =>
    refine okay_change h fun n n1 n2 => ?_
    unfold Vamrqd.State.removing
    cases e : s.stack.removed n with
    | halt_ k m => exact h
    | trees l =>
      have gl := carry_good _ _ _ _ _ (at_good h n) (at_good h (n - 1)) (okay_drop h) e
      have zl := carry_len _ _ _ _ _ e
      rw [List.length_drop] at zl
      refine okay_put h gb (fun t ht => ?_) (by rw [List.length_append, List.length_take]; omega)
      rcases List.mem_append.mp ht with ht | ht
      · exact okay_take h t ht
      · exact gl t ht
  | fold i =>
    refine okay_change h fun n n1 n2 => ?_
    show Okay (if s.stack.afters.length ≤ n then _ else _ : State × Vamrqd.Answer).1
    by_cases c : s.stack.afters.length ≤ n
    · rw [if_pos c]; exact h
    · rw [if_neg c]
      refine okay_put h gb (fun t ht => ?_) (by rw [List.length_append, List.length_take, List.length_drop]; omega)
      rcases List.mem_append.mp ht with ht | ht
      · exact okay_take h t ht
      · exact okay_drop h t ht
  | split i m =>
    refine okay_change h fun n n1 n2 => ?_
    show Okay (if m < 1 ∨ ((s.stack.change n).length : Int) ≤ m then (s, Vamrqd.Answer.refused (-1)) else s.splitting n m.toNat).1
    by_cases c : m < 1 ∨ ((s.stack.change n).length : Int) ≤ m
    · rw [if_pos c]; exact h
    · rw [if_neg c]
      unfold Vamrqd.State.splitting
      by_cases c2 : Vamrqd.MOST ≤ s.stack.afters.length
      · rw [if_pos c2]; exact h
      · rw [if_neg c2]
        have c2 : ¬ 6 ≤ s.stack.afters.length := c2
        obtain ⟨v, e, gv⟩ := middle_eq h (i := n) (n := m.toNat) (by omega)
        rw [e]
        refine okay_put h gb (fun t ht => ?_) (by rw [List.length_append, List.length_take, List.length_cons, List.length_drop]; omega)
        rcases List.mem_append.mp ht with ht | ht
        · exact okay_take h t ht
        · cases ht with
          | head => exact gv
          | tail _ ht => exact okay_drop h t ht
  | swap i =>
    refine okay_change h fun n n1 n2 => ?_
    show Okay (if s.stack.afters.length ≤ n then (s, Vamrqd.Answer.refused (-1)) else s.swapping n).1
    by_cases c : s.stack.afters.length ≤ n
    · rw [if_pos c]; exact h
    · rw [if_neg c]
      unfold Vamrqd.State.swapping
      cases e : s.stack.swapped n with
      | halt_ k m => exact h
      | other => exact h
      | tree x =>
        have gx : Good x := by
          unfold Vamrqd.Stack.swapped at e
          cases e1 : Vamrqc.merge (s.stack.at_ n) (s.stack.at_ (n - 1)) (s.stack.at_ (n + 1)) with
          | conflicts m => rw [e1] at e; cases e
          | unfit m => rw [e1] at e; cases e
          | tree y =>
            rw [e1] at e
            have gy := merge_good (at_good h _) (at_good h _) (at_good h _) (merge_outC e1)
            cases e2 : Vamrqc.merge (s.stack.at_ (n - 1)) y (s.stack.at_ n) with
            | conflicts m => simp only [e2] at e; cases e
            | unfit m => simp only [e2] at e; cases e
            | tree z =>
              simp only [e2] at e
              by_cases c3 : Vamrqa.sameTree z (s.stack.at_ (n + 1)) = true
              · rw [if_pos c3] at e
                cases e; exact gy
              · rw [if_neg c3] at e; cases e
        refine okay_put h gb (fun t ht => ?_) (by rw [List.length_set]; exact zf)
        rcases List.mem_or_eq_of_mem_set ht with ht | ht
        · exact h.all t (List.mem_cons_of_mem _ ht)
        · rw [ht]; exact gx
  | pick i =>
    refine okay_change h fun n n1 n2 => ?_
    unfold Vamrqd.State.picking
    cases e : Vamrqc.merge (s.stack.at_ (n - 1)) s.stack.base (s.stack.at_ n) with
    | conflicts m => exact h
    | unfit m => exact h
    | tree t => exact ⟨merge_good (at_good h _) gb (at_good h _) (merge_outC e), h.all, h.few⟩
  | file p l =>
    show Okay (Vamrqd.filing s p l).1
    unfold Vamrqd.filing
    by_cases c1 : Vamrqa.goodPath p = false
    · rw [if_pos c1]; exact h
    · rw [if_neg c1]
      by_cases c2 : Vamrqd.goodLines l = false
      · rw [if_pos c2]; exact h
      · rw [if_neg c2]
        by_cases c3 : Vamrqa.Tree.has s.desk p = false ∧ Vamrqa.Tree.clashes s.desk p = true
        · rw [if_pos c3]; exact h
        · rw [if_neg c3]
          by_cases c4 : Vamrqa.Tree.has s.desk p = false ∧ Vamrqa.FILES ≤ s.desk.length
          · rw [if_pos c4]; exact h
          · rw [if_neg c4]
            have c4 : ¬ (Vamrqa.Tree.has s.desk p = false ∧ 12 ≤ s.desk.length) := c4
            have zl : (l.map Int.toNat).length ≤ 40 := by
              have c2 : Vamrqd.goodLines l = true := by simpa using c2
              rw [goodLines_eq, Bool.and_eq_true, decide_eq_true_eq] at c2
              rw [List.length_map]; exact c2.1
            refine ⟨good_put h.desk (by simpa using c1) zl fun hh => ⟨?_, ?_⟩, h.all, h.few⟩
            · cases e : Vamrqa.Tree.clashes s.desk p with
              | false => rfl
              | true => exact absurd ⟨hh, e⟩ c3
            · exact Nat.lt_of_not_le fun z => c4 ⟨hh, z⟩
theorem okay_nstep {s : State} (h : Okay s) (c : List (List Int)) : Okay (VamrqdNeutral.step s c).1 := by
  unfold VamrqdNeutral.step
  cases VamrqdNeutral.callOf c with
  | none => exact h
  | some k => exact okay_step h k
end Cs
-- CsCall0
/-! What each call is given and leaves. -/
namespace Cs
open PySem PySem.Spec PyProof.Rows L2
open Vamrqd (State carry Carried stopTold)
/-- behind a call -/
structure Post (K : PySem.W.Frag) (CW CR : Addr) (H H' : Hp) (a b c : Addr) (l rest : List Int) (s : State) : Prop where
  off : Off H H' (fun y => y = a ∨ y = b)
  wk : WkA CW H' a s.desk (trs s)
  rd : ∃ i, RdA K CR H' b c l i ∧ l.drop i = rest
theorem Post.same {K : PySem.W.Frag} {CW CR : Addr} {H H' H2 : Hp} {a b c : Addr} {l rest : List Int} {s : State} (h : Post K CW CR H H' a b c l rest s) (e : Same H' H2) : Post K CW CR H H2 a b c l rest s :=
  ⟨h.off.trans (Off.of_same e), h.wk.same e, let ⟨i, r, d⟩ := h.rd; ⟨i, r.same e, d⟩⟩
theorem Post.fresh {K : PySem.W.Frag} {CW CR : Addr} {H H' : Hp} {a b c p : Addr} {l rest : List Int} {s : State} (h : Post K CW CR H H' a b c l rest s) (hp : H' p = none) : H p = none := by
  obtain ⟨dx, da, ta, h1, _⟩ := h.wk
  obtain ⟨i, ⟨dx2, h2, _⟩, _⟩ := h.rd
  cases e : H p with
  | none => rfl
  | some v =>
    exfalso
    by_cases c1 : p = a
    · rw [c1, h1] at hp; cases hp
    · by_cases c2 : p = b
      · rw [c2, h2] at hp; cases hp
      · rw [h.off p v e fun z => z.elim c1 c2] at hp; cases hp
/-- the work object alone is changed -/
theorem Post.next {K : PySem.W.Frag} {CW CR : Addr} {H H' H2 : Hp} {a b c : Addr} {l rest : List Int} {s s' : State} (h : Post K CW CR H H' a b c l rest s) (nab : a ≠ b) (o : Off H' H2 (fun y => y = a)) (w : WkA CW H2 a s'.desk (trs s')) : Post K CW CR H H2 a b c l rest s' := by
  obtain ⟨i, r, d⟩ := h.rd
  obtain ⟨dx, da, ta, h1, _⟩ := h.wk
  exact ⟨h.off.trans (o.mono fun x z => .inl z), w, i, r.off o h1 (Ne.symm nab), d⟩
/-- the promise of the call with the number k -/
def spC (K : PySem.W.Frag) (CW CR : Addr) (k : Int) : Sp := fun vs H Q _ => ∃ (a b c : Addr) (l : List Int) (i : Nat) (s : State) (cl : List (List Int)) (rest : List Int), vs = [.ref a, .ref b] ∧ a ≠ b ∧ WkA CW H a s.desk (trs s) ∧ RdA K CR H b c l i ∧ Okay s ∧
  PyFlat.call PyVamrqd.shape (k :: l.drop i) = some (cl, rest) ∧ PyInside.call PyVamrqd.bound cl = true ∧
  ∀ H' r, Post K CW CR H H' a b c l rest (VamrqdNeutral.step s cl).1 → H r = none → H' r = some (.lst ((VamrqdNeutral.step s cl).2.map V.int)) → Q (.ref r) H'
section
variable {shape : Int → Option (Nat × Nat)} {k : Int} {r rest : List Int} {cl : List (List Int)}
theorem call_eq {n m : Nat} (hs : shape k = some (n, m)) : PyFlat.call shape (k :: r) = if r.length < n then none else match PyFlat.rows m (r.drop n) with
    | none => none
    | some (xs, t) => some ((k :: r.take n) :: xs, t) := by
  show (match shape k with
    | none => none
    | some (n, m) => if r.length < n then none else match PyFlat.rows m (r.drop n) with
      | none => none
      | some (xs, t) => some ((k :: r.take n) :: xs, t)) = _
  rw [hs]
theorem call_00 (hs : shape k = some (0, 0)) (h : PyFlat.call shape (k :: r) = some (cl, rest)) : cl = [[k]] ∧ rest = r := by
  rw [call_eq hs, if_neg (by omega)] at h
  cases h
  exact ⟨rfl, rfl⟩
theorem call_10 (hs : shape k = some (1, 0)) (h : PyFlat.call shape (k :: r) = some (cl, rest)) : ∃ x, r = x :: rest ∧ cl = [[k, x]] := by
  rw [call_eq hs] at h
  cases r with
  | nil => cases h
  | cons x r =>
    have h : (if r.length + 1 < 1 then none else some ([[k, x]], r)) = some (cl, rest) := h
    rw [if_neg (by omega)] at h
    cases h
    exact ⟨x, rfl, rfl⟩
theorem call_20 (hs : shape k = some (2, 0)) (h : PyFlat.call shape (k :: r) = some (cl, rest)) : ∃ x y, r = x :: y :: rest ∧ cl = [[k, x, y]] := by
  rw [call_eq hs] at h
  cases r with
  | nil => cases h
  | cons x r =>
    cases r with
    | nil => cases h
    | cons y r =>
      have h : (if r.length + 1 + 1 < 2 then none else some ([[k, x, y]], r)) = some (cl, rest) := h
      rw [if_neg (by omega)] at h
      cases h
      exact ⟨x, y, rfl, rfl⟩
theorem row_some {r row rest : List Int} (h : PyFlat.row r = some (row, rest)) : r = (row.length : Int) :: (row ++ rest) := by
  cases r with
  | nil => cases h
  | cons n r =>
    have h : (if 0 ≤ n ∧ n.toNat ≤ r.length then some (r.take n.toNat, r.drop n.toNat) else none) = some (row, rest) := h
    by_cases c : 0 ≤ n ∧ n.toNat ≤ r.length
    · rw [if_pos c] at h
      cases h
      rw [List.take_append_drop, List.length_take, Nat.min_eq_left c.2]
      have : ((n.toNat : Nat) : Int) = n := by omega
      rw [this]
    · rw [if_neg c] at h; cases h
theorem call_01 (hs : shape k = some (0, 1)) (h : PyFlat.call shape (k :: r) = some (cl, rest)) : ∃ row, r = (row.length : Int) :: (row ++ rest) ∧ cl = [[k], row] := by
  rw [call_eq hs] at h
  have h : (if r.length < 0 then none else match PyFlat.rows 1 r with
    | none => none
    | some (xs, t) => some ([k] :: xs, t)) = some (cl, rest) := h
  rw [if_neg (by omega)] at h
  have e : PyFlat.rows 1 r = match PyFlat.row r with
    | none => none
    | some (x, s) => some ([x], s) := by
    show (match PyFlat.row r with
    | none => none
    | some (x, s) => match PyFlat.rows 0 s with
      | none => none
      | some (xs, t) => some (x :: xs, t)) = _
    cases PyFlat.row r <;> rfl
  rw [e] at h
  cases q : PyFlat.row r with
  | none => rw [q] at h; cases h
  | some x =>
    obtain ⟨row, s⟩ := x
    rw [q] at h
    cases h
    exact ⟨row, row_some q, rfl⟩
theorem call_02 (hs : shape k = some (0, 2)) (h : PyFlat.call shape (k :: r) = some (cl, rest)) : ∃ row row2, r = (row.length : Int) :: (row ++ ((row2.length : Int) :: (row2 ++ rest))) ∧ cl = [[k], row, row2] := by
  rw [call_eq hs] at h
  have h : (if r.length < 0 then none else match PyFlat.rows 2 r with
    | none => none
    | some (xs, t) => some ([k] :: xs, t)) = some (cl, rest) := h
  rw [if_neg (by omega)] at h
  have e : PyFlat.rows 2 r = match PyFlat.row r with
    | none => none
    | some (x, s) => match PyFlat.row s with
      | none => none
      | some (y, t) => some ([x, y], t) := by
    show (match PyFlat.row r with
    | none => none
    | some (x, s) => match (match PyFlat.row s with
      | none => none
      | some (y, t) => match PyFlat.rows 0 t with
        | none => none
        | some (ys, v) => some (y :: ys, v)) with
      | none => none
      | some (xs, t) => some (x :: xs, t)) = _
    cases PyFlat.row r with
    | none => rfl
    | some x =>
      obtain ⟨x, s⟩ := x
      show (match (match PyFlat.row s with
      | none => none
      | some (y, t) => some ([y], t)) with
      | none => none
      | some (xs, t) => some (x :: xs, t)) = (match PyFlat.row s with
      | none => none
      | some (y, t) => some ([x, y], t))
      cases PyFlat.row s <;> rfl
  rw [e] at h
  cases q : PyFlat.row r with
  | none => rw [q] at h; cases h
  | some x =>
    obtain ⟨row, s⟩ := x
    rw [q] at h
    have h : (match (match PyFlat.row s with
      | none => none
      | some (y, t) => some ([row, y], t)) with
    | none => none
    | some (xs, t) => some ([k] :: xs, t)) = some (cl, rest) := h
    cases q2 : PyFlat.row s with
    | none => rw [q2] at h; cases h
    | some y =>
      obtain ⟨row2, t⟩ := y
      rw [q2] at h
      cases h
      refine ⟨row, row2, ?_, rfl⟩
      rw [row_some q, row_some q2]
end
theorem dropl_at {l r : List Int} {i : Nat} {x : Int} (h : l.drop i = x :: r) : l[i]? = some x ∧ l.drop (i + 1) = r := by
  have h1 := congrArg (fun z => z[0]?) h
  have h2 := congrArg (fun z => z.drop 1) h
  simp only [List.getElem?_drop, Nat.add_zero, List.getElem?_cons_zero] at h1
  simp only [List.drop_drop] at h2
  exact ⟨h1, h2⟩
theorem drop_row {l row rest : List Int} {i : Nat} (h : l.drop i = (row.length : Int) :: (row ++ rest)) : l[i]? = some (row.length : Int) ∧ (l.drop (i + 1)).take row.length = row ∧ l.drop (i + 1 + row.length) = rest := by
  obtain ⟨h1, h2⟩ := dropl_at h
  refine ⟨h1, by rw [h2, List.take_left], ?_⟩
  rw [← List.drop_drop, h2, List.drop_left]
section
variable {K : PySem.W.Frag} {CW CR : Addr} {k : Int} {vs : List V} {H : Hp} {Q : VK} {E : XK}
abbrev Ends0 (K : PySem.W.Frag) (CW CR : Addr) (H : Hp) (Q : VK) (a b c : Addr) (l rest : List Int) (s : State) (cl : List (List Int)) : Prop := ∀ H' r, Post K CW CR H H' a b c l rest (VamrqdNeutral.step s cl).1 → H r = none → H' r = some (.lst ((VamrqdNeutral.step s cl).2.map V.int)) → Q (.ref r) H'
theorem spC_00 (hs : PyVamrqd.shape k = some (0, 0)) (h : spC K CW CR k vs H Q E) : ∃ (a b c : Addr) (l rest : List Int) (s : State), vs = [.ref a, .ref b] ∧ a ≠ b ∧ Okay s ∧ Post K CW CR H H a b c l rest s ∧ Ends0 K CW CR H Q a b c l rest s [[k]] := by
  obtain ⟨a, b, c, l, i, s, cl, rest, e, n, hW, hR, ok, hc, hb, q⟩ := h
  obtain ⟨rfl, rfl⟩ := call_00 hs hc
  exact ⟨a, b, c, l, _, s, e, n, ok, ⟨Off.refl _ _, hW, i, hR, rfl⟩, q⟩
theorem spC_10 (hs : PyVamrqd.shape k = some (1, 0)) (h : spC K CW CR k vs H Q E) : ∃ (a b c : Addr) (l rest : List Int) (i : Nat) (s : State) (x : Int), vs = [.ref a, .ref b] ∧ a ≠ b ∧ Okay s ∧ WkA CW H a s.desk (trs s) ∧ RdA K CR H b c l i ∧ l[i]? = some x ∧ l.drop (i + 1) = rest ∧ Ends0 K CW CR H Q a b c l rest s [[k, x]] := by
  obtain ⟨a, b, c, l, i, s, cl, rest, e, n, hW, hR, ok, hc, hb, q⟩ := h
  obtain ⟨x, e1, rfl⟩ := call_10 hs hc
  obtain ⟨h1, h2⟩ := dropl_at e1
  exact ⟨a, b, c, l, rest, i, s, x, e, n, ok, hW, hR, h1, h2, q⟩
theorem spC_20 (hs : PyVamrqd.shape k = some (2, 0)) (h : spC K CW CR k vs H Q E) : ∃ (a b c : Addr) (l rest : List Int) (i : Nat) (s : State) (x y : Int), vs = [.ref a, .ref b] ∧ a ≠ b ∧ Okay s ∧ WkA CW H a s.desk (trs s) ∧ RdA K CR H b c l i ∧ l[i]? = some x ∧ l[i + 1]? = some y ∧ l.drop (i + 1 + 1) = rest ∧ Ends0 K CW CR H Q a b c l rest s [[k, x, y]] := by
  obtain ⟨a, b, c, l, i, s, cl, rest, e, n, hW, hR, ok, hc, hb, q⟩ := h
  obtain ⟨x, y, e1, rfl⟩ := call_20 hs hc
  obtain ⟨h1, h2⟩ := dropl_at e1
  obtain ⟨h3, h4⟩ := dropl_at h2
  exact ⟨a, b, c, l, rest, i, s, x, y, e, n, ok, hW, hR, h1, h3, h4, q⟩
theorem bytes_of {row : List Int} (h : row.all (PyInside.within 0 255) = true) : NeutralIO.bytes row = true ∧ row = (row.map Int.toNat).map (fun (n : Nat) => (n : Int)) := by
  refine ⟨?_, ?_⟩
  · unfold NeutralIO.bytes
    refine List.all_eq_true.mpr fun x hx => ?_
    exact List.all_eq_true.mp h x hx
  · induction row with
    | nil => rfl
    | cons x r ih =>
      rw [List.all_cons, Bool.and_eq_true] at h
      have hx : PyInside.within 0 255 x = true := h.1
      unfold PyInside.within at hx
      rw [Bool.and_eq_true, decide_eq_true_eq, decide_eq_true_eq] at hx
      rw [List.map_cons, List.map_cons, ← ih h.2]
      have : ((x.toNat : Nat) : Int) = x := by omega
      rw [this]
theorem nvs_of {row : List Int} (h : row = (row.map Int.toNat).map (fun (n : Nat) => (n : Int))) : row.map V.int = nvs (row.map Int.toNat) := by
  conv => lhs; rw [h]
  rw [List.map_map]; rfl
theorem spC_01 (hs : PyVamrqd.shape k = some (0, 1)) (hB : PyVamrqd.bound k = ([], [(0, 255, 0, 60)])) (h : spC K CW CR k vs H Q E) : ∃ (a b c : Addr) (l rest row : List Int) (i : Nat) (s : State), vs = [.ref a, .ref b] ∧ a ≠ b ∧ Okay s ∧ WkA CW H a s.desk (trs s) ∧ RdA K CR H b c l i ∧ l[i]? = some (row.length : Int) ∧ (l.drop (i + 1)).take row.length = row ∧ l.drop (i + 1 + row.length) = rest ∧
    row.length ≤ 60 ∧ NeutralIO.bytes row = true ∧ row.map V.int = nvs (row.map Int.toNat) ∧ Ends0 K CW CR H Q a b c l rest s [[k], row] := by
  obtain ⟨a, b, c, l, i, s, cl, rest, e, n, hW, hR, ok, hc, hb, q⟩ := h
  obtain ⟨row, e1, rfl⟩ := call_01 hs hc
  obtain ⟨h1, h2, h3⟩ := drop_row e1
  have hb : (PyInside.each (PyVamrqd.bound k).1 [] && PyInside.lists (PyVamrqd.bound k).2 [row]) = true := hb
  rw [hB] at hb
  have hb : (true && (decide (0 ≤ row.length) && decide (row.length ≤ 60) && row.all (PyInside.within 0 255) && true)) = true := hb
  rw [Bool.true_and, Bool.and_true, Bool.and_eq_true, Bool.and_eq_true, decide_eq_true_eq, decide_eq_true_eq] at hb
  obtain ⟨b1, b2⟩ := bytes_of hb.2
  exact ⟨a, b, c, l, rest, row, i, s, e, n, ok, hW, hR, h1, h2, h3, hb.1.2, b1, nvs_of b2, q⟩
theorem spC_02 (hs : PyVamrqd.shape k = some (0, 2)) (hB : PyVamrqd.bound k = ([], [(0, 255, 0, 60), (-1000000000000000000, 1000000000000000000, 0, 60)])) (h : spC K CW CR k vs H Q E) : ∃ (a b c : Addr) (l rest row row2 : List Int) (i : Nat) (s : State), vs = [.ref a, .ref b] ∧ a ≠ b ∧ Okay s ∧ WkA CW H a s.desk (trs s) ∧ RdA K CR H b c l i ∧ l[i]? = some (row.length : Int) ∧ (l.drop (i + 1)).take row.length = row ∧
    l[i + 1 + row.length]? = some (row2.length : Int) ∧ (l.drop (i + 1 + row.length + 1)).take row2.length = row2 ∧ l.drop (i + 1 + row.length + 1 + row2.length) = rest ∧
    row.length ≤ 60 ∧ NeutralIO.bytes row = true ∧ row.map V.int = nvs (row.map Int.toNat) ∧ row2.length ≤ 60 ∧ Ends0 K CW CR H Q a b c l rest s [[k], row, row2] := by
  obtain ⟨a, b, c, l, i, s, cl, rest, e, n, hW, hR, ok, hc, hb, q⟩ := h
  obtain ⟨row, row2, e1, rfl⟩ := call_02 hs hc
  obtain ⟨h1, h2, h3⟩ := drop_row e1
  obtain ⟨h4, h5, h6⟩ := drop_row h3
  have hb : (PyInside.each (PyVamrqd.bound k).1 [] && PyInside.lists (PyVamrqd.bound k).2 [row, row2]) = true := hb
  rw [hB] at hb
  have hb : (true && (decide (0 ≤ row.length) && decide (row.length ≤ 60) && row.all (PyInside.within 0 255) && (decide (0 ≤ row2.length) && decide (row2.length ≤ 60) && row2.all (PyInside.within (-1000000000000000000) 1000000000000000000) && true))) = true := hb
  simp only [Bool.true_and, Bool.and_true, Bool.and_eq_true, decide_eq_true_eq] at hb
  obtain ⟨b1, b2⟩ := bytes_of hb.1.2
  exact ⟨a, b, c, l, rest, row, row2, i, s, e, n, ok, hW, hR, h1, h2, h4, h5, h6, hb.1.1.2, b1, nvs_of b2, hb.2.1.2, q⟩
end
section
variable {P : Program} {w : World} {K : PySem.W.Frag} {mg : Str → Option Value} {base : Heap} {CW CR C : Addr}
abbrev sRefusal : Stmt := top 69
abbrev NRefusal : List Str := ["number"]
theorem scRefusal : FnScope NRefusal ["number"] (defScope sRefusal) := ⟨rfl, rfl, rfl, by decide +kernel, rfl, by decide +kernel, by decide +kernel⟩
def spRefusal : Sp := fun vs H Q _ => ∃ n : Int, vs = [.int n] ∧ ∀ p, H p = none → Q (.ref p) (upd H p (.lst [.int (-n)]))
theorem ok_refusal (F : Df K mg "refusal" sRefusal) (T : Tx mg) : C8.Cal P w K mg base 1 "refusal" spRefusal [] := by
  refine F.cal scRefusal (fun _ _ _ _ _ _ us hl => match us, hl with | [_], _ => rfl) (fun vs H Q E h => ?_) (fun f cdv A outer s H vs Q E hr h => ?_)
  · obtain ⟨n, rfl, _⟩ := h
    rfl
  · obtain ⟨n, rfl, k⟩ := h
    refine ⟨_, (pss_one (ps_ret (pe_lst (pa_cons (pe_un un_neg (pv 0)) pa_nil)))), ?_⟩
    walk_at "rd"
    exact ⟨by show 1 ≤ sizeLine; decide, fun p hp => k p hp⟩
abbrev sCounted : Stmt := top 70
abbrev NCounted : List Str := ["numbers"]
theorem scCounted : FnScope NCounted ["numbers"] (defScope sCounted) := ⟨rfl, rfl, rfl, by decide +kernel, rfl, by decide +kernel, by decide +kernel⟩
/-- numbers, with their count ahead -/
def spCounted (K : PySem.W.Frag) : Sp := fun vs H Q _ => ∃ (p : Addr) (ns : List Int), vs = [.ref p] ∧ (SqL K H p (ns.map V.int) ∨ SqT K H p (ns.map V.int)) ∧ ns.length ≤ 1000000 ∧ ∀ H' r, Same H H' → H r = none → H' r = some (.lst (((ns.length : Int) :: ns).map V.int)) → Q (.ref r) H'
theorem ok_counted (F : Df K mg "counted" sCounted) (T : Tx mg) : C8.Cal P w K mg base 1 "counted" (spCounted K) [] := by
  refine F.cal scCounted (fun _ _ _ _ _ _ us hl => match us, hl with | [_], _ => rfl) (fun vs H Q E h => ?_) (fun f cdv A outer s H vs Q E hr h => ?_)
  · obtain ⟨p, ns, rfl, _⟩ := h
    rfl
  · obtain ⟨p, ns, rfl, hp, z, k⟩ := h
    refine ⟨_, (pss_one (ps_ret (pe_op op_cat (pe_lst (pa_cons (pe_callB call_lenS (by rfl) T.len PySem.boot_len (pa_cons (pv 0) pa_nil)) pa_nil)) (pe_callTy call_list_of (by rfl) T.list (by decide +kernel) (pa_cons (pv 0) pa_nil))))), ?_⟩
    have el : (ns.map V.int).length = ns.length := List.length_map ..
    walk_at "rd"
    refine ⟨p, _, rfl, hp, ?_⟩
    walk_at "rd"
    refine ⟨by show 1 ≤ sizeLine; decide, fun q hq => ?_⟩
    walk_at "rd"
    have s1 := sm_new (o := .lst [V.int ((ns.map V.int).length : Int)]) hq
    refine ⟨p, _, rfl, hp.imp (fun h => sql_same h s1) (fun h => sm_tup s1 h), fun r hr => ?_⟩
    have s2 := sm_new (o := .lst (ns.map V.int)) hr
    refine ⟨q, r, _, _, rfl, rfl, s2 _ _ upd_same, upd_same, by rw [el]; show 1 + ns.length ≤ _; exact sz (by omega), fun t ht => ?_⟩
    have s3 := sm_new (o := .lst ([V.int ((ns.map V.int).length : Int)] ++ ns.map V.int)) ht
    refine k _ t ((s1.trans s2).trans s3) (sm_free (s1.trans s2) ht) ?_
    rw [upd_same, el]; rfl
end
end Cs
-- CsCall1
/-! begin, push, take, drop, get. -/
namespace Cs
open PySem PySem.Spec PyProof.Rows L2
open Vamrqd (State carry Carried stopTold)
theorem ends_of {K : PySem.W.Frag} {CW CR : Addr} {H : Hp} {Q : VK} {a b c : Addr} {l rest : List Int} {s s' : State} {cl : List (List Int)} {ans : List Int} (q : Ends0 K CW CR H Q a b c l rest s cl) (e : VamrqdNeutral.step s cl = (s', ans)) :
    ∀ H' r, Post K CW CR H H' a b c l rest s' → H r = none → H' r = some (.lst (ans.map V.int)) → Q (.ref r) H' := by
  unfold Ends0 at q
  rw [e] at q
  exact q
def hasB (s : State) (i : Int) : Bool := decide (1 ≤ i) && decide (i ≤ (s.stack.afters.length : Int))
theorem hasB_iff {s : State} {i : Int} : hasB s i = true ↔ 1 ≤ i ∧ i ≤ (s.stack.afters.length : Int) := by
  unfold hasB
  rw [Bool.and_eq_true, decide_eq_true_eq, decide_eq_true_eq]
theorem hasB_nat {s : State} {i : Int} (h : hasB s i = true) : ∃ n : Nat, i = (n : Int) ∧ 1 ≤ n ∧ n ≤ s.stack.afters.length := by
  obtain ⟨h1, h2⟩ := hasB_iff.mp h
  exact ⟨i.toNat, by omega, by omega, by omega⟩
theorem change_no {s : State} {i : Int} (h : hasB s i = false) (f : Nat → State × Vamrqd.Answer) : Vamrqd.changeOf s i f = (s, .refused (-1)) := by
  unfold Vamrqd.changeOf
  rw [if_neg fun z => by rw [hasB_iff.mpr z] at h; cases h]
theorem change_yes {s : State} {n : Nat} (h1 : 1 ≤ n) (h2 : n ≤ s.stack.afters.length) (f : Nat → State × Vamrqd.Answer) : Vamrqd.changeOf s (n : Int) f = f n := by
  unfold Vamrqd.changeOf
  rw [if_pos (by omega)]; rfl
section
variable {P : Program} {w : World} {K : PySem.W.Frag} {mg : Str → Option Value} {base : Heap} {CW CR C : Addr}
theorem an_has {σ : L2.St} {H : Hp} {a : Addr} {s : State} {te : TE} {i : Int} (h0 : σ[0]? = some (some (.ref a))) (hW : WkA CW H a s.desk (trs s)) (he : AnV te σ H (.int i)) : AnV (tMeth CW "has_change" (spHasChange CW) [] C8.E0 (tVar 0) (tCons te tNil)) σ H (.bl (hasB s i)) := fun R r => by
  obtain ⟨dx, da, ta, h1, _⟩ := id hW
  exact anv_var h0 _ ⟨a, dx, _, rfl, h1, rfl, rd_cons (he _ (rd_nil ⟨a, i, _, _, rfl, hW, Nat.succ_le_succ (Nat.zero_le _), r⟩))⟩
theorem anv_changes {σ : L2.St} {H : Hp} {a : Addr} {s : State} (h0 : σ[0]? = some (some (.ref a))) (hW : WkA CW H a s.desk (trs s)) : AnV (tMeth CW "changes" (spChanges CW) [] C8.E0 (tVar 0) tNil) σ H (nv s.stack.afters.length) := fun R r => by
  obtain ⟨dx, da, ta, h1, _⟩ := id hW
  exact anv_var h0 _ ⟨a, dx, _, rfl, h1, rfl, rd_nil ⟨a, _, _, rfl, hW, Nat.succ_le_succ (Nat.zero_le _), r⟩⟩
theorem anv_ixL {σ : L2.St} {H : Hp} {ta tb : TE} {p : Addr} {xs : List V} {i : Int} {k : Nat} {v : V} (ha : AnV ta σ H (.ref p)) (hb : AnV tb σ H (.int i)) (h : SqL K H p xs) (e : i = (k : Int)) (g : xs[k]? = some v) : AnV (tOp (rIxL K) ta tb) σ H v := fun R q => ha _ (hb _ (rd_ixL h e g q))
theorem tree_len {H : Hp} {Q : VK} {d : Addr} {t : Tr} (h : TreeAt H d t) (q : Q (.int (t.length : Int)) H) : rLenT [.ref d] H Q := by
  obtain ⟨fs, hd, hp⟩ := h
  exact rd_lenD hd (by rw [hp.length_eq]; exact q)
/-- a number is read -/
theorem num_read {σ : L2.St} {H : Hp} {Q : VK} {b c : Addr} {l : List Int} {i : Nat} {x : Int} (h1 : σ[1]? = some (some (.ref b))) (hR : RdA K CR H b c l i) (hx : l[i]? = some x) (q : ∀ H', Off H H' (fun y => y = b) → RdA K CR H' b c l (i + 1) → Q (.int x) H') : tMeth CR "take_number" (spTakeNumber K CR) [] C8.E0 (tVar 1) tNil σ H Q := by
  obtain ⟨dx, g1, _⟩ := id hR
  exact anv_var h1 _ ⟨b, dx, _, rfl, g1, rfl, rd_nil ⟨b, c, l, i, x, rfl, hR, hx, q⟩⟩
theorem row_read {σ : L2.St} {H : Hp} {Q : VK} {b c : Addr} {l row : List Int} {i : Nat} (h1 : σ[1]? = some (some (.ref b))) (hR : RdA K CR H b c l i) (hx : l[i]? = some (row.length : Int)) (hrow : (l.drop (i + 1)).take row.length = row) (q : ∀ H' t, Off H H' (fun y => y = b) → RdA K CR H' b c l (i + 1 + row.length) → H' t = some (.tup (row.map V.int)) → Q (.ref t) H') : tMeth CR "take_row" (spTakeRow K CR) [] C8.E0 (tVar 1) tNil σ H Q := by
  obtain ⟨dx, g1, _⟩ := id hR
  exact anv_var h1 _ ⟨b, dx, _, rfl, g1, rfl, rd_nil ⟨b, c, l, i, row, rfl, hR, hx, hrow, q⟩⟩
theorem off_wk {H H' : Hp} {a b c : Addr} {l : List Int} {i : Nat} {s : State} (hW : WkA CW H a s.desk (trs s)) (hR : RdA K CR H b c l i) (n : a ≠ b) (o : Off H H' (fun y => y = b)) : WkA CW H' a s.desk (trs s) := by
  obtain ⟨dx, g1, _⟩ := id hR
  exact hW.off (S := fun _ => False) o g1 n
abbrev sCBegin : Stmt := top 76
abbrev NCBegin : List Str := ["work", "reader"]
theorem scCBegin : FnScope NCBegin ["work", "reader"] (defScope sCBegin) := ⟨rfl, rfl, rfl, by decide +kernel, rfl, by decide +kernel, by decide +kernel⟩
theorem ok_cBegin (F : Df K mg "call_begin" sCBegin) (T : Tx mg) (L : Kl K CW wkNames) (G_Work_done_with : C8.Met P w K mg base 2 CW "done_with" (spDoneWith CW) []) : C8.Cal P w K mg base 11 "call_begin" (spC K CW CR 5) [] := by
  refine F.cal scCBegin (fun _ _ _ _ _ _ us hl => match us, hl with | [_, _], _ => rfl) (fun vs H Q E h => ?_) (fun f cdv A outer s0 H vs Q E hr h => ?_)
  · obtain ⟨a, b, c, l, i, s, cl, rest, rfl, _⟩ := h
    rfl
  · obtain ⟨a, b, c, l, rest, s, rfl, nab, ok, P0, q0⟩ := spC_00 rfl h
    have q := ends_of (s' := ⟨⟨s.desk, []⟩, s.desk⟩) (ans := [0, 0]) q0 rfl
    refine ⟨_, (pss_one (ps_ret (C8.pe_mt G_Work_done_with hr (by decide) (pv 0) (pa_cons (pe_lst (pa_cons (pe_fld (pv 0) rfl) pa_nil)) pa_nil)))), ?_⟩
    obtain ⟨dx, da, ta, h1, h2, h3⟩ := id P0.wk
    walk_at "rd"
    refine anv_var rfl _ ⟨a, dx, _, rfl, h1, rfl, ?_⟩
    walk_at "rd"
    refine rd_fld (anv_var rfl) h1 L.cls (L.nos _ (by simp)) rfl ?_
    walk_at "rd"
    refine ⟨by show 1 ≤ sizeLine; decide, fun p hp => ?_⟩
    walk_at "rd"
    have s1 := sm_new (o := .lst [.ref da]) hp
    refine ⟨a, p, s.desk, trs s, [s.desk], rfl, P0.wk.same s1, LAt.one upd_same (h2.same s1), Nat.le_refl 1, fun H' r o w' f' h' => ?_⟩
    exact q H' r ((P0.same s1).next nab o w') ((P0.same s1).fresh f') h'
abbrev sCPush : Stmt := top 77
abbrev NCPush : List Str := ["work", "reader"]
theorem scCPush : FnScope NCPush ["work", "reader"] (defScope sCPush) := ⟨rfl, rfl, rfl, by decide +kernel, rfl, by decide +kernel, by decide +kernel⟩
theorem ok_cPush (F : Df K mg "call_push" sCPush) (T : Tx mg) (L : Kl K CW wkNames) (G_refusal : C8.Cal P w K mg base 1 "refusal" spRefusal []) (G_Work_changes : C8.Met P w K mg base 1 CW "changes" (spChanges CW) []) (G_Work_done_with : C8.Met P w K mg base 2 CW "done_with" (spDoneWith CW) []) : C8.Cal P w K mg base 11 "call_push" (spC K CW CR 6) [] := by
  refine F.cal scCPush (fun _ _ _ _ _ _ us hl => match us, hl with | [_, _], _ => rfl) (fun vs H Q E h => ?_) (fun f cdv A outer s0 H vs Q E hr h => ?_)
  · obtain ⟨a, b, c, l, i, s, cl, rest, rfl, _⟩ := h
    rfl
  · obtain ⟨a, b, c, l, rest, s, rfl, nab, ok, P0, q0⟩ := spC_00 rfl h
    refine ⟨_, (pss_cons (ps_if (pt_cmpR op_ge (C8.pe_mt0 G_Work_changes hr (by decide) (pv 0)) (C8.pe_gc (by rfl) T.c_MOST_CHANGES) (nomark _))
        (pss_one (ps_ret (C8.pe_c G_refusal hr (by decide) (by rfl) (pa_cons (C8.pe_gc (by rfl) T.c_STACK_FULL) pa_nil))))
        pss_nil)
      (pss_one (ps_ret (C8.pe_mt G_Work_done_with hr (by decide) (pv 0) (pa_cons (pe_op op_cat (pe_fld (pv 0) rfl) (pe_lst (pa_cons (pe_fld (pv 0) rfl) pa_nil))) pa_nil))))), ?_⟩
    obtain ⟨dx, da, ta, h1, h2, h3⟩ := id P0.wk
    have zf := ok.few
    have e : VamrqdNeutral.step s [[6]] = ((if Vamrqd.MOST ≤ s.stack.afters.length then (s, Vamrqd.Answer.refused (-7)) else s.put s.stack.base (s.stack.afters ++ [s.desk])).1, VamrqdNeutral.encode (if Vamrqd.MOST ≤ s.stack.afters.length then (s, Vamrqd.Answer.refused (-7)) else s.put s.stack.base (s.stack.afters ++ [s.desk])).2) := rfl
    walk_at "rd"
    refine anv_changes rfl P0.wk _ ?_
    walk_at "rd"
    refine rd_dec (fun g => ?_) (fun g => ?_)
    · have g' : Vamrqd.MOST ≤ s.stack.afters.length := by show 6 ≤ _; omega
      rw [if_pos g'] at e
      have q := ends_of q0 e
      walk_at "rd"
      refine ⟨7, rfl, fun p hp => ?_⟩
      exact q _ p (P0.same (sm_new hp)) (P0.fresh hp) upd_same
    · have g' : ¬ Vamrqd.MOST ≤ s.stack.afters.length := by show ¬ 6 ≤ _; omega
      rw [if_neg g'] at e
      have q := ends_of q0 e
      walk_at "rd"
      refine anv_var rfl _ ⟨a, dx, _, rfl, h1, rfl, ?_⟩
      walk_at "rd"
      refine rd_fld (anv_var rfl) h1 L.cls (L.nos _ (by simp)) rfl ?_
      walk_at "rd"
      refine rd_fld (anv_var rfl) h1 L.cls (L.nos _ (by simp)) rfl ?_
      walk_at "rd"
      refine ⟨by show 1 ≤ sizeLine; decide, fun p hp => ?_⟩
      have s1 := sm_new (o := .lst [.ref da]) hp
      obtain ⟨xs, x1, x2⟩ := (lat_of h3).obj
      have one : LAt TreeAt (upd H p (.lst [.ref da])) p [s.desk] := LAt.one upd_same (h2.same s1)
      refine ⟨ta, p, xs, [.ref da], rfl, rfl, s1 _ _ x1, upd_same, by rw [x2]; show s.stack.afters.length + 1 + 1 ≤ _; exact sz (by omega), fun p2 hp2 => ?_⟩
      obtain ⟨xs', ys', a1, a2, _, _, cat⟩ := ((lat_of h3).same stays_tree s1).cat stays_tree one hp2
      have e1 : xs = xs' := by
        have := (s1 _ _ x1).symm.trans a1
        cases this; rfl
      have e2 : [V.ref da] = ys' := by
        have := (upd_same (H := H) (a := p) (o := .lst [.ref da])).symm.trans a2
        cases this; rfl
      subst e1 e2
      have s2 := sm_new (o := .lst (xs ++ [V.ref da])) hp2
      walk_at "rd"
      refine ⟨a, p2, s.desk, trs s, _, rfl, P0.wk.same (s1.trans s2), cat, by simp, fun H' r o w' f' h' => ?_⟩
      refine q H' r ((P0.same (s1.trans s2)).next nab o w') ((P0.same (s1.trans s2)).fresh f') ?_
      rw [h']
      have : (trs s ++ [s.desk]).length - 1 = (s.stack.afters ++ [s.desk]).length := by simp
      rw [this]; rfl
abbrev sCTake : Stmt := top 73
abbrev NCTake : List Str := ["work", "reader", "i"]
theorem scCTake : FnScope NCTake ["work", "reader"] (defScope sCTake) := ⟨rfl, rfl, rfl, by decide +kernel, rfl, by decide +kernel, by decide +kernel⟩
theorem ok_cTake (F : Df K mg "call_take" sCTake) (T : Tx mg) (L : Kl K CW wkNames) (G_refusal : C8.Cal P w K mg base 1 "refusal" spRefusal []) (G_Work_has_change : C8.Met P w K mg base 2 CW "has_change" (spHasChange CW) []) (G_Reader_take_number : C8.Met P w K mg base 1 CR "take_number" (spTakeNumber K CR) []) : C8.Cal P w K mg base 11 "call_take" (spC K CW CR 2) [] := by
  refine F.cal scCTake (fun _ _ _ _ _ _ us hl => match us, hl with | [_, _], _ => rfl) (fun vs H Q E h => ?_) (fun f cdv A outer s0 H vs Q E hr h => ?_)
  · obtain ⟨a, b, c, l, i, s, cl, rest, rfl, _⟩ := h
    rfl
  · obtain ⟨a, b, c, l, rest, i, s, x, rfl, nab, ok, hW, hR, hx, hd, q0⟩ := spC_10 rfl h
    refine ⟨_, (pss_cons (ps_set (i := 2) scCTake.nd rfl (Or.inl rfl) (C8.pe_mt0 G_Reader_take_number hr (by decide) (pv 1)))
      (pss_cons (ps_if (PW.pt (pw_and (pt_cmpR op_ne (pv 2) pe_int (nomark _)) (pw_and1 (pt_not (pt_val (C8.pe_mt G_Work_has_change hr (by decide) (pv 0) (pa_cons (pv 2) pa_nil)))))))
        (pss_one (ps_ret (C8.pe_c G_refusal hr (by decide) (by rfl) (pa_cons (C8.pe_gc (by rfl) T.c_NO_CHANGE) pa_nil))))
        pss_nil)
      (pss_cons (ps_fld (pv 0) (pe_ix ix_list (pe_fld (pv 0) rfl) (pv 2) (fun _ _ => rfl)) rfl)
      (pss_one (ps_ret (pe_lst (pa_cons (pe_callB call_len_dT (by rfl) T.len PySem.boot_len (pa_cons (pe_fld (pv 0) rfl) pa_nil)) pa_nil))))))), ?_⟩
    have e : VamrqdNeutral.step s [[2, x]] = ((if x < 0 ∨ (s.stack.afters.length : Int) < x then (s, Vamrqd.Answer.refused (-1)) else (⟨s.stack, s.stack.at_ x.toNat⟩, Vamrqd.Answer.told [((s.stack.at_ x.toNat).length : Int)])).1, VamrqdNeutral.encode (if x < 0 ∨ (s.stack.afters.length : Int) < x then (s, Vamrqd.Answer.refused (-1)) else (⟨s.stack, s.stack.at_ x.toNat⟩, Vamrqd.Answer.told [((s.stack.at_ x.toNat).length : Int)])).2) := rfl
    walk_at "rd"
    refine num_read rfl hR hx fun H1 o1 hR1 => ?_
    have hW1 := off_wk hW hR nab o1
    have P1 : Post K CW CR H H1 a b c l rest s := ⟨o1.mono fun y z => .inr z, hW1, i + 1, hR1, hd⟩
    have tst : An (tAnd (tTest (tOp rNe (tVar 2) (tC (V.int 0)))) (tNot (tB (tMeth CW "has_change" (spHasChange CW) [] C8.E0 (tVar 0) (tCons (tVar 2) tNil))))) [some (.ref a), some (.ref b), some (.int x)] H1 ((!decide (x = 0)) && !hasB s x) := by
      refine an_and (fun R r => ?_) fun _ => an_not (an_B (an_has rfl hW1 (anv_var rfl)))
      walk_at "rd"
      exact r
    refine rd_name (rd_seq (rd_if (an_use tst ?_)))
    refine rd_cond (fun g => ?_) (fun g => ?_)
    · rw [Bool.and_eq_true, Bool.not_eq_true', Bool.not_eq_true', decide_eq_false_iff_not] at g
      have n : ¬ (1 ≤ x ∧ x ≤ (s.stack.afters.length : Int)) := fun z => Bool.false_ne_true (g.2.symm.trans (hasB_iff.mpr z))
      rw [if_pos (by omega)] at e
      have q := ends_of q0 e
      walk_at "rd"
      refine ⟨1, rfl, fun p hp => ?_⟩
      exact q _ p (P1.same (sm_new hp)) (P1.fresh hp) upd_same
    · have g2 : 0 ≤ x ∧ x ≤ (s.stack.afters.length : Int) := by
        by_cases c0 : x = 0
        · omega
        · rw [decide_eq_false c0] at g
          have g : hasB s x = true := by simpa using g
          have := hasB_iff.mp g
          omega
      rw [if_neg (by omega)] at e
      have q := ends_of q0 e
      obtain ⟨dx, da, ta, h1, h2, h3⟩ := id hW1
      have tl : (trs s).length = s.stack.afters.length + 1 := rfl
      have g1 : (trs s)[x.toNat]? = some (s.stack.at_ x.toNat) := by
        rw [at_eq, List.getD_eq_getElem?_getD, List.getElem?_eq_getElem (by omega)]; rfl
      obtain ⟨xs, d, x1, x2, x3, x4⟩ := (lat_of h3).get g1
      refine rd_seq (rd_sfldV (anv_ixL (K := K) (anv_fld (anv_var rfl) h1 L.cls (L.nos _ (by simp)) rfl) (anv_var rfl) (SqL.of x1) (by omega) x2) (anv_var rfl) h1 L.cls (L.nos _ (by simp)) (show 2 < 1000 by decide) ?_)
      have o2 : Off H1 (upd H1 a (.ins CW dx (putF "desk" (.ref d) [("desk", .ref da), ("trees", .ref ta)]))) (fun y => y = a) := Off.upd rfl
      have w2 : WkA CW (upd H1 a (.ins CW dx (putF "desk" (.ref d) [("desk", .ref da), ("trees", .ref ta)]))) a (s.stack.at_ x.toNat) (trs s) := ⟨dx, d, ta, upd_same, x3.ins o2 h1, h3.ins o2 h1⟩
      generalize upd H1 a (.ins CW dx (putF "desk" (.ref d) [("desk", .ref da), ("trees", .ref ta)])) = H2 at o2 w2 ⊢
      have P2 : Post K CW CR H H2 a b c l rest ⟨s.stack, s.stack.at_ x.toNat⟩ := P1.next nab o2 w2
      obtain ⟨dx2, da2, ta2, k1, k2, k3⟩ := id w2
      walk_at "rd"
      refine rd_fld (anv_var rfl) k1 L.cls (L.nos _ (by simp)) rfl ?_
      walk_at "rd"
      refine tree_len k2 ?_
      walk_at "rd"
      refine ⟨by show 1 ≤ sizeLine; decide, fun p hp => ?_⟩
      exact q _ p (P2.same (sm_new hp)) (P2.fresh hp) upd_same
abbrev sCDrop : Stmt := top 72
abbrev NCDrop : List Str := ["work", "reader", "path"]
theorem scCDrop : FnScope NCDrop ["work", "reader"] (defScope sCDrop) := ⟨rfl, rfl, rfl, by decide +kernel, rfl, by decide +kernel, by decide +kernel⟩
theorem ok_cDrop (F : Df K mg "call_drop" sCDrop) (T : Tx mg) (L : Kl K CW wkNames) (G_refusal : C8.Cal P w K mg base 1 "refusal" spRefusal []) (G_without_file : C8.Cal P w K mg base 1 "without_file" spWithout []) (G_Reader_take_row : C8.Met P w K mg base 2 CR "take_row" (spTakeRow K CR) []) : C8.Cal P w K mg base 11 "call_drop" (spC K CW CR 1) [] := by
  refine F.cal scCDrop (fun _ _ _ _ _ _ us hl => match us, hl with | [_, _], _ => rfl) (fun vs H Q E h => ?_) (fun f cdv A outer s0 H vs Q E hr h => ?_)
  · obtain ⟨a, b, c, l, i, s, cl, rest, rfl, _⟩ := h
    rfl
  · obtain ⟨a, b, c, l, rest, row, i, s, rfl, nab, ok, hW, hR, hx, hrow, hd, zr, hby, hnv, q0⟩ := spC_01 rfl rfl h
    have hu := hu_of hr
    refine ⟨_, (pss_cons (ps_set (i := 2) scCDrop.nd rfl (Or.inl rfl) (C8.pe_mt0 G_Reader_take_row hr (by decide) (pv 1)))
      (pss_cons (ps_if (pt_cmp (pc_dnotin hu (pv 2) (pe_fld (pv 0) rfl)))
        (pss_one (ps_ret (C8.pe_c G_refusal hr (by decide) (by rfl) (pa_cons (C8.pe_gc (by rfl) T.c_NO_FILE) pa_nil))))
        pss_nil)
      (pss_cons (ps_fld (pv 0) (C8.pe_c G_without_file hr (by decide) (by rfl) (pa_cons (pe_fld (pv 0) rfl) (pa_cons (pv 2) pa_nil))) rfl)
      (pss_one (ps_ret (pe_lst (pa_cons (pe_callB call_len_dT (by rfl) T.len PySem.boot_len (pa_cons (pe_fld (pv 0) rfl) pa_nil)) pa_nil))))))), ?_⟩
    have e : VamrqdNeutral.step s [[1], row] = ((Vamrqd.step s (.drop (row.map Int.toNat))).1, VamrqdNeutral.encode (Vamrqd.step s (.drop (row.map Int.toNat))).2) := by
      unfold VamrqdNeutral.step
      have : VamrqdNeutral.callOf [[1], row] = if NeutralIO.bytes row = true then some (.drop (row.map Int.toNat)) else none := rfl
      rw [this, if_pos hby]
    have e2 : Vamrqd.step s (.drop (row.map Int.toNat)) = if Vamrqa.Tree.has s.desk (row.map Int.toNat) = true then (⟨s.stack, Vamrqa.Tree.drop s.desk (row.map Int.toNat)⟩, Vamrqd.Answer.told [((s.desk.length - 1 : Nat) : Int)]) else (s, Vamrqd.Answer.refused (-6)) := rfl
    rw [e2] at e
    generalize row.map Int.toNat = p at *
    walk_at "rd"
    refine row_read rfl hR hx hrow fun H1 t o1 hR1 ht => ?_
    rw [hnv] at ht
    have hW1 := off_wk hW hR nab o1
    have P1 : Post K CW CR H H1 a b c l rest s := ⟨o1.mono fun y z => .inr z, hW1, _, hR1, hd⟩
    obtain ⟨dx, da, ta, h1, h2, h3⟩ := id hW1
    obtain ⟨fs, d1, d2⟩ := id h2
    obtain ⟨g1, g2, g3⟩ := good_of_perm d2 ok.desk
    obtain ⟨ov, k1, k2, k3, k4⟩ := dict_get d1 ht
    have kh : ov.isSome = Vamrqa.Tree.has s.desk p := by rw [k3, has_get, get_of d2 ok.desk, ← has_get]
    walk_at "rd"
    refine rd_dnin (rd_var rfl ?_)
    refine rd_fld (anv_var rfl) h1 L.cls (L.nos _ (by simp)) rfl ⟨da, ov, rfl, k1, _, rfl, ?_⟩
    rw [kh]
    cases hh : Vamrqa.Tree.has s.desk p with
    | false =>
      rw [hh, if_neg (by decide)] at e
      have q := ends_of q0 e
      refine iteT ?_
      walk_at "rd"
      refine ⟨6, rfl, fun p hp => ?_⟩
      exact q _ p (P1.same (sm_new hp)) (P1.fresh hp) upd_same
    | true =>
      rw [hh, if_pos rfl] at e
      have q := ends_of q0 e
      refine iteF ?_
      walk_at "rd"
      refine rd_sf ?_
      walk_at "rd"
      refine rd_fld (anv_var rfl) h1 L.cls (L.nos _ (by simp)) rfl ?_
      walk_at "rd"
      refine ⟨da, t, fs, p, rfl, d1, g1, ht, by omega, fun H2 d s2 hd2 h4 => ?_⟩
      refine anv_var rfl _ ⟨a, CW, dx, _, rfl, s2 _ _ h1, L.cls, L.nos _ (by simp), (show 2 < 1000 by decide), ?_⟩
      have o3 : Off H2 (upd H2 a (.ins CW dx (putF "desk" (.ref d) [("desk", .ref da), ("trees", .ref ta)]))) (fun y => y = a) := Off.upd rfl
      have w3 : WkA CW (upd H2 a (.ins CW dx (putF "desk" (.ref d) [("desk", .ref da), ("trees", .ref ta)]))) a (Vamrqa.Tree.drop s.desk p) (trs s) := ⟨dx, d, ta, upd_same, TreeAt.ins ⟨_, h4, drop_perm d2 p⟩ o3 (s2 _ _ h1), (h3.same s2).ins o3 (s2 _ _ h1)⟩
      generalize upd H2 a (.ins CW dx (putF "desk" (.ref d) [("desk", .ref da), ("trees", .ref ta)])) = H3 at o3 w3 ⊢
      have P3 : Post K CW CR H H3 a b c l rest ⟨s.stack, Vamrqa.Tree.drop s.desk p⟩ := (P1.same s2).next nab o3 w3
      obtain ⟨dx2, da2, ta2, j1, j2, j3⟩ := id w3
      walk_at "rd"
      refine rd_fld (anv_var rfl) j1 L.cls (L.nos _ (by simp)) rfl ?_
      walk_at "rd"
      refine tree_len j2 ?_
      walk_at "rd"
      refine ⟨by show 1 ≤ sizeLine; decide, fun p4 hp => ?_⟩
      refine q _ p4 (P3.same (sm_new hp)) (P3.fresh hp) ?_
      have dl := drop_len ok.desk.ord hh
      have : (Vamrqa.Tree.drop s.desk p).length = s.desk.length - 1 := by omega
      rw [upd_same, this]; rfl
abbrev sCGet : Stmt := top 75
abbrev NCGet : List Str := ["work", "reader", "path"]
theorem scCGet : FnScope NCGet ["work", "reader"] (defScope sCGet) := ⟨rfl, rfl, rfl, by decide +kernel, rfl, by decide +kernel, by decide +kernel⟩
theorem ok_cGet (F : Df K mg "call_get" sCGet) (T : Tx mg) (L : Kl K CW wkNames) (G_refusal : C8.Cal P w K mg base 1 "refusal" spRefusal []) (G_counted : C8.Cal P w K mg base 1 "counted" (spCounted K) []) (G_Reader_take_row : C8.Met P w K mg base 2 CR "take_row" (spTakeRow K CR) []) : C8.Cal P w K mg base 11 "call_get" (spC K CW CR 4) [] := by
  refine F.cal scCGet (fun _ _ _ _ _ _ us hl => match us, hl with | [_, _], _ => rfl) (fun vs H Q E h => ?_) (fun f cdv A outer s0 H vs Q E hr h => ?_)
  · obtain ⟨a, b, c, l, i, s, cl, rest, rfl, _⟩ := h
    rfl
  · obtain ⟨a, b, c, l, rest, row, i, s, rfl, nab, ok, hW, hR, hx, hrow, hd, zr, hby, hnv, q0⟩ := spC_01 rfl rfl h
    have hu := hu_of hr
    refine ⟨_, (pss_cons (ps_set (i := 2) scCGet.nd rfl (Or.inl rfl) (C8.pe_mt0 G_Reader_take_row hr (by decide) (pv 1)))
      (pss_cons (ps_if (pt_cmp (pc_dnotin hu (pv 2) (pe_fld (pv 0) rfl)))
        (pss_one (ps_ret (C8.pe_c G_refusal hr (by decide) (by rfl) (pa_cons (C8.pe_gc (by rfl) T.c_NO_FILE) pa_nil))))
        pss_nil)
      (pss_one (ps_ret (C8.pe_c G_counted hr (by decide) (by rfl) (pa_cons (pe_dget hu (pe_fld (pv 0) rfl) (pv 2) (fun _ _ => rfl)) pa_nil)))))), ?_⟩
    have e : VamrqdNeutral.step s [[4], row] = ((Vamrqd.step s (.get (row.map Int.toNat))).1, VamrqdNeutral.encode (Vamrqd.step s (.get (row.map Int.toNat))).2) := by
      unfold VamrqdNeutral.step
      have : VamrqdNeutral.callOf [[4], row] = if NeutralIO.bytes row = true then some (.get (row.map Int.toNat)) else none := rfl
      rw [this, if_pos hby]
    have e2 : Vamrqd.step s (.get (row.map Int.toNat)) = match Vamrqa.Tree.get s.desk (row.map Int.toNat) with
      | some l => (s, Vamrqd.Answer.told (Vamrqd.listed l))
      | none => (s, Vamrqd.Answer.refused (-6)) := rfl
    rw [e2] at e
    generalize row.map Int.toNat = p at *
    walk_at "rd"
    refine row_read rfl hR hx hrow fun H1 t o1 hR1 ht => ?_
    rw [hnv] at ht
    have hW1 := off_wk hW hR nab o1
    have P1 : Post K CW CR H H1 a b c l rest s := ⟨o1.mono fun y z => .inr z, hW1, _, hR1, hd⟩
    obtain ⟨dx, da, ta, h1, h2, h3⟩ := id hW1
    obtain ⟨fs, d1, d2⟩ := id h2
    obtain ⟨ov, k1, k2, k3, k4⟩ := dict_get d1 ht
    have kh : ov.isSome = Vamrqa.Tree.has s.desk p := by rw [k3, has_get, get_of d2 ok.desk, ← has_get]
    walk_at "rd"
    refine rd_dnin (rd_var rfl ?_)
    refine rd_fld (anv_var rfl) h1 L.cls (L.nos _ (by simp)) rfl ⟨da, ov, rfl, k1, _, rfl, ?_⟩
    rw [kh, has_get]
    cases hh : Vamrqa.Tree.get s.desk p with
    | none =>
      rw [hh] at e
      have q := ends_of q0 e
      refine iteT ?_
      walk_at "rd"
      refine ⟨6, rfl, fun p hp => ?_⟩
      exact q _ p (P1.same (sm_new hp)) (P1.fresh hp) upd_same
    | some ls =>
      rw [hh] at e
      have q := ends_of q0 e
      refine iteF ?_
      walk_at "rd"
      obtain ⟨la, e1, hla⟩ := k4 ls (by rw [get_of d2 ok.desk]; exact hh)
      refine rd_dget ?_
      refine rd_fld (anv_var rfl) h1 L.cls (L.nos _ (by simp)) rfl (rd_var rfl ⟨da, .ref la, rfl, e1 ▸ k1, ?_⟩)
      walk_at "rd"
      have zl := ok.desk.short _ (get_mem hh)
      have ev : nvs ls = (ls.map Int.ofNat).map V.int := by rw [List.map_map]; rfl
      refine ⟨la, ls.map Int.ofNat, rfl, .inr (SqT.of (by rw [← ev]; exact hla)), by rw [List.length_map]; exact Nat.le_trans zl (by decide), fun H2 r s2 fr h4 => ?_⟩
      refine q _ r (P1.same s2) (P1.fresh fr) ?_
      rw [h4, List.length_map]; rfl
end
end Cs
-- CsCall2
/-! list, file. -/
namespace Cs
open PySem PySem.Spec PyProof.Rows L2
open Vamrqd (State carry Carried stopTold listed)
open Vamrqa (File)
def listF (f : File) : List Int := listed f.path ++ [(f.lines.length : Int)]
theorem flat_more {α : Type} (F : α → List Int) {l : List α} {i : Nat} {x : α} (h : l[i]? = some x) : (l.take (i + 1)).flatMap F = (l.take i).flatMap F ++ F x := by
  rw [take_one h, List.flatMap_append, List.flatMap_cons, List.flatMap_nil, List.append_nil]
theorem flat_len {α : Type} (F : α → List Int) (n : Nat) : ∀ (l : List α), (∀ x ∈ l, (F x).length ≤ n) → (l.flatMap F).length ≤ l.length * n
  | [], _ => by simp
  | x :: l, h => by
    have h1 := h x (List.mem_cons_self ..)
    have h2 := flat_len F n l fun y hy => h y (List.mem_cons_of_mem _ hy)
    rw [List.flatMap_cons, List.length_append, List.length_cons, Nat.succ_mul]
    omega
section
variable {P : Program} {w : World} {K : PySem.W.Frag} {mg : Str → Option Value} {base : Heap} {CW CR C : Addr}
theorem rd_extend {l b : Addr} {xs zs : List V} {H : Hp} {Q : VK} (h1 : H l = some (.lst xs)) (h2 : H b = some (.lst zs)) (hz : xs.length + zs.length ≤ 10000000) (q : Q .non (upd H l (.lst (xs ++ zs)))) : rExtend (.ref l) [.ref b] H Q := ⟨l, b, xs, zs, rfl, rfl, h1, h2, sz hz, q⟩
abbrev sCList : Stmt := top 74
abbrev NCList : List Str := ["work", "reader", "answer", "path"]
theorem scCList : FnScope NCList ["work", "reader"] (defScope sCList) := ⟨rfl, rfl, rfl, by decide +kernel, rfl, by decide +kernel, by decide +kernel⟩
theorem ok_cList (F : Df K mg "call_list" sCList) (T : Tx mg) (L : Kl K CW wkNames) (G_counted : C8.Cal P w K mg base 1 "counted" (spCounted K) []) : C8.Cal P w K mg base 11 "call_list" (spC K CW CR 3) [] := by
  refine F.cal scCList (fun _ _ _ _ _ _ us hl => match us, hl with | [_, _], _ => rfl) (fun vs H Q E h => ?_) (fun f cdv A outer s0 H vs Q E hr h => ?_)
  · obtain ⟨a, b, c, l, i, s, cl, rest, rfl, _⟩ := h
    rfl
  · obtain ⟨a, b, c, l, rest, s, rfl, nab, ok, P0, q0⟩ := spC_00 rfl h
    have hu := hu_of hr
    have q := ends_of (s' := s) (ans := (s.desk.length : Int) :: s.desk.flatMap listF) q0 rfl
    refine ⟨_, (pss_cons (ps_set (i := 2) scCList.nd rfl (Or.inl rfl) (pe_lst (pa_cons (pe_callB call_len_dT (by rfl) T.len PySem.boot_len (pa_cons (pe_fld (pv 0) rfl) pa_nil)) pa_nil)))
      (pss_cons (ps_for PassesOwn.never rfl (pi_list (pe_callB (cr_sortedD rfl) (by rfl) T.sorted (by decide +kernel) (pa_cons (pe_fld (pv 0) rfl) pa_nil))) (pg_name (i := 3) scCList.nd rfl (Or.inl rfl))
        (pss_cons (ps_expr (pe_bm PySem.F.plainAttrs_list PySem.F.slot_list_extend PySem.F.type_list_extend mt_extend (pv 2) (pa_cons (C8.pe_c G_counted hr (by decide) (by rfl) (pa_cons (pv 3) pa_nil)) pa_nil)))
        (pss_one (ps_expr (pe_bm PySem.F.plainAttrs_list PySem.F.slot_list_append PySem.F.type_list_append mt_append (pv 2) (pa_cons (pe_callB call_lenS (by rfl) T.len PySem.boot_len (pa_cons (pe_dget hu (pe_fld (pv 0) rfl) (pv 3) (fun _ _ => rfl)) pa_nil)) pa_nil))))))
      (pss_one (ps_ret (pv 2))))), ?_⟩
    obtain ⟨dx, da, ta, h1, h2, h3⟩ := id P0.wk
    obtain ⟨fs, d1, d2⟩ := id h2
    have gd := ok.desk
    have zt := gd.few
    have small : ∀ x ∈ s.desk, (listF x).length ≤ 42 := fun x hx => by
      have := gd.len x hx
      show (((x.path.length : Int) :: x.path.map Int.ofNat) ++ [(x.lines.length : Int)]).length ≤ 42
      rw [List.length_append, List.length_cons, List.length_map]
      show x.path.length + 1 + 1 ≤ 42
      omega
    walk_at "rd"
    refine rd_fld (anv_var rfl) h1 L.cls (L.nos _ (by simp)) rfl ?_
    walk_at "rd"
    refine tree_len h2 ?_
    walk_at "rd"
    refine ⟨by show 1 ≤ sizeLine; decide, fun an han => ?_⟩
    have s1 := sm_new (o := .lst [V.int (s.desk.length : Int)]) han
    walk_at "rd"
    refine rd_fld (anv_var rfl) (s1 _ _ h1) L.cls (L.nos _ (by simp)) rfl ?_
    walk_at "rd"
    refine rd_sortedTree (h2.same s1) gd fun c2 H3 s3 hc2 hl2 => ?_
    have hA : H3 an = some (.lst [V.int (s.desk.length : Int)]) := s3 _ _ upd_same
    have s03 := s1.trans s3
    obtain ⟨qs, q1, q2, q3⟩ := id hl2
    have lq : qs.length = s.desk.length := by rw [← q2, List.length_map]
    have ncA : c2 ≠ an := fun z => by
      rw [z, upd_same] at hc2; cases hc2
    have sOf : ∀ {H' : Hp}, Off H3 H' (fun y => y = an) → Same H H' := fun o => o.same s03 fun x z => z ▸ han
    have tOf : ∀ {H' : Hp} {a : Addr} {l : List V}, Off H3 H' (fun y => y = an) → H3 a = some (.tup l) → H' a = some (.tup l) := fun {H' a l} o h => o _ _ h fun z => by
      have z : a = an := z
      rw [z, hA] at h; cases h
    refine ⟨c2, rfl, ⟨_, SqL.of q1⟩, for_list (K := K) (a := c2) (xs := qs.map fun q => V.ref q.1) (fun i σ H' => ∃ v3, σ = [some (.ref a), some (.ref b), some (.ref an), v3] ∧ Off H3 H' (fun y => y = an) ∧ H' an = some (.lst (((s.desk.length : Int) :: (s.desk.take i).flatMap listF).map V.int))) ?_ ?_ ?_ ?_⟩
    · refine ⟨_, rfl, Off.refl _ _, ?_⟩
      rw [List.take_zero]; exact hA
    · rintro i σ H' hi ⟨v3, rfl, o, _⟩
      exact SqL.of (o _ _ q1 ncA)
    · rintro i x σ H' hx ⟨v3, rfl, o, hL⟩
      rw [List.getElem?_map] at hx
      obtain ⟨q', g1, g2⟩ := Option.map_eq_some_iff.mp hx
      subst g2
      have hf : s.desk[i]? = some q'.2 := by rw [← q2, List.getElem?_map, g1]; rfl
      have mem := List.mem_of_getElem? hf
      have hq : TupA H' q'.1 q'.2.path := tOf o (q3 _ (List.mem_of_getElem? g1))
      have sH := sOf o
      have zi : ((s.desk.take i).flatMap listF).length ≤ 12 * 42 := by
        have := flat_len listF 42 (s.desk.take i) fun x hx => small x (List.mem_of_mem_take hx)
        have l2 : (s.desk.take i).length ≤ 12 := by rw [List.length_take]; omega
        have := Nat.mul_le_mul_right 42 l2
        omega
      have zp := gd.len _ mem
      walk_at "rd"
      refine ⟨ty_lst hL, ?_⟩
      walk_at "rd"
      have ev : nvs q'.2.path = (q'.2.path.map Int.ofNat).map V.int := by rw [List.map_map]; rfl
      refine ⟨q'.1, q'.2.path.map Int.ofNat, rfl, .inr (SqT.of (by rw [← ev]; exact hq)), by rw [List.length_map]; omega, fun H4 r4 s4 _ h4 => ?_⟩
      walk_at "rd"
      refine rd_extend (s4 _ _ hL) h4 (by rw [List.length_map, List.length_map, List.length_cons, List.length_cons, List.length_map]; omega) ?_
      rw [← List.map_append]
      have sN : Off H3 (upd H4 an (.lst (List.map V.int (((s.desk.length : Int) :: (s.desk.take i).flatMap listF) ++ (((q'.2.path.map Int.ofNat).length : Int) :: q'.2.path.map Int.ofNat))))) (fun y => y = an) := (o.trans (Off.of_same s4)).trans (Off.upd rfl)
      have hN : (upd H4 an (.lst (List.map V.int (((s.desk.length : Int) :: (s.desk.take i).flatMap listF) ++ (((q'.2.path.map Int.ofNat).length : Int) :: q'.2.path.map Int.ofNat))))) an = some (.lst (List.map V.int (((s.desk.length : Int) :: (s.desk.take i).flatMap listF) ++ (((q'.2.path.map Int.ofNat).length : Int) :: q'.2.path.map Int.ofNat)))) := upd_same
      generalize upd H4 an (.lst (List.map V.int (((s.desk.length : Int) :: (s.desk.take i).flatMap listF) ++ (((q'.2.path.map Int.ofNat).length : Int) :: q'.2.path.map Int.ofNat)))) = H5 at sN hN ⊢
      have s5 := sOf sN
      have hq5 : TupA H5 q'.1 q'.2.path := tOf sN (q3 _ (List.mem_of_getElem? g1))
      walk_at "rd"
      refine ⟨ty_lst hN, ?_⟩
      walk_at "rd"
      obtain ⟨ov, g5, g6, g7, g8⟩ := dict_get (d1.same s5) hq5
      obtain ⟨la, e1, hla⟩ := g8 q'.2.lines (by rw [get_of d2 gd]; exact mem_get (ordT_nd gd.ord) mem)
      refine rd_dget ?_
      refine rd_fld (anv_var rfl) (s5 _ _ h1) L.cls (L.nos _ (by simp)) rfl (rd_var rfl ⟨da, .ref la, rfl, e1 ▸ g5, ?_⟩)
      walk_at "rd"
      refine rd_lenT (SqT.of hla) ?_
      walk_at "rd"
      refine rd_append hN (by rw [List.length_map, List.length_append, List.length_cons, List.length_cons, List.length_map]; exact szl (by omega)) ?_
      walk_at "rd"
      refine ⟨_, rfl, sN.trans (Off.upd rfl), ?_⟩
      rw [upd_same, flat_more listF hf, nvs_len]
      refine congrArg (fun x => some (HO.lst x)) ?_
      have e9 : [V.int (q'.2.lines.length : Int)] = [(q'.2.lines.length : Int)].map V.int := rfl
      rw [e9, ← List.map_append]
      refine congrArg (List.map V.int) ?_
      show (_ :: _) ++ _ ++ _ = _
      rw [List.length_map]
      show _ = (s.desk.length : Int) :: (List.flatMap listF (List.take i s.desk) ++ ((q'.2.path.length : Int) :: q'.2.path.map Int.ofNat ++ [(q'.2.lines.length : Int)]))
      simp
    · rintro σ H4 ⟨v3, rfl, o, hL⟩
      rw [List.length_map, lq, List.take_length] at hL
      walk_at "rd"
      exact q H4 an (P0.same (sOf o)) han hL
end
end Cs
-- CsCall3
/-! file. -/
namespace Cs
open PySem PySem.Spec PyProof.Rows L2
open Vamrqd (State carry Carried stopTold listed)
open Vamrqa (File)
theorem clashes_perm {fs t : Tr} (h : fs.Perm t) (p : List Nat) : Vamrqa.Tree.clashes fs p = Vamrqa.Tree.clashes t p := by
  have g : ∀ a b : Bool, (a = true ↔ b = true) → a = b := fun a b h => by
    cases a <;> cases b
    · rfl
    · exact absurd (h.mpr rfl) (by decide)
    · exact absurd (h.mp rfl) (by decide)
    · rfl
  refine g _ _ ?_
  unfold Vamrqa.Tree.clashes
  rw [List.any_eq_true, List.any_eq_true]
  exact exists_congr fun x => by rw [h.mem_iff]
theorem lines_of {ns : List Int} (h : Vamrqd.goodLines ns = true) : ns.map V.int = nvs (ns.map Int.toNat) := by
  rw [goodLines_eq, Bool.and_eq_true] at h
  refine nvs_of ?_
  have h := h.2
  revert h
  intro h
  rename_i h0
  clear h0
  induction ns with
  | nil => rfl
  | cons x r ih =>
    rw [List.all_cons, Bool.and_eq_true, Bool.and_eq_true, decide_eq_true_eq, decide_eq_true_eq] at h
    rw [List.map_cons, List.map_cons, ← ih h.2]
    have : ((x.toNat : Nat) : Int) = x := by omega
    rw [this]
section
variable {P : Program} {w : World} {K : PySem.W.Frag} {mg : Str → Option Value} {base : Heap} {CW CR C : Addr}
abbrev sCFile : Stmt := top 71
abbrev NCFile : List Str := ["work", "reader", "path", "lines"]
theorem scCFile : FnScope NCFile ["work", "reader"] (defScope sCFile) := ⟨rfl, rfl, rfl, by decide +kernel, rfl, by decide +kernel, by decide +kernel⟩
theorem ok_cFile (F : Df K mg "call_file" sCFile) (T : Tx mg) (L : Kl K CW wkNames) (G_refusal : C8.Cal P w K mg base 1 "refusal" spRefusal []) (G_is_path : C8.Cal P w K mg base 3 "is_path" spIsPath []) (G_are_lines : C8.Cal P w K mg base 1 "are_lines" spAreLines []) (G_clashes_in : C8.Cal P w K mg base 3 "clashes_in" spClashes []) (G_with_file : C8.Cal P w K mg base 2 "with_file" spWithFile [])
    (G_Reader_take_row : C8.Met P w K mg base 2 CR "take_row" (spTakeRow K CR) []) : C8.Cal P w K mg base 11 "call_file" (spC K CW CR 0) [] := by
  refine F.cal scCFile (fun _ _ _ _ _ _ us hl => match us, hl with | [_, _], _ => rfl) (fun vs H Q E h => ?_) (fun f cdv A outer s0 H vs Q E hr h => ?_)
  · obtain ⟨a, b, c, l, i, s, cl, rest, rfl, _⟩ := h
    rfl
  · obtain ⟨a, b, c, l, rest, row, ns, i, s, rfl, nab, ok, hW, hR, hx, hrow, hx2, hrow2, hd, zr, hby, hnv, zn, q0⟩ := spC_02 rfl rfl h
    have hu := hu_of hr
    refine ⟨_, (pss_cons (ps_set (i := 2) scCFile.nd rfl (Or.inl rfl) (C8.pe_mt0 G_Reader_take_row hr (by decide) (pv 1)))
      (pss_cons (ps_set (i := 3) scCFile.nd rfl (Or.inl rfl) (C8.pe_mt0 G_Reader_take_row hr (by decide) (pv 1)))
      (pss_cons (ps_if (pt_not (pt_val (C8.pe_c G_is_path hr (by decide) (by rfl) (pa_cons (pv 2) pa_nil))))
        (pss_one (ps_ret (C8.pe_c G_refusal hr (by decide) (by rfl) (pa_cons (C8.pe_gc (by rfl) T.c_NO_PATH) pa_nil))))
        pss_nil)
      (pss_cons (ps_if (pt_not (pt_val (C8.pe_c G_are_lines hr (by decide) (by rfl) (pa_cons (pv 3) pa_nil))))
        (pss_one (ps_ret (C8.pe_c G_refusal hr (by decide) (by rfl) (pa_cons (C8.pe_gc (by rfl) T.c_NO_LINES) pa_nil))))
        pss_nil)
      (pss_cons (ps_if (pt_cmp (pc_dnotin hu (pv 2) (pe_fld (pv 0) rfl)))
        (pss_cons (ps_if (pt_val (C8.pe_c G_clashes_in hr (by decide) (by rfl) (pa_cons (pe_fld (pv 0) rfl) (pa_cons (pv 2) pa_nil))))
          (pss_one (ps_ret (C8.pe_c G_refusal hr (by decide) (by rfl) (pa_cons (C8.pe_gc (by rfl) T.c_CLASH) pa_nil))))
          pss_nil)
        (pss_one (ps_if (pt_cmpR op_ge (pe_callB call_len_dT (by rfl) T.len PySem.boot_len (pa_cons (pe_fld (pv 0) rfl) pa_nil)) (C8.pe_gc (by rfl) T.c_MOST_FILES) (nomark _))
          (pss_one (ps_ret (C8.pe_c G_refusal hr (by decide) (by rfl) (pa_cons (C8.pe_gc (by rfl) T.c_DESK_FULL) pa_nil))))
          pss_nil)))
        pss_nil)
      (pss_cons (ps_fld (pv 0) (C8.pe_c G_with_file hr (by decide) (by rfl) (pa_cons (pe_fld (pv 0) rfl) (pa_cons (pv 2) (pa_cons (pv 3) pa_nil)))) rfl)
      (pss_one (ps_ret (pe_lst (pa_cons (pe_callB call_len_dT (by rfl) T.len PySem.boot_len (pa_cons (pe_fld (pv 0) rfl) pa_nil)) pa_nil)))))))))), ?_⟩
    have zp : (row.map Int.toNat).length ≤ 60 := by rw [List.length_map]; exact zr
    have e : VamrqdNeutral.step s [[0], row, ns] = ((Vamrqd.filing s (row.map Int.toNat) ns).1, VamrqdNeutral.encode (Vamrqd.filing s (row.map Int.toNat) ns).2) := by
      unfold VamrqdNeutral.step
      have : VamrqdNeutral.callOf [[0], row, ns] = if NeutralIO.bytes row = true then some (.file (row.map Int.toNat) ns) else none := rfl
      rw [this, if_pos hby]; rfl
    unfold Vamrqd.filing at e
    generalize row.map Int.toNat = p at *
    have gd := ok.desk
    walk_at "rd"
    refine row_read rfl hR hx hrow fun H1 t o1 hR1 ht => ?_
    rw [hnv] at ht
    have hW1 := off_wk hW hR nab o1
    obtain ⟨dxr, gr, _⟩ := id hR1
    walk_at "rd"
    refine row_read rfl hR1 hx2 hrow2 fun H2 t2 o2 hR2 ht2 => ?_
    have hW2 := off_wk hW1 hR1 nab o2
    have ht' : H2 t = some (.tup (nvs p)) := o2 _ _ ht fun z => by
      have z : t = b := z
      rw [z, gr] at ht; cases ht
    have P2 : Post K CW CR H H2 a b c l rest s := ⟨(o1.trans o2).mono fun y z => .inr z, hW2, _, hR2, hd⟩
    walk_at "rd"
    refine ⟨t, p, rfl, ht', by omega, fun H3 s3 => ?_⟩
    walk_at "rd"
    have P3 := P2.same s3
    cases hp : Vamrqa.goodPath p with
    | false =>
      rw [hp, if_pos rfl] at e
      have q := ends_of q0 e
      refine iteT ?_
      walk_at "rd"
      refine ⟨2, rfl, fun p hp => ?_⟩
      exact q _ p (P3.same (sm_new hp)) (P3.fresh hp) upd_same
    | true =>
      rw [hp, if_neg (by decide)] at e
      refine iteF ?_
      walk_at "rd"
      refine ⟨t2, ns, rfl, s3 _ _ ht2, by omega, fun H4 s4 => ?_⟩
      walk_at "rd"
      have P4 := P3.same s4
      cases hl : Vamrqd.goodLines ns with
      | false =>
        rw [hl, if_pos rfl] at e
        have q := ends_of q0 e
        refine iteT ?_
        walk_at "rd"
        refine ⟨3, rfl, fun p hp => ?_⟩
        exact q _ p (P4.same (sm_new hp)) (P4.fresh hp) upd_same
      | true =>
        rw [hl, if_neg (by decide)] at e
        refine iteF ?_
        have s34 := s3.trans s4
        have ht4 := s34 _ _ ht'
        have hn4 : H4 t2 = some (.tup (nvs (ns.map Int.toNat))) := by rw [← lines_of hl]; exact s34 _ _ ht2
        obtain ⟨dx, da, ta, h1, h2, h3⟩ := id P4.wk
        obtain ⟨fs, d1, d2⟩ := id h2
        obtain ⟨g1, g2, g3⟩ := good_of_perm d2 gd
        obtain ⟨ov, k1, k2, k3, k4⟩ := dict_get d1 ht4
        have kh : ov.isSome = Vamrqa.Tree.has s.desk p := by rw [k3, has_get, get_of d2 gd, ← has_get]
        -- the file is put
        have fin : ∀ H5, Same H4 H5 → (∀ H' r, Post K CW CR H H' a b c l rest ⟨s.stack, Vamrqa.Tree.put s.desk ⟨p, ns.map Int.toNat⟩⟩ → H r = none → H' r = some (.lst (([((Vamrqa.Tree.put s.desk ⟨p, ns.map Int.toNat⟩).length : Int)] : List Int).map V.int)) → Q (.ref r) H') →
            tSeq (sFld K (tVar 0) (tCall spWithFile [] C8.E0 (tCons (tFld K (tVar 0) "desk") (tCons (tVar 2) (tCons (tVar 3) tNil)))) "desk") (tRet (tLst (tCons (tCB rLenT (tCons (tFld K (tVar 0) "desk") tNil)) tNil))) { nx := fun x H' => Q V.non H', rt := Q } [some (.ref a), some (.ref b), some (.ref t), some (.ref t2)] H5 := by
          intro H5 s5 q
          have P5 := P4.same s5
          walk_at "rd"
          refine rd_sf ?_
          walk_at "rd"
          refine rd_fld (anv_var rfl) (s5 _ _ h1) L.cls (L.nos _ (by simp)) rfl ?_
          walk_at "rd"
          refine ⟨da, t, t2, fs, p, ns.map Int.toNat, rfl, d1.same s5, g1, s5 _ _ ht4, s5 _ _ hn4, by omega, fun H6 d s6 h6 => ?_⟩
          have s56 := s5.trans s6
          refine anv_var rfl _ ⟨a, CW, dx, _, rfl, s56 _ _ h1, L.cls, L.nos _ (by simp), (show 2 < 1000 by decide), ?_⟩
          have o7 : Off H6 (upd H6 a (.ins CW dx (putF "desk" (.ref d) [("desk", .ref da), ("trees", .ref ta)]))) (fun y => y = a) := Off.upd rfl
          have w7 : WkA CW (upd H6 a (.ins CW dx (putF "desk" (.ref d) [("desk", .ref da), ("trees", .ref ta)]))) a (Vamrqa.Tree.put s.desk ⟨p, ns.map Int.toNat⟩) (trs s) := ⟨dx, d, ta, upd_same, TreeAt.ins ⟨_, h6, with_perm d2 gd.ord ⟨p, ns.map Int.toNat⟩⟩ o7 (s56 _ _ h1), (h3.same s56).ins o7 (s56 _ _ h1)⟩
          generalize upd H6 a (.ins CW dx (putF "desk" (.ref d) [("desk", .ref da), ("trees", .ref ta)])) = H7 at o7 w7 ⊢
          have P7 : Post K CW CR H H7 a b c l rest ⟨s.stack, Vamrqa.Tree.put s.desk ⟨p, ns.map Int.toNat⟩⟩ := (P4.same s56).next nab o7 w7
          obtain ⟨dx2, da2, ta2, j1, j2, j3⟩ := id w7
          walk_at "rd"
          refine rd_fld (anv_var rfl) j1 L.cls (L.nos _ (by simp)) rfl ?_
          walk_at "rd"
          refine tree_len j2 ?_
          walk_at "rd"
          refine ⟨by show 1 ≤ sizeLine; decide, fun p4 hp => ?_⟩
          exact q _ p4 (P7.same (sm_new hp)) (P7.fresh hp) upd_same
        with_reducible apply rd_next
        with_reducible apply rd_seq
        with_reducible apply rd_if
        refine rd_test (rd_dnin (rd_var rfl ?_))
        refine rd_fld (anv_var rfl) h1 L.cls (L.nos _ (by simp)) rfl ⟨da, ov, rfl, k1, _, rfl, ?_⟩
        rw [kh]
        cases hh : Vamrqa.Tree.has s.desk p with
        | true =>
          rw [hh, if_neg (fun z => by cases z.1), if_neg (fun z => by cases z.1)] at e
          have q := ends_of q0 e
          refine iteF ?_
          refine rd_next ?_
          exact fin H4 (Same.refl _) q
        | false =>
          rw [hh] at e
          refine iteT ?_
          walk_at "rd"
          refine rd_fld (anv_var rfl) h1 L.cls (L.nos _ (by simp)) rfl ?_
          walk_at "rd"
          refine ⟨da, t, fs, p, rfl, d1, ht4, by omega, by omega, fun f hf => Nat.le_trans (gd.len f (d2.mem_iff.mp hf)) (by decide), fun H5 s5 => ?_⟩
          rw [clashes_perm d2]
          walk_at "rd"
          cases hc : Vamrqa.Tree.clashes s.desk p with
          | true =>
            rw [hc, if_pos ⟨rfl, rfl⟩] at e
            have q := ends_of q0 e
            refine iteT ?_
            walk_at "rd"
            refine ⟨4, rfl, fun p hp => ?_⟩
            exact q _ p ((P4.same s5).same (sm_new hp)) ((P4.same s5).fresh hp) upd_same
          | false =>
            rw [hc, if_neg (fun z => by cases z.2)] at e
            refine iteF ?_
            walk_at "rd"
            refine rd_fld (anv_var rfl) (s5 _ _ h1) L.cls (L.nos _ (by simp)) rfl ?_
            walk_at "rd"
            refine tree_len (h2.same s5) ?_
            walk_at "rd"
            refine rd_dec (fun g => ?_) (fun g => ?_)
            · have g' : Vamrqa.FILES ≤ s.desk.length := by show 12 ≤ _; omega
              rw [if_pos ⟨rfl, g'⟩] at e
              have q := ends_of q0 e
              walk_at "rd"
              refine ⟨5, rfl, fun p hp => ?_⟩
              exact q _ p ((P4.same s5).same (sm_new hp)) ((P4.same s5).fresh hp) upd_same
            · have g' : ¬ Vamrqa.FILES ≤ s.desk.length := by show ¬ 12 ≤ _; omega
              rw [if_neg (fun z => g' z.2)] at e
              have q := ends_of q0 e
              refine rd_next ?_
              exact fin H5 s5 q
end
end Cs
-- CsCall4
/-! amend, rebase, remove, fold. -/
namespace Cs
open PySem PySem.Spec PyProof.Rows L2
open Vamrqd (State carry Carried stopTold listed)
section
variable {K : PySem.W.Frag} {α : Type} {At : Hp → Addr → α → Prop} {H : Hp} {Q : VK} {r d : Addr} {ts us : List α}
theorem rd_takeL (S : Stays At) (h : LAt At H r ts) (i : Nat) (q : ∀ p H', Same H H' → H p = none → LAt At H' p (ts.take i) → Q (.ref p) H') : rSlL K (.ref r) none (some (i : Int)) H Q := by
  obtain ⟨xs, x1, _⟩ := h.obj
  refine rd_slL (SqL.of x1) fun p hp => ?_
  obtain ⟨ys, y1, _, y2, _⟩ := h.cut S hp i
  have : xs = ys := by rw [x1] at y1; cases y1; rfl
  subst this
  exact q p _ (sm_new hp) hp y2
theorem rd_dropL (S : Stays At) (h : LAt At H r ts) (i : Nat) (q : ∀ p H', Same H H' → H p = none → LAt At H' p (ts.drop i) → Q (.ref p) H') : rSlL K (.ref r) (some (i : Int)) none H Q := by
  obtain ⟨xs, x1, _⟩ := h.obj
  refine rd_slL (SqL.of x1) fun p hp => ?_
  obtain ⟨ys, y1, _, _, y2⟩ := h.cut S hp i
  have : xs = ys := by rw [x1] at y1; cases y1; rfl
  subst this
  exact q p _ (sm_new hp) hp y2
theorem rd_catL (S : Stays At) (h : LAt At H r ts) (g : LAt At H d us) (hz : ts.length + us.length ≤ 10000000) (q : ∀ p H', Same H H' → H p = none → LAt At H' p (ts ++ us) → Q (.ref p) H') : rCat (.ref r) (.ref d) H Q := by
  obtain ⟨xs, x1, x2⟩ := h.obj
  obtain ⟨ys, y1, y2⟩ := g.obj
  refine ⟨r, d, xs, ys, rfl, rfl, x1, y1, by rw [x2, y2]; exact sz hz, fun p hp => ?_⟩
  obtain ⟨xs', ys', a1, a2, _, _, cat⟩ := h.cat S g hp
  have e1 : xs = xs' := by rw [x1] at a1; cases a1; rfl
  have e2 : ys = ys' := by rw [y1] at a2; cases a2; rfl
  subst e1 e2
  exact q p _ (sm_new hp) hp cat
end
section
variable {P : Program} {w : World} {K : PySem.W.Frag} {mg : Str → Option Value} {base : Heap} {CW CR C : Addr}
theorem behind_end {H H1 H2 : Hp} {Q : VK} {a b c p : Addr} {l rest : List Int} {s : State} {cl : List (List Int)} {k : Nat} {lo : List Tr} {u : Tr} (q0 : Ends0 K CW CR H Q a b c l rest s cl) (hB : BehindAt CW H1 H2 a p k s.desk (trs s) lo u) (P1 : Post K CW CR H H1 a b c l rest s) (nab : a ≠ b) (st : List Tr → State)
    (hst : ∀ l', trs (st l') = lo ++ [u] ++ l' ∧ (st l').desk = s.desk) (e1 : ∀ l', carry k ((trs s).getD (k - 1) []) u ((trs s).drop k) = .trees l' → VamrqdNeutral.step s cl = (st l', [0, ((lo.length + l'.length : Nat) : Int)]))
    (e2 : ∀ j m, carry k ((trs s).getD (k - 1) []) u ((trs s).drop k) = .halt_ j m → VamrqdNeutral.step s cl = (s, stopTold j m)) : Q (.ref p) H2 := by
  obtain ⟨o, fp, hB⟩ := hB
  cases e : carry k ((trs s).getD (k - 1) []) u ((trs s).drop k) with
  | trees l' =>
    rw [e] at hB
    obtain ⟨w, h⟩ := hB
    obtain ⟨h1, h2⟩ := hst l'
    refine ends_of q0 (e1 l' e) H2 p (P1.next nab o ?_) (P1.fresh fp) h
    rw [h1, h2]; exact w
  | halt_ j m =>
    rw [e] at hB
    obtain ⟨w, h⟩ := hB
    exact ends_of q0 (e2 j m e) H2 p (P1.next nab o w) (P1.fresh fp) h
theorem take_head {s : State} {n : Nat} (h : 1 ≤ n) : (trs s).take n = s.stack.base :: s.stack.afters.take (n - 1) := by
  obtain ⟨m, rfl⟩ : ∃ m, n = m + 1 := ⟨n - 1, by omega⟩
  rfl
theorem trs_len (s : State) : (trs s).length = s.stack.afters.length + 1 := rfl
abbrev sCAmend : Stmt := top 78
abbrev NCAmend : List Str := ["work", "reader", "i"]
theorem scCAmend : FnScope NCAmend ["work", "reader"] (defScope sCAmend) := ⟨rfl, rfl, rfl, by decide +kernel, rfl, by decide +kernel, by decide +kernel⟩
theorem ok_cAmend (F : Df K mg "call_amend" sCAmend) (T : Tx mg) (L : Kl K CW wkNames) (G_refusal : C8.Cal P w K mg base 1 "refusal" spRefusal []) (G_Work_has_change : C8.Met P w K mg base 2 CW "has_change" (spHasChange CW) []) (G_Work_carry_on_behind : C8.Met P w K mg base 9 CW "carry_on_behind" (spBehind CW) []) (G_Reader_take_number : C8.Met P w K mg base 1 CR "take_number" (spTakeNumber K CR) []) : C8.Cal P w K mg base 11 "call_amend" (spC K CW CR 7) [] := by
  refine F.cal scCAmend (fun _ _ _ _ _ _ us hl => match us, hl with | [_, _], _ => rfl) (fun vs H Q E h => ?_) (fun f cdv A outer s0 H vs Q E hr h => ?_)
  · obtain ⟨a, b, c, l, i, s, cl, rest, rfl, _⟩ := h
    rfl
  · obtain ⟨a, b, c, l, rest, i, s, x, rfl, nab, ok, hW, hR, hx, hd, q0⟩ := spC_10 rfl h
    refine ⟨_, (pss_cons (ps_set (i := 2) scCAmend.nd rfl (Or.inl rfl) (C8.pe_mt0 G_Reader_take_number hr (by decide) (pv 1)))
      (pss_cons (ps_if (pt_not (pt_val (C8.pe_mt G_Work_has_change hr (by decide) (pv 0) (pa_cons (pv 2) pa_nil))))
        (pss_one (ps_ret (C8.pe_c G_refusal hr (by decide) (by rfl) (pa_cons (C8.pe_gc (by rfl) T.c_NO_CHANGE) pa_nil))))
        pss_nil)
      (pss_one (ps_ret (C8.pe_mt G_Work_carry_on_behind hr (by decide) (pv 0) (pa_cons (pe_op op_cat (pe_slice sl_list (pe_fld (pv 0) rfl) po_none (po_some (pv 2))) (pe_lst (pa_cons (pe_fld (pv 0) rfl) pa_nil))) (pa_cons (pe_op op_add (pv 2) pe_int) pa_nil))))))), ?_⟩
    have e : VamrqdNeutral.step s [[7, x]] = ((Vamrqd.changeOf s x fun i => s.amending i).1, VamrqdNeutral.encode (Vamrqd.changeOf s x fun i => s.amending i).2) := rfl
    walk_at "rd"
    refine num_read rfl hR hx fun H1 o1 hR1 => ?_
    have hW1 := off_wk hW hR nab o1
    have P1 : Post K CW CR H H1 a b c l rest s := ⟨o1.mono fun y z => .inr z, hW1, i + 1, hR1, hd⟩
    walk_at "rd"
    refine an_has rfl hW1 (anv_var rfl) _ ?_
    walk_at "rd"
    cases hh : hasB s x with
    | false =>
      rw [change_no hh] at e
      refine iteT ?_
      walk_at "rd"
      refine ⟨1, rfl, fun p hp => ?_⟩
      exact ends_of q0 e _ p (P1.same (sm_new hp)) (P1.fresh hp) upd_same
    | true =>
      obtain ⟨n, rfl, n1, n2⟩ := hasB_nat hh
      rw [change_yes n1 n2] at e
      refine iteF ?_
      walk_at "rd"
      obtain ⟨dx, da, ta, h1, h2, h3⟩ := id hW1
      have zf := ok.few
      refine anv_var rfl _ ⟨a, dx, _, rfl, h1, rfl, ?_⟩
      walk_at "rd"
      refine rd_fld (anv_var rfl) h1 L.cls (L.nos _ (by simp)) rfl ?_
      walk_at "rd"
      refine rd_takeL stays_tree (lat_of h3) n fun p1 H2 s2 hp1 l1 => ?_
      walk_at "rd"
      refine rd_fld (anv_var rfl) (s2 _ _ h1) L.cls (L.nos _ (by simp)) rfl ?_
      walk_at "rd"
      refine ⟨by show 1 ≤ sizeLine; decide, fun p2 hp2 => ?_⟩
      have s3 := sm_new (o := .lst [.ref da]) hp2
      have zl : ((trs s).take n).length ≤ 7 := by rw [List.length_take, trs_len]; omega
      refine rd_catL stays_tree (l1.same stays_tree s3) (LAt.one upd_same ((h2.same s2).same s3)) (by show _ + 1 ≤ _; omega) fun p4 H4 s4 hp4 l4 => ?_
      walk_at "rd"
      have s14 := (s2.trans s3).trans s4
      refine ⟨a, p4, n + 1, s.desk, trs s, (trs s).take n, s.desk, rfl, hW1.same s14, l4, ok.desk, ok.all, by omega, by rw [trs_len]; omega, by rw [trs_len]; omega, by omega, fun H5 p5 hB => ?_⟩
      have ec : s.stack.amended n s.desk = carry (n + 1) ((trs s).getD (n + 1 - 1) []) s.desk ((trs s).drop (n + 1)) := by
        unfold Vamrqd.Stack.amended
        rw [at_eq]; rfl
      unfold Vamrqd.State.amending at e
      rw [ec] at e
      refine behind_end q0 hB (P1.same s14) nab (fun l' => (s.put s.stack.base (s.stack.afters.take (n - 1) ++ (s.desk :: l'))).1) (fun l' => ⟨?_, rfl⟩) (fun l' ecl => ?_) (fun j m ecl => ?_)
      · rw [take_head n1]
        show s.stack.base :: (s.stack.afters.take (n - 1) ++ (s.desk :: l')) = _
        simp
      · rw [e, ecl]
        show ((if n = 0 then s.put s.desk l' else s.put s.stack.base (s.stack.afters.take (n - 1) ++ (s.desk :: l'))).1, VamrqdNeutral.encode (if n = 0 then s.put s.desk l' else s.put s.stack.base (s.stack.afters.take (n - 1) ++ (s.desk :: l'))).2) = _
        rw [if_neg (by omega)]
        show (_, [0, ((s.stack.afters.take (n - 1) ++ (s.desk :: l')).length : Int)]) = _
        have : (s.stack.afters.take (n - 1) ++ (s.desk :: l')).length = ((trs s).take n).length + l'.length := by
          rw [List.length_append, List.length_take, List.length_take, List.length_cons, trs_len]; omega
        rw [this]
      · rw [e, ecl]; rfl
abbrev sCRebase : Stmt := top 79
abbrev NCRebase : List Str := ["work", "reader"]
theorem scCRebase : FnScope NCRebase ["work", "reader"] (defScope sCRebase) := ⟨rfl, rfl, rfl, by decide +kernel, rfl, by decide +kernel, by decide +kernel⟩
theorem ok_cRebase (F : Df K mg "call_rebase" sCRebase) (T : Tx mg) (L : Kl K CW wkNames) (G_Work_carry_on_behind : C8.Met P w K mg base 9 CW "carry_on_behind" (spBehind CW) []) : C8.Cal P w K mg base 11 "call_rebase" (spC K CW CR 8) [] := by
  refine F.cal scCRebase (fun _ _ _ _ _ _ us hl => match us, hl with | [_, _], _ => rfl) (fun vs H Q E h => ?_) (fun f cdv A outer s0 H vs Q E hr h => ?_)
  · obtain ⟨a, b, c, l, i, s, cl, rest, rfl, _⟩ := h
    rfl
  · obtain ⟨a, b, c, l, rest, s, rfl, nab, ok, P0, q0⟩ := spC_00 rfl h
    refine ⟨_, (pss_one (ps_ret (C8.pe_mt G_Work_carry_on_behind hr (by decide) (pv 0) (pa_cons (pe_lst (pa_cons (pe_fld (pv 0) rfl) pa_nil)) (pa_cons pe_int pa_nil))))), ?_⟩
    have e : VamrqdNeutral.step s [[8]] = ((s.amending 0).1, VamrqdNeutral.encode (s.amending 0).2) := rfl
    obtain ⟨dx, da, ta, h1, h2, h3⟩ := id P0.wk
    have zf := ok.few
    walk_at "rd"
    refine anv_var rfl _ ⟨a, dx, _, rfl, h1, rfl, ?_⟩
    walk_at "rd"
    refine rd_fld (anv_var rfl) h1 L.cls (L.nos _ (by simp)) rfl ?_
    walk_at "rd"
    refine ⟨by show 1 ≤ sizeLine; decide, fun p2 hp2 => ?_⟩
    have s3 := sm_new (o := .lst [.ref da]) hp2
    walk_at "rd"
    refine ⟨a, p2, 1, s.desk, trs s, [], s.desk, rfl, P0.wk.same s3, LAt.one upd_same (h2.same s3), ok.desk, ok.all, by omega, by rw [trs_len]; omega, by rw [trs_len]; omega, Nat.zero_le _, fun H5 p5 hB => ?_⟩
    have ec : s.stack.amended 0 s.desk = carry 1 ((trs s).getD (1 - 1) []) s.desk ((trs s).drop 1) := rfl
    unfold Vamrqd.State.amending at e
    rw [ec] at e
    refine behind_end q0 hB (P0.same s3) nab (fun l' => (s.put s.desk l').1) (fun l' => ⟨rfl, rfl⟩) (fun l' ecl => ?_) (fun j m ecl => ?_)
    · rw [e, ecl]
      show ((if 0 = 0 then s.put s.desk l' else s.put s.stack.base (s.stack.afters.take (0 - 1) ++ (s.desk :: l'))).1, VamrqdNeutral.encode (if 0 = 0 then s.put s.desk l' else s.put s.stack.base (s.stack.afters.take (0 - 1) ++ (s.desk :: l'))).2) = _
      rw [if_pos rfl]
      show (_, [0, (l'.length : Int)]) = _
      have : (([] : List Tr).length + l'.length) = l'.length := Nat.zero_add _
      rw [this]
    · rw [e, ecl]; rfl
abbrev sCRemove : Stmt := top 80
abbrev NCRemove : List Str := ["work", "reader", "i"]
theorem scCRemove : FnScope NCRemove ["work", "reader"] (defScope sCRemove) := ⟨rfl, rfl, rfl, by decide +kernel, rfl, by decide +kernel, by decide +kernel⟩
theorem ok_cRemove (F : Df K mg "call_remove" sCRemove) (T : Tx mg) (L : Kl K CW wkNames) (G_refusal : C8.Cal P w K mg base 1 "refusal" spRefusal []) (G_Work_has_change : C8.Met P w K mg base 2 CW "has_change" (spHasChange CW) []) (G_Work_carry_on_behind : C8.Met P w K mg base 9 CW "carry_on_behind" (spBehind CW) []) (G_Reader_take_number : C8.Met P w K mg base 1 CR "take_number" (spTakeNumber K CR) []) : C8.Cal P w K mg base 11 "call_remove" (spC K CW CR 9) [] := by
  refine F.cal scCRemove (fun _ _ _ _ _ _ us hl => match us, hl with | [_, _], _ => rfl) (fun vs H Q E h => ?_) (fun f cdv A outer s0 H vs Q E hr h => ?_)
  · obtain ⟨a, b, c, l, i, s, cl, rest, rfl, _⟩ := h
    rfl
  · obtain ⟨a, b, c, l, rest, i, s, x, rfl, nab, ok, hW, hR, hx, hd, q0⟩ := spC_10 rfl h
    refine ⟨_, (pss_cons (ps_set (i := 2) scCRemove.nd rfl (Or.inl rfl) (C8.pe_mt0 G_Reader_take_number hr (by decide) (pv 1)))
      (pss_cons (ps_if (pt_not (pt_val (C8.pe_mt G_Work_has_change hr (by decide) (pv 0) (pa_cons (pv 2) pa_nil))))
        (pss_one (ps_ret (C8.pe_c G_refusal hr (by decide) (by rfl) (pa_cons (C8.pe_gc (by rfl) T.c_NO_CHANGE) pa_nil))))
        pss_nil)
      (pss_one (ps_ret (C8.pe_mt G_Work_carry_on_behind hr (by decide) (pv 0) (pa_cons (pe_slice sl_list (pe_fld (pv 0) rfl) po_none (po_some (pv 2))) (pa_cons (pe_op op_add (pv 2) pe_int) pa_nil))))))), ?_⟩
    have e : VamrqdNeutral.step s [[9, x]] = ((Vamrqd.changeOf s x fun i => s.removing i).1, VamrqdNeutral.encode (Vamrqd.changeOf s x fun i => s.removing i).2) := rfl
    walk_at "rd"
    refine num_read rfl hR hx fun H1 o1 hR1 => ?_
    have hW1 := off_wk hW hR nab o1
    have P1 : Post K CW CR H H1 a b c l rest s := ⟨o1.mono fun y z => .inr z, hW1, i + 1, hR1, hd⟩
    walk_at "rd"
    refine an_has rfl hW1 (anv_var rfl) _ ?_
    walk_at "rd"
    cases hh : hasB s x with
    | false =>
      rw [change_no hh] at e
      refine iteT ?_
      walk_at "rd"
      refine ⟨1, rfl, fun p hp => ?_⟩
      exact ends_of q0 e _ p (P1.same (sm_new hp)) (P1.fresh hp) upd_same
    | true =>
      obtain ⟨n, rfl, n1, n2⟩ := hasB_nat hh
      rw [change_yes n1 n2] at e
      refine iteF ?_
      walk_at "rd"
      obtain ⟨dx, da, ta, h1, h2, h3⟩ := id hW1
      have zf := ok.few
      refine anv_var rfl _ ⟨a, dx, _, rfl, h1, rfl, ?_⟩
      walk_at "rd"
      refine rd_fld (anv_var rfl) h1 L.cls (L.nos _ (by simp)) rfl ?_
      walk_at "rd"
      refine rd_takeL stays_tree (lat_of h3) n fun p1 H2 s2 hp1 l1 => ?_
      walk_at "rd"
      have zl : ((trs s).take (n - 1)).length ≤ 7 := by rw [List.length_take, trs_len]; omega
      have ge : (trs s)[n - 1]? = some (s.stack.at_ (n - 1)) := by
        rw [at_eq, List.getD_eq_getElem?_getD, List.getElem?_eq_getElem (by rw [trs_len]; omega)]; rfl
      have st : (trs s).take n = (trs s).take (n - 1) ++ [s.stack.at_ (n - 1)] := by
        have := take_one ge
        rw [← this]
        congr 1
        omega
      rw [st] at l1
      refine ⟨a, p1, n + 1, s.desk, trs s, (trs s).take (n - 1), s.stack.at_ (n - 1), rfl, hW1.same s2, l1, at_good ok _, ok.all, by omega, by rw [trs_len]; omega, by rw [trs_len]; omega, by omega, fun H5 p5 hB => ?_⟩
      have ec : s.stack.removed n = carry (n + 1) ((trs s).getD (n + 1 - 1) []) (s.stack.at_ (n - 1)) ((trs s).drop (n + 1)) := by
        unfold Vamrqd.Stack.removed
        rw [at_eq s n]; rfl
      unfold Vamrqd.State.removing at e
      rw [ec] at e
      refine behind_end q0 hB (P1.same s2) nab (fun l' => (s.put s.stack.base (s.stack.afters.take (n - 1) ++ l')).1) (fun l' => ⟨?_, rfl⟩) (fun l' ecl => ?_) (fun j m ecl => ?_)
      · rw [← st, take_head n1]; rfl
      · rw [e, ecl]
        show (_, [0, ((s.stack.afters.take (n - 1) ++ l').length : Int)]) = _
        have : (s.stack.afters.take (n - 1) ++ l').length = ((trs s).take (n - 1)).length + l'.length := by
          rw [List.length_append, List.length_take, List.length_take, trs_len]; omega
        rw [this]
      · rw [e, ecl]; rfl
theorem an_two {σ : L2.St} {H : Hp} {a : Addr} {s : State} {te : TE} {i : Int} (h0 : σ[0]? = some (some (.ref a))) (hW : WkA CW H a s.desk (trs s)) (he : AnV te σ H (.int i)) : AnV (tMeth CW "has_two_changes" (spHasTwo CW) [] C8.E0 (tVar 0) (tCons te tNil)) σ H (.bl (hasB s i && hasB s (i + 1))) := fun R r => by
  obtain ⟨dx, da, ta, h1, _⟩ := id hW
  exact anv_var h0 _ ⟨a, dx, _, rfl, h1, rfl, rd_cons (he _ (rd_nil ⟨a, i, _, _, rfl, hW, Nat.succ_le_succ (Nat.zero_le _), r⟩))⟩
theorem two_iff {s : State} {i : Int} : (hasB s i && hasB s (i + 1)) = true ↔ ∃ n : Nat, i = (n : Int) ∧ 1 ≤ n ∧ n < s.stack.afters.length := by
  rw [Bool.and_eq_true, hasB_iff, hasB_iff]
  refine ⟨fun h => ⟨i.toNat, by omega, by omega, by omega⟩, fun ⟨n, h1, h2, h3⟩ => by omega⟩
/-- not two: refused, whatever else -/
theorem two_no {s : State} {i : Int} (h : (hasB s i && hasB s (i + 1)) = false) (f : Nat → State × Vamrqd.Answer) : Vamrqd.changeOf s i (fun i => if s.stack.afters.length ≤ i then (s, Vamrqd.Answer.refused (-1)) else f i) = (s, .refused (-1)) := by
  unfold Vamrqd.changeOf
  by_cases c : 1 ≤ i ∧ i ≤ s.stack.afters.length
  · rw [if_pos c]
    by_cases c2 : s.stack.afters.length ≤ i.toNat
    · exact if_pos c2
    · have : (hasB s i && hasB s (i + 1)) = true := two_iff.mpr ⟨i.toNat, by omega, by omega, by omega⟩
      rw [h] at this; cases this
  · rw [if_neg c]
theorem two_yes {s : State} {n : Nat} (h1 : 1 ≤ n) (h2 : n < s.stack.afters.length) (f : Nat → State × Vamrqd.Answer) : Vamrqd.changeOf s (n : Int) (fun i => if s.stack.afters.length ≤ i then (s, Vamrqd.Answer.refused (-1)) else f i) = f n := by
  rw [change_yes h1 (by omega)]
  exact if_neg (by omega)
abbrev sCFold : Stmt := top 81
abbrev NCFold : List Str := ["work", "reader", "i"]
theorem scCFold : FnScope NCFold ["work", "reader"] (defScope sCFold) := ⟨rfl, rfl, rfl, by decide +kernel, rfl, by decide +kernel, by decide +kernel⟩
theorem ok_cFold (F : Df K mg "call_fold" sCFold) (T : Tx mg) (L : Kl K CW wkNames) (G_refusal : C8.Cal P w K mg base 1 "refusal" spRefusal []) (G_Work_has_two_changes : C8.Met P w K mg base 3 CW "has_two_changes" (spHasTwo CW) []) (G_Work_done_with : C8.Met P w K mg base 2 CW "done_with" (spDoneWith CW) []) (G_Reader_take_number : C8.Met P w K mg base 1 CR "take_number" (spTakeNumber K CR) []) : C8.Cal P w K mg base 11 "call_fold" (spC K CW CR 10) [] := by
  refine F.cal scCFold (fun _ _ _ _ _ _ us hl => match us, hl with | [_, _], _ => rfl) (fun vs H Q E h => ?_) (fun f cdv A outer s0 H vs Q E hr h => ?_)
  · obtain ⟨a, b, c, l, i, s, cl, rest, rfl, _⟩ := h
    rfl
  · obtain ⟨a, b, c, l, rest, i, s, x, rfl, nab, ok, hW, hR, hx, hd, q0⟩ := spC_10 rfl h
    refine ⟨_, (pss_cons (ps_set (i := 2) scCFold.nd rfl (Or.inl rfl) (C8.pe_mt0 G_Reader_take_number hr (by decide) (pv 1)))
      (pss_cons (ps_if (pt_not (pt_val (C8.pe_mt G_Work_has_two_changes hr (by decide) (pv 0) (pa_cons (pv 2) pa_nil))))
        (pss_one (ps_ret (C8.pe_c G_refusal hr (by decide) (by rfl) (pa_cons (C8.pe_gc (by rfl) T.c_NO_CHANGE) pa_nil))))
        pss_nil)
      (pss_one (ps_ret (C8.pe_mt G_Work_done_with hr (by decide) (pv 0) (pa_cons (pe_op op_cat (pe_slice sl_list (pe_fld (pv 0) rfl) po_none (po_some (pv 2))) (pe_slice sl_list (pe_fld (pv 0) rfl) (po_some (pe_op op_add (pv 2) pe_int)) po_none)) pa_nil)))))), ?_⟩
    have e : VamrqdNeutral.step s [[10, x]] = ((Vamrqd.changeOf s x (fun i => if s.stack.afters.length ≤ i then (s, Vamrqd.Answer.refused (-1)) else s.put s.stack.base (s.stack.afters.take (i - 1) ++ s.stack.afters.drop i))).1, VamrqdNeutral.encode (Vamrqd.changeOf s x (fun i => if s.stack.afters.length ≤ i then (s, Vamrqd.Answer.refused (-1)) else s.put s.stack.base (s.stack.afters.take (i - 1) ++ s.stack.afters.drop i))).2) := rfl
    walk_at "rd"
    refine num_read rfl hR hx fun H1 o1 hR1 => ?_
    have hW1 := off_wk hW hR nab o1
    have P1 : Post K CW CR H H1 a b c l rest s := ⟨o1.mono fun y z => .inr z, hW1, i + 1, hR1, hd⟩
    walk_at "rd"
    refine an_two rfl hW1 (anv_var rfl) _ ?_
    walk_at "rd"
    cases hh : hasB s x && hasB s (x + 1) with
    | false =>
      rw [two_no hh] at e
      refine iteT ?_
      walk_at "rd"
      refine ⟨1, rfl, fun p hp => ?_⟩
      exact ends_of q0 e _ p (P1.same (sm_new hp)) (P1.fresh hp) upd_same
    | true =>
      obtain ⟨n, rfl, n1, n2⟩ := two_iff.mp hh
      rw [two_yes n1 n2] at e
      refine iteF ?_
      walk_at "rd"
      obtain ⟨dx, da, ta, h1, h2, h3⟩ := id hW1
      have zf := ok.few
      refine anv_var rfl _ ⟨a, dx, _, rfl, h1, rfl, ?_⟩
      walk_at "rd"
      refine rd_fld (anv_var rfl) h1 L.cls (L.nos _ (by simp)) rfl ?_
      walk_at "rd"
      refine rd_takeL stays_tree (lat_of h3) n fun p1 H2 s2 hp1 l1 => ?_
      walk_at "rd"
      refine rd_fld (anv_var rfl) (s2 _ _ h1) L.cls (L.nos _ (by simp)) rfl ?_
      walk_at "rd"
      refine rd_dropL stays_tree ((lat_of h3).same stays_tree s2) (n + 1) fun p3 H3 s3 hp3 l3 => ?_
      walk_at "rd"
      have zl : ((trs s).take n).length ≤ 7 := by rw [List.length_take, trs_len]; omega
      have zd : ((trs s).drop (n + 1)).length ≤ 7 := by rw [List.length_drop, trs_len]; omega
      refine rd_catL stays_tree (l1.same stays_tree s3) l3 (by omega) fun p4 H4 s4 hp4 l4 => ?_
      walk_at "rd"
      have s14 := (s2.trans s3).trans s4
      refine ⟨a, p4, s.desk, trs s, _, rfl, hW1.same s14, l4, by rw [List.length_append, List.length_take, trs_len]; omega, fun H' r o w' f' h' => ?_⟩
      have et : (trs s).take n ++ (trs s).drop (n + 1) = s.stack.base :: (s.stack.afters.take (n - 1) ++ s.stack.afters.drop n) := by
        rw [take_head n1]; rfl
      rw [et] at w' h'
      exact ends_of q0 e H' r ((P1.same s14).next nab o w') ((P1.same s14).fresh f') h'
end
end Cs
-- CsEqTree
/-! t != u, dicts with paths as keys. -/
namespace Cs
open PySem PySem.Spec PyProof.Rows L2
section
variable {prog : Program} {w : World} {κ : Type} [DecidableEq κ] {knd : HeapKind prog w κ} {A : Around} {E : Value → Shared → Prop} {s : Shared}
/-- each key of the one is in the other, with a value that is equal as e tells -/
def HitsH (prog : Program) (w : World) (A : Around) (s : Shared) (ys : List (κ × Addr × Value)) (e : κ → Bool) (x : κ × Addr × Value) : Prop :=
  (atKey ys x.1 = none ∧ e x.1 = false) ∨ ∃ p, atKey ys x.1 = some p ∧ SeqAt.EqP prog w A s x.2.2 p.2 (e x.1)
theorem pairsH {nm : String} {a b : Addr} {xs ys : List (κ × Addr × Value)} {e : κ → Bool} {Q : Bool → Shared → Prop} (hu : knd.room A) (la : (a == sysModules) = false) (lb : (b == sysModules) = false) (da : s.heap.DictOfH knd a xs) (db : s.heap.DictOfH knd b ys)
    (hits : ∀ x ∈ xs, HitsH prog w A s ys e x) (h : Q (decide (xs.length = ys.length) && xs.all fun x => e x.1) s) : wpAny (model prog w) A (Builtin.Dict.samePairs nm a b) Q E s := by
  obtain ⟨oa, es, ep, ga, _, ta, ea, ka, na⟩ := da
  obtain ⟨ob, fs, eq, gb, _, tb, eb, kb, nb⟩ := db
  have za := size_of_entries ea
  have zb := size_of_entries eb
  unfold Builtin.Dict.samePairs Builtin.Dict.showsAll
  rw [la, lb, if_neg Bool.false_ne_true]
  refine wpAny_bind (wpAny_pure (wpAny_bind (wpAny_pure (wpAny_bind (wpAny_dictEntries ga ta ?_)))))
  dsimp only
  refine wpAny_bind (wpAny_dictEntries gb tb ?_)
  by_cases z : es.size = fs.size
  · have zl : xs.length = ys.length := by omega
    rw [decide_eq_true zl, Bool.true_and] at h
    rw [z, bne_self_eq_false, if_neg Bool.false_ne_true]
    refine wpAny_bind (wpAny_dictEpoch ga ta (wpAny_bind ?_))
    rw [Std.Legacy.Range.forIn_eq_forIn_range']
    simp only [Std.Legacy.Range.size, Nat.sub_zero, Nat.add_sub_cancel, Nat.div_one]
    refine wpAny_forIn_list _ (fun todo q s' => s' = s ∧ q = (none, ()) ∧ ∃ i, todo = List.range' i (fs.size - i) ∧ i ≤ xs.length ∧ Q ((xs.drop i).all fun x => e x.1) s) _ ?_ ?_ _ _ ⟨rfl, rfl, 0, rfl, Nat.zero_le _, h⟩
    · rintro j todo q s' ⟨rfl, rfl, i, et, il, hq⟩
      have lt : i < fs.size := by
        refine Nat.lt_of_not_le fun g => ?_
        rw [Nat.sub_eq_zero_of_le g] at et; cases et
      have e1 : fs.size - i = (fs.size - (i + 1)) + 1 := by omega
      rw [e1, List.range'_succ] at et
      obtain ⟨rfl, et⟩ := List.cons.inj et
      have ltx : j < xs.length := by omega
      refine wpAny_bind (wpAny_dictEntries ga ta ?_)
      have en : es[j]? = some (entryOfKey knd xs[j]) := by rw [entry_at ea, List.getElem?_eq_getElem ltx]; rfl
      rw [en]
      have me : xs[j] ∈ xs := List.getElem_mem ltx
      rw [List.drop_eq_getElem_cons ltx, List.all_cons] at hq
      have hx := hits _ me
      have kx := ka _ me
      generalize xs[j] = x at me hq hx kx en
      obtain ⟨k, p, v⟩ := x
      have stop : e k = false → Q false s' := fun g => by
        have g : e (k, p, v).1 = false := g
        rw [g, Bool.false_and] at hq; exact hq
      dsimp only [entryOfKey]
      refine wpAny_bind (wpAny_holding (wpAny_bind (wpAny_dictFind_heap hu kx gb tb eb kb nb (fun no => ?_) fun m r hm => ?_)))
      · have an : atKey ys k = none := atKey_none_of_get no
        rcases hx with ⟨_, g⟩ | ⟨y, g, _⟩
        · refine wpAny_pure ?_
          show wpAny _ _ (if (!false) = true then _ else _) _ _ _
          rw [Bool.not_false, if_pos rfl]
          exact wpAny_pure (wpAny_pure (stop g))
        · have g : atKey ys k = some y := g
          rw [an] at g; cases g
      · have an : atKey ys k = some r := atKey_of_get nb hm
        rcases hx with ⟨g, _⟩ | ⟨y, g, ey⟩
        · have g : atKey ys k = none := g
          rw [an] at g; cases g
        · have g : atKey ys k = some y := g
          rw [an] at g
          cases g
          refine wpAny_bind (wpAny_dictEntries gb tb ?_)
          have fm : fs[m]? = some (entryOfKey knd (k, r)) := by rw [entry_at eb, hm]; rfl
          rw [fm]
          dsimp only [entryOfKey]
          refine wpAny_holding (ey _ _ ?_)
          cases ek : e k with
          | false =>
            rw [Bool.not_false, if_pos rfl]
            exact wpAny_pure (wpAny_pure (stop ek))
          | true =>
            rw [Bool.not_true, if_neg Bool.false_ne_true]
            refine wpAny_bind (wpAny_dictEpoch ga ta ?_)
            rw [bne_self_eq_false, if_neg Bool.false_ne_true]
            have g : e (k, p, v).1 = true := ek
            rw [g, Bool.true_and] at hq
            exact wpAny_pure ⟨rfl, rfl, j + 1, et, ltx, hq⟩
    · rintro q s' ⟨rfl, rfl, i, et, il, hq⟩
      have full : i = xs.length := by
        refine Nat.le_antisymm il (Nat.le_of_not_lt fun g => ?_)
        have e1 : fs.size - i = (fs.size - (i + 1)) + 1 := by omega
        rw [e1, List.range'_succ] at et; cases et
      rw [full, List.drop_length] at hq
      exact wpAny_pure hq
  · have zl : ¬ xs.length = ys.length := by omega
    rw [decide_eq_false zl, Bool.false_and] at h
    rw [if_pos (by rw [bne_iff_ne]; exact z)]
    exact wpAny_bind (wpAny_rule (wpAny_pure h))
/-- a != b -/
theorem neH {a b : Addr} {xs ys : List (κ × Addr × Value)} {e : κ → Bool} {Q : Value → Shared → Prop} (hu : knd.room A.in1) (hA : A.units < cLine) (la : (a == sysModules) = false) (lb : (b == sysModules) = false) (da : s.heap.DictOfH knd a xs) (db : s.heap.DictOfH knd b ys)
    (hits : ∀ x ∈ xs, HitsH prog w A.in1 s ys e x) (h : Q (.bool (!(decide (xs.length = ys.length) && xs.all fun x => e x.1))) s) : wpAny (model prog w) A (compareOp .NotEq (.ref a) (.ref b)) Q E s := by
  refine wpAny_richCompare_same_room (op := .NotEq) da.typeIs db.typeIs PySem.F.slot_dict_ne (wpAny_call_entry PySem.F.slot_dict_ne da.typeIs PySem.F.entry_dict_ne (b := Builtin.«dict.__ne__») ?_ (PySem.F.args_dict_ne_2 _ _)) hA
  show wpAny _ _ (Builtin.Dict.dictSlotArgs "__ne__" ⟨[.ref a, .ref b], []⟩ >>= _) _ _ s
  have two : ∀ {R : Value × Value → Shared → Prop} {E' : Value → Shared → Prop}, R (.ref a, .ref b) s → wpAny (model prog w) A.in1 (Builtin.Dict.dictSlotArgs "__ne__" ⟨[.ref a, .ref b], []⟩) R E' s := fun r => by
    unfold Builtin.Dict.dictSlotArgs
    exact wpAny_bind (wpAny_notOrdered_dict da.typeIs (wpAny_pure r))
  refine wpAny_bind (two (wpAny_bind (wpAny_isInstance (T := "dict") db.typeIs PySem.F.sub_dict_dict ?_)))
  rw [Bool.not_true, if_neg Bool.false_ne_true]
  refine wpAny_bind (wpAny_pure (wpAny_bind (wpAny_pure (wpAny_bind (pairsH hu la lb da db hits (wpAny_pure ⟨_, rfl, (fun z => nomatch z), ?_⟩))))))
  have e0 : ∀ x : Bool, (x == false) = !x := fun x => by cases x <;> rfl
  rw [e0]
  exact h
end
theorem paired_mem {α β : Type} {F : α → β → Prop} : ∀ {l : List α} {m : List β}, Paired F l m → ∀ x ∈ m, ∃ p ∈ l, F p x
  | _, _, .nil, x, hx => by cases hx
  | _, _, .cons r t, x, hx => by
    cases hx with
    | head => exact ⟨_, List.mem_cons_self .., r⟩
    | tail _ hx =>
      obtain ⟨p, a, b⟩ := paired_mem t x hx
      exact ⟨p, List.mem_cons_of_mem _ a, b⟩
theorem paired_len {α β : Type} {F : α → β → Prop} : ∀ {l : List α} {m : List β}, Paired F l m → l.length = m.length
  | _, _, .nil => rfl
  | _, _, .cons r t => by rw [List.length_cons, List.length_cons, paired_len t]
theorem paired_fst {V' W' : Type} {κ : Type} {F : κ × V' → κ × W' → Prop} (hF : ∀ p q, F p q → p.1 = q.1) : ∀ {l : List (κ × V')} {m : List (κ × W')}, Paired F l m → m.map (·.1) = l.map (·.1)
  | _, _, .nil => rfl
  | _, _, .cons r t => by rw [List.map_cons, List.map_cons, paired_fst hF t, hF _ _ r]
/-! trees alike -/
open Vamrqa (File sameTree)
theorem same_eq : ∀ {t u : Tr}, sameTree t u = true ↔ t = u
  | [], [] => ⟨fun _ => rfl, fun _ => rfl⟩
  | [], _ :: _ => ⟨fun h => (by cases h), fun h => (by cases h)⟩
  | _ :: _, [] => ⟨fun h => (by cases h), fun h => (by cases h)⟩
  | f :: t, g :: u => by
    show (decide (f.path = g.path) && decide (f.lines = g.lines) && sameTree t u) = true ↔ _
    rw [Bool.and_eq_true, Bool.and_eq_true, decide_eq_true_eq, decide_eq_true_eq, same_eq]
    refine ⟨fun ⟨⟨a, b⟩, c⟩ => ?_, fun h => ?_⟩
    · rw [c]
      have : f = g := by rw [← file_eta f, ← file_eta g, a, b]
      rw [this]
    · cases h; exact ⟨⟨rfl, rfl⟩, rfl⟩
def sameB (fs gs : Tr) : Bool := decide (fs.length = gs.length) && fs.all fun f => decide (Vamrqa.Tree.get gs f.path = some f.lines)
theorem same_by {fs gs t u : Tr} (hf : fs.Perm t) (hg : gs.Perm u) (ot : OrdT t) (ou : OrdT u) : sameB fs gs = sameTree t u := by
  have g : ∀ a b : Bool, (a = true ↔ b = true) → a = b := fun a b h => by
    cases a <;> cases b
    · rfl
    · exact absurd (h.mpr rfl) (by decide)
    · exact absurd (h.mp rfl) (by decide)
    · rfl
  have nd : (paths gs).Nodup := ((hg.map fun f : File => f.path).nodup_iff).mpr (ordT_nd ou)
  refine g _ _ ?_
  rw [same_eq]
  unfold sameB
  rw [Bool.and_eq_true, decide_eq_true_eq, List.all_eq_true]
  refine ⟨fun ⟨z, h⟩ => tree_ext ot ou fun f => ?_, fun h => ?_⟩
  · have sub : ∀ f ∈ t, f ∈ u := fun f hf' => by
      have := of_decide_eq_true (h f (hf.mem_iff.mpr hf'))
      rw [get_perm nd hg] at this
      exact get_mem this
    refine ⟨sub f, fun hu => ?_⟩
    by_cases c : f.path ∈ paths t
    · obtain ⟨k, hk, ek⟩ := List.mem_map.mp c
      have ek : k.path = f.path := ek
      have e1 := mem_get (ordT_nd ou) hu
      have e2 := mem_get (ordT_nd ou) (sub k hk)
      rw [ek, e1] at e2
      have e3 := Option.some.inj e2
      have : f = k := by rw [← file_eta f, ← file_eta k, ek, e3]
      rw [this]; exact hk
    · exfalso
      have nd2 : (f.path :: paths t).Nodup := List.nodup_cons.mpr ⟨c, ordT_nd ot⟩
      have := sub_len nd2 (m := paths u) fun q hq => by
        cases hq with
        | head => exact List.mem_map_of_mem hu
        | tail _ hq =>
          obtain ⟨k, hk, rfl⟩ := List.mem_map.mp hq
          exact List.mem_map_of_mem (sub k hk)
      have l1 : (paths t).length = t.length := List.length_map _
      have l2 : (paths u).length = u.length := List.length_map _
      rw [List.length_cons, l1, l2, ← hf.length_eq, ← hg.length_eq] at this
      omega
  · subst h
    refine ⟨by rw [hf.length_eq, hg.length_eq], fun f hf' => ?_⟩
    rw [get_perm nd hg]
    exact decide_eq_true (mem_get (ordT_nd ot) (hf.mem_iff.mp hf'))
/-- t != u -/
def rNeTr : R2 := fun x y H Q => ∃ (a b : Addr) (t u : Tr), x = .ref a ∧ y = .ref b ∧ TreeAt H a t ∧ TreeAt H b u ∧ OrdT t ∧ OrdT u ∧ Q (.bl (!sameTree t u)) H
section
variable {X : Cx}
theorem op_neTr (hu : X.A.units + 65 < cLine) : OpR X (compareOp .NotEq) rNeTr := by
  intro pins s σ H x y v u Q I rx ry h
  obtain ⟨a, b, t, u', rfl, rfl, ⟨fs, ⟨es, h1, rfl, h3⟩, hf⟩, ⟨gs, ⟨ds, k1, rfl, k3⟩, hg⟩, ot, ou, q⟩ := h
  cases (show v = Value.ref a from rx)
  cases (show u = Value.ref b from ry)
  obtain ⟨z1, la, xs, r1, d1⟩ := dt_rd I.hok (Rd.of h1)
  obtain ⟨z2, lb, ys, r2, d2⟩ := dt_rd I.hok (Rd.of k1)
  have nf : (paths (es.map (·.1))).Nodup := ((hf.map fun f : File => f.path).nodup_iff).mpr (ordT_nd ot)
  let e : List Key → Bool := fun k => (es.map (·.1)).any fun f => decide (keyOf f.path = k) && decide (Vamrqa.Tree.get (ds.map (·.1)) f.path = some f.lines)
  have eOf : ∀ f ∈ es.map (·.1), e (keyOf f.path) = decide (Vamrqa.Tree.get (ds.map (·.1)) f.path = some f.lines) := fun f hf' => by
    show (es.map (·.1)).any (fun g => decide (keyOf g.path = keyOf f.path) && decide (Vamrqa.Tree.get (ds.map (·.1)) g.path = some g.lines)) = _
    by_cases c : Vamrqa.Tree.get (ds.map (·.1)) f.path = some f.lines
    · rw [decide_eq_true c]
      exact List.any_eq_true.mpr ⟨f, hf', by rw [decide_eq_true rfl, decide_eq_true c]; rfl⟩
    · rw [decide_eq_false c]
      refine List.any_eq_false.mpr fun g hg' z => ?_
      rw [Bool.and_eq_true, decide_eq_true_eq, decide_eq_true_eq] at z
      obtain ⟨za, zb⟩ := z
      have ep := keyOf_inj za
      have e1 := mem_get nf hf'
      have e2 := mem_get nf hg'
      rw [ep, e1] at e2
      have e3 := Option.some.inj e2
      rw [ep, ← e3] at zb
      exact c zb
  have hits : ∀ x ∈ xs, HitsH X.prog X.w X.A.in1 s ys e x := fun x hx => by
    obtain ⟨p, hp, p1, p2, p3⟩ := paired_mem r1 x hx
    obtain ⟨d, hd, rfl⟩ := List.mem_map.mp hp
    have p1 : keyOf d.1.path = x.1 := p1
    have p3 : RelV (.ref d.2) x.2.2 := p3
    have hd1 : d.1 ∈ es.map (·.1) := List.mem_map_of_mem hd
    have ee := eOf _ hd1
    have val := KT.val r2 (keyOf d.1.path)
    unfold HitsH
    rw [← p1, ee]
    cases c : Vamrqa.Tree.get (ds.map (·.1)) d.1.path with
    | none =>
      rw [look_none c] at val
      refine .inl ⟨?_, rfl⟩
      cases c2 : atKey ys (keyOf d.1.path) with
      | none => rfl
      | some y => rw [c2] at val; exact val.elim
    | some m =>
      obtain ⟨m', e1, g, hg', e2, e3⟩ := look_some c
      rw [e1] at val
      cases c2 : atKey ys (keyOf d.1.path) with
      | none => rw [c2] at val; exact val.elim
      | some y =>
        rw [c2] at val
        have val : RelV (.ref m') y.2 := val
        have hm : H m' = some (.tup (nvs m)) := by rw [← e2, ← e3]; exact k3 g hg'
        refine .inr ⟨y, rfl, ?_⟩
        obtain ⟨as, ra⟩ := Dp.reads I _ _ _ (dp_tup (SqT.of (h3 d hd))) p3
        obtain ⟨bs, rb⟩ := Dp.reads I _ _ _ (dp_tup (SqT.of hm)) val
        have at1 := PySem.W.keq_at (A := X.A) ra rb (tD_shaped _) (tD_shaped _) (by show X.A.units + 1 + 64 < cLine; omega)
        rw [tD_eqv] at at1
        have ed : decide (some m = some d.1.lines) = decide (d.1.lines = m) := decide_eq_decide.mpr ⟨fun z => (Option.some.inj z).symm, fun z => by rw [z]⟩
        rw [ed]
        exact at1.eqP
  have lx := paired_len r1
  have ly := paired_len r2
  refine neH (e := e) (show X.A.units + 1 < cLine by omega) (by omega) la lb d1 d2 hits ⟨.bl (!sameTree t u'), H, I, ?_, q⟩
  have al : (xs.all fun x => e x.1) = (es.map (·.1)).all fun f => decide (Vamrqa.Tree.get (ds.map (·.1)) f.path = some f.lines) := by
    have e1 : (xs.all fun x => e x.1) = (xs.map (·.1)).all e := by rw [List.all_map]; rfl
    rw [e1, paired_fst (fun p q h => h.1) r1, List.map_map, List.all_map, List.all_map]
    have g : ∀ l : List Ent, (∀ d ∈ l, d.1 ∈ es.map (·.1)) → (l.all (e ∘ ((fun x => x.1) ∘ entK))) = l.all ((fun f : File => decide (Vamrqa.Tree.get (ds.map (·.1)) f.path = some f.lines)) ∘ fun x => x.1) := by
      intro l
      induction l with
      | nil => intro _; rfl
      | cons d l ih =>
        intro hl
        rw [List.all_cons, List.all_cons, ih fun x hx => hl x (List.mem_cons_of_mem _ hx)]
        have := eOf d.1 (hl d (List.mem_cons_self ..))
        show (e (keyOf d.1.path) && _) = _
        rw [this]; rfl
    exact g es fun d hd => List.mem_map_of_mem hd
  have sb := same_by hf hg ot ou
  unfold sameB at sb
  rw [← al] at sb
  rw [← sb, List.length_map, List.length_map]
  rw [List.length_map] at lx ly
  rw [lx, ly]; rfl
end
end Cs
-- CsCall5
/-! pick, split, swap. -/
namespace Cs
open PySem PySem.Spec PyProof.Rows L2
open Vamrqd (State carry Carried stopTold listed)
theorem edNew_short {t u : Tr} (gt : Good t) (gu : Good u) {e : Vamrqa.Edit} (h : e ∈ Vamrqa.formOf t u) : (edNew e).length ≤ 40 ∧ ∀ p q, e ≠ .move p q := by
  have r := form_right gt.ord gu.ord h
  cases e with
  | move p q => exact r.elim
  | add p l => exact ⟨gu.short _ (get_mem r.2), fun _ _ z => by cases z⟩
  | del p l => exact ⟨Nat.zero_le _, fun _ _ z => by cases z⟩
  | hunk p i o n =>
    refine ⟨?_, fun _ _ z => by cases z⟩
    obtain ⟨l, m, r1, r2, r3⟩ := r
    obtain ⟨a, o', n', z, e1, e2, e3⟩ := hunk_ends l m
    rw [e3 p] at r3
    cases r3
    have zm : m.length ≤ 40 := gu.short _ (get_mem r2)
    rw [e2, List.length_append, List.length_append] at zm
    show n.length ≤ 40
    omega
theorem trs_get {s : State} {n : Nat} (h : n ≤ s.stack.afters.length) : (trs s)[n]? = some (s.stack.at_ n) := by
  rw [at_eq, List.getD_eq_getElem?_getD, List.getElem?_eq_getElem (by rw [trs_len]; omega)]; rfl
section
variable {P : Program} {w : World} {K : PySem.W.Frag} {mg : Str → Option Value} {base : Heap} {CW CR CE : Addr}
abbrev sCPick : Stmt := top 84
abbrev NCPick : List Str := ["work", "reader", "i", "stop", "tree"]
theorem scCPick : FnScope NCPick ["work", "reader"] (defScope sCPick) := ⟨rfl, rfl, rfl, by decide +kernel, rfl, by decide +kernel, by decide +kernel⟩
theorem ok_cPick (F : Df K mg "call_pick" sCPick) (T : Tx mg) (L : Kl K CW wkNames) (G_refusal : C8.Cal P w K mg base 1 "refusal" spRefusal []) (G_carry : C8.Cal P w K mg base 7 "carry" spCarry1 []) (G_Work_has_change : C8.Met P w K mg base 2 CW "has_change" (spHasChange CW) []) (G_Reader_take_number : C8.Met P w K mg base 1 CR "take_number" (spTakeNumber K CR) []) : C8.Cal P w K mg base 11 "call_pick" (spC K CW CR 13) [] := by
  refine F.cal scCPick (fun _ _ _ _ _ _ us hl => match us, hl with | [_, _], _ => rfl) (fun vs H Q E h => ?_) (fun f cdv A outer s0 H vs Q E hr h => ?_)
  · obtain ⟨a, b, c, l, i, s, cl, rest, rfl, _⟩ := h
    rfl
  · obtain ⟨a, b, c, l, rest, i, s, x, rfl, nab, ok, hW, hR, hx, hd, q0⟩ := spC_10 rfl h
    refine ⟨_, (pss_cons (ps_set (i := 2) scCPick.nd rfl (Or.inl rfl) (C8.pe_mt0 G_Reader_take_number hr (by decide) (pv 1)))
      (pss_cons (ps_if (pt_not (pt_val (C8.pe_mt G_Work_has_change hr (by decide) (pv 0) (pa_cons (pv 2) pa_nil))))
        (pss_one (ps_ret (C8.pe_c G_refusal hr (by decide) (by rfl) (pa_cons (C8.pe_gc (by rfl) T.c_NO_CHANGE) pa_nil))))
        pss_nil)
      (pss_cons (ps_asg (C8.pe_c G_carry hr (by decide) (by rfl) (pa_cons (pe_fld (pv 0) rfl) (pa_cons (pv 2) (pa_cons (pe_ix ix_list (pe_fld (pv 0) rfl) pe_int (fun _ _ => rfl)) pa_nil)))) (pg_tup (by rfl) (pgs_cons (pg_name (i := 3) scCPick.nd rfl (Or.inl rfl)) (pgs_cons (pg_name (i := 4) scCPick.nd rfl (Or.inl rfl)) pgs_nil))))
      (pss_cons (ps_if (pt_truth (pv 3) (by intro _; rfl))
        (pss_one (ps_ret (pv 3)))
        pss_nil)
      (pss_cons (ps_fld (pv 0) (pv 4) rfl)
      (pss_one (ps_ret (pe_lst (pa_cons (C8.pe_gc (by rfl) T.c_DONE) pa_nil))))))))), ?_⟩
    have e : VamrqdNeutral.step s [[13, x]] = ((Vamrqd.changeOf s x fun i => s.picking i).1, VamrqdNeutral.encode (Vamrqd.changeOf s x fun i => s.picking i).2) := rfl
    walk_at "rd"
    refine num_read rfl hR hx fun H1 o1 hR1 => ?_
    have hW1 := off_wk hW hR nab o1
    have P1 : Post K CW CR H H1 a b c l rest s := ⟨o1.mono fun y z => .inr z, hW1, i + 1, hR1, hd⟩
    walk_at "rd"
    refine an_has rfl hW1 (anv_var rfl) _ ?_
    walk_at "rd"
    cases hh : hasB s x with
    | false =>
      rw [change_no hh] at e
      refine iteT ?_
      walk_at "rd"
      refine ⟨1, rfl, fun p hp => ?_⟩
      exact ends_of q0 e _ p (P1.same (sm_new hp)) (P1.fresh hp) upd_same
    | true =>
      obtain ⟨n, rfl, n1, n2⟩ := hasB_nat hh
      rw [change_yes n1 n2] at e
      refine iteF ?_
      walk_at "rd"
      obtain ⟨dx, da, ta, h1, h2, h3⟩ := id hW1
      obtain ⟨xs, d0, x1, x2, x3, x4⟩ := (lat_of h3).get (trs_get (s := s) (Nat.zero_le _))
      refine rd_fld (anv_var rfl) h1 L.cls (L.nos _ (by simp)) rfl ?_
      walk_at "rd"
      refine rd_fld (anv_var rfl) h1 L.cls (L.nos _ (by simp)) rfl ?_
      walk_at "rd"
      refine rd_ixL (k := 0) (SqL.of x1) rfl x2 ?_
      walk_at "rd"
      refine ⟨ta, d0, n, trs s, s.stack.at_ 0, rfl, h3, x3, at_good ok 0, ok.all, n1, by rw [trs_len]; omega, fun H2 p s2 hm => ?_⟩
      rw [← at_eq, ← at_eq, ← mergeC_eq] at hm
      have P2 := P1.same s2
      unfold Vamrqd.State.picking at e
      cases em : Vamrqc.merge (s.stack.at_ (n - 1)) (s.stack.at_ 0) (s.stack.at_ n) with
      | conflicts k =>
        rw [em] at hm
        have em' : Vamrqc.merge (s.stack.at_ (n - 1)) s.stack.base (s.stack.at_ n) = .conflicts k := em
        rw [em'] at e
        obtain ⟨s0', hp, hs, fs⟩ := hm
        refine rd_gtup (SqT.of hp) rfl ?_
        walk_at "rd"
        refine ⟨_, .inl ⟨_, SqL.of hs, rfl⟩, ?_⟩
        refine rd_cond (fun _ => ?_) (fun z => by cases z)
        walk_at "rd"
        exact ends_of q0 e _ s0' P2 (P1.fresh fs) hs
      | unfit k =>
        rw [em] at hm
        have em' : Vamrqc.merge (s.stack.at_ (n - 1)) s.stack.base (s.stack.at_ n) = .unfit k := em
        rw [em'] at e
        obtain ⟨s0', hp, hs, fs⟩ := hm
        refine rd_gtup (SqT.of hp) rfl ?_
        walk_at "rd"
        refine ⟨_, .inl ⟨_, SqL.of hs, rfl⟩, ?_⟩
        refine rd_cond (fun _ => ?_) (fun z => by cases z)
        walk_at "rd"
        exact ends_of q0 e _ s0' P2 (P1.fresh fs) hs
      | tree t =>
        rw [em] at hm
        have em' : Vamrqc.merge (s.stack.at_ (n - 1)) s.stack.base (s.stack.at_ n) = .tree t := em
        rw [em'] at e
        obtain ⟨s0', d, hp, hs, hdt⟩ := hm
        refine rd_gtup (SqT.of hp) rfl ?_
        walk_at "rd"
        refine ⟨_, .inl ⟨_, SqL.of hs, rfl⟩, ?_⟩
        refine rd_cond (fun z => by cases z) (fun _ => ?_)
        refine rd_next ?_
        have g1 := s2 _ _ h1
        refine rd_seq (rd_sfldV (anv_var rfl) (anv_var rfl) g1 L.cls (L.nos _ (by simp)) (show 2 < 1000 by decide) ?_)
        have o3 : Off H2 (upd H2 a (.ins CW dx (putF "desk" (.ref d) [("desk", .ref da), ("trees", .ref ta)]))) (fun y => y = a) := Off.upd rfl
        have w3 : WkA CW (upd H2 a (.ins CW dx (putF "desk" (.ref d) [("desk", .ref da), ("trees", .ref ta)]))) a t (trs s) := ⟨dx, d, ta, upd_same, hdt.ins o3 g1, (h3.same s2).ins o3 g1⟩
        generalize upd H2 a (.ins CW dx (putF "desk" (.ref d) [("desk", .ref da), ("trees", .ref ta)])) = H3 at o3 w3 ⊢
        have P3 : Post K CW CR H H3 a b c l rest ⟨s.stack, t⟩ := P2.next nab o3 w3
        walk_at "rd"
        refine ⟨by show 1 ≤ sizeLine; decide, fun p4 hp4 => ?_⟩
        exact ends_of q0 e _ p4 (P3.same (sm_new hp4)) (P3.fresh hp4) upd_same
abbrev sCSplit : Stmt := top 82
abbrev NCSplit : List Str := ["work", "reader", "i", "n", "edits", "between", "edit"]
theorem scCSplit : FnScope NCSplit ["work", "reader"] (defScope sCSplit) := ⟨rfl, rfl, rfl, by decide +kernel, rfl, by decide +kernel, by decide +kernel⟩
theorem ok_cSplit (F : Df K mg "call_split" sCSplit) (T : Tx mg) (L : Kl K CW wkNames) (G_refusal : C8.Cal P w K mg base 1 "refusal" spRefusal []) (G_tree_with : C8.Cal P w K mg base 3 "tree_with" (spTreeWith CE) []) (G_Work_has_change : C8.Met P w K mg base 2 CW "has_change" (spHasChange CW) []) (G_Work_changes : C8.Met P w K mg base 1 CW "changes" (spChanges CW) [])
    (G_Work_edits_of : C8.Met P w K mg base 5 CW "edits_of" (spEditsOf CW CE) []) (G_Work_done_with : C8.Met P w K mg base 2 CW "done_with" (spDoneWith CW) []) (G_Reader_take_number : C8.Met P w K mg base 1 CR "take_number" (spTakeNumber K CR) []) : C8.Cal P w K mg base 11 "call_split" (spC K CW CR 11) [] := by
  refine F.cal scCSplit (fun _ _ _ _ _ _ us hl => match us, hl with | [_, _], _ => rfl) (fun vs H Q E h => ?_) (fun f cdv A outer s0 H vs Q E hr h => ?_)
  · obtain ⟨a, b, c, l, i, s, cl, rest, rfl, _⟩ := h
    rfl
  · obtain ⟨a, b, c, l, rest, i, s, x, y, rfl, nab, ok, hW, hR, hx, hy, hd, q0⟩ := spC_20 rfl h
    refine ⟨_, (pss_cons (ps_set (i := 2) scCSplit.nd rfl (Or.inl rfl) (C8.pe_mt0 G_Reader_take_number hr (by decide) (pv 1)))
      (pss_cons (ps_set (i := 3) scCSplit.nd rfl (Or.inl rfl) (C8.pe_mt0 G_Reader_take_number hr (by decide) (pv 1)))
      (pss_cons (ps_if (pt_not (pt_val (C8.pe_mt G_Work_has_change hr (by decide) (pv 0) (pa_cons (pv 2) pa_nil))))
        (pss_one (ps_ret (C8.pe_c G_refusal hr (by decide) (by rfl) (pa_cons (C8.pe_gc (by rfl) T.c_NO_CHANGE) pa_nil))))
        pss_nil)
      (pss_cons (ps_set (i := 4) scCSplit.nd rfl (Or.inl rfl) (C8.pe_mt G_Work_edits_of hr (by decide) (pv 0) (pa_cons (pv 2) pa_nil)))
      (pss_cons (ps_if (pt_not (pt_chain op_le op_lt pe_int (pv 3) (pe_callB call_lenS (by rfl) T.len PySem.boot_len (pa_cons (pv 4) pa_nil))))
        (pss_one (ps_ret (C8.pe_c G_refusal hr (by decide) (by rfl) (pa_cons (C8.pe_gc (by rfl) T.c_NO_CHANGE) pa_nil))))
        pss_nil)
      (pss_cons (ps_if (pt_cmpR op_ge (C8.pe_mt0 G_Work_changes hr (by decide) (pv 0)) (C8.pe_gc (by rfl) T.c_MOST_CHANGES) (nomark _))
        (pss_one (ps_ret (C8.pe_c G_refusal hr (by decide) (by rfl) (pa_cons (C8.pe_gc (by rfl) T.c_STACK_FULL) pa_nil))))
        pss_nil)
      (pss_cons (ps_set (i := 5) scCSplit.nd rfl (Or.inl rfl) (pe_ix ix_list (pe_fld (pv 0) rfl) (pe_op op_sub (pv 2) pe_int) (fun _ _ => rfl)))
      (pss_cons (ps_for PassesOwn.never rfl (pi_list (pe_slice sl_list (pv 4) po_none (po_some (pv 3)))) (pg_name (i := 6) scCSplit.nd rfl (Or.inl rfl))
        (pss_one (ps_set (i := 5) scCSplit.nd rfl (Or.inl rfl) (C8.pe_c G_tree_with hr (by decide) (by rfl) (pa_cons (pv 5) (pa_cons (pv 6) pa_nil))))))
      (pss_one (ps_ret (C8.pe_mt G_Work_done_with hr (by decide) (pv 0) (pa_cons (pe_op op_cat (pe_op op_cat (pe_slice sl_list (pe_fld (pv 0) rfl) po_none (po_some (pv 2))) (pe_lst (pa_cons (pv 5) pa_nil))) (pe_slice sl_list (pe_fld (pv 0) rfl) (po_some (pv 2)) po_none)) pa_nil)))))))))))), ?_⟩
    have e : VamrqdNeutral.step s [[11, x, y]] = ((Vamrqd.changeOf s x fun i => if y < 1 ∨ ((s.stack.change i).length : Int) ≤ y then (s, Vamrqd.Answer.refused (-1)) else s.splitting i y.toNat).1, VamrqdNeutral.encode (Vamrqd.changeOf s x fun i => if y < 1 ∨ ((s.stack.change i).length : Int) ≤ y then (s, Vamrqd.Answer.refused (-1)) else s.splitting i y.toNat).2) := rfl
    walk_at "rd"
    refine num_read rfl hR hx fun H0 o0 hR0 => ?_
    have hW0 := off_wk hW hR nab o0
    walk_at "rd"
    refine num_read rfl hR0 hy fun H1 o1 hR1 => ?_
    have hW1 := off_wk hW0 hR0 nab o1
    have P1 : Post K CW CR H H1 a b c l rest s := ⟨(o0.trans o1).mono fun y z => .inr z, hW1, i + 1 + 1, hR1, hd⟩
    walk_at "rd"
    refine an_has rfl hW1 (anv_var rfl) _ ?_
    walk_at "rd"
    cases hh : hasB s x with
    | false =>
      rw [change_no hh] at e
      refine iteT ?_
      walk_at "rd"
      refine ⟨1, rfl, fun p hp => ?_⟩
      exact ends_of q0 e _ p (P1.same (sm_new hp)) (P1.fresh hp) upd_same
    | true =>
      obtain ⟨n, rfl, n1, n2⟩ := hasB_nat hh
      rw [change_yes n1 n2] at e
      refine iteF ?_
      walk_at "rd"
      obtain ⟨dx, da, ta, h1, h2, h3⟩ := id hW1
      have zf := ok.few
      refine anv_var rfl _ ⟨a, dx, _, rfl, h1, rfl, ?_⟩
      walk_at "rd"
      refine ⟨a, n, s.desk, trs s, rfl, hW1, ok.all, n1, by rw [trs_len]; omega, fun H2 r2 s2 hE => ?_⟩
      rw [← at_eq, ← at_eq] at hE
      have hE : LAt (EdA CE) H2 r2 (s.stack.change n) := hE
      have gb := at_good ok (n - 1)
      have gn := at_good ok n
      have P2 := P1.same s2
      obtain ⟨es, e1, e2⟩ := hE.obj
      -- the number of edits
      have tst : An (tNot (tTest (tChain (rI0 fun i j => .bl (decide (i ≤ j))) (rI0 fun i j => .bl (decide (i < j))) (tC (.int 1)) (tVar 3) (tCB (rLenS K) (tCons (tVar 4) tNil))))) [some (.ref a), some (.ref b), some (nv n), some (.int y), some (.ref r2), none, none] H2 (!(decide (1 ≤ y) && decide (y < ((s.stack.change n).length : Int)))) := by
        refine an_not (an_test (anv_to (anv_chain anv_c (anv_var rfl) (anv_lenL (anv_var rfl) (SqL.of e1))) ?_))
        rw [e2]
      refine rd_name (rd_seq (rd_if (an_use tst ?_)))
      refine rd_cond (fun g => ?_) (fun g => ?_)
      · have g' : y < 1 ∨ ((s.stack.change n).length : Int) ≤ y := by
          refine Classical.byContradiction fun z => ?_
          rw [decide_eq_true (by omega), decide_eq_true (by omega)] at g
          cases g
        rw [if_pos g'] at e
        walk_at "rd"
        refine ⟨1, rfl, fun p hp => ?_⟩
        exact ends_of q0 e _ p (P2.same (sm_new hp)) (P2.fresh hp) upd_same
      · have g' : ¬ (y < 1 ∨ ((s.stack.change n).length : Int) ≤ y) := fun z => by
          have g2 : (decide (1 ≤ y) && decide (y < ((s.stack.change n).length : Int))) = true := by simpa using g
          rw [Bool.and_eq_true, decide_eq_true_eq, decide_eq_true_eq] at g2
          omega
        rw [if_neg g'] at e
        unfold Vamrqd.State.splitting at e
        walk_at "rd"
        refine anv_changes rfl P2.wk _ ?_
        walk_at "rd"
        refine rd_dec (fun c6 => ?_) (fun c6 => ?_)
        · have c6' : Vamrqd.MOST ≤ s.stack.afters.length := by show 6 ≤ _; omega
          rw [if_pos c6'] at e
          walk_at "rd"
          refine ⟨7, rfl, fun p hp => ?_⟩
          exact ends_of q0 e _ p (P2.same (sm_new hp)) (P2.fresh hp) upd_same
        · have c6' : ¬ Vamrqd.MOST ≤ s.stack.afters.length := by show ¬ 6 ≤ _; omega
          rw [if_neg c6'] at e
          obtain ⟨m, rfl⟩ : ∃ m : Nat, y = (m : Int) := ⟨y.toNat, by omega⟩
          have hm : m ≤ (s.stack.change n).length := by omega
          have g2 := s2 _ _ h1
          walk_at "rd"
          refine rd_fld (anv_var rfl) g2 L.cls (L.nos _ (by simp)) rfl ?_
          walk_at "rd"
          obtain ⟨xs, d0, x1, x2, x3, x4⟩ := (lat_of (h3.same s2)).get (trs_get (s := s) (n := n - 1) (by omega))
          refine rd_ixL (k := n - 1) (SqL.of x1) (by omega) x2 ?_
          walk_at "rd"
          refine rd_takeL (stays_ed CE) hE m fun p3 H3 s3 hp3 l3 => ?_
          obtain ⟨qs, q1, q2, q3⟩ := id l3
          have lq : qs.length = m := by
            have := congrArg List.length q2
            rw [List.length_map, List.length_take] at this
            omega
          have s23 := s2.trans s3
          refine ⟨p3, rfl, ⟨_, SqL.of q1⟩, for_list (K := K) (a := p3) (xs := qs.map fun q => V.ref q.1) (fun j σ H' => ∃ (v6 : Option V) (d : Addr) (v : Tr), σ = [some (.ref a), some (.ref b), some (nv n), some (nv m), some (.ref r2), some (.ref d), v6] ∧ Same H3 H' ∧ TreeAt H' d v ∧ Vamrqa.applyFrom 0 (s.stack.at_ (n - 1)) ((s.stack.change n).take j) = .ok v) ?_ ?_ ?_ ?_⟩
          · exact ⟨_, d0, _, rfl, Same.refl _, x3.same s3, by rw [List.take_zero]; rfl⟩
          · rintro j σ H' hj ⟨v6, d, v, rfl, s4, _⟩
            exact SqL.of (s4 _ _ q1)
          · rintro j z σ H' hz ⟨v6, d, v, rfl, s4, ht, ha⟩
            rw [List.getElem?_map] at hz
            obtain ⟨q', w1, w2⟩ := Option.map_eq_some_iff.mp hz
            subst w2
            have jm : j < m := by have := (List.getElem?_eq_some_iff.mp w1).1; omega
            have he : (s.stack.change n)[j]? = some q'.2 := by
              have : ((s.stack.change n).take m)[j]? = some q'.2 := by rw [← q2, List.getElem?_map, w1]; rfl
              rw [List.getElem?_take, if_pos jm] at this
              exact this
            have mem : q'.2 ∈ Vamrqa.formOf (s.stack.at_ (n - 1)) (s.stack.at_ n) := List.mem_of_getElem? he
            have eA : EdA CE H' q'.1 q'.2 := (stays_ed CE).same s4 (q3 _ (List.mem_of_getElem? w1))
            obtain ⟨v', k1, k2⟩ := form_good gb gn (j + 1) (by have := (List.getElem?_eq_some_iff.mp he).1; exact this)
            obtain ⟨v0, k3, k4⟩ := form_good gb gn j (by have := (List.getElem?_eq_some_iff.mp he).1; exact Nat.le_of_lt this)
            have k3 : Vamrqa.applyFrom 0 (s.stack.at_ (n - 1)) ((s.stack.change n).take j) = .ok v0 := k3
            have k1 : Vamrqa.applyFrom 0 (s.stack.at_ (n - 1)) ((s.stack.change n).take (j + 1)) = .ok v' := k1
            rw [ha] at k3
            cases k3
            have k1' := k1
            rw [take_one he] at k1'
            obtain ⟨v1, k5, k6⟩ := from_less _ _ _ _ _ k1'
            rw [ha] at k5
            cases k5
            obtain ⟨zn, nm⟩ := edNew_short gb gn mem
            walk_at "rd"
            refine ⟨d, q'.1, v, v', q'.2, rfl, ht, k4.ord, Nat.le_trans k4.few (by decide), fun f hf => Nat.le_trans (k4.short f hf) (by decide), eA, Nat.le_trans zn (by decide), nm, k6, fun H5 d5 s5 ht5 => ?_⟩
            exact ⟨_, d5, v', rfl, s4.trans s5, ht5, k1⟩
          · rintro σ H4 ⟨v6, d, v, rfl, s4, ht, ha⟩
            rw [List.length_map, lq] at ha
            have em : s.stack.middle n ((m : Int).toNat) = some v := by
              unfold Vamrqd.Stack.middle
              have : Vamrqa.apply (s.stack.at_ (n - 1)) ((s.stack.change n).take ((m : Int).toNat)) = .ok v := ha
              rw [this]
            rw [em] at e
            have s14 := s23.trans s4
            have g4 := s14 _ _ h1
            have P4 := P1.same s14
            have h34 := h3.same s14
            walk_at "rd"
            refine anv_var rfl _ ⟨a, dx, _, rfl, g4, rfl, ?_⟩
            walk_at "rd"
            refine rd_fld (anv_var rfl) g4 L.cls (L.nos _ (by simp)) rfl ?_
            walk_at "rd"
            refine rd_takeL stays_tree (lat_of h34) n fun p5 H5 s5 hp5 l5 => ?_
            walk_at "rd"
            refine ⟨by show 1 ≤ sizeLine; decide, fun p6 hp6 => ?_⟩
            have s6 := sm_new (o := .lst [.ref d]) hp6
            walk_at "rd"
            have zl : ((trs s).take n).length ≤ 7 := by rw [List.length_take, trs_len]; omega
            have zd : ((trs s).drop n).length ≤ 7 := by rw [List.length_drop, trs_len]; omega
            refine rd_catL stays_tree (l5.same stays_tree s6) (LAt.one upd_same ((ht.same s5).same s6)) (by show _ + 1 ≤ _; omega) fun p7 H7 s7 hp7 l7 => ?_
            have s57 := (s5.trans s6).trans s7
            walk_at "rd"
            refine rd_fld (anv_var rfl) (s57 _ _ g4) L.cls (L.nos _ (by simp)) rfl ?_
            walk_at "rd"
            refine rd_dropL stays_tree ((lat_of h34).same stays_tree s57) n fun p8 H8 s8 hp8 l8 => ?_
            walk_at "rd"
            refine rd_catL stays_tree (l7.same stays_tree s8) l8 (by rw [List.length_append]; show _ + 1 + _ ≤ _; omega) fun p9 H9 s9 hp9 l9 => ?_
            walk_at "rd"
            have s59 := (s57.trans s8).trans s9
            refine ⟨a, p9, s.desk, trs s, _, rfl, P4.wk.same s59, l9, by rw [List.length_append, List.length_append]; show 1 ≤ _ + 1 + _; omega, fun H' r o w' f' h' => ?_⟩
            have et : (trs s).take n ++ [v] ++ (trs s).drop n = s.stack.base :: (s.stack.afters.take (n - 1) ++ (v :: s.stack.afters.drop (n - 1))) := by
              obtain ⟨k, rfl⟩ : ∃ k, n = k + 1 := ⟨n - 1, by omega⟩
              show s.stack.base :: (s.stack.afters.take k) ++ [v] ++ s.stack.afters.drop k = s.stack.base :: (s.stack.afters.take k ++ (v :: s.stack.afters.drop k))
              simp
            rw [et] at w' h'
            exact ends_of q0 e H' r ((P4.same s59).next nab o w') ((P4.same s59).fresh f') h'
abbrev sCSwap : Stmt := top 83
abbrev NCSwap : List Str := ["work", "reader", "i", "stop", "between", "above"]
theorem scCSwap : FnScope NCSwap ["work", "reader"] (defScope sCSwap) := ⟨rfl, rfl, rfl, by decide +kernel, rfl, by decide +kernel, by decide +kernel⟩
theorem ok_cSwap (F : Df K mg "call_swap" sCSwap) (T : Tx mg) (L : Kl K CW wkNames) (G_refusal : C8.Cal P w K mg base 1 "refusal" spRefusal []) (G_carry : C8.Cal P w K mg base 7 "carry" spCarry1 []) (G_Work_has_two_changes : C8.Met P w K mg base 3 CW "has_two_changes" (spHasTwo CW) []) (G_Work_done_with : C8.Met P w K mg base 2 CW "done_with" (spDoneWith CW) []) (G_Reader_take_number : C8.Met P w K mg base 1 CR "take_number" (spTakeNumber K CR) []) : C8.Cal P w K mg base 11 "call_swap" (spC K CW CR 12) [] := by
  refine F.cal scCSwap (fun _ _ _ _ _ _ us hl => match us, hl with | [_, _], _ => rfl) (fun vs H Q E h => ?_) (fun f cdv A outer s0 H vs Q E hr h => ?_)
  · obtain ⟨a, b, c, l, i, s, cl, rest, rfl, _⟩ := h
    rfl
  · obtain ⟨a, b, c, l, rest, i, s, x, rfl, nab, ok, hW, hR, hx, hd, q0⟩ := spC_10 rfl h
    have hu65 := hu65_of hr
    refine ⟨_, (pss_cons (ps_set (i := 2) scCSwap.nd rfl (Or.inl rfl) (C8.pe_mt0 G_Reader_take_number hr (by decide) (pv 1)))
      (pss_cons (ps_if (pt_not (pt_val (C8.pe_mt G_Work_has_two_changes hr (by decide) (pv 0) (pa_cons (pv 2) pa_nil))))
        (pss_one (ps_ret (C8.pe_c G_refusal hr (by decide) (by rfl) (pa_cons (C8.pe_gc (by rfl) T.c_NO_CHANGE) pa_nil))))
        pss_nil)
      (pss_cons (ps_asg (C8.pe_c G_carry hr (by decide) (by rfl) (pa_cons (pe_fld (pv 0) rfl) (pa_cons (pe_op op_add (pv 2) pe_int) (pa_cons (pe_ix ix_list (pe_fld (pv 0) rfl) (pe_op op_sub (pv 2) pe_int) (fun _ _ => rfl)) pa_nil)))) (pg_tup (by rfl) (pgs_cons (pg_name (i := 3) scCSwap.nd rfl (Or.inl rfl)) (pgs_cons (pg_name (i := 4) scCSwap.nd rfl (Or.inl rfl)) pgs_nil))))
      (pss_cons (ps_if (pt_truth (pv 3) (by intro _; rfl))
        (pss_one (ps_ret (pv 3)))
        pss_nil)
      (pss_cons (ps_asg (C8.pe_c G_carry hr (by decide) (by rfl) (pa_cons (pe_fld (pv 0) rfl) (pa_cons (pv 2) (pa_cons (pv 4) pa_nil)))) (pg_tup (by rfl) (pgs_cons (pg_name (i := 3) scCSwap.nd rfl (Or.inl rfl)) (pgs_cons (pg_name (i := 5) scCSwap.nd rfl (Or.inl rfl)) pgs_nil))))
      (pss_cons (ps_if (pt_truth (pv 3) (by intro _; rfl))
        (pss_one (ps_ret (pv 3)))
        pss_nil)
      (pss_cons (ps_if (pt_cmpR (op_neTr hu65) (pv 5) (pe_ix ix_list (pe_fld (pv 0) rfl) (pe_op op_add (pv 2) pe_int) (fun _ _ => rfl)) (nomark _))
        (pss_one (ps_ret (pe_lst (pa_cons (C8.pe_gc (by rfl) T.c_OTHER_TREE) pa_nil))))
        pss_nil)
      (pss_one (ps_ret (C8.pe_mt G_Work_done_with hr (by decide) (pv 0) (pa_cons (pe_op op_cat (pe_op op_cat (pe_slice sl_list (pe_fld (pv 0) rfl) po_none (po_some (pv 2))) (pe_lst (pa_cons (pv 4) pa_nil))) (pe_slice sl_list (pe_fld (pv 0) rfl) (po_some (pe_op op_add (pv 2) pe_int)) po_none)) pa_nil))))))))))), ?_⟩
    have e : VamrqdNeutral.step s [[12, x]] = ((Vamrqd.changeOf s x (fun i => if s.stack.afters.length ≤ i then (s, Vamrqd.Answer.refused (-1)) else s.swapping i)).1, VamrqdNeutral.encode (Vamrqd.changeOf s x (fun i => if s.stack.afters.length ≤ i then (s, Vamrqd.Answer.refused (-1)) else s.swapping i)).2) := rfl
    walk_at "rd"
    refine num_read rfl hR hx fun H1 o1 hR1 => ?_
    have hW1 := off_wk hW hR nab o1
    have P1 : Post K CW CR H H1 a b c l rest s := ⟨o1.mono fun y z => .inr z, hW1, i + 1, hR1, hd⟩
    walk_at "rd"
    refine an_two rfl hW1 (anv_var rfl) _ ?_
    walk_at "rd"
    cases hh : hasB s x && hasB s (x + 1) with
    | false =>
      rw [two_no hh] at e
      refine iteT ?_
      walk_at "rd"
      refine ⟨1, rfl, fun p hp => ?_⟩
      exact ends_of q0 e _ p (P1.same (sm_new hp)) (P1.fresh hp) upd_same
    | true =>
      obtain ⟨n, rfl, n1, n2⟩ := two_iff.mp hh
      rw [two_yes n1 n2] at e
      refine iteF ?_
      walk_at "rd"
      obtain ⟨dx, da, ta, h1, h2, h3⟩ := id hW1
      have zf := ok.few
      obtain ⟨xs, d0, x1, x2, x3, x4⟩ := (lat_of h3).get (trs_get (s := s) (n := n - 1) (by omega))
      refine rd_fld (anv_var rfl) h1 L.cls (L.nos _ (by simp)) rfl ?_
      walk_at "rd"
      refine rd_fld (anv_var rfl) h1 L.cls (L.nos _ (by simp)) rfl ?_
      walk_at "rd"
      refine rd_ixL (k := n - 1) (SqL.of x1) (by omega) x2 ?_
      walk_at "rd"
      refine ⟨ta, d0, n + 1, trs s, s.stack.at_ (n - 1), rfl, h3, x3, at_good ok _, ok.all, by omega, by rw [trs_len]; omega, fun H2 p s2 hm => ?_⟩
      rw [← at_eq, ← at_eq, ← mergeC_eq] at hm
      have n11 : n + 1 - 1 = n := rfl
      rw [n11] at hm
      have P2 := P1.same s2
      unfold Vamrqd.State.swapping Vamrqd.Stack.swapped at e
      cases em : Vamrqc.merge (s.stack.at_ n) (s.stack.at_ (n - 1)) (s.stack.at_ (n + 1)) with
      | conflicts k =>
        rw [em] at hm e
        obtain ⟨s0', hp, hs, fs⟩ := hm
        refine rd_gtup (SqT.of hp) rfl ?_
        walk_at "rd"
        refine ⟨_, .inl ⟨_, SqL.of hs, rfl⟩, ?_⟩
        refine rd_cond (fun _ => ?_) (fun z => by cases z)
        walk_at "rd"
        exact ends_of q0 e _ s0' P2 (P1.fresh fs) hs
      | unfit k =>
        rw [em] at hm e
        obtain ⟨s0', hp, hs, fs⟩ := hm
        refine rd_gtup (SqT.of hp) rfl ?_
        walk_at "rd"
        refine ⟨_, .inl ⟨_, SqL.of hs, rfl⟩, ?_⟩
        refine rd_cond (fun _ => ?_) (fun z => by cases z)
        walk_at "rd"
        exact ends_of q0 e _ s0' P2 (P1.fresh fs) hs
      | tree v =>
        rw [em] at hm e
        have gv : Good v := merge_good (at_good ok _) (at_good ok _) (at_good ok _) (merge_outC em)
        obtain ⟨s0', d, hp, hs, hdt⟩ := hm
        refine rd_gtup (SqT.of hp) rfl ?_
        walk_at "rd"
        refine ⟨_, .inl ⟨_, SqL.of hs, rfl⟩, ?_⟩
        refine rd_cond (fun z => by cases z) (fun _ => ?_)
        walk_at "rd"
        refine rd_fld (anv_var rfl) (s2 _ _ h1) L.cls (L.nos _ (by simp)) rfl ?_
        walk_at "rd"
        refine ⟨ta, d, n, trs s, v, rfl, h3.same s2, hdt, gv, ok.all, n1, by rw [trs_len]; omega, fun H3 p3 s3 hm3 => ?_⟩
        rw [← at_eq, ← at_eq, ← mergeC_eq] at hm3
        have s23 := s2.trans s3
        have P3 := P1.same s23
        cases em3 : Vamrqc.merge (s.stack.at_ (n - 1)) v (s.stack.at_ n) with
        | conflicts k =>
          rw [em3] at hm3
          simp only [em3] at e
          obtain ⟨s0', hp, hs, fs⟩ := hm3
          refine rd_gtup (SqT.of hp) rfl ?_
          walk_at "rd"
          refine ⟨_, .inl ⟨_, SqL.of hs, rfl⟩, ?_⟩
          refine rd_cond (fun _ => ?_) (fun z => by cases z)
          walk_at "rd"
          exact ends_of q0 e _ s0' P3 (P2.fresh fs) hs
        | unfit k =>
          rw [em3] at hm3
          simp only [em3] at e
          obtain ⟨s0', hp, hs, fs⟩ := hm3
          refine rd_gtup (SqT.of hp) rfl ?_
          walk_at "rd"
          refine ⟨_, .inl ⟨_, SqL.of hs, rfl⟩, ?_⟩
          refine rd_cond (fun _ => ?_) (fun z => by cases z)
          walk_at "rd"
          exact ends_of q0 e _ s0' P3 (P2.fresh fs) hs
        | tree z =>
          rw [em3] at hm3
          simp only [em3] at e
          have gz : Good z := merge_good (at_good ok _) gv (at_good ok _) (merge_outC em3)
          obtain ⟨s0', d3, hp, hs, hdz⟩ := hm3
          refine rd_gtup (SqT.of hp) rfl ?_
          walk_at "rd"
          refine ⟨_, .inl ⟨_, SqL.of hs, rfl⟩, ?_⟩
          refine rd_cond (fun z => by cases z) (fun _ => ?_)
          have g3 := s23 _ _ h1
          walk_at "rd"
          refine rd_fld (anv_var rfl) g3 L.cls (L.nos _ (by simp)) rfl ?_
          walk_at "rd"
          obtain ⟨ys, d4, y1, y2, y3, y4⟩ := (lat_of (h3.same s23)).get (trs_get (s := s) (n := n + 1) (by omega))
          refine rd_ixL (k := n + 1) (SqL.of y1) rfl y2 ?_
          refine ⟨d3, d4, z, s.stack.at_ (n + 1), rfl, rfl, hdz, y3, gz.ord, (at_good ok _).ord, ?_⟩
          walk_at "rd"
          cases hsm : Vamrqa.sameTree z (s.stack.at_ (n + 1)) with
          | false =>
            rw [hsm, if_neg (by decide)] at e
            refine iteT ?_
            walk_at "rd"
            refine ⟨by show 1 ≤ sizeLine; decide, fun p4 hp4 => ?_⟩
            exact ends_of q0 e _ p4 (P3.same (sm_new hp4)) (P3.fresh hp4) upd_same
          | true =>
            rw [hsm, if_pos rfl] at e
            refine iteF ?_
            walk_at "rd"
            refine anv_var rfl _ ⟨a, dx, _, rfl, g3, rfl, ?_⟩
            walk_at "rd"
            refine rd_fld (anv_var rfl) g3 L.cls (L.nos _ (by simp)) rfl ?_
            walk_at "rd"
            have h33 := h3.same s23
            refine rd_takeL stays_tree (lat_of h33) n fun p5 H5 s5 hp5 l5 => ?_
            walk_at "rd"
            refine ⟨by show 1 ≤ sizeLine; decide, fun p6 hp6 => ?_⟩
            have s6 := sm_new (o := .lst [.ref d]) hp6
            walk_at "rd"
            have zl : ((trs s).take n).length ≤ 7 := by rw [List.length_take, trs_len]; omega
            have zd : ((trs s).drop (n + 1)).length ≤ 7 := by rw [List.length_drop, trs_len]; omega
            refine rd_catL stays_tree (l5.same stays_tree s6) (LAt.one upd_same (((hdt.same s3).same s5).same s6)) (by show _ + 1 ≤ _; omega) fun p7 H7 s7 hp7 l7 => ?_
            have s57 := (s5.trans s6).trans s7
            walk_at "rd"
            refine rd_fld (anv_var rfl) (s57 _ _ g3) L.cls (L.nos _ (by simp)) rfl ?_
            walk_at "rd"
            refine rd_dropL stays_tree ((lat_of h33).same stays_tree s57) (n + 1) fun p8 H8 s8 hp8 l8 => ?_
            walk_at "rd"
            refine rd_catL stays_tree (l7.same stays_tree s8) l8 (by rw [List.length_append]; show _ + 1 + _ ≤ _; omega) fun p9 H9 s9 hp9 l9 => ?_
            walk_at "rd"
            have s59 := (s57.trans s8).trans s9
            refine ⟨a, p9, s.desk, trs s, _, rfl, P3.wk.same s59, l9, by rw [List.length_append, List.length_append]; show 1 ≤ _ + 1 + _; omega, fun H' r o w' f' h' => ?_⟩
            have et : (trs s).take n ++ [v] ++ (trs s).drop (n + 1) = s.stack.base :: (s.stack.afters.set (n - 1) v) := by
              obtain ⟨k, rfl⟩ : ∃ k, n = k + 1 := ⟨n - 1, by omega⟩
              show s.stack.base :: (s.stack.afters.take k) ++ [v] ++ s.stack.afters.drop (k + 1) = s.stack.base :: (s.stack.afters.set k v)
              rw [List.set_eq_take_append_cons_drop, if_pos (by omega)]
              simp
            rw [et] at w' h'
            exact ends_of q0 e H' r ((P3.same s59).next nab o w') ((P3.same s59).fresh f') h'
end
end Cs
-- CsSortL
/-! sorted(l), l a list of tuples of numbers of any length. -/
namespace Cs
open PySem PySem.Spec PyProof.Rows L2
theorem vals_refs : ∀ {N : List AP} {us : List Value}, Vals (N.map fun p => V.ref p.1) us → us = N.map fun p => Value.ref p.1
  | [], _, h => by
    cases h; rfl
  | x :: N, us, h => by
    rw [List.map_cons] at h
    cases h with
    | cons r t =>
      rw [vals_refs t, List.map_cons]
      cases (show _ = Value.ref x.1 from r)
      rfl
section
variable {P : Program} {w : World} {A : Around} {E : Value → Shared → Prop} {s : Shared}
theorem sorted_tups {l : Addr} {L : List (Addr × List Int)} {Q : Value → Shared → Prop} (hl : s.heap.IsList l (L.map fun p => Value.ref p.1).toArray) (hz : L.length ≤ sizeLine) (keys : ∀ p ∈ L, IsT P w s.heap p.2 p.1) (ne : ∀ p ∈ L, p.2 ≠ [])
    (h : ∀ (h' : Heap) (d : Addr) (out : List Value) (L' : List (Addr × List Int)), out = L'.map (fun r => Value.ref r.1) → L'.Perm L → L'.Pairwise (fun x y => HT.lexLt y.2 x.2 = false) → (∀ b o, s.heap.get? b = some o → h'.get? b = some o) → s.heap.objs.size ≤ d → (∃ n, h'.get? d = some (seqObj "list" out.toArray n)) → Q (.ref d) { s with heap := h' }) :
    wpAny (model P w) A (call (.builtin "sorted") [.ref l]) Q E s := by
  have two : ∀ x ∈ L, ∀ y ∈ L, Value.ref x.1 = Value.ref y.1 → x.2 = y.2 := fun x hx y hy e => by
    have k1 := keys x hx
    rw [Value.ref.inj e] at k1
    exact k1.inj (keys y hy)
  have two' : ∀ x ∈ L, ∀ y ∈ L, Value.ref x.1 = Value.ref y.1 → id x = id y := fun x hx y hy e => Prod.ext (Value.ref.inj e) (two x hx y hy e)
  let f : Value → List Int := behind (fun p : Addr × List Int => Value.ref p.1) (fun p => p.2) L
  have fL : ∀ x ∈ L, f (Value.ref x.1) = x.2 := fun x hx => behind_at two hx
  refine SrtO.sorted_ord (NtL.swo_lexL f) hl (by rw [List.length_map]; exact hz) (fun t2 h₁ a g1 g2 => ableR (s := { s with heap := h₁ }) (Nat.lt_of_lt_of_le Nat.zero_lt_two t2) (fun v m => ?_) fun o g c => ?_) fun out o1 o2 => ?_
  · obtain ⟨x, hx, rfl⟩ := List.mem_map.mp m
    rw [fL x hx]
    exact ⟨(rowOf_T (keys x hx)).keep fun b o g _ => (g2 b o g).2, ne x hx⟩
  · have g3 := g.symm.trans g1
    cases g3
    exact absurd (Value.type.inj c) (by decide)
  · obtain ⟨L', l1, l2, l3⟩ := perm_behind (g := id) two' o2.perm
    rw [List.map_id, List.map_id] at l3
    refine h _ _ out L' l1.symm l3 ?_ (fun b o g => sortedAll_old g) (Nat.le_succ _) (sortedAll_at s.heap _ out.toArray)
    rw [← l1] at o1
    refine List.Pairwise.imp_of_mem (fun {x y} hx hy g => ?_) (List.pairwise_map.mp o1)
    rw [← fL x (l2 x hx), ← fL y (l2 y hy)]
    exact g
end
section
variable {X : Cx}
def rSortedL : List V → Hp → VK → Prop := fun vs H Q => ∃ (r : Addr) (ls : List (List Nat)), vs = [.ref r] ∧ LAt TupA H r ls ∧ ls.length ≤ 1000 ∧ (∀ l ∈ ls, l ≠ []) ∧
  ∀ c H' ls', Same H H' → H c = none → ls'.Perm ls → ls'.Pairwise (fun p q => Vamrqa.lessPath q p = false) → LAt TupA H' c ls' → Q (.ref c) H'
theorem cr_sortedL : CallR X (.builtin "sorted") rSortedL := by
  intro pins s σ H vs us Q I r h
  obtain ⟨a, ls, rfl, ⟨N, n1, n2, n3⟩, zl, ne, q⟩ := h
  rw [Vals.ref1 r]
  obtain ⟨its, rv, hl, hz⟩ := I.list (SqL.of n1)
  have eits := vals_refs rv
  subst eits
  have refs : ∀ M : List AP, (M.map toI).map (fun r => Value.ref r.1) = M.map fun p => Value.ref p.1 := fun M => by rw [List.map_map]; rfl
  have lN : N.length = ls.length := by rw [← n2, List.length_map]
  refine sorted_tups (L := N.map toI) (by rw [refs]; exact hl.isList) (by rw [List.length_map, lN]; exact sz (by omega)) (fun p hp => ?_) (fun p hp => ?_) fun h' d out L' eo pm pw kp hd hg => ?_
  · obtain ⟨u, hu, rfl⟩ := List.mem_map.mp hp
    exact key_T I (n3 u hu)
  · obtain ⟨u, hu, rfl⟩ := List.mem_map.mp hp
    have : u.2 ∈ ls := by rw [← n2]; exact List.mem_map_of_mem hu
    exact fun z => ne _ this (List.map_eq_nil_iff.mp z)
  · obtain ⟨M, p1, p2⟩ := perm_lift pm
    subst p2
    rw [refs] at eo
    obtain ⟨n, hn⟩ := hg
    have fr := I.hok.fresh hd
    have lM : M.length = ls.length := by rw [p1.length_eq, lN]
    refine ⟨.ref d, upd H d (.lst (M.map fun p => V.ref p.1)), I.laid (t' := s.toks) kp hd ⟨by rw [List.length_map, lM]; exact sz (by omega), out, n, by rw [eo]; exact vals_ap M, hn⟩, rfl, q d _ (M.map (·.2)) (sm_new fr) fr (by rw [← n2]; exact p1.map _) ?_ ⟨M, upd_same, rfl, fun x hx => sm_new fr _ _ (n3 x (p1.mem_iff.mp hx))⟩⟩
    refine List.pairwise_map.mpr (List.Pairwise.imp (fun {x y} z => ?_) (List.pairwise_map.mp pw))
    have z : HT.lexLt (toI y).2 (toI x).2 = false := z
    rw [← less_lex]; exact z
end
end Cs
-- CsCall6
/-! edits, both, sizes. -/
namespace Cs
open PySem PySem.Spec PyProof.Rows L2
open Vamrqd (State carry Carried stopTold listed)
open Vamrqa (editTold)
theorem listed_eq (l : List Nat) : Vamrqa.counted l = listed l := rfl
theorem listed_len (l : List Nat) : (listed l).length = l.length + 1 := by
  show (l.map Int.ofNat).length + 1 = _
  rw [List.length_map]
theorem told_add (p l : List Nat) : editTold (.add p l) = 0 :: (listed p ++ listed l) := rfl
theorem told_del (p l : List Nat) : editTold (.del p l) = 1 :: (listed p ++ listed l) := rfl
theorem told_hunk (p : List Nat) (i : Nat) (o n : List Nat) : editTold (.hunk p i o n) = 3 :: (listed p ++ ((i : Int) :: (listed o ++ listed n))) := rfl
section
variable {P : Program} {w : World} {K : PySem.W.Frag} {mg : Str → Option Value} {base : Heap} {CW CR CE : Addr}
theorem nvs_int (l : List Nat) : nvs l = (l.map Int.ofNat).map V.int := by rw [List.map_map]; rfl
theorem EdA.off {C : Addr} {H H' : Hp} {a an : Addr} {e : Vamrqa.Edit} {xs : List V} (h : EdA C H a e) (o : Off H H' (fun y => y = an)) (hA : H an = some (.lst xs)) : EdA C H' a e := by
  obtain ⟨dx, pa, oa, na, h1, h2, h3, h4⟩ := h
  have k : ∀ {x : Addr} {u : HO}, H x = some u → (∀ ys, u ≠ .lst ys) → H' x = some u := fun {x u} hx n => o _ _ hx fun z => by
    have z : x = an := z
    rw [z, hA] at hx
    exact n _ (Option.some.inj hx).symm
  exact ⟨dx, pa, oa, na, k h1 (fun _ z => by cases z), k h2 (fun _ z => by cases z), k h3 (fun _ z => by cases z), k h4 (fun _ z => by cases z)⟩
/-- counted of a tuple -/
theorem counted_tup {H : Hp} {Q : VK} {a : Addr} {l : List Nat} (h : TupA H a l) (z : l.length ≤ 1000000) (q : ∀ H' r, Same H H' → H r = none → H' r = some (.lst ((listed l).map V.int)) → Q (.ref r) H') : spCounted K ([.ref a] ++ []) H Q C8.E0 := by
  refine ⟨a, l.map Int.ofNat, rfl, .inr (SqT.of (by rw [← nvs_int]; exact h)), by rw [List.length_map]; exact z, fun H' r s n h' => q H' r s n ?_⟩
  rw [h', List.length_map]; rfl
/-- answer.extend(counted(edit.f)) -/
theorem told_ext {σ : L2.St} {H : Hp} {D : Ends} {f : Str} {a an dx fa : Addr} {fs : List (Str × V)} {acc : List Int} {l : List Nat} (h0 : σ[0]? = some (some (.ref a))) (h1 : σ[1]? = some (some (.ref an))) (ha : H a = some (.ins CE dx fs)) (L : Cls K CE) (n : NoAttr K CE f) (lk : fs.lookup f = some (.ref fa)) (hf : TupA H fa l) (hA : H an = some (.lst (acc.map V.int)))
    (z1 : acc.length ≤ 100000) (z2 : l.length ≤ 100000) (q : ∀ H', Off H H' (fun y => y = an) → H' an = some (.lst ((acc ++ listed l).map V.int)) → D.nx σ H') :
    tDrop (tBM K "list" rExtend (tVar 1) (tCons (tCall (spCounted K) [] C8.E0 (tCons (tFld K (tVar 0) f) tNil)) tNil)) D σ H := by
  refine rd_drop (rd_bm (rd_var h1 ⟨ty_lst hA, ?_⟩))
  refine rd_cons (rd_call (rd_cons (rd_fld (anv_var h0) ha L n lk (rd_nil ?_))))
  refine counted_tup hf (by omega) fun H2 r2 s2 _ h2 => ?_
  refine rd_nil (rd_extend (s2 _ _ hA) h2 (by rw [List.length_map, List.length_map, listed_len]; omega) ?_)
  refine q _ ((Off.of_same s2).trans (Off.upd rfl)) ?_
  rw [upd_same, ← List.map_append]
abbrev sTold : Stmt := top 85
abbrev NTold : List Str := ["edit", "answer"]
theorem scTold : FnScope NTold ["edit"] (defScope sTold) := ⟨rfl, rfl, rfl, by decide +kernel, rfl, by decide +kernel, by decide +kernel⟩
def spTold (CE : Addr) : Sp := fun vs H Q _ => ∃ (a : Addr) (e : Vamrqa.Edit), vs = [.ref a] ∧ EdA CE H a e ∧ (∀ p q, e ≠ .move p q) ∧ (pathE e).length ≤ 1000 ∧ (edOld e).length ≤ 1000 ∧ (edNew e).length ≤ 1000 ∧ ∀ H' r, Same H H' → H r = none → H' r = some (.lst ((editTold e).map V.int)) → Q (.ref r) H'
theorem ok_told (F : Df K mg "told" sTold) (T : Tx mg) (L : Kl K CE edNames) (G_counted : C8.Cal P w K mg base 1 "counted" (spCounted K) []) : C8.Cal P w K mg base 2 "told" (spTold CE) [] := by
  refine F.cal scTold (fun _ _ _ _ _ _ us hl => match us, hl with | [_], _ => rfl) (fun vs H Q E h => ?_) (fun f cdv A outer s0 H vs Q E hr h => ?_)
  · obtain ⟨a, e, rfl, _⟩ := h
    rfl
  · obtain ⟨a, e, rfl, he, nm, zp, zo, zn, q⟩ := h
    refine ⟨_, (pss_cons (ps_set (i := 1) scTold.nd rfl (Or.inl rfl) (pe_op op_cat (pe_lst (pa_cons (pe_fld (pv 0) rfl) pa_nil)) (C8.pe_c G_counted hr (by decide) (by rfl) (pa_cons (pe_fld (pv 0) rfl) pa_nil))))
      (pss_cons (ps_if (pt_cmpR op_eq (pe_fld (pv 0) rfl) (C8.pe_gc (by rfl) T.c_HUNK) (nomark _))
        (pss_one (ps_expr (pe_bm PySem.F.plainAttrs_list PySem.F.slot_list_append PySem.F.type_list_append mt_append (pv 1) (pa_cons (pe_fld (pv 0) rfl) pa_nil))))
        pss_nil)
      (pss_cons (ps_if (pt_cmpR op_ne (pe_fld (pv 0) rfl) (C8.pe_gc (by rfl) T.c_ADD) (nomark _))
        (pss_one (ps_expr (pe_bm PySem.F.plainAttrs_list PySem.F.slot_list_extend PySem.F.type_list_extend mt_extend (pv 1) (pa_cons (C8.pe_c G_counted hr (by decide) (by rfl) (pa_cons (pe_fld (pv 0) rfl) pa_nil)) pa_nil))))
        pss_nil)
      (pss_cons (ps_if (pt_cmpR op_ne (pe_fld (pv 0) rfl) (C8.pe_gc (by rfl) T.c_DEL) (nomark _))
        (pss_one (ps_expr (pe_bm PySem.F.plainAttrs_list PySem.F.slot_list_extend PySem.F.type_list_extend mt_extend (pv 1) (pa_cons (C8.pe_c G_counted hr (by decide) (by rfl) (pa_cons (pe_fld (pv 0) rfl) pa_nil)) pa_nil))))
        pss_nil)
      (pss_one (ps_ret (pv 1))))))), ?_⟩
    obtain ⟨dx, pa, oa, na, h1, hpa, hoa, hna⟩ := id he
    walk_at "rd"
    refine rd_fld (anv_var rfl) h1 L.cls (L.nos _ (by simp)) rfl ?_
    walk_at "rd"
    refine ⟨by show 1 ≤ sizeLine; decide, fun p1 hp1 => ?_⟩
    have s1 := sm_new (o := .lst [V.int ((edKind e : Nat) : Int)]) hp1
    walk_at "rd"
    refine rd_fld (anv_var rfl) (s1 _ _ h1) L.cls (L.nos _ (by simp)) rfl ?_
    walk_at "rd"
    refine counted_tup (s1 _ _ hpa) (by omega) fun H2 r2 s2 _ hr2 => ?_
    refine ⟨p1, r2, _, _, rfl, rfl, s2 _ _ upd_same, hr2, by rw [List.length_map, listed_len]; show 1 + _ ≤ _; exact sz (by omega), fun an han => ?_⟩
    have s12 := s1.trans s2
    have hanH : H an = none := sm_free s12 han
    have s3 := sm_new (o := .lst ([V.int ((edKind e : Nat) : Int)] ++ (listed (pathE e)).map V.int)) han
    have sA := s12.trans s3
    have hA : (upd H2 an (.lst ([V.int ((edKind e : Nat) : Int)] ++ (listed (pathE e)).map V.int))) an = some (.lst ((((edKind e : Nat) : Int) :: listed (pathE e)).map V.int)) := upd_same
    generalize upd H2 an (.lst ([V.int ((edKind e : Nat) : Int)] ++ (listed (pathE e)).map V.int)) = H3 at sA hA ⊢
    have keep : ∀ {H' : Hp} {x : Addr} {u : HO}, Off H3 H' (fun y => y = an) → H x = some u → H' x = some u := fun {H' x u} o h => o _ _ (sA _ _ h) fun z => by
      have z : x = an := z
      rw [z, hanH] at h; cases h
    have sOf : ∀ {H' : Hp}, Off H3 H' (fun y => y = an) → Same H H' := fun o a u h => keep o h
    have zA : ((((edKind e : Nat) : Int) :: listed (pathE e))).length ≤ 1002 := by rw [List.length_cons, listed_len]; omega
    refine rd_name (rd_seq ?_)
    cases e with
    | move p q' => exact absurd rfl (nm p q')
    | add p l =>
      walk_at "rd"
      refine rd_fld (anv_var rfl) (sA _ _ h1) L.cls (L.nos _ (by simp)) rfl ?_
      walk_at "rd"
      refine rd_dec (fun c => absurd c (show ¬ ((0 : Nat) : Int) = 3 by decide)) (fun _ => ?_)
      walk_at "rd"
      refine rd_fld (anv_var rfl) (sA _ _ h1) L.cls (L.nos _ (by simp)) rfl ?_
      walk_at "rd"
      refine rd_ndec (fun c => absurd (show ((0 : Nat) : Int) = 0 from rfl) c) (fun _ => ?_)
      walk_at "rd"
      refine rd_fld (anv_var rfl) (sA _ _ h1) L.cls (L.nos _ (by simp)) rfl ?_
      walk_at "rd"
      refine rd_ndec (fun _ => ?_) (fun c => absurd c (show ¬ ((0 : Nat) : Int) = 1 by decide))
      refine told_ext rfl rfl (sA _ _ h1) L.cls (L.nos _ (by simp)) rfl (sA _ _ hna) hA (by omega) (by omega) fun H4 o4 h4 => ?_
      walk_at "rd"
      exact q H4 an (sOf o4) hanH (by rw [h4, told_add]; rfl)
    | del p l =>
      walk_at "rd"
      refine rd_fld (anv_var rfl) (sA _ _ h1) L.cls (L.nos _ (by simp)) rfl ?_
      walk_at "rd"
      refine rd_dec (fun c => absurd c (show ¬ ((1 : Nat) : Int) = 3 by decide)) (fun _ => ?_)
      walk_at "rd"
      refine rd_fld (anv_var rfl) (sA _ _ h1) L.cls (L.nos _ (by simp)) rfl ?_
      walk_at "rd"
      refine rd_ndec (fun _ => ?_) (fun c => absurd c (show ¬ ((1 : Nat) : Int) = 0 by decide))
      refine told_ext rfl rfl (sA _ _ h1) L.cls (L.nos _ (by simp)) rfl (sA _ _ hoa) hA (by omega) (by omega) fun H4 o4 h4 => ?_
      walk_at "rd"
      refine rd_fld (anv_var rfl) (keep o4 h1) L.cls (L.nos _ (by simp)) rfl ?_
      walk_at "rd"
      refine rd_ndec (fun c => absurd (show ((1 : Nat) : Int) = 1 from rfl) c) (fun _ => ?_)
      walk_at "rd"
      exact q H4 an (sOf o4) hanH (by rw [h4, told_del]; rfl)
    | hunk p i o n =>
      walk_at "rd"
      refine rd_fld (anv_var rfl) (sA _ _ h1) L.cls (L.nos _ (by simp)) rfl ?_
      walk_at "rd"
      refine rd_dec (fun _ => ?_) (fun c => absurd (show ((3 : Nat) : Int) = 3 from rfl) c)
      walk_at "rd"
      refine ⟨ty_lst hA, ?_⟩
      walk_at "rd"
      refine rd_fld (anv_var rfl) (sA _ _ h1) L.cls (L.nos _ (by simp)) rfl ?_
      walk_at "rd"
      refine rd_append hA (by rw [List.length_map]; exact szl (by omega)) ?_
      have o5 : Off H3 (upd H3 an (.lst ((((edKind (.hunk p i o n) : Nat) : Int) :: listed (pathE (.hunk p i o n))).map V.int ++ [V.int ((edPlace (.hunk p i o n) : Nat) : Int)]))) (fun y => y = an) := Off.upd rfl
      have h5 : (upd H3 an (.lst ((((edKind (.hunk p i o n) : Nat) : Int) :: listed (pathE (.hunk p i o n))).map V.int ++ [V.int ((edPlace (.hunk p i o n) : Nat) : Int)]))) an = some (.lst (((3 : Int) :: (listed p ++ [(i : Int)])).map V.int)) := by
        rw [upd_same]
        show some (HO.lst (V.int 3 :: (listed p).map V.int ++ [V.int (i : Int)])) = some (HO.lst (V.int 3 :: (listed p ++ [(i : Int)]).map V.int))
        rw [List.map_append]; rfl
      generalize upd H3 an (.lst ((((edKind (.hunk p i o n) : Nat) : Int) :: listed (pathE (.hunk p i o n))).map V.int ++ [V.int ((edPlace (.hunk p i o n) : Nat) : Int)])) = H5 at o5 h5 ⊢
      walk_at "rd"
      refine rd_fld (anv_var rfl) (keep o5 h1) L.cls (L.nos _ (by simp)) rfl ?_
      walk_at "rd"
      refine rd_ndec (fun _ => ?_) (fun c => absurd c (show ¬ ((3 : Nat) : Int) = 0 by decide))
      have zp : p.length ≤ 1000 := zp
      have zo : o.length ≤ 1000 := zo
      have zn : n.length ≤ 1000 := zn
      refine told_ext rfl rfl (keep o5 h1) L.cls (L.nos _ (by simp)) rfl (keep o5 hoa) h5 (by rw [List.length_cons, List.length_append, listed_len]; show p.length + 1 + 1 + 1 ≤ _; omega) (by show o.length ≤ _; omega) fun H6 o6 h6 => ?_
      have o56 := o5.trans o6
      walk_at "rd"
      refine rd_fld (anv_var rfl) (keep o56 h1) L.cls (L.nos _ (by simp)) rfl ?_
      walk_at "rd"
      refine rd_ndec (fun _ => ?_) (fun c => absurd c (show ¬ ((3 : Nat) : Int) = 1 by decide))
      refine told_ext rfl rfl (keep o56 h1) L.cls (L.nos _ (by simp)) rfl (keep o56 hna) h6 (by rw [List.length_append, List.length_cons, List.length_append, listed_len, listed_len]; show p.length + 1 + 1 + 1 + (o.length + 1) ≤ _; omega) (by show n.length ≤ _; omega) fun H7 o7 h7 => ?_
      walk_at "rd"
      refine q H7 an (sOf (o56.trans o7)) hanH ?_
      rw [h7, told_hunk]
      refine congrArg (fun x : List Int => some (HO.lst (x.map V.int))) ?_
      show (3 :: (listed p ++ [(i : Int)])) ++ listed o ++ listed n = 3 :: (listed p ++ ((i : Int) :: (listed o ++ listed n)))
      simp
theorem ed_short {t u : Tr} (gt : Good t) (gu : Good u) {e : Vamrqa.Edit} (h : e ∈ Vamrqa.formOf t u) : (pathE e).length ≤ 40 ∧ pathE e ≠ [] ∧ (edOld e).length ≤ 40 := by
  have pt : ∀ {w : Tr}, Good w → pathE e ∈ paths w → (pathE e).length ≤ 40 ∧ pathE e ≠ [] := fun {w} g hp => by
    obtain ⟨f, hf, ef⟩ := List.mem_map.mp hp
    have ef : f.path = pathE e := ef
    rw [← ef]; exact ⟨g.len f hf, g.full f hf⟩
  have r := form_right gt.ord gu.ord h
  cases e with
  | move p q => exact r.elim
  | add p l =>
    obtain ⟨a, b⟩ := pt gu (List.mem_map.mpr ⟨_, get_mem r.2, rfl⟩)
    exact ⟨a, b, Nat.zero_le _⟩
  | del p l =>
    obtain ⟨a, b⟩ := pt gt (List.mem_map.mpr ⟨_, get_mem r.1, rfl⟩)
    exact ⟨a, b, gt.short _ (get_mem r.1)⟩
  | hunk p i o n =>
    obtain ⟨l, m, r1, r2, r3⟩ := r
    obtain ⟨a, b⟩ := pt gt (List.mem_map.mpr ⟨_, get_mem r1, rfl⟩)
    refine ⟨a, b, ?_⟩
    obtain ⟨a, o', n', z, e1, e2, e3⟩ := hunk_ends l m
    rw [e3 p] at r3
    cases r3
    have zm : l.length ≤ 40 := gt.short _ (get_mem r1)
    rw [e1, List.length_append, List.length_append] at zm
    show o.length ≤ 40
    omega
theorem told_len {e : Vamrqa.Edit} (z1 : (pathE e).length ≤ 40) (z2 : (edOld e).length ≤ 40) (z3 : (edNew e).length ≤ 40) (nm : ∀ p q, e ≠ .move p q) : (editTold e).length ≤ 200 := by
  cases e with
  | move p q => exact absurd rfl (nm p q)
  | add p l =>
    have z1 : p.length ≤ 40 := z1
    have z3 : l.length ≤ 40 := z3
    rw [told_add, List.length_cons, List.length_append, listed_len, listed_len]; omega
  | del p l =>
    have z1 : p.length ≤ 40 := z1
    have z2 : l.length ≤ 40 := z2
    rw [told_del, List.length_cons, List.length_append, listed_len, listed_len]; omega
  | hunk p i o n =>
    have z1 : p.length ≤ 40 := z1
    have z2 : o.length ≤ 40 := z2
    have z3 : n.length ≤ 40 := z3
    rw [told_hunk, List.length_cons, List.length_append, List.length_cons, List.length_append, listed_len, listed_len, listed_len]; omega
abbrev sCEdits : Stmt := top 86
abbrev NCEdits : List Str := ["work", "reader", "i", "edits", "answer", "edit"]
theorem scCEdits : FnScope NCEdits ["work", "reader"] (defScope sCEdits) := ⟨rfl, rfl, rfl, by decide +kernel, rfl, by decide +kernel, by decide +kernel⟩
theorem ok_cEdits (F : Df K mg "call_edits" sCEdits) (T : Tx mg) (G_refusal : C8.Cal P w K mg base 1 "refusal" spRefusal []) (G_told : C8.Cal P w K mg base 2 "told" (spTold CE) []) (G_Work_has_change : C8.Met P w K mg base 2 CW "has_change" (spHasChange CW) []) (G_Work_edits_of : C8.Met P w K mg base 5 CW "edits_of" (spEditsOf CW CE) []) (G_Reader_take_number : C8.Met P w K mg base 1 CR "take_number" (spTakeNumber K CR) []) : C8.Cal P w K mg base 11 "call_edits" (spC K CW CR 14) [] := by
  refine F.cal scCEdits (fun _ _ _ _ _ _ us hl => match us, hl with | [_, _], _ => rfl) (fun vs H Q E h => ?_) (fun f cdv A outer s0 H vs Q E hr h => ?_)
  · obtain ⟨a, b, c, l, i, s, cl, rest, rfl, _⟩ := h
    rfl
  · obtain ⟨a, b, c, l, rest, i, s, x, rfl, nab, ok, hW, hR, hx, hd, q0⟩ := spC_10 rfl h
    refine ⟨_, (pss_cons (ps_set (i := 2) scCEdits.nd rfl (Or.inl rfl) (C8.pe_mt0 G_Reader_take_number hr (by decide) (pv 1)))
      (pss_cons (ps_if (pt_not (pt_val (C8.pe_mt G_Work_has_change hr (by decide) (pv 0) (pa_cons (pv 2) pa_nil))))
        (pss_one (ps_ret (C8.pe_c G_refusal hr (by decide) (by rfl) (pa_cons (C8.pe_gc (by rfl) T.c_NO_CHANGE) pa_nil))))
        pss_nil)
      (pss_cons (ps_set (i := 3) scCEdits.nd rfl (Or.inl rfl) (C8.pe_mt G_Work_edits_of hr (by decide) (pv 0) (pa_cons (pv 2) pa_nil)))
      (pss_cons (ps_set (i := 4) scCEdits.nd rfl (Or.inl rfl) (pe_lst (pa_cons (pe_callB call_lenS (by rfl) T.len PySem.boot_len (pa_cons (pv 3) pa_nil)) pa_nil)))
      (pss_cons (ps_for PassesOwn.never rfl (pi_list (pv 3)) (pg_name (i := 5) scCEdits.nd rfl (Or.inl rfl))
        (pss_one (ps_expr (pe_bm PySem.F.plainAttrs_list PySem.F.slot_list_extend PySem.F.type_list_extend mt_extend (pv 4) (pa_cons (C8.pe_c G_told hr (by decide) (by rfl) (pa_cons (pv 5) pa_nil)) pa_nil)))))
      (pss_one (ps_ret (pv 4)))))))), ?_⟩
    have e : VamrqdNeutral.step s [[14, x]] = ((Vamrqd.changeOf s x fun i => (s, Vamrqd.Answer.told (((s.stack.change i).length : Int) :: (s.stack.change i).flatMap editTold))).1, VamrqdNeutral.encode (Vamrqd.changeOf s x fun i => (s, Vamrqd.Answer.told (((s.stack.change i).length : Int) :: (s.stack.change i).flatMap editTold))).2) := rfl
    walk_at "rd"
    refine num_read rfl hR hx fun H1 o1 hR1 => ?_
    have hW1 := off_wk hW hR nab o1
    have P1 : Post K CW CR H H1 a b c l rest s := ⟨o1.mono fun y z => .inr z, hW1, i + 1, hR1, hd⟩
    walk_at "rd"
    refine an_has rfl hW1 (anv_var rfl) _ ?_
    walk_at "rd"
    cases hh : hasB s x with
    | false =>
      rw [change_no hh] at e
      refine iteT ?_
      walk_at "rd"
      refine ⟨1, rfl, fun p hp => ?_⟩
      exact ends_of q0 e _ p (P1.same (sm_new hp)) (P1.fresh hp) upd_same
    | true =>
      obtain ⟨n, rfl, n1, n2⟩ := hasB_nat hh
      rw [change_yes n1 n2] at e
      have q := ends_of q0 e
      refine iteF ?_
      walk_at "rd"
      obtain ⟨dx, da, ta, h1, h2, h3⟩ := id hW1
      refine anv_var rfl _ ⟨a, dx, _, rfl, h1, rfl, ?_⟩
      walk_at "rd"
      refine ⟨a, n, s.desk, trs s, rfl, hW1, ok.all, n1, by rw [trs_len]; omega, fun H2 r2 s2 hE => ?_⟩
      rw [← at_eq, ← at_eq] at hE
      have hE : LAt (EdA CE) H2 r2 (s.stack.change n) := hE
      have gb := at_good ok (n - 1)
      have gn := at_good ok n
      have P2 := P1.same s2
      have z24 : (s.stack.change n).length ≤ 24 := form_len gb gn
      obtain ⟨es, e1, e2⟩ := hE.obj
      walk_at "rd"
      refine rd_lenL (SqL.of e1) ?_
      rw [e2]
      walk_at "rd"
      refine ⟨by show 1 ≤ sizeLine; decide, fun an han => ?_⟩
      have s3 := sm_new (o := .lst [V.int ((s.stack.change n).length : Int)]) han
      have hE3 := hE.same (stays_ed CE) s3
      have hA : (upd H2 an (.lst [V.int ((s.stack.change n).length : Int)])) an = some (.lst [V.int ((s.stack.change n).length : Int)]) := upd_same
      have P3 := P2.same s3
      generalize upd H2 an (.lst [V.int ((s.stack.change n).length : Int)]) = H3 at s3 hE3 hA P3 ⊢
      obtain ⟨qs, q1, q2, q3⟩ := id hE3
      have lq : qs.length = (s.stack.change n).length := by rw [← q2, List.length_map]
      have nrA : r2 ≠ an := fun z => by rw [z, han] at e1; cases e1
      have sOf : ∀ {H' : Hp}, Off H3 H' (fun y => y = an) → Same H2 H' := fun o => o.same s3 fun x z => z ▸ han
      walk_at "rd"
      refine ⟨r2, rfl, ⟨_, SqL.of q1⟩, for_list (K := K) (a := r2) (xs := qs.map fun q => V.ref q.1) (fun j σ H' => ∃ v5 : Option V, σ = [some (.ref a), some (.ref b), some (nv n), some (.ref r2), some (.ref an), v5] ∧ Off H3 H' (fun y => y = an) ∧ H' an = some (.lst ((((s.stack.change n).length : Int) :: ((s.stack.change n).take j).flatMap editTold).map V.int))) ?_ ?_ ?_ ?_⟩
      · refine ⟨_, rfl, Off.refl _ _, ?_⟩
        rw [List.take_zero]; exact hA
      · rintro j σ H' hj ⟨v5, rfl, o, _⟩
        exact SqL.of (o _ _ q1 nrA)
      · rintro j z σ H' hz ⟨v5, rfl, o, hL⟩
        rw [List.getElem?_map] at hz
        obtain ⟨q', w1, w2⟩ := Option.map_eq_some_iff.mp hz
        subst w2
        have he : (s.stack.change n)[j]? = some q'.2 := by rw [← q2, List.getElem?_map, w1]; rfl
        have mem : q'.2 ∈ Vamrqa.formOf (s.stack.at_ (n - 1)) (s.stack.at_ n) := List.mem_of_getElem? he
        obtain ⟨zn, nm⟩ := edNew_short gb gn mem
        obtain ⟨zp, _, zo⟩ := ed_short gb gn mem
        have eA : EdA CE H' q'.1 q'.2 := (q3 _ (List.mem_of_getElem? w1)).off o hA
        have zi : (((s.stack.change n).take j).flatMap editTold).length ≤ 24 * 200 := by
          have := flat_len editTold 200 ((s.stack.change n).take j) fun x hx => by
            have hx' : x ∈ Vamrqa.formOf (s.stack.at_ (n - 1)) (s.stack.at_ n) := List.mem_of_mem_take hx
            obtain ⟨a1, a2⟩ := edNew_short gb gn hx'
            obtain ⟨b1, _, b2⟩ := ed_short gb gn hx'
            exact told_len b1 b2 a1 a2
          have l2 : ((s.stack.change n).take j).length ≤ 24 := by rw [List.length_take]; omega
          have := Nat.mul_le_mul_right 200 l2
          omega
        have zt := told_len zp zo zn nm
        walk_at "rd"
        refine ⟨ty_lst hL, ?_⟩
        walk_at "rd"
        refine ⟨q'.1, q'.2, rfl, eA, nm, by omega, by omega, by omega, fun H4 r4 s4 _ h4 => ?_⟩
        walk_at "rd"
        refine rd_extend (s4 _ _ hL) h4 (by rw [List.length_map, List.length_map, List.length_cons]; omega) ?_
        walk_at "rd"
        refine ⟨_, rfl, (o.trans (Off.of_same s4)).trans (Off.upd rfl), ?_⟩
        rw [upd_same, flat_more editTold he, ← List.map_append]; rfl
      · rintro σ H4 ⟨v5, rfl, o, hL⟩
        rw [List.length_map, lq, List.take_length] at hL
        walk_at "rd"
        exact q H4 an (P2.same (sOf o)) (P2.fresh han) hL
end
end Cs
-- CsCall7
/-! both, sizes. -/
namespace Cs
open PySem PySem.Spec PyProof.Rows L2
open Vamrqd (State carry Carried stopTold listed)
theorem both_is {s : State} (ok : Okay s) (i j : Nat) {ls : List (List Nat)} (hp : ls.Perm (((s.stack.change i).filter fun e => decide (pathE e ∈ (s.stack.change j).map pathE)).map pathE)) (hs : ls.Pairwise (fun p q => Vamrqa.lessPath q p = false)) : ls = s.stack.both i j := by
  have gi := at_good ok i
  have gi1 := at_good ok (i - 1)
  have gj := at_good ok j
  have gj1 := at_good ok (j - 1)
  have nd : ls.Nodup := by
    refine hp.nodup_iff.mpr ?_
    have h := form_nodup gi1.ord gi.ord
    exact (List.Sublist.map pathE (List.filter_sublist)).nodup h
  refine ord_ext (ord_of hs nd) (List.Pairwise.filter _ (touched_ord _)) fun p => ?_
  show _ ↔ p ∈ (Vamrqa.touched (s.stack.change i)).filter fun p => (Vamrqa.touched (s.stack.change j)).contains p
  rw [hp.mem_iff, List.mem_filter, List.mem_map]
  have t1 : p ∈ Vamrqa.touched (s.stack.change i) ↔ p ∈ (s.stack.change i).map pathE := touched_mem gi1.ord gi.ord p
  have t2 : p ∈ Vamrqa.touched (s.stack.change j) ↔ p ∈ (s.stack.change j).map pathE := touched_mem gj1.ord gj.ord p
  rw [t1, List.contains_iff_mem, t2]
  refine ⟨fun ⟨e, he, ep⟩ => ?_, fun ⟨h1, h2⟩ => ?_⟩
  · obtain ⟨a, b⟩ := List.mem_filter.mp he
    have b := of_decide_eq_true b
    rw [ep] at b
    exact ⟨List.mem_map.mpr ⟨e, a, ep⟩, b⟩
  · obtain ⟨e, a, ep⟩ := List.mem_map.mp h1
    exact ⟨e, List.mem_filter.mpr ⟨a, decide_eq_true (by rw [ep]; exact h2)⟩, ep⟩
section
variable {P : Program} {w : World} {K : PySem.W.Frag} {mg : Str → Option Value} {base : Heap} {CW CR CE : Addr}
abbrev sCBoth : Stmt := top 87
abbrev NCBoth : List Str := ["work", "reader", "i", "j", "named", "paths", "answer", "path", "edit"]
theorem scCBoth : FnScope NCBoth ["work", "reader"] (defScope sCBoth) := ⟨rfl, rfl, rfl, by decide +kernel, rfl, by decide +kernel, by decide +kernel⟩
theorem ok_cBoth (F : Df K mg "call_both" sCBoth) (T : Tx mg) (L : Kl K CE edNames) (G_refusal : C8.Cal P w K mg base 1 "refusal" spRefusal []) (G_counted : C8.Cal P w K mg base 1 "counted" (spCounted K) []) (G_Work_has_change : C8.Met P w K mg base 2 CW "has_change" (spHasChange CW) []) (G_Work_edits_of : C8.Met P w K mg base 5 CW "edits_of" (spEditsOf CW CE) []) (G_Reader_take_number : C8.Met P w K mg base 1 CR "take_number" (spTakeNumber K CR) []) : C8.Cal P w K mg base 11 "call_both" (spC K CW CR 15) [] := by
  refine F.cal scCBoth (fun _ _ _ _ _ _ us hl => match us, hl with | [_, _], _ => rfl) (fun vs H Q E h => ?_) (fun f cdv A outer s0 H vs Q E hr h => ?_)
  · obtain ⟨a, b, c, l, i, s, cl, rest, rfl, _⟩ := h
    rfl
  · obtain ⟨a, b, c, l, rest, i, s, x, y, rfl, nab, ok, hW, hR, hx, hy, hd, q0⟩ := spC_20 rfl h
    have hu65 := hu65_of hr
    refine ⟨_, (pss_cons (ps_set (i := 2) scCBoth.nd rfl (Or.inl rfl) (C8.pe_mt0 G_Reader_take_number hr (by decide) (pv 1)))
      (pss_cons (ps_set (i := 3) scCBoth.nd rfl (Or.inl rfl) (C8.pe_mt0 G_Reader_take_number hr (by decide) (pv 1)))
      (pss_cons (ps_if (PW.pt (pw_or (pt_not (pt_val (C8.pe_mt G_Work_has_change hr (by decide) (pv 0) (pa_cons (pv 2) pa_nil)))) (pw_or1 (pt_not (pt_val (C8.pe_mt G_Work_has_change hr (by decide) (pv 0) (pa_cons (pv 3) pa_nil)))))))
        (pss_one (ps_ret (C8.pe_c G_refusal hr (by decide) (by rfl) (pa_cons (C8.pe_gc (by rfl) T.c_NO_CHANGE) pa_nil))))
        pss_nil)
      (pss_cons (ps_set (i := 4) scCBoth.nd rfl (Or.inr rfl) (pe_lc (own := [("edit", 8)]) (g := gName 8) (tt := tYes) (te := tFld K (tVar 8) "path") (by rfl) scCBoth.nd (pi_list (C8.pe_mt G_Work_edits_of hr (by decide) (pv 0) (pa_cons (pv 3) pa_nil))) (blkOk_by (own := [("edit", 8)]) (N := NCBoth) (sc := defScope sCBoth) (by decide +kernel)) (fun _ _ _ _ _ => pg_name (i := 8) scCBoth.nd rfl (Or.inl rfl)) (fun _ _ _ _ _ => pts_nil) (fun _ _ _ _ _ => (pe_fld (pv 8) rfl))))
      (pss_cons (ps_set (i := 5) scCBoth.nd rfl (Or.inl rfl) (pe_callB (cr_sortedL) (by rfl) T.sorted (by decide +kernel) (pa_cons (pe_lc (own := [("edit", 8)]) (g := gName 8) (tt := tTest (tOp (rInD K) (tFld K (tVar 8) "path") (tVar 4))) (te := tFld K (tVar 8) "path") (by rfl) scCBoth.nd (pi_list (C8.pe_mt G_Work_edits_of hr (by decide) (pv 0) (pa_cons (pv 2) pa_nil))) (blkOk_by (own := [("edit", 8)]) (N := NCBoth) (sc := defScope sCBoth) (by decide +kernel)) (fun _ _ _ _ _ => pg_name (i := 8) scCBoth.nd rfl (Or.inl rfl)) (fun _ _ _ _ _ => pts_one (pt_cmpR (op_inD hu65) (pe_fld (pv 8) rfl) (pv 4) (by rfl))) (fun _ _ _ _ _ => (pe_fld (pv 8) rfl))) pa_nil)))
      (pss_cons (ps_set (i := 6) scCBoth.nd rfl (Or.inl rfl) (pe_lst (pa_cons (pe_callB call_lenS (by rfl) T.len PySem.boot_len (pa_cons (pv 5) pa_nil)) pa_nil)))
      (pss_cons (ps_for PassesOwn.never rfl (pi_list (pv 5)) (pg_name (i := 7) scCBoth.nd rfl (Or.inl rfl))
        (pss_one (ps_expr (pe_bm PySem.F.plainAttrs_list PySem.F.slot_list_extend PySem.F.type_list_extend mt_extend (pv 6) (pa_cons (C8.pe_c G_counted hr (by decide) (by rfl) (pa_cons (pv 7) pa_nil)) pa_nil)))))
      (pss_one (ps_ret (pv 6)))))))))), ?_⟩
    have e : VamrqdNeutral.step s [[15, x, y]] = ((Vamrqd.changeOf s x fun i => Vamrqd.changeOf s y fun j => (s, Vamrqd.Answer.told (((s.stack.both i j).length : Int) :: (s.stack.both i j).flatMap listed))).1, VamrqdNeutral.encode (Vamrqd.changeOf s x fun i => Vamrqd.changeOf s y fun j => (s, Vamrqd.Answer.told (((s.stack.both i j).length : Int) :: (s.stack.both i j).flatMap listed))).2) := rfl
    walk_at "rd"
    refine num_read rfl hR hx fun H0 o0 hR0 => ?_
    have hW0 := off_wk hW hR nab o0
    walk_at "rd"
    refine num_read rfl hR0 hy fun H1 o1 hR1 => ?_
    have hW1 := off_wk hW0 hR0 nab o1
    have P1 : Post K CW CR H H1 a b c l rest s := ⟨(o0.trans o1).mono fun y z => .inr z, hW1, i + 1 + 1, hR1, hd⟩
    have tst : An (tOr (tNot (tB (tMeth CW "has_change" (spHasChange CW) [] C8.E0 (tVar 0) (tCons (tVar 2) tNil)))) (tNot (tB (tMeth CW "has_change" (spHasChange CW) [] C8.E0 (tVar 0) (tCons (tVar 3) tNil))))) [some (.ref a), some (.ref b), some (.int x), some (.int y), none, none, none, none, none] H1 (!hasB s x || !hasB s y) :=
      an_or (an_not (an_B (an_has rfl hW1 (anv_var rfl)))) fun _ => an_not (an_B (an_has rfl hW1 (anv_var rfl)))
    refine rd_name (rd_seq (rd_if (an_use tst ?_)))
    refine rd_cond (fun g => ?_) (fun g => ?_)
    · have e' : VamrqdNeutral.step s [[15, x, y]] = (s, [-1]) := by
        cases hh : hasB s x with
        | false => rw [e, change_no hh]; rfl
        | true =>
          obtain ⟨n, rfl, n1, n2⟩ := hasB_nat hh
          rw [hh] at g
          have hy : hasB s y = false := by simpa using g
          rw [e, change_yes n1 n2, change_no hy]; rfl
      walk_at "rd"
      refine ⟨1, rfl, fun p hp => ?_⟩
      exact ends_of q0 e' _ p (P1.same (sm_new hp)) (P1.fresh hp) upd_same
    · rw [Bool.or_eq_false_iff, Bool.not_eq_false', Bool.not_eq_false'] at g
      obtain ⟨n, rfl, n1, n2⟩ := hasB_nat g.1
      obtain ⟨m, rfl, m1, m2⟩ := hasB_nat g.2
      rw [change_yes n1 n2, change_yes m1 m2] at e
      have q := ends_of q0 e
      obtain ⟨dx, da, ta, h1, h2, h3⟩ := id hW1
      have gn := at_good ok n
      have gn1 := at_good ok (n - 1)
      have gm := at_good ok m
      have gm1 := at_good ok (m - 1)
      have z24 : (s.stack.change n).length ≤ 24 := form_len gn1 gn
      have z24m : (s.stack.change m).length ≤ 24 := form_len gm1 gm
      walk_at "rd"
      refine anv_var rfl _ ⟨a, dx, _, rfl, h1, rfl, ?_⟩
      walk_at "rd"
      refine ⟨a, m, s.desk, trs s, rfl, hW1, ok.all, m1, by rw [trs_len]; omega, fun H2 r2 s2 hE => ?_⟩
      rw [← at_eq, ← at_eq] at hE
      have hE : LAt (EdA CE) H2 r2 (s.stack.change m) := hE
      obtain ⟨es, e1, e2⟩ := hE.obj
      refine ⟨r2, rfl, ⟨_, SqL.of e1⟩, fun D hD => ?_⟩
      refine lc_list (stays_ed CE) stays_tup (fun _ => true) pathE hE hD (by omega) (fun _ => rfl) (fun a' x' H' _ s' at' => ?_) (fun a' x' H' hx' s' at' _ R r => ?_) fun H3 s3 hN => ?_
      · exact fun R r => rd_yes r
      · obtain ⟨dx', pa', oa', na', k1, k2, _⟩ := at'
        exact rd_fld (anv_var rfl) k1 L.cls (L.nos _ (by simp)) rfl (r H' pa' (Same.refl _) k2)
      · have hN : LAt TupA H3 D ((s.stack.change m).map pathE) := by
          have : (s.stack.change m).filter (fun _ => true) = s.stack.change m := List.filter_eq_self.mpr fun _ _ => rfl
          rw [this] at hN; exact hN
        have s13 := s2.trans s3
        walk_at "rd"
        refine anv_var rfl _ ⟨a, dx, _, rfl, s13 _ _ h1, rfl, ?_⟩
        walk_at "rd"
        refine ⟨a, n, s.desk, trs s, rfl, hW1.same s13, ok.all, n1, by rw [trs_len]; omega, fun H4 r4 s4 hE4 => ?_⟩
        rw [← at_eq, ← at_eq] at hE4
        have hE4 : LAt (EdA CE) H4 r4 (s.stack.change n) := hE4
        obtain ⟨es4, e41, e42⟩ := hE4.obj
        have hN4 := hN.same stays_tup s4
        refine ⟨r4, rfl, ⟨_, SqL.of e41⟩, fun D4 hD4 => ?_⟩
        refine lc_list (stays_ed CE) stays_tup (fun ed => decide (pathE ed ∈ (s.stack.change m).map pathE)) pathE hE4 hD4 (by omega) (fun _ => rfl) (fun a' x' H' _ s' at' => ?_) (fun a' x' H' hx' s' at' _ R r => ?_) fun H5 s5 hS => ?_
        · obtain ⟨dx', pa', oa', na', k1, k2, _⟩ := at'
          refine an_test fun R r => ?_
          exact rd_op (rd_fld (anv_var rfl) k1 L.cls (L.nos _ (by simp)) rfl (rd_var rfl (rd_inTs (SqT.of k2) (hN4.same stays_tup s') r)))
        · obtain ⟨dx', pa', oa', na', k1, k2, _⟩ := at'
          exact rd_fld (anv_var rfl) k1 L.cls (L.nos _ (by simp)) rfl (r H' pa' (Same.refl _) k2)
        · have s15 := (s13.trans s4).trans s5
          have P5 := P1.same s15
          have zS : (((s.stack.change n).filter fun ed => decide (pathE ed ∈ (s.stack.change m).map pathE)).map pathE).length ≤ 24 := by
            rw [List.length_map]
            exact Nat.le_trans (List.length_filter_le _ _) z24
          have prop : ∀ p ∈ ((s.stack.change n).filter fun ed => decide (pathE ed ∈ (s.stack.change m).map pathE)).map pathE, p.length ≤ 40 ∧ p ≠ [] := fun p hp => by
            obtain ⟨ed, he, ep⟩ := List.mem_map.mp hp
            obtain ⟨z1, z2, _⟩ := ed_short gn1 gn (List.mem_filter.mp he).1
            rw [← ep]; exact ⟨z1, z2⟩
          walk_at "rd"
          refine ⟨D4, _, rfl, hS, by omega, fun p hp => (prop p hp).2, fun c6 H6 ls s6 hc6 pm pw hL6 => ?_⟩
          have zls : ls.length ≤ 24 := by rw [pm.length_eq]; exact zS
          have small : ∀ p ∈ ls, p.length ≤ 40 := fun p hp => (prop p (pm.mem_iff.mp hp)).1
          have el := both_is ok n m pm pw
          rw [← el] at q
          have P6 := P5.same s6
          obtain ⟨xs6, x61, x62⟩ := hL6.obj
          walk_at "rd"
          refine rd_lenL (SqL.of x61) ?_
          rw [x62]
          walk_at "rd"
          refine ⟨by show 1 ≤ sizeLine; decide, fun an han => ?_⟩
          have s7 := sm_new (o := .lst [V.int (ls.length : Int)]) han
          have hA : (upd H6 an (.lst [V.int (ls.length : Int)])) an = some (.lst [V.int (ls.length : Int)]) := upd_same
          have hL7 := hL6.same stays_tup s7
          generalize upd H6 an (.lst [V.int (ls.length : Int)]) = H7 at s7 hA hL7 ⊢
          obtain ⟨qs, q1, q2, q3⟩ := id hL7
          have lq : qs.length = ls.length := by rw [← q2, List.length_map]
          have ncA : c6 ≠ an := fun z => by rw [z, han] at x61; cases x61
          have sOf : ∀ {H' : Hp}, Off H7 H' (fun y => y = an) → Same H6 H' := fun o => o.same s7 fun x z => z ▸ han
          have tOf : ∀ {H' : Hp} {a : Addr} {l : List V}, Off H7 H' (fun y => y = an) → H7 a = some (.tup l) → H' a = some (.tup l) := fun {H' a l} o h => o _ _ h fun z => by
            have z : a = an := z
            rw [z, hA] at h; cases h
          walk_at "rd"
          refine ⟨c6, rfl, ⟨_, SqL.of q1⟩, for_list (K := K) (a := c6) (xs := qs.map fun q => V.ref q.1) (fun j σ H' => ∃ v7 v8 : Option V, σ = [some (.ref a), some (.ref b), some (nv n), some (nv m), some (.ref D), some (.ref c6), some (.ref an), v7, v8] ∧ Off H7 H' (fun y => y = an) ∧ H' an = some (.lst (((ls.length : Int) :: (ls.take j).flatMap listed).map V.int))) ?_ ?_ ?_ ?_⟩
          · refine ⟨_, _, rfl, Off.refl _ _, ?_⟩
            rw [List.take_zero]; exact hA
          · rintro j σ H' hj ⟨v7, v8, rfl, o, _⟩
            exact SqL.of (o _ _ q1 ncA)
          · rintro j z σ H' hz ⟨v7, v8, rfl, o, hL⟩
            rw [List.getElem?_map] at hz
            obtain ⟨q', w1, w2⟩ := Option.map_eq_some_iff.mp hz
            subst w2
            have he : ls[j]? = some q'.2 := by rw [← q2, List.getElem?_map, w1]; rfl
            have mem := List.mem_of_getElem? he
            have hq : TupA H' q'.1 q'.2 := tOf o (q3 _ (List.mem_of_getElem? w1))
            have zi : ((ls.take j).flatMap listed).length ≤ 24 * 41 := by
              have := flat_len listed 41 (ls.take j) fun x hx => by
                rw [listed_len]
                have := small x (List.mem_of_mem_take hx)
                omega
              have l2 : (ls.take j).length ≤ 24 := by rw [List.length_take]; omega
              have := Nat.mul_le_mul_right 41 l2
              omega
            have zq := small _ mem
            walk_at "rd"
            refine ⟨ty_lst hL, ?_⟩
            walk_at "rd"
            refine counted_tup hq (by omega) fun H8 r8 s8 _ h8 => ?_
            walk_at "rd"
            refine rd_extend (s8 _ _ hL) h8 (by rw [List.length_map, List.length_map, List.length_cons, listed_len]; omega) ?_
            walk_at "rd"
            refine ⟨_, _, rfl, (o.trans (Off.of_same s8)).trans (Off.upd rfl), ?_⟩
            rw [upd_same, flat_more listed he, ← List.map_append]; rfl
          · rintro σ H8 ⟨v7, v8, rfl, o, hL⟩
            rw [List.length_map, lq, List.take_length] at hL
            walk_at "rd"
            exact q H8 an (P6.same (sOf o)) (P6.fresh han) hL
abbrev sCSizes : Stmt := top 88
abbrev NCSizes : List Str := ["work", "reader", "i"]
theorem scCSizes : FnScope NCSizes ["work", "reader"] (defScope sCSizes) := ⟨rfl, rfl, rfl, by decide +kernel, rfl, by decide +kernel, by decide +kernel⟩
theorem ok_cSizes (F : Df K mg "call_sizes" sCSizes) (T : Tx mg) (G_counted : C8.Cal P w K mg base 1 "counted" (spCounted K) []) (G_Work_changes : C8.Met P w K mg base 1 CW "changes" (spChanges CW) []) (G_Work_edits_of : C8.Met P w K mg base 5 CW "edits_of" (spEditsOf CW CE) []) : C8.Cal P w K mg base 11 "call_sizes" (spC K CW CR 16) [] := by
  refine F.cal scCSizes (fun _ _ _ _ _ _ us hl => match us, hl with | [_, _], _ => rfl) (fun vs H Q E h => ?_) (fun f cdv A outer s0 H vs Q E hr h => ?_)
  · obtain ⟨a, b, c, l, i, s, cl, rest, rfl, _⟩ := h
    rfl
  · obtain ⟨a, b, c, l, rest, s, rfl, nab, ok, P0, q0⟩ := spC_00 rfl h
    have q := ends_of (s' := s) (ans := (s.stack.afters.length : Int) :: (List.range s.stack.afters.length).map fun i => ((s.stack.change (i + 1)).length : Int)) q0 rfl
    refine ⟨_, (pss_one (ps_ret (C8.pe_c G_counted hr (by decide) (by rfl) (pa_cons (pe_lc (own := [("i", 2)]) (g := gName 2) (tt := tYes) (te := tCB (rLenS K) (tCons (tMeth CW "edits_of" (spEditsOf CW CE) [] C8.E0 (tVar 0) (tCons (tOp (rI0 fun i j => .int (i + j)) (tVar 2) (tC (.int 1))) tNil)) tNil)) (by rfl) scCSizes.nd (pi_range1 (by rfl) T.range (pa_cons (C8.pe_mt0 G_Work_changes hr (by decide) (pv 0)) pa_nil)) (blkOk_by (own := [("i", 2)]) (N := NCSizes) (sc := defScope sCSizes) (by decide +kernel)) (fun _ _ _ _ _ => pg_name (i := 2) scCSizes.nd rfl (Or.inl rfl)) (fun _ _ _ _ _ => pts_nil) (fun _ _ _ _ _ => (pe_callB call_lenS (by rfl) T.len PySem.boot_len (pa_cons (C8.pe_mt G_Work_edits_of hr (by decide) (pv 0) (pa_cons (pe_op op_add (pv 2) pe_int) pa_nil)) pa_nil)))) pa_nil)))), ?_⟩
    obtain ⟨dx, da, ta, h1, h2, h3⟩ := id P0.wk
    have zf := ok.few
    walk_at "rd"
    refine anv_changes rfl P0.wk _ ?_
    refine ⟨(s.stack.afters.length : Int), rfl, by omega, by omega, fun D hD => ?_⟩
    have en : ((s.stack.afters.length : Int)).toNat = s.stack.afters.length := rfl
    rw [en]
    refine lc_ints (walk_range (lo := 0) (n := s.stack.afters.length)) (fun i => ((s.stack.change (i + 1)).length : Int)) (by omega) hD (fun _ => rfl) (fun _ _ => trivial) (fun i H' x H2 _ _ y => y.1) (fun i x H' hi s' y R r => ?_) (fun H' s' hl => ?_)
    · obtain ⟨_, rfl⟩ := y
      have P1 := P0.same s'
      walk_at "rd"
      refine anv_var rfl _ ⟨a, dx, _, rfl, s' _ _ h1, rfl, ?_⟩
      walk_at "rd"
      refine ⟨a, i + 1, s.desk, trs s, ?_, P1.wk, ok.all, by omega, by rw [trs_len]; omega, fun H4 r4 s4 hE => ?_⟩
      · show [V.ref a, V.int ((0 : Int) + (i : Nat) + 1)] = [V.ref a, nv (i + 1)]
        have : (0 : Int) + (i : Nat) + 1 = ((i + 1 : Nat) : Int) := by omega
        rw [this]
      · rw [← at_eq, ← at_eq] at hE
        have hE : LAt (EdA CE) H4 r4 (s.stack.change (i + 1)) := hE
        obtain ⟨es, e1, e2⟩ := hE.obj
        refine rd_lenL (SqL.of e1) ?_
        rw [e2]
        exact r H4 s4
    · walk_at "rd"
      refine ⟨D, _, rfl, .inl (SqL.of hl), by rw [List.length_map, List.length_range]; omega, fun H2 r s2 fr h4 => ?_⟩
      refine q H2 r (P0.same (s'.trans s2)) ((P0.same s').fresh fr) ?_
      rw [h4, List.length_map, List.length_range]
end
end Cs
-- CsAnswers
/-! The calls one behind another. -/
namespace Cs
open PySem PySem.Spec PyProof.Rows L2
open Vamrqd (State)
/-- a call of one of several defs, by the slot that holds its address -/
def tCallI {ι : Type} (i : Nat) (fs : ι → Addr) (sp : ι → Sp) (t : TA) : TE := fun σ H Q => ∃ n, σ[i]? = some (some (.ref (fs n))) ∧ t σ H fun vs H1 => sp n vs H1 Q (fun _ _ _ => False)
section
variable {X : Cx} {k i : Nat} {ι : Type} {fs : ι → Addr} {sp : ι → Sp} {x : Str} {p pos : Pos} {e : Expr} {es : List Expr} {t : TA}
theorem pe_callI (CA : ∀ n, C8.CalAt X.prog X.w X.K X.mg X.base k (fs n) (sp n)) (hr : Room k X.A) (hN : X.N[i]? = some x) (hv : Vis X.env.scope x) (ha : PA X (e :: es) t)
    (hdb : (x == ("__debug__" : Str)) = false := by decide) (hcd : (x == ("__classdict__" : Str)) = false := by decide)
    (he : starEach (e :: es) X.env = (false, eval e X.env) :: starEach es X.env := by rfl) (hpl : (backTo pos (starEach es X.env)).any (·.1) = false := by rfl) : PE X (.Call (.Name x p) (e :: es) [] pos) (tCallI i fs sp t) := by
  refine ⟨fun pins s σ H Q I ⟨n, hs, ht⟩ => ?_⟩
  obtain ⟨fd, ps, F, kp, hb⟩ := (CA n).ex
  refine (pe_callL (i := i) (f := fs n) (sp := sp n) (dvs := []) (E := fun _ _ _ => False) F hr hN hv kp hb .nil (fun _ _ _ _ _ _ _ z => z.elim) ha hdb hcd he hpl).run pins s σ H Q I ⟨hs, ?_⟩
  simp only [List.append_nil]
  exact ht
end
/-- the list of answers may change: the state and the reader stay -/
theorem wk_lst {C : Addr} {H H' : Hp} {a an : Addr} {desk : Tr} {ts : List Tr} {ns : List Int} (h : WkA C H a desk ts) (o : Off H H' (fun y => y = an)) (hA : H an = some (.lst (ns.map V.int))) (pos : ts ≠ []) : WkA C H' a desk ts := by
  obtain ⟨dx, da, ta, h1, h2, h3⟩ := h
  have nt : ∀ y, y = an → ∀ ys, H y ≠ some (.tup ys) := fun y e ys z => by
    rw [e, hA] at z; cases z
  have tr : ∀ {d : Addr} {t : Tr}, TreeAt H d t → TreeAt H' d t := fun {d t} ht => ht.off o (fun e => by
    obtain ⟨kvs, k⟩ := ht.obj
    have e : d = an := e
    rw [e, hA] at k; cases k) nt
  refine ⟨dx, da, ta, o _ _ h1 (fun e => ?_), tr h2, ?_⟩
  · have e : a = an := e
    rw [e, hA] at h1; cases h1
  · obtain ⟨qs, x, b, c⟩ := h3
    refine ⟨qs, o _ _ x fun e => ?_, b, fun q hq => tr (c q hq)⟩
    have e : ta = an := e
    rw [e, hA] at x
    cases qs with
    | nil => exact pos b.symm
    | cons q qs =>
      have x : ns.map V.int = V.ref q.1 :: qs.map (fun q => V.ref q.1) := HO.lst.inj (Option.some.inj x)
      cases ns with
      | nil => cases x
      | cons n ns => cases x
theorem rd_lst_off {K : PySem.W.Frag} {C : Addr} {H H' : Hp} {b c an : Addr} {l : List Int} {i : Nat} {xs : List V} (h : RdA K C H b c l i) (o : Off H H' (fun y => y = an)) (hA : H an = some (.lst xs)) (n : c ≠ an ∨ ∀ H, SqL K H c (l.map V.int)) : RdA K C H' b c l i := by
  obtain ⟨dx, h1, h2⟩ := h
  refine ⟨dx, o _ _ h1 (fun e => ?_), ?_⟩
  · have e : b = an := e
    rw [e, hA] at h1; cases h1
  · rcases n with n | n
    · rcases h2 with (h2 | ⟨q, h2⟩) | h2
      · exact .inl (.inl (o _ _ h2 n))
      · exact .inl (.inr ⟨q, o _ _ h2 n⟩)
      · exact .inr h2
    · exact n H'
theorem sql_far {K : PySem.W.Frag} {H : Hp} {c an : Addr} {xs : List V} (h : SqL K H c xs) (hn : H an = none) : c ≠ an ∨ ∀ H, SqL K H c xs := by
  rcases h with (h | ⟨q, h⟩) | h
  · exact .inl fun e => by rw [e, hn] at h; cases h
  · exact .inl fun e => by rw [e, hn] at h; cases h
  · exact .inr fun _ => .inr h
/-- the table of the calls -/
structure Tbl (K : PySem.W.Frag) (mg : Str → Option Value) (p : Addr) (as : List Addr) : Prop where
  gl : ∃ u, mg "CALLS" = some u ∧ RelV (.ref p) u
  seq : ∀ H, SqT K H p (as.map V.ref)
  len : as.length = 17
theorem calAt_of {P : Program} {w : World} {K : PySem.W.Frag} {mg : Str → Option Value} {base : Heap} {k : Nat} {x : Str} {sp : Sp} {a : Addr} (c : C8.Cal P w K mg base k x sp []) (h : mg x = some (.ref a)) : C8.CalAt P w K mg base k a sp := by
  obtain ⟨f, fd, ps, ds, F, g, kp, b, v⟩ := c.ex
  cases v
  have e := g.symm.trans h
  cases e
  exact ⟨fd, ps, F, kp, b⟩
theorem shape_fin {k : Int} {x : Nat × Nat} (h : PyVamrqd.shape k = some x) : ∃ n : Fin 17, k = ((n.val : Nat) : Int) := by
  by_cases c : 0 ≤ k ∧ k < 17
  · exact ⟨⟨k.toNat, by omega⟩, by show k = ((k.toNat : Nat) : Int); omega⟩
  · exfalso
    unfold PyVamrqd.shape at h
    rw [if_neg (by omega), if_neg (by omega), if_neg (by omega), if_neg (by omega), if_neg (by omega), if_neg (by omega), if_neg (by omega), if_neg (by omega), if_neg (by omega), if_neg (by omega), if_neg (by omega), if_neg (by omega), if_neg (by omega), if_neg (by omega), if_neg (by omega), if_neg (by omega), if_neg (by omega)] at h
    cases h
theorem call_shape {k : Int} {r rest : List Int} {cl : List (List Int)} (h : PyFlat.call PyVamrqd.shape (k :: r) = some (cl, rest)) : ∃ x, PyVamrqd.shape k = some x := by
  cases e : PyVamrqd.shape k with
  | some x => exact ⟨x, rfl⟩
  | none =>
    have h : (match PyVamrqd.shape k with
      | none => none
      | some (n, m) => if r.length < n then none else match PyFlat.rows m (r.drop n) with
        | none => none
        | some (xs, t) => some ((k :: r.take n) :: xs, t)) = some (cl, rest) := h
    rw [e] at h; cases h
theorem calls_next {f : Nat} {k : Int} {r : List Int} {cs : List (List (List Int))} (h : PyFlat.calls PyVamrqd.shape f (k :: r) = some cs) : ∃ f' c t cs', PyFlat.call PyVamrqd.shape (k :: r) = some (c, t) ∧ PyFlat.calls PyVamrqd.shape f' t = some cs' ∧ cs = c :: cs' := by
  cases f with
  | zero => cases h
  | succ f =>
    have h : (match PyFlat.call PyVamrqd.shape (k :: r) with
      | none => none
      | some (c, t) => match PyFlat.calls PyVamrqd.shape f t with
        | none => none
        | some cs => some (c :: cs)) = some cs := h
    cases e : PyFlat.call PyVamrqd.shape (k :: r) with
    | none => rw [e] at h; cases h
    | some x =>
      obtain ⟨c, t⟩ := x
      rw [e] at h
      have h : (match PyFlat.calls PyVamrqd.shape f t with
        | none => none
        | some cs => some (c :: cs)) = some cs := h
      cases e2 : PyFlat.calls PyVamrqd.shape f t with
      | none => rw [e2] at h; cases h
      | some cs' =>
        rw [e2] at h
        cases h
        exact ⟨f, c, t, cs', rfl, e2, rfl⟩
theorem calls_nil {f : Nat} {cs : List (List (List Int))} (h : PyFlat.calls PyVamrqd.shape f [] = some cs) : cs = [] := by
  cases f <;> (cases h; rfl)
theorem map_whole (cs : List (List (List Int))) : cs.map PyVamrqd.whole = cs := by
  induction cs with
  | nil => rfl
  | cons c cs ih => rw [List.map_cons, whole_id, ih]
/-- what is asked, as the loop wants it -/
theorem asked_is {ns : List Int} (h : PyVamrqd.answers_asked ns = true) : ∃ cs, PyFlat.calls PyVamrqd.shape ns.length ns = some cs ∧ PyInside.calls PyVamrqd.bound cs = true ∧ PyVamrqd.answers ns = PyFlat.told (PyFlat.played VamrqdNeutral.step VamrqdNeutral.start cs) ∧ (PyVamrqd.answers ns).length ≤ 10000000 := by
  unfold PyVamrqd.answers_asked at h
  cases e : PyFlat.calls PyVamrqd.shape ns.length ns with
  | none => rw [e] at h; cases h
  | some cs =>
    rw [e] at h
    simp only [Bool.and_eq_true] at h
    refine ⟨cs, rfl, h.1.1.2, ?_, of_decide_eq_true h.2⟩
    unfold PyVamrqd.answers PyVamrqd.calls
    rw [e]
    show PyFlat.told (PyFlat.played VamrqdNeutral.step VamrqdNeutral.start (cs.map PyVamrqd.whole)) = _
    rw [map_whole]
def spAns (K : PySem.W.Frag) : L2.Sp := fun vs H Q _ => ∃ (a : Addr) (ns : List Int), vs = [.ref a] ∧ SqL K H a (ns.map V.int) ∧ PyVamrqd.answers_asked ns = true ∧
  ∀ (H' : L2.Hp) (p : Addr), H' p = some (.lst ((PyVamrqd.answers ns).map V.int)) → Q (.ref p) H'
section
variable {P : Program} {w : World} {K : PySem.W.Frag} {mg : Str → Option Value} {base : Heap} {CW CR CE : Addr}
abbrev sAnswers : Stmt := top 90
abbrev NAnswers : List Str := ["calls", "reader", "work", "answered", "call", "answer"]
theorem scAnswers : FnScope NAnswers ["calls"] (defScope sAnswers) := ⟨rfl, rfl, rfl, by decide +kernel, rfl, by decide +kernel, by decide +kernel⟩
theorem ok_answers {pt : Addr} {as : List Addr} (F : Df K mg "answers" sAnswers) (T : Tx mg) (B : Tbl K mg pt as) (CA : ∀ n : Fin 17, C8.CalAt P w K mg base 11 (as.getD n.val 0) (spC K CW CR ((n.val : Nat) : Int))) (G_Reader : C8.Mak P w K mg base 1 "Reader" CR (spRdInit K CR) []) (G_Work : C8.Mak P w K mg base 1 "Work" CW (spWkInit CW) [])
    (G_Reader_is_done : C8.Met P w K mg base 1 CR "is_done" (spIsDone K CR) []) (G_Reader_take_number : C8.Met P w K mg base 1 CR "take_number" (spTakeNumber K CR) []) : Body P w K mg base "answers" sAnswers NAnswers 11 (spAns K) := by
  intro f cdv A outer s0 H vs Q E hr h
  · obtain ⟨c, l, rfl, hc, hask, q⟩ := h
    obtain ⟨cs0, hcs, hin, hans, zans⟩ := asked_is hask
    have c_CALLS := B.gl
    refine ⟨_, (pss_cons (ps_set (i := 1) scAnswers.nd rfl (Or.inl rfl) (C8.pe_mk G_Reader hr (by decide) (by rfl) (pa_cons (pv 0) pa_nil)))
      (pss_cons (ps_set (i := 2) scAnswers.nd rfl (Or.inl rfl) (Cs.pe_mk0 G_Work hr (by decide) (by rfl)))
      (pss_cons (ps_set (i := 3) scAnswers.nd rfl (Or.inl rfl) (pe_lst pa_nil))
      (pss_cons (ps_while PassesOwn.never (pt_not (pt_val (C8.pe_mt0 G_Reader_is_done hr (by decide) (pv 1))))
        (pss_cons (ps_set (i := 4) scAnswers.nd rfl (Or.inl rfl) (pe_ix ix_tup (C8.pe_gc (by rfl) c_CALLS) (C8.pe_mt0 G_Reader_take_number hr (by decide) (pv 1)) (fun _ _ => rfl)))
        (pss_cons (ps_set (i := 5) scAnswers.nd rfl (Or.inl rfl) (Cs.pe_callI (i := 4) CA hr (by rfl) (by first | exact Or.inl rfl | exact Or.inr (Or.inl rfl)) (pa_cons (pv 2) (pa_cons (pv 1) pa_nil))))
        (pss_cons (ps_expr (pe_bm PySem.F.plainAttrs_list PySem.F.slot_list_append PySem.F.type_list_append mt_append (pv 3) (pa_cons (pe_callB call_lenS (by rfl) T.len PySem.boot_len (pa_cons (pv 5) pa_nil)) pa_nil)))
        (pss_one (ps_expr (pe_bm PySem.F.plainAttrs_list PySem.F.slot_list_extend PySem.F.type_list_extend mt_extend (pv 3) (pa_cons (pv 5) pa_nil))))))))
      (pss_one (ps_ret (pv 3))))))), ?_⟩
    walk_at "rd"
    refine rd_make ?_
    walk_at "rd"
    refine fun rd_ dr hrd hdr nrd => ⟨rd_, dr, c, l, rfl, upd_same, ?_, fun H1 o1 hR1 => ⟨rfl, ?_⟩⟩
    · exact sql_same hc fun y u hy => by rw [upd_ne (ne_of_none hy hrd), upd_ne (ne_of_none hy hdr)]; exact hy
    obtain ⟨dxr, r1, _⟩ := id hR1
    walk_at "rd"
    refine rd_make ?_
    walk_at "rd"
    refine fun wk dw hwk hdw nwk => ⟨wk, dw, rfl, upd_same, fun H2 o2 hW2 => ⟨rfl, ?_⟩⟩
    have nrw : wk ≠ rd_ := fun e => by rw [e, r1] at hwk; cases hwk
    have s12 : Same H1 H2 := o2.same (fun y u hy => by rw [upd_ne (ne_of_none hy hwk), upd_ne (ne_of_none hy hdw)]; exact hy) fun y e => e ▸ hwk
    have hR2 := hR1.same s12
    walk_at "rd"
    refine ⟨by show 0 ≤ sizeLine; decide, fun an han => ?_⟩
    have far := sql_far (by obtain ⟨_, _, z⟩ := hR2; exact z) han
    have s3 := sm_new (o := .lst []) han
    have hR3 := hR2.same s3
    have hW3 := hW2.same s3
    have hA : (upd H2 an (.lst [])) an = some (.lst []) := upd_same
    generalize upd H2 an (.lst []) = H3 at hR3 hW3 hA ⊢
    walk_at "rd"
    refine rd_while (fun m σ H' => ∃ (i : Nat) (st : State) (outs : List Int) (cs : List (List (List Int))) (v4 v5 : Option V), σ = [some (.ref c), some (.ref rd_), some (.ref wk), some (.ref an), v4, v5] ∧ WkA CW H' wk st.desk (trs st) ∧ RdA K CR H' rd_ c l i ∧ Okay st ∧ H' an = some (.lst (outs.map V.int)) ∧
      (∃ f, PyFlat.calls PyVamrqd.shape f (l.drop i) = some cs) ∧ PyInside.calls PyVamrqd.bound cs = true ∧ outs ++ PyFlat.told (PyFlat.played VamrqdNeutral.step st cs) = PyVamrqd.answers l ∧ m = cs.length) cs0.length ?_ ?_
    · exact ⟨0, Vamrqd.start, [], cs0, none, none, rfl, hW3, hR3, okay_start, hA, ⟨_, by rw [List.drop_zero]; exact hcs⟩, hin, by rw [hans]; rfl, rfl⟩
    · rintro m σ H' ⟨i, st, outs, cs, v4, v5, rfl, hW, hR, ok, hA, ⟨f, hf⟩, hb, ho, rfl⟩
      obtain ⟨dxr, r1, r2⟩ := id hR
      obtain ⟨dxw, da, ta, w1, _⟩ := id hW
      walk_at "rd"
      refine anv_var rfl _ ⟨rd_, dxr, _, rfl, r1, rfl, rd_nil ⟨rd_, c, l, i, rfl, hR, ?_⟩⟩
      refine rd_bl ?_
      refine rd_ndec (fun more => ?_) (fun done => ?_)
      · have hi : i < l.length := by omega
        refine ⟨_, fun σ' H' h => h, ?_⟩
        have dr : l.drop i = l[i] :: l.drop (i + 1) := List.drop_eq_getElem_cons hi
        rw [dr] at hf
        obtain ⟨f', cl, rest, cs', h1, h2, rfl⟩ := calls_next hf
        obtain ⟨x, hx⟩ := call_shape h1
        obtain ⟨n, hn⟩ := shape_fin hx
        have hb' : (PyInside.call PyVamrqd.bound cl && PyInside.calls PyVamrqd.bound cs') = true := hb
        rw [Bool.and_eq_true] at hb'
        walk_at "rd"
        refine num_read rfl hR (List.getElem?_eq_getElem hi) fun H1 o1 hR1 => ?_
        have hW1 := off_wk hW hR (Ne.symm (Ne.symm nrw)) o1
        have hA1 : H1 an = some (.lst (outs.map V.int)) := o1 _ _ hA fun z => by
          have z : an = rd_ := z
          rw [z, r1] at hA; cases hA
        have ln := n.isLt
        have ga : (as.map V.ref)[n.val]? = some (.ref (as.getD n.val 0)) := by
          rw [List.getElem?_map, List.getD_eq_getElem?_getD, List.getElem?_eq_getElem (by rw [B.len]; exact ln)]; rfl
        rw [hn]
        refine rd_ixT (B.seq H1) rfl ga ?_
        walk_at "rd"
        refine ⟨n, rfl, ?_⟩
        walk_at "rd"
        rw [hn] at h1
        refine ⟨wk, rd_, c, l, i + 1, st, cl, rest, rfl, nrw, hW1, hR1, ok, h1, hb'.1, fun H2 r2 P2 fr2 hr2 => ?_⟩
        obtain ⟨dxw1, da1, ta1, w11, _⟩ := id hW1
        obtain ⟨dxr1, r11, _⟩ := id hR1
        have nAr : r2 ≠ an := fun z => by rw [z, hA1] at fr2; cases fr2
        have hA2 : H2 an = some (.lst (outs.map V.int)) := P2.off _ _ hA1 fun z => by
          rcases z with z | z
          · rw [z, w11] at hA1; cases hA1
          · rw [z, r11] at hA1; cases hA1
        have total : (outs ++ PyFlat.told (PyFlat.played VamrqdNeutral.step st (cl :: cs'))).length ≤ 10000000 := by rw [ho]; exact zans
        have split : PyFlat.told (PyFlat.played VamrqdNeutral.step st (cl :: cs')) = (((VamrqdNeutral.step st cl).2.length : Int) :: (VamrqdNeutral.step st cl).2) ++ PyFlat.told (PyFlat.played VamrqdNeutral.step (VamrqdNeutral.step st cl).1 cs') := rfl
        rw [split, List.length_append, List.length_append, List.length_cons] at total
        walk_at "rd"
        refine ⟨ty_lst hA2, ?_⟩
        walk_at "rd"
        refine rd_lenL (SqL.of hr2) ?_
        rw [List.length_map]
        walk_at "rd"
        refine rd_append hA2 (by rw [List.length_map]; exact szl (by omega)) ?_
        have o3 : Off H2 (upd H2 an (.lst (outs.map V.int ++ [V.int ((VamrqdNeutral.step st cl).2.length : Int)]))) (fun y => y = an) := Off.upd rfl
        have hA3 : (upd H2 an (.lst (outs.map V.int ++ [V.int ((VamrqdNeutral.step st cl).2.length : Int)]))) an = some (.lst ((outs ++ [((VamrqdNeutral.step st cl).2.length : Int)]).map V.int)) := by
          rw [upd_same, List.map_append]; rfl
        generalize upd H2 an (.lst (outs.map V.int ++ [V.int ((VamrqdNeutral.step st cl).2.length : Int)])) = H4 at o3 hA3 ⊢
        walk_at "rd"
        refine ⟨ty_lst hA3, ?_⟩
        walk_at "rd"
        refine rd_extend hA3 (o3 _ _ hr2 nAr) (by rw [List.length_map, List.length_map, List.length_append]; show outs.length + 1 + _ ≤ _; omega) ?_
        walk_at "rd"
        have o4 : Off H2 (upd H4 an (.lst ((outs ++ [((VamrqdNeutral.step st cl).2.length : Int)]).map V.int ++ (VamrqdNeutral.step st cl).2.map V.int))) (fun y => y = an) := o3.trans (Off.upd rfl)
        have hA4 : (upd H4 an (.lst ((outs ++ [((VamrqdNeutral.step st cl).2.length : Int)]).map V.int ++ (VamrqdNeutral.step st cl).2.map V.int))) an = some (.lst ((outs ++ (((VamrqdNeutral.step st cl).2.length : Int) :: (VamrqdNeutral.step st cl).2)).map V.int)) := by
          rw [upd_same, ← List.map_append, List.append_assoc]; rfl
        generalize upd H4 an (.lst ((outs ++ [((VamrqdNeutral.step st cl).2.length : Int)]).map V.int ++ (VamrqdNeutral.step st cl).2.map V.int)) = H5 at o4 hA4 ⊢
        obtain ⟨i2, hR2, hd2⟩ := P2.rd
        refine ⟨cs'.length, Nat.lt_succ_self _, i2, (VamrqdNeutral.step st cl).1, _, cs', _, _, rfl, wk_lst P2.wk o4 hA2 (by simp), rd_lst_off hR2 o4 hA2 far, okay_nstep ok cl, hA4, ⟨f', by rw [hd2]; exact h2⟩, hb'.2, ?_, rfl⟩
        rw [← ho, split, List.append_assoc]
      · rw [List.drop_eq_nil_of_le done] at hf
        have := calls_nil hf
        subst this
        walk_at "rd"
        refine q H' an ?_
        rw [hA, ← ho]
        show some (HO.lst (outs.map V.int)) = some (HO.lst ((outs ++ []).map V.int))
        rw [List.append_nil]
theorem ans_len (vs : List V) (H : Hp) (Q : VK) (E : XK) (h : spAns K vs H Q E) : vs.length = 1 := by
  obtain ⟨a, ns, rfl, _⟩ := h
  rfl
/-- the end, as the head wants it -/
theorem ans_end {fa : Addr} (F : Df K mg "answers" sAnswers) (hfa : mg "answers" = some (.ref fa)) (body : ∀ base : Heap, Body P w K mg base "answers" sAnswers NAnswers 11 (spAns K)) :
    ∃ fd : FuncData, (∀ (s : Shared) (us : List Value), us.length = (["calls"] : List Str).length → BindsTo s fd ⟨us, []⟩ ((["calls"] : List Str).zip us)) ∧ ∀ base : Heap, FnOk P w K mg base CX0 12 fa fd ["calls"] (spAns K) := by
  obtain ⟨f, fd, F1, hm⟩ := F.ex
  have e := hfa.symm.trans hm
  cases e
  refine ⟨fd, ?_, fun base => F1.ok scAnswers ans_len (fun cdv A outer s H vs Q E hr h => body base fa cdv A outer s H vs Q E hr h)⟩
  obtain ⟨oc, od, kV, doc, pm, an, cdv, ct, osl, rfl, lk, hcd⟩ := F1.ex
  exact fun s us hu => match us, hu with | [_], _ => .of_eq rfl
end
end Cs
-- CsAll
/-! All promises put together. -/
namespace Cs
open PySem PySem.Spec PyProof.Rows L2
structure Facts (K : PySem.W.Frag) (mg : Str → Option Value) (CL CR CE CW pt : Addr) (as : List Addr) : Prop where
  T : Tx mg
  S : TSigns K mg
  B : Tbl K mg pt as
  l_Cluster : Kl K CL clNames
  l_Reader : Kl K CR rdNames
  l_Work : Kl K CW wkNames
  l_Edit : Kl K CE edNames
  d_answers : Df K mg "answers" sAnswers
  d_refusal : Df K mg "refusal" sRefusal
  d_counted : Df K mg "counted" sCounted
  d_call_begin : Df K mg "call_begin" sCBegin
  d_call_push : Df K mg "call_push" sCPush
  d_call_take : Df K mg "call_take" sCTake
  d_call_drop : Df K mg "call_drop" sCDrop
  d_call_get : Df K mg "call_get" sCGet
  d_call_list : Df K mg "call_list" sCList
  d_call_file : Df K mg "call_file" sCFile
  d_call_amend : Df K mg "call_amend" sCAmend
  d_call_rebase : Df K mg "call_rebase" sCRebase
  d_call_remove : Df K mg "call_remove" sCRemove
  d_call_fold : Df K mg "call_fold" sCFold
  d_call_pick : Df K mg "call_pick" sCPick
  d_call_split : Df K mg "call_split" sCSplit
  d_call_swap : Df K mg "call_swap" sCSwap
  d_told : Df K mg "told" sTold
  d_call_edits : Df K mg "call_edits" sCEdits
  d_call_both : Df K mg "call_both" sCBoth
  d_call_sizes : Df K mg "call_sizes" sCSizes
  d_carry : Df K mg "carry" sCarry
  d_carry_on : Df K mg "carry_on" sCarryOn
  k_Cluster : Mkd K mg "Cluster" CL "Cluster.__init__" sClInit
  m_Cluster_take_in : Md K CL "take_in" "Cluster.take_in" sTakeIn
  d_clusters_of : Df K mg "clusters_of" sClusters
  d_counts_with : Df K mg "counts_with" sCounts
  k_Edit : Mkd K mg "Edit" CE "Edit.__init__" sEdInit
  d_alike_from_the_beginning : Df K mg "alike_from_the_beginning" sAlike
  d_hunk_between : Df K mg "hunk_between" sHunkB
  d_fate : Df K mg "fate" sFate
  d_folders_of : Df K mg "folders_of" sFoldersOf
  d_do_clash : Df K mg "do_clash" sDoClash
  d_begins_alike : Df K mg "begins_alike" sBegins
  d_hunks_between : Df K mg "hunks_between" sHunks
  d_merge : Df K mg "merge" sMerge
  d_merge_texts : Df K mg "merge_texts" sMergeTexts
  d_one_form : Df K mg "one_form" sOneForm
  d_is_name_byte : Df K mg "is_name_byte" sNameByte
  d_is_name : Df K mg "is_name" sIsName
  d_names_of : Df K mg "names_of" sNamesOf
  d_is_path : Df K mg "is_path" sIsPath
  k_Reader : Mkd K mg "Reader" CR "Reader.__init__" sRdInit
  m_Reader_is_done : Md K CR "is_done" "Reader.is_done" sIsDone
  m_Reader_take_number : Md K CR "take_number" "Reader.take_number" sTakeNumber
  m_Reader_take_row : Md K CR "take_row" "Reader.take_row" sTakeRow
  d_kept_counts : Df K mg "kept_counts" sKept
  d_is_settled : Df K mg "is_settled" sIsSet
  d_settled : Df K mg "settled" sSettled
  d_stretch_with : Df K mg "stretch_with" sStretch
  d_tree_with : Df K mg "tree_with" sTreeWith
  d_are_lines : Df K mg "are_lines" sAreLines
  d_without_file : Df K mg "without_file" sWithout
  d_with_file : Df K mg "with_file" sWithFile
  d_clashes_in : Df K mg "clashes_in" sClashesIn
  d_has_folder_among : Df K mg "has_folder_among" sHasFolder
  d_why_no_tree : Df K mg "why_no_tree" sWhyNo
  k_Work : Mkd K mg "Work" CW "Work.__init__" sWkInit
  m_Work_changes : Md K CW "changes" "Work.changes" sChanges
  m_Work_has_change : Md K CW "has_change" "Work.has_change" sHasChange
  m_Work_has_two_changes : Md K CW "has_two_changes" "Work.has_two_changes" sHasTwo
  m_Work_edits_of : Md K CW "edits_of" "Work.edits_of" sEditsOf
  m_Work_done_with : Md K CW "done_with" "Work.done_with" sDoneWith
  m_Work_carry_on_behind : Md K CW "carry_on_behind" "Work.carry_on_behind" sBehind
  n_file : mg "call_file" = some (.ref (as.getD 0 0))
  n_drop : mg "call_drop" = some (.ref (as.getD 1 0))
  n_take : mg "call_take" = some (.ref (as.getD 2 0))
  n_list : mg "call_list" = some (.ref (as.getD 3 0))
  n_get : mg "call_get" = some (.ref (as.getD 4 0))
  n_begin : mg "call_begin" = some (.ref (as.getD 5 0))
  n_push : mg "call_push" = some (.ref (as.getD 6 0))
  n_amend : mg "call_amend" = some (.ref (as.getD 7 0))
  n_rebase : mg "call_rebase" = some (.ref (as.getD 8 0))
  n_remove : mg "call_remove" = some (.ref (as.getD 9 0))
  n_fold : mg "call_fold" = some (.ref (as.getD 10 0))
  n_split : mg "call_split" = some (.ref (as.getD 11 0))
  n_swap : mg "call_swap" = some (.ref (as.getD 12 0))
  n_pick : mg "call_pick" = some (.ref (as.getD 13 0))
  n_edits : mg "call_edits" = some (.ref (as.getD 14 0))
  n_both : mg "call_both" = some (.ref (as.getD 15 0))
  n_sizes : mg "call_sizes" = some (.ref (as.getD 16 0))
section
variable {P : Program} {w : World} {K : PySem.W.Frag} {mg : Str → Option Value} {base : Heap} {CL CR CE CW pt : Addr} {as : List Addr}
theorem all_ok (X : Facts K mg CL CR CE CW pt as) : Body P w K mg base "answers" sAnswers NAnswers 11 (spAns K) := by
  have g_Reader := ok_rdInit (P := P) (w := w) (base := base) (F := X.k_Reader) (L := X.l_Reader)
  have g_Work := ok_wkInit (P := P) (w := w) (base := base) (F := X.k_Work) (L := X.l_Work)
  have g_Reader_is_done := ok_isDone (P := P) (w := w) (base := base) (F := X.m_Reader_is_done) (T := X.T) (L := X.l_Reader)
  have g_Reader_take_number := ok_takeNumber (P := P) (w := w) (base := base) (F := X.m_Reader_take_number) (T := X.T) (L := X.l_Reader)
  have g_refusal := ok_refusal (P := P) (w := w) (base := base) (F := X.d_refusal) (T := X.T)
  have g_names_of := ok_namesOf (P := P) (w := w) (base := base) (F := X.d_names_of) (T := X.T)
  have g_is_name_byte := ok_nameByte (P := P) (w := w) (base := base) (F := X.d_is_name_byte) (T := X.T) (S := X.S)
  have g_is_name := ok_isName (P := P) (w := w) (base := base) (F := X.d_is_name) (T := X.T) (G_is_name_byte := g_is_name_byte)
  have g_is_path := ok_isPath (P := P) (w := w) (base := base) (F := X.d_is_path) (T := X.T) (G_names_of := g_names_of) (G_is_name := g_is_name)
  have g_are_lines := ok_areLines (P := P) (w := w) (base := base) (F := X.d_are_lines) (T := X.T)
  have g_folders_of := ok_folders (P := P) (w := w) (base := base) (F := X.d_folders_of) (T := X.T)
  have g_do_clash := ok_doClash (P := P) (w := w) (base := base) (F := X.d_do_clash) (T := X.T) (G_folders_of := g_folders_of)
  have g_clashes_in := ok_clashes (P := P) (w := w) (base := base) (F := X.d_clashes_in) (T := X.T) (G_do_clash := g_do_clash)
  have g_without_file := ok_without (P := P) (w := w) (base := base) (F := X.d_without_file) (T := X.T)
  have g_with_file := ok_withFile (P := P) (w := w) (base := base) (F := X.d_with_file) (T := X.T) (G_without_file := g_without_file)
  have g_Reader_take_row := ok_takeRow (P := P) (w := w) (base := base) (F := X.m_Reader_take_row) (T := X.T) (L := X.l_Reader) (G_Reader_take_number := g_Reader_take_number)
  have g_call_file := ok_cFile (P := P) (w := w) (base := base) (F := X.d_call_file) (T := X.T) (L := X.l_Work) (CR := CR) (CW := CW) (G_refusal := g_refusal) (G_is_path := g_is_path) (G_are_lines := g_are_lines) (G_clashes_in := g_clashes_in) (G_with_file := g_with_file) (G_Reader_take_row := g_Reader_take_row)
  have g_call_drop := ok_cDrop (P := P) (w := w) (base := base) (F := X.d_call_drop) (T := X.T) (L := X.l_Work) (CR := CR) (CW := CW) (G_refusal := g_refusal) (G_without_file := g_without_file) (G_Reader_take_row := g_Reader_take_row)
  have g_Work_changes := ok_changes (P := P) (w := w) (base := base) (F := X.m_Work_changes) (T := X.T) (L := X.l_Work)
  have g_Work_has_change := ok_hasChange (P := P) (w := w) (base := base) (F := X.m_Work_has_change) (T := X.T) (L := X.l_Work) (G_Work_changes := g_Work_changes)
  have g_call_take := ok_cTake (P := P) (w := w) (base := base) (F := X.d_call_take) (T := X.T) (L := X.l_Work) (CR := CR) (CW := CW) (G_refusal := g_refusal) (G_Work_has_change := g_Work_has_change) (G_Reader_take_number := g_Reader_take_number)
  have g_counted := ok_counted (P := P) (w := w) (base := base) (F := X.d_counted) (T := X.T)
  have g_call_list := ok_cList (P := P) (w := w) (base := base) (F := X.d_call_list) (T := X.T) (L := X.l_Work) (CR := CR) (CW := CW) (G_counted := g_counted)
  have g_call_get := ok_cGet (P := P) (w := w) (base := base) (F := X.d_call_get) (T := X.T) (L := X.l_Work) (CR := CR) (CW := CW) (G_refusal := g_refusal) (G_counted := g_counted) (G_Reader_take_row := g_Reader_take_row)
  have g_Work_done_with := ok_doneWith (P := P) (w := w) (base := base) (F := X.m_Work_done_with) (T := X.T) (L := X.l_Work) (G_Work_changes := g_Work_changes)
  have g_call_begin := ok_cBegin (P := P) (w := w) (base := base) (F := X.d_call_begin) (T := X.T) (L := X.l_Work) (CR := CR) (CW := CW) (G_Work_done_with := g_Work_done_with)
  have g_call_push := ok_cPush (P := P) (w := w) (base := base) (F := X.d_call_push) (T := X.T) (L := X.l_Work) (CR := CR) (CW := CW) (G_refusal := g_refusal) (G_Work_changes := g_Work_changes) (G_Work_done_with := g_Work_done_with)
  have g_is_settled := ok_isSet (P := P) (w := w) (base := base) (F := X.d_is_settled) (T := X.T)
  have g_settled := ok_settled (P := P) (w := w) (base := base) (F := X.d_settled) (T := X.T)
  have g_counts_with := ok_counts (P := P) (w := w) (base := base) (F := X.d_counts_with) (T := X.T)
  have g_kept_counts := ok_kept (P := P) (w := w) (base := base) (F := X.d_kept_counts) (T := X.T) (G := g_counts_with)
  have g_begins_alike := ok_begins (P := P) (w := w) (base := base) (F := X.d_begins_alike) (T := X.T)
  have g_hunks_between := ok_hunks (P := P) (w := w) (base := base) (F := X.d_hunks_between) (T := X.T) (G_kept_counts := g_kept_counts) (G_begins_alike := g_begins_alike)
  have g_stretch_with := ok_stretch (P := P) (w := w) (base := base) (F := X.d_stretch_with) (T := X.T)
  have g_Cluster := ok_clInit (P := P) (w := w) (base := base) (F := X.k_Cluster) (T := X.T) (L := X.l_Cluster)
  have g_Cluster_take_in := ok_takeIn (P := P) (w := w) (base := base) (F := X.m_Cluster_take_in) (T := X.T) (L := X.l_Cluster)
  have g_clusters_of := ok_clusters (P := P) (w := w) (base := base) (F := X.d_clusters_of) (T := X.T) (L := X.l_Cluster) (G_Cluster := g_Cluster) (G_Cluster_take_in := g_Cluster_take_in)
  have g_merge_texts := ok_mergeTexts (P := P) (w := w) (base := base) (F := X.d_merge_texts) (T := X.T) (L := X.l_Cluster) (G_hunks_between := g_hunks_between) (G_stretch_with := g_stretch_with) (G_clusters_of := g_clusters_of) (G_is_settled := g_is_settled) (G_settled := g_settled)
  have g_fate := ok_fate (P := P) (w := w) (base := base) (F := X.d_fate) (T := X.T) (G_is_settled := g_is_settled) (G_settled := g_settled) (G_merge_texts := g_merge_texts)
  have g_has_folder_among := ok_hasFolder (P := P) (w := w) (base := base) (F := X.d_has_folder_among) (T := X.T) (G_folders_of := g_folders_of)
  have g_why_no_tree := ok_whyNo (P := P) (w := w) (base := base) (F := X.d_why_no_tree) (T := X.T) (G_has_folder_among := g_has_folder_among)
  have g_merge := ok_merge (P := P) (w := w) (base := base) (F := X.d_merge) (T := X.T) (G_fate := g_fate) (G_why_no_tree := g_why_no_tree)
  have g_carry := ok_carry1 (P := P) (w := w) (base := base) (F := X.d_carry) (T := X.T) (G_merge := g_merge)
  have g_carry_on := ok_carry (P := P) (w := w) (base := base) (F := X.d_carry_on) (T := X.T) (G_carry := g_carry)
  have g_Work_carry_on_behind := ok_behind (P := P) (w := w) (base := base) (F := X.m_Work_carry_on_behind) (T := X.T) (L := X.l_Work) (G_Work_done_with := g_Work_done_with) (G_carry_on := g_carry_on)
  have g_call_amend := ok_cAmend (P := P) (w := w) (base := base) (F := X.d_call_amend) (T := X.T) (L := X.l_Work) (CR := CR) (CW := CW) (G_refusal := g_refusal) (G_Work_has_change := g_Work_has_change) (G_Work_carry_on_behind := g_Work_carry_on_behind) (G_Reader_take_number := g_Reader_take_number)
  have g_call_rebase := ok_cRebase (P := P) (w := w) (base := base) (F := X.d_call_rebase) (T := X.T) (L := X.l_Work) (CR := CR) (CW := CW) (G_Work_carry_on_behind := g_Work_carry_on_behind)
  have g_call_remove := ok_cRemove (P := P) (w := w) (base := base) (F := X.d_call_remove) (T := X.T) (L := X.l_Work) (CR := CR) (CW := CW) (G_refusal := g_refusal) (G_Work_has_change := g_Work_has_change) (G_Work_carry_on_behind := g_Work_carry_on_behind) (G_Reader_take_number := g_Reader_take_number)
  have g_Work_has_two_changes := ok_hasTwo (P := P) (w := w) (base := base) (F := X.m_Work_has_two_changes) (T := X.T) (L := X.l_Work) (G_Work_has_change := g_Work_has_change)
  have g_call_fold := ok_cFold (P := P) (w := w) (base := base) (F := X.d_call_fold) (T := X.T) (L := X.l_Work) (CR := CR) (CW := CW) (G_refusal := g_refusal) (G_Work_has_two_changes := g_Work_has_two_changes) (G_Work_done_with := g_Work_done_with) (G_Reader_take_number := g_Reader_take_number)
  have g_tree_with := ok_treeWith (P := P) (w := w) (base := base) (F := X.d_tree_with) (T := X.T) (L := X.l_Edit) (G_with_file := g_with_file) (G_without_file := g_without_file) (G_stretch_with := g_stretch_with)
  have g_alike_from_the_beginning := ok_alike (P := P) (w := w) (base := base) (F := X.d_alike_from_the_beginning) (T := X.T)
  have g_Edit := ok_edInit (P := P) (w := w) (base := base) (F := X.k_Edit) (L := X.l_Edit)
  have g_hunk_between := ok_hunkB (P := P) (w := w) (base := base) (F := X.d_hunk_between) (T := X.T) (G_alike_from_the_beginning := g_alike_from_the_beginning) (G_Edit := g_Edit)
  have g_one_form := ok_oneForm (P := P) (w := w) (base := base) (F := X.d_one_form) (T := X.T) (G_hunk_between := g_hunk_between) (G_Edit := g_Edit)
  have g_Work_edits_of := ok_editsOf (P := P) (w := w) (base := base) (F := X.m_Work_edits_of) (T := X.T) (L := X.l_Work) (G_one_form := g_one_form)
  have g_call_split := ok_cSplit (P := P) (w := w) (base := base) (F := X.d_call_split) (T := X.T) (L := X.l_Work) (CR := CR) (CW := CW) (G_refusal := g_refusal) (G_tree_with := g_tree_with) (G_Work_has_change := g_Work_has_change) (G_Work_changes := g_Work_changes) (G_Work_edits_of := g_Work_edits_of) (G_Work_done_with := g_Work_done_with) (G_Reader_take_number := g_Reader_take_number)
  have g_call_swap := ok_cSwap (P := P) (w := w) (base := base) (F := X.d_call_swap) (T := X.T) (L := X.l_Work) (CR := CR) (CW := CW) (G_refusal := g_refusal) (G_carry := g_carry) (G_Work_has_two_changes := g_Work_has_two_changes) (G_Work_done_with := g_Work_done_with) (G_Reader_take_number := g_Reader_take_number)
  have g_call_pick := ok_cPick (P := P) (w := w) (base := base) (F := X.d_call_pick) (T := X.T) (L := X.l_Work) (CR := CR) (CW := CW) (G_refusal := g_refusal) (G_carry := g_carry) (G_Work_has_change := g_Work_has_change) (G_Reader_take_number := g_Reader_take_number)
  have g_told := ok_told (P := P) (w := w) (base := base) (F := X.d_told) (T := X.T) (L := X.l_Edit) (G_counted := g_counted)
  have g_call_edits := ok_cEdits (P := P) (w := w) (base := base) (F := X.d_call_edits) (T := X.T) (CR := CR) (CW := CW) (G_refusal := g_refusal) (G_told := g_told) (G_Work_has_change := g_Work_has_change) (G_Work_edits_of := g_Work_edits_of) (G_Reader_take_number := g_Reader_take_number)
  have g_call_both := ok_cBoth (P := P) (w := w) (base := base) (F := X.d_call_both) (T := X.T) (L := X.l_Edit) (CR := CR) (CW := CW) (G_refusal := g_refusal) (G_counted := g_counted) (G_Work_has_change := g_Work_has_change) (G_Work_edits_of := g_Work_edits_of) (G_Reader_take_number := g_Reader_take_number)
  have g_call_sizes := ok_cSizes (P := P) (w := w) (base := base) (F := X.d_call_sizes) (T := X.T) (CR := CR) (CW := CW) (G_counted := g_counted) (G_Work_changes := g_Work_changes) (G_Work_edits_of := g_Work_edits_of)
  have CA : ∀ n : _root_.Fin 17, C8.CalAt P w K mg base 11 (as.getD n.val 0) (spC K CW CR ((n.val : Nat) : Int)) := fun n => match n with
    | ⟨0, _⟩ => calAt_of g_call_file X.n_file
    | ⟨1, _⟩ => calAt_of g_call_drop X.n_drop
    | ⟨2, _⟩ => calAt_of g_call_take X.n_take
    | ⟨3, _⟩ => calAt_of g_call_list X.n_list
    | ⟨4, _⟩ => calAt_of g_call_get X.n_get
    | ⟨5, _⟩ => calAt_of g_call_begin X.n_begin
    | ⟨6, _⟩ => calAt_of g_call_push X.n_push
    | ⟨7, _⟩ => calAt_of g_call_amend X.n_amend
    | ⟨8, _⟩ => calAt_of g_call_rebase X.n_rebase
    | ⟨9, _⟩ => calAt_of g_call_remove X.n_remove
    | ⟨10, _⟩ => calAt_of g_call_fold X.n_fold
    | ⟨11, _⟩ => calAt_of g_call_split X.n_split
    | ⟨12, _⟩ => calAt_of g_call_swap X.n_swap
    | ⟨13, _⟩ => calAt_of g_call_pick X.n_pick
    | ⟨14, _⟩ => calAt_of g_call_edits X.n_edits
    | ⟨15, _⟩ => calAt_of g_call_both X.n_both
    | ⟨16, _⟩ => calAt_of g_call_sizes X.n_sizes
    | ⟨m + 17, h⟩ => absurd h (by omega)
  exact ok_answers (P := P) (w := w) (base := base) (F := X.d_answers) (T := X.T) (G_Reader := g_Reader) (G_Work := g_Work) (G_Reader_is_done := g_Reader_is_done) (G_Reader_take_number := g_Reader_take_number) (B := X.B) (CA := CA)
end
end Cs
-- CsHeadMk
/-! What the head finds, put together. -/
namespace Cs
open PySem PySem.Spec PyProof.Rows L2
section
variable {K : PySem.W.Frag} {h : Heap} {mg : Str → Option Value} {x m qual : Str} {st : Stmt} {f C : Addr} {oc : Value} {od an : Option Addr} {osl : Array (Option Value)} {kV doc pm cdv ct : Value}
theorem df_mk (X : K.In h) (G : h.Ns mainGlobals mg) (a : PySem.W.nsIn K mainGlobals x = some (some (.ref f)))
    (l : K.lookup f = some ⟨oc, od, .func (PySem.W.fnOf x x (defArgs st) (defBody st) (defScope st) .none kV doc pm an cdv ct), osl⟩) (c : PySem.W.codeIn K cdv x = true) (k : PySem.W.keepIn K (.ref f) = true) : Df K mg x st := ⟨f, _, L2.fun_mk l c k, PySem.W.mg_of X G a⟩
theorem md_mk (a : PySem.W.findIn K (.ref C) m = some (some (.ref f))) (i : PySem.W.isFn K (.ref f) = true)
    (l : K.lookup f = some ⟨oc, od, .func (PySem.W.fnOf m qual (defArgs st) (defBody st) (defScope st) .none kV doc pm an cdv ct), osl⟩) (c : PySem.W.codeIn K cdv qual = true) (k : PySem.W.keepIn K (.ref f) = true) : Md K C m qual st := ⟨f, _, ⟨a, i, k⟩, L2.fun_mk l c k⟩
theorem mkd_mk (X : K.In h) (G : h.Ns mainGlobals mg) (g : PySem.W.nsIn K mainGlobals x = some (some (.ref C))) (mk : PySem.W.makesIn K C = true) (kc : PySem.W.keepIn K (.ref C) = true) (a : PySem.W.findIn K (.ref C) "__init__" = some (some (.ref f))) (i : PySem.W.isFn K (.ref f) = true)
    (l : K.lookup f = some ⟨oc, od, .func (PySem.W.fnOf "__init__" qual (defArgs st) (defBody st) (defScope st) .none kV doc pm an cdv ct), osl⟩) (c : PySem.W.codeIn K cdv qual = true) (k : PySem.W.keepIn K (.ref f) = true) : Mkd K mg x C qual st := ⟨f, _, ⟨mk, a, i, kc⟩, L2.fun_mk l c k, PySem.W.mg_of X G g⟩
theorem int_mk (X : K.In h) (G : h.Ns mainGlobals mg) {i : Int} {t : Tok} (a : PySem.W.nsIn K mainGlobals x = some (some (.int i t))) : ∃ u, mg x = some u ∧ RelV (.int i) u := ⟨_, PySem.W.mg_of X G a, ⟨t, rfl⟩⟩
theorem none_mk (X : K.In h) (G : h.Ns mainGlobals mg) (a : PySem.W.nsIn K mainGlobals x = some none) : mg x = none := PySem.W.mg_none_of X G a
theorem kl_mk {fs : List Str} (pg : PySem.W.plainGet K C Str.empty = true) (hd : PySem.W.hasDictIn K C = true) (po : PySem.W.plainOver K C = true) (sa : PySem.W.findIn K (.ref C) "__setattr__" = some (some (.builtin "object.__setattr__"))) (n : ∀ f ∈ fs, NoAttr K C f) : Kl K C fs := ⟨⟨pg, hd, po, sa⟩, n⟩
theorem nos_cons {f : Str} {fs : List Str} (a : PySem.W.findIn K (.ref C) f = some none) (r : ∀ f ∈ fs, NoAttr K C f) : ∀ g ∈ f :: fs, NoAttr K C g := fun g hg => by
  cases hg with
  | head => exact a
  | tail _ hg => exact r g hg
theorem nos_nil : ∀ g ∈ ([] : List Str), NoAttr K C g := fun g hg => by cases hg
end
end Cs
-- CsHeadEnd
/-! The tuples of the modules, for the head. -/
namespace Cs
open PySem PySem.Spec PyProof.Rows L2
theorem refs_vals : ∀ as : List Addr, Vals (as.map V.ref) (as.map Value.ref)
  | [] => .nil
  | a :: as => .cons rfl (refs_vals as)
theorem three_vals {t u v : Tok} : Vals [V.int 95, V.int 46, V.int 45] [Value.int 95 t, Value.int 46 u, Value.int 45 v] := .cons ⟨t, rfl⟩ (.cons ⟨u, rfl⟩ (.cons ⟨v, rfl⟩ .nil))
section
variable {K : PySem.W.Frag} {h : Heap} {mg : Str → Option Value} {od : Option Addr} {osl : Array (Option Value)} {n : Nat} {pt f0 f1 f2 f3 f4 f5 f6 f7 f8 f9 f10 f11 f12 f13 f14 f15 f16 : Addr} {t u v : Tok}
theorem signs_mk (X : K.In h) (G : h.Ns mainGlobals mg) (a : PySem.W.nsIn K mainGlobals "SIGNS" = some (some (.ref pt))) (l : K.lookup pt = some ⟨.type "tuple", od, .seq #[.int 95 t, .int 46 u, .int 45 v] n, osl⟩) : TSigns K mg :=
  ⟨pt, PySem.W.mg_of X G a, fun H => .inr ⟨_, _, _, l, rfl, rfl, by show 3 ≤ sizeLine; decide, three_vals⟩⟩
theorem tbl_mk (X : K.In h) (G : h.Ns mainGlobals mg) (a : PySem.W.nsIn K mainGlobals "CALLS" = some (some (.ref pt))) (l : K.lookup pt = some ⟨.type "tuple", od, .seq #[.ref f0, .ref f1, .ref f2, .ref f3, .ref f4, .ref f5, .ref f6, .ref f7, .ref f8, .ref f9, .ref f10, .ref f11, .ref f12, .ref f13, .ref f14, .ref f15, .ref f16] n, osl⟩)
    (n0 : PySem.W.nsIn K mainGlobals "call_file" = some (some (.ref f0)))
    (n1 : PySem.W.nsIn K mainGlobals "call_drop" = some (some (.ref f1)))
    (n2 : PySem.W.nsIn K mainGlobals "call_take" = some (some (.ref f2)))
    (n3 : PySem.W.nsIn K mainGlobals "call_list" = some (some (.ref f3)))
    (n4 : PySem.W.nsIn K mainGlobals "call_get" = some (some (.ref f4)))
    (n5 : PySem.W.nsIn K mainGlobals "call_begin" = some (some (.ref f5)))
    (n6 : PySem.W.nsIn K mainGlobals "call_push" = some (some (.ref f6)))
    (n7 : PySem.W.nsIn K mainGlobals "call_amend" = some (some (.ref f7)))
    (n8 : PySem.W.nsIn K mainGlobals "call_rebase" = some (some (.ref f8)))
    (n9 : PySem.W.nsIn K mainGlobals "call_remove" = some (some (.ref f9)))
    (n10 : PySem.W.nsIn K mainGlobals "call_fold" = some (some (.ref f10)))
    (n11 : PySem.W.nsIn K mainGlobals "call_split" = some (some (.ref f11)))
    (n12 : PySem.W.nsIn K mainGlobals "call_swap" = some (some (.ref f12)))
    (n13 : PySem.W.nsIn K mainGlobals "call_pick" = some (some (.ref f13)))
    (n14 : PySem.W.nsIn K mainGlobals "call_edits" = some (some (.ref f14)))
    (n15 : PySem.W.nsIn K mainGlobals "call_both" = some (some (.ref f15)))
    (n16 : PySem.W.nsIn K mainGlobals "call_sizes" = some (some (.ref f16)))
    : ∃ (p : Addr) (as : List Addr), Tbl K mg p as ∧ mg "call_file" = some (.ref (as.getD 0 0)) ∧ mg "call_drop" = some (.ref (as.getD 1 0)) ∧ mg "call_take" = some (.ref (as.getD 2 0)) ∧ mg "call_list" = some (.ref (as.getD 3 0)) ∧ mg "call_get" = some (.ref (as.getD 4 0)) ∧ mg "call_begin" = some (.ref (as.getD 5 0)) ∧ mg "call_push" = some (.ref (as.getD 6 0)) ∧ mg "call_amend" = some (.ref (as.getD 7 0)) ∧ mg "call_rebase" = some (.ref (as.getD 8 0)) ∧ mg "call_remove" = some (.ref (as.getD 9 0)) ∧ mg "call_fold" = some (.ref (as.getD 10 0)) ∧ mg "call_split" = some (.ref (as.getD 11 0)) ∧ mg "call_swap" = some (.ref (as.getD 12 0)) ∧ mg "call_pick" = some (.ref (as.getD 13 0)) ∧ mg "call_edits" = some (.ref (as.getD 14 0)) ∧ mg "call_both" = some (.ref (as.getD 15 0)) ∧ mg "call_sizes" = some (.ref (as.getD 16 0)) :=
  ⟨pt, [f0, f1, f2, f3, f4, f5, f6, f7, f8, f9, f10, f11, f12, f13, f14, f15, f16], ⟨⟨_, PySem.W.mg_of X G a, rfl⟩, fun H => .inr ⟨_, _, _, l, rfl, rfl, by show 17 ≤ sizeLine; decide, refs_vals _⟩, rfl⟩, PySem.W.mg_of X G n0, PySem.W.mg_of X G n1, PySem.W.mg_of X G n2, PySem.W.mg_of X G n3, PySem.W.mg_of X G n4, PySem.W.mg_of X G n5, PySem.W.mg_of X G n6, PySem.W.mg_of X G n7, PySem.W.mg_of X G n8, PySem.W.mg_of X G n9, PySem.W.mg_of X G n10, PySem.W.mg_of X G n11, PySem.W.mg_of X G n12, PySem.W.mg_of X G n13, PySem.W.mg_of X G n14, PySem.W.mg_of X G n15, PySem.W.mg_of X G n16⟩
end
open PySem.W in
/-- the request, as the head hands it in -/
theorem s_end (K : PySem.W.Frag) (H : Hp) (xs : List V) (a : Codec.denoteAll PySem.Challenge.rw_changestacks_s01_answers.args) (hO : OnlyF H) (hwi : Codec.withinAll PySem.Challenge.rw_changestacks_s01_answers.args a = true) (hask : Codec.app PySem.Challenge.rw_changestacks_s01_answers.args PySem.Challenge.rw_changestacks_s01_answers.asked a = true)
    (hx : DwAll K H xs (Codec.encAll PySem.Challenge.rw_changestacks_s01_answers.args a)) : spAns K xs H (fun v H' => Dw K H' v (PySem.Challenge.rw_changestacks_s01_answers.ret.enc (Codec.app PySem.Challenge.rw_changestacks_s01_answers.args PySem.Challenge.rw_changestacks_s01_answers.f a))) fun _ _ _ => False := by
  cases hx with
  | cons h1 h2 =>
    cases h2
    cases h1 with
    | lst hs ha =>
      have e := L2.ints_dw a.1 _ ha
      subst e
      exact ⟨_, a.1, rfl, hs, hask, fun H' p hp => .lst (L2.SqL.of hp) (L2.dw_ints _)⟩
end Cs
-- the end
open PySem PySem.W PyProof.Rows
open Cs
set_option maxRecDepth 100000 in
set_option maxHeartbeats 8000000 in
theorem PySem.Challenge.cw_changestacks_s01_answers_holds : PySem.Challenge.rw_changestacks_s01_answers.Holds := by
  w_on; k_headS; (case hw => exact ⟨[.list [.int 3]], by decide +kernel, by decide +kernel⟩)
  k_fillS
  refine L2.walk_specK (r := PySem.Challenge.rw_changestacks_s01_answers) (k := 12) (CX := L2.CX0) (ps := ["calls"]) (sp := Cs.spAns) (by decide +kernel) rfl rfl ⟨rfl, by decide, by decide⟩ (fun w h Y => PySem.W.kIn_of Y) ?F ?S (fun _ _ _ _ z => z)
  case F =>
    intro w mg fa h Y KX G hmg
    obtain ⟨CL, CR, CE, CW, pt, as, FF⟩ : ∃ CL CR CE CW pt as, Cs.Facts (PySem.Challenge.cw_changestacks_s01_answers_holds.heap_1 w.params) mg CL CR CE CW pt as := by
      have b_len : mg "len" = none := by
        refine' Cs.none_mk KX G ?a; (case a => rfl)
      have b_range : mg "range" = none := by
        refine' Cs.none_mk KX G ?a; (case a => rfl)
      have b_max : mg "max" = none := by
        refine' Cs.none_mk KX G ?a; (case a => rfl)
      have b_min : mg "min" = none := by
        refine' Cs.none_mk KX G ?a; (case a => rfl)
      have b_all : mg "all" = none := by
        refine' Cs.none_mk KX G ?a; (case a => rfl)
      have b_any : mg "any" = none := by
        refine' Cs.none_mk KX G ?a; (case a => rfl)
      have b_sorted : mg "sorted" = none := by
        refine' Cs.none_mk KX G ?a; (case a => rfl)
      have b_set : mg "set" = none := by
        refine' Cs.none_mk KX G ?a; (case a => rfl)
      have b_tuple : mg "tuple" = none := by
        refine' Cs.none_mk KX G ?a; (case a => rfl)
      have b_list : mg "list" = none := by
        refine' Cs.none_mk KX G ?a; (case a => rfl)
      have b_enumerate : mg "enumerate" = none := by
        refine' Cs.none_mk KX G ?a; (case a => rfl)
      have b_reversed : mg "reversed" = none := by
        refine' Cs.none_mk KX G ?a; (case a => rfl)
      have c_OURS : ∃ u, mg "OURS" = some u ∧ L2.RelV (.int 0) u := by
        refine' Cs.int_mk KX G ?a; (case a => rfl)
      have c_THEIRS : ∃ u, mg "THEIRS" = some u ∧ L2.RelV (.int 1) u := by
        refine' Cs.int_mk KX G ?a; (case a => rfl)
      have c_SLASH : ∃ u, mg "SLASH" = some u ∧ L2.RelV (.int 47) u := by
        refine' Cs.int_mk KX G ?a; (case a => rfl)
      have c_LONGEST_NAME : ∃ u, mg "LONGEST_NAME" = some u ∧ L2.RelV (.int 12) u := by
        refine' Cs.int_mk KX G ?a; (case a => rfl)
      have c_LONGEST_PATH : ∃ u, mg "LONGEST_PATH" = some u ∧ L2.RelV (.int 40) u := by
        refine' Cs.int_mk KX G ?a; (case a => rfl)
      have c_MOST_NAMES : ∃ u, mg "MOST_NAMES" = some u ∧ L2.RelV (.int 4) u := by
        refine' Cs.int_mk KX G ?a; (case a => rfl)
      have c_MOST_FILES : ∃ u, mg "MOST_FILES" = some u ∧ L2.RelV (.int 12) u := by
        refine' Cs.int_mk KX G ?a; (case a => rfl)
      have c_MOST_LINES : ∃ u, mg "MOST_LINES" = some u ∧ L2.RelV (.int 40) u := by
        refine' Cs.int_mk KX G ?a; (case a => rfl)
      have c_GREATEST_LINE : ∃ u, mg "GREATEST_LINE" = some u ∧ L2.RelV (.int 999999) u := by
        refine' Cs.int_mk KX G ?a; (case a => rfl)
      have c_PATH_IS_FOLDER : ∃ u, mg "PATH_IS_FOLDER" = some u ∧ L2.RelV (.int 4) u := by
        refine' Cs.int_mk KX G ?a; (case a => rfl)
      have c_TOO_MANY_FILES : ∃ u, mg "TOO_MANY_FILES" = some u ∧ L2.RelV (.int 5) u := by
        refine' Cs.int_mk KX G ?a; (case a => rfl)
      have c_TOO_MANY_LINES : ∃ u, mg "TOO_MANY_LINES" = some u ∧ L2.RelV (.int 6) u := by
        refine' Cs.int_mk KX G ?a; (case a => rfl)
      have c_DONE : ∃ u, mg "DONE" = some u ∧ L2.RelV (.int 0) u := by
        refine' Cs.int_mk KX G ?a; (case a => rfl)
      have c_CONFLICTS : ∃ u, mg "CONFLICTS" = some u ∧ L2.RelV (.int 1) u := by
        refine' Cs.int_mk KX G ?a; (case a => rfl)
      have c_NO_TREE : ∃ u, mg "NO_TREE" = some u ∧ L2.RelV (.int 2) u := by
        refine' Cs.int_mk KX G ?a; (case a => rfl)
      have c_MOST_CHANGES : ∃ u, mg "MOST_CHANGES" = some u ∧ L2.RelV (.int 6) u := by
        refine' Cs.int_mk KX G ?a; (case a => rfl)
      have c_NO_CHANGE : ∃ u, mg "NO_CHANGE" = some u ∧ L2.RelV (.int 1) u := by
        refine' Cs.int_mk KX G ?a; (case a => rfl)
      have c_NO_PATH : ∃ u, mg "NO_PATH" = some u ∧ L2.RelV (.int 2) u := by
        refine' Cs.int_mk KX G ?a; (case a => rfl)
      have c_NO_LINES : ∃ u, mg "NO_LINES" = some u ∧ L2.RelV (.int 3) u := by
        refine' Cs.int_mk KX G ?a; (case a => rfl)
      have c_CLASH : ∃ u, mg "CLASH" = some u ∧ L2.RelV (.int 4) u := by
        refine' Cs.int_mk KX G ?a; (case a => rfl)
      have c_DESK_FULL : ∃ u, mg "DESK_FULL" = some u ∧ L2.RelV (.int 5) u := by
        refine' Cs.int_mk KX G ?a; (case a => rfl)
      have c_NO_FILE : ∃ u, mg "NO_FILE" = some u ∧ L2.RelV (.int 6) u := by
        refine' Cs.int_mk KX G ?a; (case a => rfl)
      have c_STACK_FULL : ∃ u, mg "STACK_FULL" = some u ∧ L2.RelV (.int 7) u := by
        refine' Cs.int_mk KX G ?a; (case a => rfl)
      have c_OTHER_TREE : ∃ u, mg "OTHER_TREE" = some u ∧ L2.RelV (.int 3) u := by
        refine' Cs.int_mk KX G ?a; (case a => rfl)
      have c_ADD : ∃ u, mg "ADD" = some u ∧ L2.RelV (.int 0) u := by
        refine' Cs.int_mk KX G ?a; (case a => rfl)
      have c_DEL : ∃ u, mg "DEL" = some u ∧ L2.RelV (.int 1) u := by
        refine' Cs.int_mk KX G ?a; (case a => rfl)
      have c_HUNK : ∃ u, mg "HUNK" = some u ∧ L2.RelV (.int 3) u := by
        refine' Cs.int_mk KX G ?a; (case a => rfl)
      have TT : Cs.Tx mg := { len := b_len, range := b_range, max := b_max, min := b_min, all := b_all, any := b_any, sorted := b_sorted, set := b_set, tuple := b_tuple, list := b_list, enumerate := b_enumerate, reversed := b_reversed, c_OURS := c_OURS, c_THEIRS := c_THEIRS, c_SLASH := c_SLASH, c_LONGEST_NAME := c_LONGEST_NAME, c_LONGEST_PATH := c_LONGEST_PATH, c_MOST_NAMES := c_MOST_NAMES, c_MOST_FILES := c_MOST_FILES, c_MOST_LINES := c_MOST_LINES, c_GREATEST_LINE := c_GREATEST_LINE, c_PATH_IS_FOLDER := c_PATH_IS_FOLDER, c_TOO_MANY_FILES := c_TOO_MANY_FILES, c_TOO_MANY_LINES := c_TOO_MANY_LINES, c_DONE := c_DONE, c_CONFLICTS := c_CONFLICTS, c_NO_TREE := c_NO_TREE, c_MOST_CHANGES := c_MOST_CHANGES, c_NO_CHANGE := c_NO_CHANGE, c_NO_PATH := c_NO_PATH, c_NO_LINES := c_NO_LINES, c_CLASH := c_CLASH, c_DESK_FULL := c_DESK_FULL, c_NO_FILE := c_NO_FILE, c_STACK_FULL := c_STACK_FULL, c_OTHER_TREE := c_OTHER_TREE, c_ADD := c_ADD, c_DEL := c_DEL, c_HUNK := c_HUNK }
      have d_answers : Cs.Df (PySem.Challenge.cw_changestacks_s01_answers_holds.heap_1 w.params) mg "answers" Cs.sAnswers := by
        refine' Cs.df_mk KX G ?a ?l ?c ?k; (case a => rfl); (case l => rfl); (case c => rfl); (case k => rfl)
      have d_refusal : Cs.Df (PySem.Challenge.cw_changestacks_s01_answers_holds.heap_1 w.params) mg "refusal" Cs.sRefusal := by
        refine' Cs.df_mk KX G ?a ?l ?c ?k; (case a => rfl); (case l => rfl); (case c => rfl); (case k => rfl)
      have d_counted : Cs.Df (PySem.Challenge.cw_changestacks_s01_answers_holds.heap_1 w.params) mg "counted" Cs.sCounted := by
        refine' Cs.df_mk KX G ?a ?l ?c ?k; (case a => rfl); (case l => rfl); (case c => rfl); (case k => rfl)
      have d_call_begin : Cs.Df (PySem.Challenge.cw_changestacks_s01_answers_holds.heap_1 w.params) mg "call_begin" Cs.sCBegin := by
        refine' Cs.df_mk KX G ?a ?l ?c ?k; (case a => rfl); (case l => rfl); (case c => rfl); (case k => rfl)
      have d_call_push : Cs.Df (PySem.Challenge.cw_changestacks_s01_answers_holds.heap_1 w.params) mg "call_push" Cs.sCPush := by
        refine' Cs.df_mk KX G ?a ?l ?c ?k; (case a => rfl); (case l => rfl); (case c => rfl); (case k => rfl)
      have d_call_take : Cs.Df (PySem.Challenge.cw_changestacks_s01_answers_holds.heap_1 w.params) mg "call_take" Cs.sCTake := by
        refine' Cs.df_mk KX G ?a ?l ?c ?k; (case a => rfl); (case l => rfl); (case c => rfl); (case k => rfl)
      have d_call_drop : Cs.Df (PySem.Challenge.cw_changestacks_s01_answers_holds.heap_1 w.params) mg "call_drop" Cs.sCDrop := by
        refine' Cs.df_mk KX G ?a ?l ?c ?k; (case a => rfl); (case l => rfl); (case c => rfl); (case k => rfl)
      have d_call_get : Cs.Df (PySem.Challenge.cw_changestacks_s01_answers_holds.heap_1 w.params) mg "call_get" Cs.sCGet := by
        refine' Cs.df_mk KX G ?a ?l ?c ?k; (case a => rfl); (case l => rfl); (case c => rfl); (case k => rfl)
      have d_call_list : Cs.Df (PySem.Challenge.cw_changestacks_s01_answers_holds.heap_1 w.params) mg "call_list" Cs.sCList := by
        refine' Cs.df_mk KX G ?a ?l ?c ?k; (case a => rfl); (case l => rfl); (case c => rfl); (case k => rfl)
      have d_call_file : Cs.Df (PySem.Challenge.cw_changestacks_s01_answers_holds.heap_1 w.params) mg "call_file" Cs.sCFile := by
        refine' Cs.df_mk KX G ?a ?l ?c ?k; (case a => rfl); (case l => rfl); (case c => rfl); (case k => rfl)
      have d_call_amend : Cs.Df (PySem.Challenge.cw_changestacks_s01_answers_holds.heap_1 w.params) mg "call_amend" Cs.sCAmend := by
        refine' Cs.df_mk KX G ?a ?l ?c ?k; (case a => rfl); (case l => rfl); (case c => rfl); (case k => rfl)
      have d_call_rebase : Cs.Df (PySem.Challenge.cw_changestacks_s01_answers_holds.heap_1 w.params) mg "call_rebase" Cs.sCRebase := by
        refine' Cs.df_mk KX G ?a ?l ?c ?k; (case a => rfl); (case l => rfl); (case c => rfl); (case k => rfl)
      have d_call_remove : Cs.Df (PySem.Challenge.cw_changestacks_s01_answers_holds.heap_1 w.params) mg "call_remove" Cs.sCRemove := by
        refine' Cs.df_mk KX G ?a ?l ?c ?k; (case a => rfl); (case l => rfl); (case c => rfl); (case k => rfl)
      have d_call_fold : Cs.Df (PySem.Challenge.cw_changestacks_s01_answers_holds.heap_1 w.params) mg "call_fold" Cs.sCFold := by
        refine' Cs.df_mk KX G ?a ?l ?c ?k; (case a => rfl); (case l => rfl); (case c => rfl); (case k => rfl)
      have d_call_pick : Cs.Df (PySem.Challenge.cw_changestacks_s01_answers_holds.heap_1 w.params) mg "call_pick" Cs.sCPick := by
        refine' Cs.df_mk KX G ?a ?l ?c ?k; (case a => rfl); (case l => rfl); (case c => rfl); (case k => rfl)
      have d_call_split : Cs.Df (PySem.Challenge.cw_changestacks_s01_answers_holds.heap_1 w.params) mg "call_split" Cs.sCSplit := by
        refine' Cs.df_mk KX G ?a ?l ?c ?k; (case a => rfl); (case l => rfl); (case c => rfl); (case k => rfl)
      have d_call_swap : Cs.Df (PySem.Challenge.cw_changestacks_s01_answers_holds.heap_1 w.params) mg "call_swap" Cs.sCSwap := by
        refine' Cs.df_mk KX G ?a ?l ?c ?k; (case a => rfl); (case l => rfl); (case c => rfl); (case k => rfl)
      have d_told : Cs.Df (PySem.Challenge.cw_changestacks_s01_answers_holds.heap_1 w.params) mg "told" Cs.sTold := by
        refine' Cs.df_mk KX G ?a ?l ?c ?k; (case a => rfl); (case l => rfl); (case c => rfl); (case k => rfl)
      have d_call_edits : Cs.Df (PySem.Challenge.cw_changestacks_s01_answers_holds.heap_1 w.params) mg "call_edits" Cs.sCEdits := by
        refine' Cs.df_mk KX G ?a ?l ?c ?k; (case a => rfl); (case l => rfl); (case c => rfl); (case k => rfl)
      have d_call_both : Cs.Df (PySem.Challenge.cw_changestacks_s01_answers_holds.heap_1 w.params) mg "call_both" Cs.sCBoth := by
        refine' Cs.df_mk KX G ?a ?l ?c ?k; (case a => rfl); (case l => rfl); (case c => rfl); (case k => rfl)
      have d_call_sizes : Cs.Df (PySem.Challenge.cw_changestacks_s01_answers_holds.heap_1 w.params) mg "call_sizes" Cs.sCSizes := by
        refine' Cs.df_mk KX G ?a ?l ?c ?k; (case a => rfl); (case l => rfl); (case c => rfl); (case k => rfl)
      have d_carry : Cs.Df (PySem.Challenge.cw_changestacks_s01_answers_holds.heap_1 w.params) mg "carry" Cs.sCarry := by
        refine' Cs.df_mk KX G ?a ?l ?c ?k; (case a => rfl); (case l => rfl); (case c => rfl); (case k => rfl)
      have d_carry_on : Cs.Df (PySem.Challenge.cw_changestacks_s01_answers_holds.heap_1 w.params) mg "carry_on" Cs.sCarryOn := by
        refine' Cs.df_mk KX G ?a ?l ?c ?k; (case a => rfl); (case l => rfl); (case c => rfl); (case k => rfl)
      have d_clusters_of : Cs.Df (PySem.Challenge.cw_changestacks_s01_answers_holds.heap_1 w.params) mg "clusters_of" Cs.sClusters := by
        refine' Cs.df_mk KX G ?a ?l ?c ?k; (case a => rfl); (case l => rfl); (case c => rfl); (case k => rfl)
      have d_counts_with : Cs.Df (PySem.Challenge.cw_changestacks_s01_answers_holds.heap_1 w.params) mg "counts_with" Cs.sCounts := by
        refine' Cs.df_mk KX G ?a ?l ?c ?k; (case a => rfl); (case l => rfl); (case c => rfl); (case k => rfl)
      have d_alike_from_the_beginning : Cs.Df (PySem.Challenge.cw_changestacks_s01_answers_holds.heap_1 w.params) mg "alike_from_the_beginning" Cs.sAlike := by
        refine' Cs.df_mk KX G ?a ?l ?c ?k; (case a => rfl); (case l => rfl); (case c => rfl); (case k => rfl)
      have d_hunk_between : Cs.Df (PySem.Challenge.cw_changestacks_s01_answers_holds.heap_1 w.params) mg "hunk_between" Cs.sHunkB := by
        refine' Cs.df_mk KX G ?a ?l ?c ?k; (case a => rfl); (case l => rfl); (case c => rfl); (case k => rfl)
      have d_fate : Cs.Df (PySem.Challenge.cw_changestacks_s01_answers_holds.heap_1 w.params) mg "fate" Cs.sFate := by
        refine' Cs.df_mk KX G ?a ?l ?c ?k; (case a => rfl); (case l => rfl); (case c => rfl); (case k => rfl)
      have d_folders_of : Cs.Df (PySem.Challenge.cw_changestacks_s01_answers_holds.heap_1 w.params) mg "folders_of" Cs.sFoldersOf := by
        refine' Cs.df_mk KX G ?a ?l ?c ?k; (case a => rfl); (case l => rfl); (case c => rfl); (case k => rfl)
      have d_do_clash : Cs.Df (PySem.Challenge.cw_changestacks_s01_answers_holds.heap_1 w.params) mg "do_clash" Cs.sDoClash := by
        refine' Cs.df_mk KX G ?a ?l ?c ?k; (case a => rfl); (case l => rfl); (case c => rfl); (case k => rfl)
      have d_begins_alike : Cs.Df (PySem.Challenge.cw_changestacks_s01_answers_holds.heap_1 w.params) mg "begins_alike" Cs.sBegins := by
        refine' Cs.df_mk KX G ?a ?l ?c ?k; (case a => rfl); (case l => rfl); (case c => rfl); (case k => rfl)
      have d_hunks_between : Cs.Df (PySem.Challenge.cw_changestacks_s01_answers_holds.heap_1 w.params) mg "hunks_between" Cs.sHunks := by
        refine' Cs.df_mk KX G ?a ?l ?c ?k; (case a => rfl); (case l => rfl); (case c => rfl); (case k => rfl)
      have d_merge : Cs.Df (PySem.Challenge.cw_changestacks_s01_answers_holds.heap_1 w.params) mg "merge" Cs.sMerge := by
        refine' Cs.df_mk KX G ?a ?l ?c ?k; (case a => rfl); (case l => rfl); (case c => rfl); (case k => rfl)
      have d_merge_texts : Cs.Df (PySem.Challenge.cw_changestacks_s01_answers_holds.heap_1 w.params) mg "merge_texts" Cs.sMergeTexts := by
        refine' Cs.df_mk KX G ?a ?l ?c ?k; (case a => rfl); (case l => rfl); (case c => rfl); (case k => rfl)
      have d_one_form : Cs.Df (PySem.Challenge.cw_changestacks_s01_answers_holds.heap_1 w.params) mg "one_form" Cs.sOneForm := by
        refine' Cs.df_mk KX G ?a ?l ?c ?k; (case a => rfl); (case l => rfl); (case c => rfl); (case k => rfl)
      have d_is_name_byte : Cs.Df (PySem.Challenge.cw_changestacks_s01_answers_holds.heap_1 w.params) mg "is_name_byte" Cs.sNameByte := by
        refine' Cs.df_mk KX G ?a ?l ?c ?k; (case a => rfl); (case l => rfl); (case c => rfl); (case k => rfl)
      have d_is_name : Cs.Df (PySem.Challenge.cw_changestacks_s01_answers_holds.heap_1 w.params) mg "is_name" Cs.sIsName := by
        refine' Cs.df_mk KX G ?a ?l ?c ?k; (case a => rfl); (case l => rfl); (case c => rfl); (case k => rfl)
      have d_names_of : Cs.Df (PySem.Challenge.cw_changestacks_s01_answers_holds.heap_1 w.params) mg "names_of" Cs.sNamesOf := by
        refine' Cs.df_mk KX G ?a ?l ?c ?k; (case a => rfl); (case l => rfl); (case c => rfl); (case k => rfl)
      have d_is_path : Cs.Df (PySem.Challenge.cw_changestacks_s01_answers_holds.heap_1 w.params) mg "is_path" Cs.sIsPath := by
        refine' Cs.df_mk KX G ?a ?l ?c ?k; (case a => rfl); (case l => rfl); (case c => rfl); (case k => rfl)
      have d_kept_counts : Cs.Df (PySem.Challenge.cw_changestacks_s01_answers_holds.heap_1 w.params) mg "kept_counts" Cs.sKept := by
        refine' Cs.df_mk KX G ?a ?l ?c ?k; (case a => rfl); (case l => rfl); (case c => rfl); (case k => rfl)
      have d_is_settled : Cs.Df (PySem.Challenge.cw_changestacks_s01_answers_holds.heap_1 w.params) mg "is_settled" Cs.sIsSet := by
        refine' Cs.df_mk KX G ?a ?l ?c ?k; (case a => rfl); (case l => rfl); (case c => rfl); (case k => rfl)
      have d_settled : Cs.Df (PySem.Challenge.cw_changestacks_s01_answers_holds.heap_1 w.params) mg "settled" Cs.sSettled := by
        refine' Cs.df_mk KX G ?a ?l ?c ?k; (case a => rfl); (case l => rfl); (case c => rfl); (case k => rfl)
      have d_stretch_with : Cs.Df (PySem.Challenge.cw_changestacks_s01_answers_holds.heap_1 w.params) mg "stretch_with" Cs.sStretch := by
        refine' Cs.df_mk KX G ?a ?l ?c ?k; (case a => rfl); (case l => rfl); (case c => rfl); (case k => rfl)
      have d_tree_with : Cs.Df (PySem.Challenge.cw_changestacks_s01_answers_holds.heap_1 w.params) mg "tree_with" Cs.sTreeWith := by
        refine' Cs.df_mk KX G ?a ?l ?c ?k; (case a => rfl); (case l => rfl); (case c => rfl); (case k => rfl)
      have d_are_lines : Cs.Df (PySem.Challenge.cw_changestacks_s01_answers_holds.heap_1 w.params) mg "are_lines" Cs.sAreLines := by
        refine' Cs.df_mk KX G ?a ?l ?c ?k; (case a => rfl); (case l => rfl); (case c => rfl); (case k => rfl)
      have d_without_file : Cs.Df (PySem.Challenge.cw_changestacks_s01_answers_holds.heap_1 w.params) mg "without_file" Cs.sWithout := by
        refine' Cs.df_mk KX G ?a ?l ?c ?k; (case a => rfl); (case l => rfl); (case c => rfl); (case k => rfl)
      have d_with_file : Cs.Df (PySem.Challenge.cw_changestacks_s01_answers_holds.heap_1 w.params) mg "with_file" Cs.sWithFile := by
        refine' Cs.df_mk KX G ?a ?l ?c ?k; (case a => rfl); (case l => rfl); (case c => rfl); (case k => rfl)
      have d_clashes_in : Cs.Df (PySem.Challenge.cw_changestacks_s01_answers_holds.heap_1 w.params) mg "clashes_in" Cs.sClashesIn := by
        refine' Cs.df_mk KX G ?a ?l ?c ?k; (case a => rfl); (case l => rfl); (case c => rfl); (case k => rfl)
      have d_has_folder_among : Cs.Df (PySem.Challenge.cw_changestacks_s01_answers_holds.heap_1 w.params) mg "has_folder_among" Cs.sHasFolder := by
        refine' Cs.df_mk KX G ?a ?l ?c ?k; (case a => rfl); (case l => rfl); (case c => rfl); (case k => rfl)
      have d_why_no_tree : Cs.Df (PySem.Challenge.cw_changestacks_s01_answers_holds.heap_1 w.params) mg "why_no_tree" Cs.sWhyNo := by
        refine' Cs.df_mk KX G ?a ?l ?c ?k; (case a => rfl); (case l => rfl); (case c => rfl); (case k => rfl)
      obtain ⟨CCluster, l_Cluster, k_Cluster, m_Cluster_take_in⟩ : ∃ C, Cs.Kl (PySem.Challenge.cw_changestacks_s01_answers_holds.heap_1 w.params) C Cs.clNames ∧ Cs.Mkd (PySem.Challenge.cw_changestacks_s01_answers_holds.heap_1 w.params) mg "Cluster" C "Cluster.__init__" Cs.sClInit ∧ Cs.Md (PySem.Challenge.cw_changestacks_s01_answers_holds.heap_1 w.params) C "take_in" "Cluster.take_in" Cs.sTakeIn := by
        refine' ⟨?C_Cluster, Cs.kl_mk ?pg_Cluster ?hd_Cluster ?po_Cluster ?sa_Cluster (Cs.nos_cons ?n1_Cluster (Cs.nos_cons ?n2_Cluster (Cs.nos_cons ?n3_Cluster (Cs.nos_cons ?n4_Cluster Cs.nos_nil)))), Cs.mkd_mk KX G ?g_Cluster ?mk_Cluster ?kc_Cluster ?a_Cluster ?i_Cluster ?l_Cluster ?c_Cluster ?k_Cluster, Cs.md_mk ?a_0_Cluster ?i_0_Cluster ?l_0_Cluster ?c_0_Cluster ?k_0_Cluster⟩
        (case g_Cluster => rfl); (case pg_Cluster => rfl); (case hd_Cluster => rfl); (case po_Cluster => rfl); (case sa_Cluster => rfl); (case n1_Cluster => rfl); (case n2_Cluster => rfl); (case n3_Cluster => rfl); (case n4_Cluster => rfl); (case mk_Cluster => rfl); (case kc_Cluster => rfl); (case a_Cluster => rfl); (case i_Cluster => rfl); (case l_Cluster => rfl); (case c_Cluster => rfl); (case k_Cluster => rfl); (case a_0_Cluster => rfl); (case i_0_Cluster => rfl); (case l_0_Cluster => rfl); (case c_0_Cluster => rfl); (case k_0_Cluster => rfl)
      obtain ⟨CReader, l_Reader, k_Reader, m_Reader_is_done, m_Reader_take_number, m_Reader_take_row⟩ : ∃ C, Cs.Kl (PySem.Challenge.cw_changestacks_s01_answers_holds.heap_1 w.params) C Cs.rdNames ∧ Cs.Mkd (PySem.Challenge.cw_changestacks_s01_answers_holds.heap_1 w.params) mg "Reader" C "Reader.__init__" Cs.sRdInit ∧ Cs.Md (PySem.Challenge.cw_changestacks_s01_answers_holds.heap_1 w.params) C "is_done" "Reader.is_done" Cs.sIsDone ∧ Cs.Md (PySem.Challenge.cw_changestacks_s01_answers_holds.heap_1 w.params) C "take_number" "Reader.take_number" Cs.sTakeNumber ∧ Cs.Md (PySem.Challenge.cw_changestacks_s01_answers_holds.heap_1 w.params) C "take_row" "Reader.take_row" Cs.sTakeRow := by
        refine' ⟨?C_Reader, Cs.kl_mk ?pg_Reader ?hd_Reader ?po_Reader ?sa_Reader (Cs.nos_cons ?n1_Reader (Cs.nos_cons ?n2_Reader Cs.nos_nil)), Cs.mkd_mk KX G ?g_Reader ?mk_Reader ?kc_Reader ?a_Reader ?i_Reader ?l_Reader ?c_Reader ?k_Reader, Cs.md_mk ?a_0_Reader ?i_0_Reader ?l_0_Reader ?c_0_Reader ?k_0_Reader, Cs.md_mk ?a_1_Reader ?i_1_Reader ?l_1_Reader ?c_1_Reader ?k_1_Reader, Cs.md_mk ?a_2_Reader ?i_2_Reader ?l_2_Reader ?c_2_Reader ?k_2_Reader⟩
        (case g_Reader => rfl); (case pg_Reader => rfl); (case hd_Reader => rfl); (case po_Reader => rfl); (case sa_Reader => rfl); (case n1_Reader => rfl); (case n2_Reader => rfl); (case mk_Reader => rfl); (case kc_Reader => rfl); (case a_Reader => rfl); (case i_Reader => rfl); (case l_Reader => rfl); (case c_Reader => rfl); (case k_Reader => rfl); (case a_0_Reader => rfl); (case i_0_Reader => rfl); (case l_0_Reader => rfl); (case c_0_Reader => rfl); (case k_0_Reader => rfl); (case a_1_Reader => rfl); (case i_1_Reader => rfl); (case l_1_Reader => rfl); (case c_1_Reader => rfl); (case k_1_Reader => rfl); (case a_2_Reader => rfl); (case i_2_Reader => rfl); (case l_2_Reader => rfl); (case c_2_Reader => rfl); (case k_2_Reader => rfl)
      obtain ⟨CWork, l_Work, k_Work, m_Work_changes, m_Work_has_change, m_Work_has_two_changes, m_Work_edits_of, m_Work_done_with, m_Work_carry_on_behind⟩ : ∃ C, Cs.Kl (PySem.Challenge.cw_changestacks_s01_answers_holds.heap_1 w.params) C Cs.wkNames ∧ Cs.Mkd (PySem.Challenge.cw_changestacks_s01_answers_holds.heap_1 w.params) mg "Work" C "Work.__init__" Cs.sWkInit ∧ Cs.Md (PySem.Challenge.cw_changestacks_s01_answers_holds.heap_1 w.params) C "changes" "Work.changes" Cs.sChanges ∧ Cs.Md (PySem.Challenge.cw_changestacks_s01_answers_holds.heap_1 w.params) C "has_change" "Work.has_change" Cs.sHasChange ∧ Cs.Md (PySem.Challenge.cw_changestacks_s01_answers_holds.heap_1 w.params) C "has_two_changes" "Work.has_two_changes" Cs.sHasTwo ∧ Cs.Md (PySem.Challenge.cw_changestacks_s01_answers_holds.heap_1 w.params) C "edits_of" "Work.edits_of" Cs.sEditsOf ∧ Cs.Md (PySem.Challenge.cw_changestacks_s01_answers_holds.heap_1 w.params) C "done_with" "Work.done_with" Cs.sDoneWith ∧ Cs.Md (PySem.Challenge.cw_changestacks_s01_answers_holds.heap_1 w.params) C "carry_on_behind" "Work.carry_on_behind" Cs.sBehind := by
        refine' ⟨?C_Work, Cs.kl_mk ?pg_Work ?hd_Work ?po_Work ?sa_Work (Cs.nos_cons ?n1_Work (Cs.nos_cons ?n2_Work Cs.nos_nil)), Cs.mkd_mk KX G ?g_Work ?mk_Work ?kc_Work ?a_Work ?i_Work ?l_Work ?c_Work ?k_Work, Cs.md_mk ?a_0_Work ?i_0_Work ?l_0_Work ?c_0_Work ?k_0_Work, Cs.md_mk ?a_1_Work ?i_1_Work ?l_1_Work ?c_1_Work ?k_1_Work, Cs.md_mk ?a_2_Work ?i_2_Work ?l_2_Work ?c_2_Work ?k_2_Work, Cs.md_mk ?a_3_Work ?i_3_Work ?l_3_Work ?c_3_Work ?k_3_Work, Cs.md_mk ?a_4_Work ?i_4_Work ?l_4_Work ?c_4_Work ?k_4_Work, Cs.md_mk ?a_5_Work ?i_5_Work ?l_5_Work ?c_5_Work ?k_5_Work⟩
        (case g_Work => rfl); (case pg_Work => rfl); (case hd_Work => rfl); (case po_Work => rfl); (case sa_Work => rfl); (case n1_Work => rfl); (case n2_Work => rfl); (case mk_Work => rfl); (case kc_Work => rfl); (case a_Work => rfl); (case i_Work => rfl); (case l_Work => rfl); (case c_Work => rfl); (case k_Work => rfl); (case a_0_Work => rfl); (case i_0_Work => rfl); (case l_0_Work => rfl); (case c_0_Work => rfl); (case k_0_Work => rfl); (case a_1_Work => rfl); (case i_1_Work => rfl); (case l_1_Work => rfl); (case c_1_Work => rfl); (case k_1_Work => rfl); (case a_2_Work => rfl); (case i_2_Work => rfl); (case l_2_Work => rfl); (case c_2_Work => rfl); (case k_2_Work => rfl); (case a_3_Work => rfl); (case i_3_Work => rfl); (case l_3_Work => rfl); (case c_3_Work => rfl); (case k_3_Work => rfl); (case a_4_Work => rfl); (case i_4_Work => rfl); (case l_4_Work => rfl); (case c_4_Work => rfl); (case k_4_Work => rfl); (case a_5_Work => rfl); (case i_5_Work => rfl); (case l_5_Work => rfl); (case c_5_Work => rfl); (case k_5_Work => rfl)
      obtain ⟨CEdit, l_Edit, k_Edit⟩ : ∃ C, Cs.Kl (PySem.Challenge.cw_changestacks_s01_answers_holds.heap_1 w.params) C Cs.edNames ∧ Cs.Mkd (PySem.Challenge.cw_changestacks_s01_answers_holds.heap_1 w.params) mg "Edit" C "Edit.__init__" Cs.sEdInit := by
        refine' ⟨?C_Edit, Cs.kl_mk ?pg_Edit ?hd_Edit ?po_Edit ?sa_Edit (Cs.nos_cons ?n1_Edit (Cs.nos_cons ?n2_Edit (Cs.nos_cons ?n3_Edit (Cs.nos_cons ?n4_Edit (Cs.nos_cons ?n5_Edit Cs.nos_nil))))), Cs.mkd_mk KX G ?g_Edit ?mk_Edit ?kc_Edit ?a_Edit ?i_Edit ?l_Edit ?c_Edit ?k_Edit⟩
        (case g_Edit => rfl); (case pg_Edit => rfl); (case hd_Edit => rfl); (case po_Edit => rfl); (case sa_Edit => rfl); (case n1_Edit => rfl); (case n2_Edit => rfl); (case n3_Edit => rfl); (case n4_Edit => rfl); (case n5_Edit => rfl); (case mk_Edit => rfl); (case kc_Edit => rfl); (case a_Edit => rfl); (case i_Edit => rfl); (case l_Edit => rfl); (case c_Edit => rfl); (case k_Edit => rfl)
      have SS : Cs.TSigns (PySem.Challenge.cw_changestacks_s01_answers_holds.heap_1 w.params) mg := by
        refine' Cs.signs_mk KX G ?sa_s ?sl_s; (case sa_s => rfl); (case sl_s => rfl)
      obtain ⟨ca, cas, BB, n_file, n_drop, n_take, n_list, n_get, n_begin, n_push, n_amend, n_rebase, n_remove, n_fold, n_split, n_swap, n_pick, n_edits, n_both, n_sizes⟩ : ∃ (p : Addr) (as : List Addr), Cs.Tbl (PySem.Challenge.cw_changestacks_s01_answers_holds.heap_1 w.params) mg p as ∧ mg "call_file" = some (.ref (as.getD 0 0)) ∧ mg "call_drop" = some (.ref (as.getD 1 0)) ∧ mg "call_take" = some (.ref (as.getD 2 0)) ∧ mg "call_list" = some (.ref (as.getD 3 0)) ∧ mg "call_get" = some (.ref (as.getD 4 0)) ∧ mg "call_begin" = some (.ref (as.getD 5 0)) ∧ mg "call_push" = some (.ref (as.getD 6 0)) ∧ mg "call_amend" = some (.ref (as.getD 7 0)) ∧ mg "call_rebase" = some (.ref (as.getD 8 0)) ∧ mg "call_remove" = some (.ref (as.getD 9 0)) ∧ mg "call_fold" = some (.ref (as.getD 10 0)) ∧ mg "call_split" = some (.ref (as.getD 11 0)) ∧ mg "call_swap" = some (.ref (as.getD 12 0)) ∧ mg "call_pick" = some (.ref (as.getD 13 0)) ∧ mg "call_edits" = some (.ref (as.getD 14 0)) ∧ mg "call_both" = some (.ref (as.getD 15 0)) ∧ mg "call_sizes" = some (.ref (as.getD 16 0)) := by
        refine' Cs.tbl_mk KX G ?ct ?cl ?cn_file ?cn_drop ?cn_take ?cn_list ?cn_get ?cn_begin ?cn_push ?cn_amend ?cn_rebase ?cn_remove ?cn_fold ?cn_split ?cn_swap ?cn_pick ?cn_edits ?cn_both ?cn_sizes
        (case ct => rfl); (case cl => rfl); (case cn_file => rfl); (case cn_drop => rfl); (case cn_take => rfl); (case cn_list => rfl); (case cn_get => rfl); (case cn_begin => rfl); (case cn_push => rfl); (case cn_amend => rfl); (case cn_rebase => rfl); (case cn_remove => rfl); (case cn_fold => rfl); (case cn_split => rfl); (case cn_swap => rfl); (case cn_pick => rfl); (case cn_edits => rfl); (case cn_both => rfl); (case cn_sizes => rfl)
      exact ⟨CCluster, CReader, CEdit, CWork, ca, cas, TT, SS, BB, l_Cluster, l_Reader, l_Work, l_Edit, d_answers, d_refusal, d_counted, d_call_begin, d_call_push, d_call_take, d_call_drop, d_call_get, d_call_list, d_call_file, d_call_amend, d_call_rebase, d_call_remove, d_call_fold, d_call_pick, d_call_split, d_call_swap, d_told, d_call_edits, d_call_both, d_call_sizes, d_carry, d_carry_on, k_Cluster, m_Cluster_take_in, d_clusters_of, d_counts_with, k_Edit, d_alike_from_the_beginning, d_hunk_between, d_fate, d_folders_of, d_do_clash, d_begins_alike, d_hunks_between, d_merge, d_merge_texts, d_one_form, d_is_name_byte, d_is_name, d_names_of, d_is_path, k_Reader, m_Reader_is_done, m_Reader_take_number, m_Reader_take_row, d_kept_counts, d_is_settled, d_settled, d_stretch_with, d_tree_with, d_are_lines, d_without_file, d_with_file, d_clashes_in, d_has_folder_among, d_why_no_tree, k_Work, m_Work_changes, m_Work_has_change, m_Work_has_two_changes, m_Work_edits_of, m_Work_done_with, m_Work_carry_on_behind, n_file, n_drop, n_take, n_list, n_get, n_begin, n_push, n_amend, n_rebase, n_remove, n_fold, n_split, n_swap, n_pick, n_edits, n_both, n_sizes⟩
    obtain ⟨fd, b, ok⟩ := Cs.ans_end FF.d_answers hmg (fun base => Cs.all_ok FF)
    exact ⟨fd, b, fun base _ _ => ok base⟩
  case S =>
    intro K H xs a hO hwi hask hx
    exact Cs.s_end K H xs a hO hwi hask hx
#print axioms PySem.Challenge.cw_changestacks_s01_answers_holds

