import PyProof.Rows.All
import Wide.All
import OpenK.AllK
import Wide.FinOn
import Open.SpecLaws
import KE.OsGo
import HandS.ForSpec
import HandS.TryMany
import HandS.TupAny
import HandS.Deep
import HandS.Dict
import HandS.Iter
import HandS.Comp
import HandS.More
import HandS.Conv
import HandS.Flow
import PyProof.AutoSeq1
import HandS.Text
import HandS.Walk
import KE.BitLaws
import KE.GoesZip
import KE.GoesMore
import HandS.Zip
import HandS.Lambda
import HandS.Nested
import HandS.SortKw
import KE.KMinKey
import HandS.Spec
import HandS.EndTab
import HandS.NestedK
import PyProof.TableCode
import KE.OsRun
import PySem.Challenge.RW_weakenings_s01_answers
section
set_option autoImplicit false
namespace Wk
open Oc (C)
/-! # Concepts as numbers, each sign ahead of its parts -/
def enc : C → List Nat
  | .top => [0]
  | .bot => [1]
  | .name a => [2, a]
  | .and c d => 3 :: (enc c ++ enc d)
  | .or c d => 4 :: (enc c ++ enc d)
  | .not c => 5 :: enc c
  | .some r c => 6 :: r :: enc c
  | .all r c => 7 :: r :: enc c
def Fine : C → Prop
  | .top => True
  | .bot => True
  | .name a => a < 4
  | .and c d => Fine c ∧ Fine d
  | .or c d => Fine c ∧ Fine d
  | .not c => Fine c
  | .some r c => r < 2 ∧ Fine c
  | .all r c => r < 2 ∧ Fine c
theorem enc_pos (c : C) : 0 < (enc c).length := by cases c <;> simp [enc]
theorem read_enc : ∀ (c : C) (n : Nat) (r : List Nat), Fine c → (enc c).length ≤ n → Oc.read n (enc c ++ r) = some (c, r) := by
  intro c
  induction c with
  | top => intro n r _ h; cases n with
    | zero => simp [enc] at h
    | succ n => rfl
  | bot => intro n r _ h; cases n with
    | zero => simp [enc] at h
    | succ n => rfl
  | name a => intro n r f h; cases n with
    | zero => simp [enc] at h
    | succ n =>
      show (if a < 4 then some (C.name a, r) else none) = _
      rw [if_pos (show a < 4 from f)]
  | and c d ic id => intro n r f h; cases n with
    | zero => simp [enc] at h
    | succ n =>
      simp only [enc, List.length_cons, List.length_append] at h
      show (match Oc.read n ((enc c ++ enc d) ++ r) with
        | none => none
        | some x => (Oc.read n x.2).map fun (y : C × List Nat) => (C.and x.1 y.1, y.2)) = _
      rw [List.append_assoc, ic n (enc d ++ r) f.1 (by omega)]
      show (Oc.read n (enc d ++ r)).map _ = _
      rw [id n r f.2 (by omega)]
      rfl
  | or c d ic id => intro n r f h; cases n with
    | zero => simp [enc] at h
    | succ n =>
      simp only [enc, List.length_cons, List.length_append] at h
      show (match Oc.read n ((enc c ++ enc d) ++ r) with
        | none => none
        | some x => (Oc.read n x.2).map fun (y : C × List Nat) => (C.or x.1 y.1, y.2)) = _
      rw [List.append_assoc, ic n (enc d ++ r) f.1 (by omega)]
      show (Oc.read n (enc d ++ r)).map _ = _
      rw [id n r f.2 (by omega)]
      rfl
  | not c ic => intro n r f h; cases n with
    | zero => simp [enc] at h
    | succ n =>
      simp only [enc, List.length_cons] at h
      show (Oc.read n (enc c ++ r)).map _ = _
      rw [ic n r f (by omega)]
      rfl
  | some k c ic => intro n r f h; cases n with
    | zero => simp [enc] at h
    | succ n =>
      simp only [enc, List.length_cons] at h
      show (if k < 2 then (Oc.read n (enc c ++ r)).map _ else none) = _
      rw [if_pos f.1, ic n r f.2 (by omega)]
      rfl
  | all k c ic => intro n r f h; cases n with
    | zero => simp [enc] at h
    | succ n =>
      simp only [enc, List.length_cons] at h
      show (if k < 2 then (Oc.read n (enc c ++ r)).map _ else none) = _
      rw [if_pos f.1, ic n r f.2 (by omega)]
      rfl
theorem read_some : ∀ (n : Nat) (l : List Nat) (c : C) (r : List Nat), Oc.read n l = some (c, r) → l = enc c ++ r ∧ Fine c := by
  intro n
  induction n with
  | zero => intro l c r h; simp [Oc.read] at h
  | succ n ih =>
    intro l c r h
    unfold Oc.read at h
    split at h
    · cases h; exact ⟨rfl, trivial⟩
    · cases h; exact ⟨rfl, trivial⟩
    · split at h
      · cases h; exact ⟨rfl, by assumption⟩
      · cases h
    · split at h
      · cases h
      · rename_i x e
        cases e2 : Oc.read n x.2 with
        | none => rw [e2] at h; cases h
        | some y =>
          rw [e2] at h; cases h
          have a := ih _ _ _ e
          have b := ih _ _ _ e2
          refine ⟨?_, a.2, b.2⟩
          rw [a.1, b.1]; simp [enc]
    · split at h
      · cases h
      · rename_i x e
        cases e2 : Oc.read n x.2 with
        | none => rw [e2] at h; cases h
        | some y =>
          rw [e2] at h; cases h
          have a := ih _ _ _ e
          have b := ih _ _ _ e2
          refine ⟨?_, a.2, b.2⟩
          rw [a.1, b.1]; simp [enc]
    · rename_i r' 
      cases e : Oc.read n r' with
      | none => rw [e] at h; cases h
      | some x =>
        rw [e] at h; cases h
        have a := ih _ _ _ e
        refine ⟨?_, a.2⟩
        rw [a.1]; simp [enc]
    · rename_i k r' 
      split at h
      · rename_i hk
        cases e : Oc.read n r' with
        | none => rw [e] at h; cases h
        | some x =>
          rw [e] at h; cases h
          have a := ih _ _ _ e
          refine ⟨?_, hk, a.2⟩
          rw [a.1]; simp [enc]
      · cases h
    · rename_i k r' 
      split at h
      · rename_i hk
        cases e : Oc.read n r' with
        | none => rw [e] at h; cases h
        | some x =>
          rw [e] at h; cases h
          have a := ih _ _ _ e
          refine ⟨?_, hk, a.2⟩
          rw [a.1]; simp [enc]
      · cases h
    · cases h
/-- a concept at the beginning -/
def rd (l : List Nat) : Option (C × List Nat) := Oc.read (l.length + 1) l
theorem rd_some {l : List Nat} {c : C} {r : List Nat} (h : rd l = some (c, r)) : l = enc c ++ r ∧ Fine c := read_some _ _ _ _ h
theorem rd_enc {c : C} (f : Fine c) (r : List Nat) : rd (enc c ++ r) = some (c, r) := read_enc c _ r f (by simp; omega)
theorem read_rd {n : Nat} {l : List Nat} (h : l.length < n) : Oc.read n l = rd l := by
  cases e : rd l with
  | some x =>
    obtain ⟨e1, f⟩ := rd_some (c := x.1) (r := x.2) e
    rw [e1] at h ⊢
    rw [List.length_append] at h
    exact read_enc _ _ _ f (by omega)
  | none =>
    cases e2 : Oc.read n l with
    | none => rfl
    | some x =>
      obtain ⟨e1, f⟩ := read_some n l x.1 x.2 e2
      rw [e1, rd_enc f] at e
      cases e
theorem rd_len {l : List Nat} {x : C × List Nat} (h : rd l = some x) : x.2.length < l.length := by
  obtain ⟨e, _⟩ := rd_some (c := x.1) (r := x.2) h
  have := enc_pos x.1
  have e2 := congrArg List.length e
  rw [List.length_append] at e2
  omega
theorem enc_inj {c d : C} (f : Fine c) (g : Fine d) (h : enc c = enc d) : c = d := by
  have a := rd_enc f []
  rw [h, rd_enc g []] at a
  cases a
  rfl
/-- what is left behind so many concepts -/
def many : Nat → List Nat → Option (List Nat)
  | 0, l => some l
  | m + 1, l => match rd l with
    | none => none
    | some x => many m x.2
/-- how many numbers stand ahead of the concepts that follow -/
def hl : List Nat → Nat
  | [] => 0
  | k :: r => if 8 ≤ k then 0 else if ([0, 0, 4, 0, 0, 0, 2, 2] : List Nat).getD k 0 = 0 then 1 else match r with
    | [] => 0
    | a :: _ => if ([0, 0, 4, 0, 0, 0, 2, 2] : List Nat).getD k 0 ≤ a then 0 else 2
theorem hl_cons (k : Nat) (r : List Nat) : hl (k :: r) = if 8 ≤ k then 0 else if ([0, 0, 4, 0, 0, 0, 2, 2] : List Nat).getD k 0 = 0 then 1 else match r with
    | [] => 0
    | a :: _ => if ([0, 0, 4, 0, 0, 0, 2, 2] : List Nat).getD k 0 ≤ a then 0 else 2 := rfl
def fol (k : Nat) : Nat := ([0, 0, 0, 2, 2, 1, 1, 1] : List Nat).getD k 0
theorem hl_le (l : List Nat) : hl l ≤ l.length := by
  unfold hl
  split
  · simp
  · split
    · simp
    · split
      · simp
      · split
        · simp
        · split
          · simp
          · simp
theorem rd_nil : rd [] = none := rfl
theorem rd_0 (r : List Nat) : rd (0 :: r) = some (.top, r) := rfl
theorem rd_1 (r : List Nat) : rd (1 :: r) = some (.bot, r) := rfl
theorem rd_2 (a : Nat) (r : List Nat) : rd (2 :: a :: r) = if a < 4 then some (.name a, r) else none := rfl
theorem rd_3 (r : List Nat) : rd (3 :: r) = match rd r with
    | none => none
    | some x => (rd x.2).map fun y => (C.and x.1 y.1, y.2) := by
  show (match rd r with
    | none => none
    | some x => (Oc.read (r.length + 1) x.2).map fun (y : C × List Nat) => (C.and x.1 y.1, y.2)) = _
  cases e : rd r with
  | none => rfl
  | some x =>
    show (Oc.read (r.length + 1) x.2).map _ = _
    rw [read_rd (by have := rd_len e; omega)]
theorem rd_4 (r : List Nat) : rd (4 :: r) = match rd r with
    | none => none
    | some x => (rd x.2).map fun y => (C.or x.1 y.1, y.2) := by
  show (match rd r with
    | none => none
    | some x => (Oc.read (r.length + 1) x.2).map fun (y : C × List Nat) => (C.or x.1 y.1, y.2)) = _
  cases e : rd r with
  | none => rfl
  | some x =>
    show (Oc.read (r.length + 1) x.2).map _ = _
    rw [read_rd (by have := rd_len e; omega)]
theorem rd_5 (r : List Nat) : rd (5 :: r) = (rd r).map fun x => (.not x.1, x.2) := rfl
theorem rd_6 (k : Nat) (r : List Nat) : rd (6 :: k :: r) = if k < 2 then (rd r).map fun x => (.some k x.1, x.2) else none := by
  show (if k < 2 then (Oc.read (r.length + 1 + 1) r).map fun x => (C.some k x.1, x.2) else none) = _
  rw [read_rd (by omega)]
theorem rd_7 (k : Nat) (r : List Nat) : rd (7 :: k :: r) = if k < 2 then (rd r).map fun x => (.all k x.1, x.2) else none := by
  show (if k < 2 then (Oc.read (r.length + 1 + 1) r).map fun x => (C.all k x.1, x.2) else none) = _
  rw [read_rd (by omega)]
theorem hl_zero {l : List Nat} (h : hl l = 0) : rd l = none := by
  match l with
  | [] => rfl
  | 0 :: _ | 1 :: _ | 3 :: _ | 4 :: _ | 5 :: _ => simp [hl] at h
  | [2] | [6] | [7] => rfl
  | 2 :: a :: r => 
    simp [hl] at h
    rw [rd_2, if_neg (by omega)]
  | 6 :: a :: r => 
    simp [hl] at h
    rw [rd_6, if_neg (by omega)]
  | 7 :: a :: r => 
    simp [hl] at h
    rw [rd_7, if_neg (by omega)]
  | (n + 8) :: r => 
    show Oc.read _ _ = none
    unfold Oc.read
    rfl
theorem many_zero {l : List Nat} (m : Nat) (h : hl l = 0) : many (m + 1) l = none := by
  unfold many
  rw [hl_zero h]
theorem many_step : ∀ {l : List Nat} (m : Nat), hl l ≠ 0 → many (m + 1) l = many (m + fol (l.headD 0)) (l.drop (hl l))
  | [], m, h => absurd rfl h
  | 0 :: r, m, h => rfl
  | 1 :: r, m, h => rfl
  | 2 :: [], m, h => absurd rfl h
  | 2 :: a :: r, m, h => by
    have ha : a < 4 := by
      simp [hl] at h
      omega
    have e : hl (2 :: a :: r) = 2 := by simp [hl]; omega
    rw [e]
    show (match rd (2 :: a :: r) with | none => none | some x => many m x.2) = many m r
    rw [rd_2, if_pos ha]
  | 3 :: r, m, h => by
    show (match rd (3 :: r) with | none => none | some x => many m x.2) = (match rd r with | none => none | some x => many (m + 1) x.2)
    rw [rd_3]
    cases e : rd r with
    | none => rfl
    | some x =>
      show (match (rd x.2).map _ with | none => none | some (x : C × List Nat) => many m x.2) = (match rd x.2 with | none => none | some x => many m x.2)
      cases e : rd x.2 with
      | none => rfl
      | some y => rfl
  | 4 :: r, m, h => by
    show (match rd (4 :: r) with | none => none | some x => many m x.2) = (match rd r with | none => none | some x => many (m + 1) x.2)
    rw [rd_4]
    cases e : rd r with
    | none => rfl
    | some x =>
      show (match (rd x.2).map _ with | none => none | some (x : C × List Nat) => many m x.2) = (match rd x.2 with | none => none | some x => many m x.2)
      cases e : rd x.2 with
      | none => rfl
      | some y => rfl
  | 5 :: r, m, h => by
    show (match rd (5 :: r) with | none => none | some x => many m x.2) = (match rd r with | none => none | some x => many m x.2)
    rw [rd_5]
    cases e : rd r with
    | none => rfl
    | some x => rfl
  | 6 :: [], m, h => absurd rfl h
  | 6 :: k :: r, m, h => by
    have ha : k < 2 := by
      simp [hl] at h
      omega
    have e : hl (6 :: k :: r) = 2 := by simp [hl]; omega
    rw [e]
    show (match rd (6 :: k :: r) with | none => none | some x => many m x.2) = (match rd r with | none => none | some x => many m x.2)
    rw [rd_6, if_pos ha]
    cases e : rd r with
    | none => rfl
    | some x => rfl
  | 7 :: [], m, h => absurd rfl h
  | 7 :: k :: r, m, h => by
    have ha : k < 2 := by
      simp [hl] at h
      omega
    have e : hl (7 :: k :: r) = 2 := by simp [hl]; omega
    rw [e]
    show (match rd (7 :: k :: r) with | none => none | some x => many m x.2) = (match rd r with | none => none | some x => many m x.2)
    rw [rd_7, if_pos ha]
    cases e : rd r with
    | none => rfl
    | some x => rfl
  | (n + 8) :: r, m, h => by
    exact absurd (by simp [hl]) h
theorem many_one (l : List Nat) : many 1 l = (rd l).map (·.2) := by
  unfold many
  cases rd l with
  | none => rfl
  | some x => rfl
/-! ## What stands inside a concept -/
def hd : C → List Nat
  | .top => [0]
  | .bot => [1]
  | .name a => [2, a]
  | .and _ _ => [3]
  | .or _ _ => [4]
  | .not _ => [5]
  | .some r _ => [6, r]
  | .all r _ => [7, r]
def kids : C → List C
  | .top => []
  | .bot => []
  | .name _ => []
  | .and c d => [c, d]
  | .or c d => [c, d]
  | .not c => [c]
  | .some _ c => [c]
  | .all _ c => [c]
def subs : C → List C
  | .top => [.top]
  | .bot => [.bot]
  | .name a => [.name a]
  | .and c d => .and c d :: (subs c ++ subs d)
  | .or c d => .or c d :: (subs c ++ subs d)
  | .not c => .not c :: subs c
  | .some r c => .some r c :: subs c
  | .all r c => .all r c :: subs c
theorem enc_hd (c : C) : enc c = hd c ++ (kids c).flatMap enc := by cases c <;> simp [enc, hd, kids]
theorem subs_kids (c : C) : subs c = c :: (kids c).flatMap subs := by cases c <;> simp [subs, kids]
theorem hl_enc {c : C} (f : Fine c) (r : List Nat) : hl (enc c ++ r) = (hd c).length := by
  cases c <;> simp [enc, hd, hl, Fine] at f ⊢ <;> omega
theorem hd_pos (c : C) : 0 < (hd c).length := by cases c <;> simp [hd]
theorem fine_kids {c : C} (f : Fine c) : ∀ d ∈ kids c, Fine d := by
  cases c <;> simp [kids, Fine] at f ⊢ <;> simp [f]
theorem fine_subs : ∀ {c : C}, Fine c → ∀ d ∈ subs c, Fine d := by
  intro c
  induction c with
  | top | bot | name => intro f d h; simp [subs] at h; subst h; exact f
  | and c d ic id | or c d ic id =>
    intro f x h
    simp only [subs, List.mem_cons, List.mem_append] at h
    rcases h with h | h | h
    · subst h; exact f
    · exact ic f.1 x h
    · exact id f.2 x h
  | not c ic =>
    intro f x h
    simp only [subs, List.mem_cons] at h
    rcases h with h | h
    · subst h; exact f
    · exact ic f x h
  | some r c ic | all r c ic =>
    intro f x h
    simp only [subs, List.mem_cons] at h
    rcases h with h | h
    · subst h; exact f
    · exact ic f.2 x h
theorem subs_len (c : C) : (subs c).length ≤ (enc c).length := by
  induction c with
  | top | bot | name => simp [subs, enc]
  | and c d ic id | or c d ic id => simp only [subs, enc, List.length_cons, List.length_append]; omega
  | not c ic => simp only [subs, enc, List.length_cons]; omega
  | some r c ic | all r c ic => simp only [subs, enc, List.length_cons]; omega
def isAtom : C → Bool
  | .name _ => true
  | .some _ _ => true
  | .all _ _ => true
  | _ => false
theorem atoms_subs (c : C) : c.atoms = (subs c).filter isAtom := by
  induction c with
  | top | bot | name => rfl
  | and c d ic id | or c d ic id => simp [C.atoms, subs, isAtom, ic, id]
  | not c ic => simp [C.atoms, subs, isAtom, ic]
  | some r c ic | all r c ic =>
    simp only [C.atoms, subs]
    rw [List.filter_cons_of_pos rfl, ic]
theorem sub_self (c : C) : c ∈ subs c := by rw [subs_kids]; simp
theorem sub_trans : ∀ {c d e : C}, d ∈ subs c → e ∈ subs d → e ∈ subs c := by
  intro c
  induction c with
  | top | bot | name => intro d e h g; simp [subs] at h; subst h; exact g
  | and c d ic id | or c d ic id =>
    intro x e h g
    simp only [subs, List.mem_cons, List.mem_append] at h
    rcases h with h | h | h
    · subst h; exact g
    · simp only [subs, List.mem_cons, List.mem_append]; exact .inr (.inl (ic h g))
    · simp only [subs, List.mem_cons, List.mem_append]; exact .inr (.inr (id h g))
  | not c ic | some r c ic | all r c ic =>
    intro x e h g
    simp only [subs, List.mem_cons] at h
    rcases h with h | h
    · subst h; exact g
    · simp only [subs, List.mem_cons]; exact .inr (ic h g)
theorem kid_sub {c d : C} (h : d ∈ kids c) : d ∈ subs c := by
  rw [subs_kids]
  exact List.mem_cons_of_mem _ (List.mem_flatMap.mpr ⟨d, h, sub_self d⟩)
/-- the atoms, gone through part by part -/
def addAtom (m : List C) (c : C) : List C := if isAtom c = true ∧ m.contains c = false then m ++ [c] else m
theorem add_fold : ∀ (l m : List C), l.foldl addAtom m = (l.filter isAtom).foldl (fun m c => if m.contains c = true then m else m ++ [c]) m
  | [], m => rfl
  | c :: l, m => by
    rw [List.foldl_cons, add_fold l]
    cases e : isAtom c with
    | false =>
      rw [List.filter_cons_of_neg (by simp [e])]
      unfold addAtom
      rw [if_neg (by simp [e])]
    | true =>
      rw [List.filter_cons_of_pos e, List.foldl_cons]
      unfold addAtom
      cases e2 : m.contains c <;> simp [e]
theorem atomsOf_fold (l : List C) : Oc.atomsOf l = (l.flatMap subs).foldl addAtom [] := by
  rw [add_fold]
  unfold Oc.atomsOf Oc.distinct
  congr 1
  induction l with
  | nil => rfl
  | cons c l ih => rw [List.flatMap_cons, List.flatMap_cons, List.filter_append, ih, atoms_subs]
theorem mem_distinct_aux : ∀ (l m : List C) (x : C), x ∈ l.foldl (fun m c => if m.contains c = true then m else m ++ [c]) m ↔ x ∈ m ∨ x ∈ l
  | [], m, x => by simp
  | c :: l, m, x => by
    rw [List.foldl_cons, mem_distinct_aux l]
    by_cases h : m.contains c = true
    · rw [if_pos h]
      have : c ∈ m := by simpa using h
      constructor
      · rintro (a | a)
        · exact .inl a
        · exact .inr (List.mem_cons_of_mem _ a)
      · rintro (a | a)
        · exact .inl a
        · rcases List.mem_cons.mp a with b | b
          · subst b; exact .inl this
          · exact .inr b
    · rw [if_neg h]
      simp [List.mem_append, or_assoc]
theorem mem_atomsOf {l : List C} {x : C} : x ∈ Oc.atomsOf l ↔ ∃ c ∈ l, x ∈ c.atoms := by
  unfold Oc.atomsOf Oc.distinct
  rw [mem_distinct_aux]
  simp
theorem atoms_atom {c x : C} (h : x ∈ c.atoms) : isAtom x = true := by
  rw [atoms_subs] at h
  exact (List.mem_filter.mp h).2
theorem atoms_trans {c x y : C} (h : x ∈ c.atoms) (g : y ∈ x.atoms) : y ∈ c.atoms := by
  rw [atoms_subs] at h g ⊢
  have h := List.mem_filter.mp h
  have g := List.mem_filter.mp g
  exact List.mem_filter.mpr ⟨sub_trans h.1 g.1, g.2⟩
theorem self_atoms {x : C} (h : isAtom x = true) : x ∈ x.atoms := by
  rw [atoms_subs]
  exact List.mem_filter.mpr ⟨sub_self x, h⟩
theorem distinct_nodup_aux : ∀ (l m : List C), m.Nodup → (l.foldl (fun m c => if m.contains c = true then m else m ++ [c]) m).Nodup
  | [], m, h => h
  | c :: l, m, h => by
    rw [List.foldl_cons]
    refine distinct_nodup_aux l _ ?_
    by_cases e : m.contains c = true
    · rw [if_pos e]; exact h
    · rw [if_neg e]
      rw [List.nodup_append]
      refine ⟨h, by simp, ?_⟩
      intro a ha b hb
      simp at hb
      subst hb
      intro z
      subst z
      exact e (by simpa using ha)
theorem atomsOf_nodup (l : List C) : (Oc.atomsOf l).Nodup := distinct_nodup_aux _ _ List.nodup_nil
end Wk
end
section
set_option autoImplicit false
namespace Wk
open Oc (C Axiom)
/-! # Groups of patterns as numbers -/
def mk : Nat → (Nat → Bool) → Nat
  | 0, _ => 0
  | n + 1, f => mk n f + (if f n = true then 2 ^ n else 0)
theorem mk_succ (n : Nat) (f : Nat → Bool) : mk (n + 1) f = mk n f + (if f n = true then 2 ^ n else 0) := rfl
theorem mk_lt : ∀ (n : Nat) (f : Nat → Bool), mk n f < 2 ^ n
  | 0, f => by simp [mk]
  | n + 1, f => by
    have := mk_lt n f
    unfold mk
    rw [Nat.pow_succ]
    split <;> omega
theorem mk_bit : ∀ (n : Nat) (f : Nat → Bool) (i : Nat), (mk n f).testBit i = (decide (i < n) && f i)
  | 0, f, i => by simp [mk]
  | n + 1, f, i => by
    have h := mk_lt n f
    have e : mk (n + 1) f = 2 ^ n * (if f n = true then 1 else 0) + mk n f := by
      rw [mk_succ]
      split <;> simp [Nat.add_comm]
    rw [e, Nat.testBit_two_pow_mul_add _ h]
    by_cases c : i < n
    · rw [if_pos c, mk_bit n f i]
      simp [c, Nat.lt_succ_of_lt c]
    · rw [if_neg c]
      by_cases c2 : i = n
      · subst c2
        cases e2 : f i <;> simp
      · have : ¬ i < n + 1 := by omega
        have e3 : i - n ≠ 0 := by omega
        simp only [this, decide_false, Bool.false_and]
        split
        · rw [← Nat.pow_zero 2, Nat.testBit_two_pow]
          simp; omega
        · simp
theorem mk_congr {n : Nat} {f g : Nat → Bool} (h : ∀ i, i < n → f i = g i) : mk n f = mk n g := by
  refine Nat.eq_of_testBit_eq fun i => ?_
  rw [mk_bit, mk_bit]
  by_cases c : i < n
  · rw [h i c]
  · simp [c]
theorem mk_inj {n : Nat} {f g : Nat → Bool} (h : mk n f = mk n g) : ∀ i, i < n → f i = g i := by
  intro i c
  have e := congrArg (fun x => Nat.testBit x i) h
  simpa [mk_bit, c] using e
theorem mk_and (n : Nat) (f g : Nat → Bool) : mk n f &&& mk n g = mk n (fun i => f i && g i) := by
  refine Nat.eq_of_testBit_eq fun i => ?_
  rw [Nat.testBit_and, mk_bit, mk_bit, mk_bit]
  cases decide (i < n) <;> simp
theorem mk_or (n : Nat) (f g : Nat → Bool) : mk n f ||| mk n g = mk n (fun i => f i || g i) := by
  refine Nat.eq_of_testBit_eq fun i => ?_
  rw [Nat.testBit_or, mk_bit, mk_bit, mk_bit]
  cases decide (i < n) <;> simp
theorem mk_xor (n : Nat) (f g : Nat → Bool) : mk n f ^^^ mk n g = mk n (fun i => f i ^^ g i) := by
  refine Nat.eq_of_testBit_eq fun i => ?_
  rw [Nat.testBit_xor, mk_bit, mk_bit, mk_bit]
  cases decide (i < n) <;> simp
theorem mk_add (n : Nat) (f g : Nat → Bool) : mk n f = mk n (fun i => f i && g i) + mk n (fun i => f i && !g i) := by
  induction n with
  | zero => rfl
  | succ n ih =>
    rw [mk_succ, mk_succ, mk_succ]
    cases e1 : f n <;> cases e2 : g n <;> simp [e1, e2] <;> omega
theorem mk_true (n : Nat) : mk n (fun _ => true) = 2 ^ n - 1 := by
  induction n with
  | zero => rfl
  | succ n ih =>
    show mk n _ + 2 ^ n = _
    rw [ih, Nat.pow_succ]
    have := Nat.two_pow_pos n
    omega
theorem mk_false (n : Nat) : mk n (fun _ => false) = 0 := by
  induction n with
  | zero => rfl
  | succ n ih => show mk n _ + 0 = _; rw [ih]
theorem mk_eq_zero {n : Nat} {f : Nat → Bool} : mk n f = 0 ↔ ∀ i, i < n → f i = false := by
  constructor
  · intro h
    rw [← mk_false n] at h
    exact mk_inj h
  · intro h
    rw [← mk_false n]
    exact mk_congr h
theorem mk_le {n : Nat} {f g : Nat → Bool} (h : ∀ i, i < n → f i = true → g i = true) : mk n f ≤ mk n g := by
  induction n with
  | zero => exact Nat.le_refl _
  | succ n ih =>
    have a := ih fun i c => h i (by omega)
    have b := h n (by omega)
    rw [mk_succ, mk_succ]
    cases e : f n with
    | false => simp; omega
    | true => simp [b e]; omega
/-- the sum of the powers of some of the first numbers -/
theorem mk_sum (n : Nat) (f : Nat → Bool) : (((List.range n).filter f).map fun i => (2 : Int) ^ i).sum = (mk n f : Nat) := by
  induction n with
  | zero => rfl
  | succ n ih =>
    rw [List.range_succ, List.filter_append, List.map_append, List.sum_append, ih]
    rw [mk_succ]
    cases e : f n with
    | false => simp [e]
    | true => simp [e]
/-! # Patterns -/
def Closed (at_ : List C) : Prop := ∀ x ∈ at_, ∀ y ∈ x.atoms, y ∈ at_
def Cov (at_ : List C) (c : C) : Prop := ∀ y ∈ c.atoms, y ∈ at_
def CovA (at_ : List C) (ax : List Axiom) : Prop := ∀ a ∈ ax, Cov at_ a.1 ∧ Cov at_ a.2
theorem atomsOf_closed (l : List C) : Closed (Oc.atomsOf l) := by
  intro x hx y hy
  obtain ⟨c, hc, h⟩ := mem_atomsOf.mp hx
  exact mem_atomsOf.mpr ⟨c, hc, atoms_trans h hy⟩
theorem atomsOf_cov {l : List C} {c : C} (h : c ∈ l) : Cov (Oc.atomsOf l) c := fun _ hy => mem_atomsOf.mpr ⟨c, h, hy⟩
/-- what a type of a group needs, by the group as a predicate -/
def Sus (at_ : List C) (S : Nat → Prop) (t : Nat) : Prop := ∀ x ∈ at_, match x with
  | .some r c => Oc.holds at_ t (.some r c) = true → ∃ u, S u ∧ Oc.fits at_ r t u = true ∧ Oc.holds at_ u c = true
  | .all r c => Oc.holds at_ t (.all r c) = false → ∃ u, S u ∧ Oc.fits at_ r t u = true ∧ Oc.holds at_ u c = false
  | _ => True
theorem Sus.mono {at_ : List C} {S T : Nat → Prop} {t : Nat} (h : Sus at_ S t) (st : ∀ u, S u → T u) : Sus at_ T t := by
  intro x hx
  have := h x hx
  cases x with
  | some r c => intro e; obtain ⟨u, a, b⟩ := this e; exact ⟨u, st u a, b⟩
  | all r c => intro e; obtain ⟨u, a, b⟩ := this e; exact ⟨u, st u a, b⟩
  | _ => trivial
theorem borne_iff {at_ : List C} {l : List Nat} {t : Nat} : Oc.borne at_ l t = true ↔ Sus at_ (· ∈ l) t := by
  unfold Oc.borne Sus
  rw [List.all_eq_true]
  constructor
  · intro h x hx
    have := h x hx
    cases x with
    | some r c =>
      intro e
      simp only [e, Bool.not_true, Bool.false_or, List.any_eq_true, Bool.and_eq_true] at this
      exact this
    | all r c =>
      intro e
      simp only [e, Bool.false_or, List.any_eq_true, Bool.and_eq_true, Bool.not_eq_true'] at this
      exact this
    | _ => trivial
  · intro h x hx
    have := h x hx
    cases x with
    | some r c =>
      cases e : Oc.holds at_ t (.some r c) with
      | false => simp [e]
      | true =>
        simp only [e, Bool.not_true, Bool.false_or, List.any_eq_true, Bool.and_eq_true]
        exact this e
    | all r c =>
      cases e : Oc.holds at_ t (.all r c) with
      | true => simp [e]
      | false =>
        simp only [e, Bool.false_or, List.any_eq_true, Bool.and_eq_true, Bool.not_eq_true']
        exact this e
    | _ => rfl
theorem settle_iff (at_ : List C) : ∀ (n : Nat) (l : List Nat), l.length < n → ∀ t, t ∈ Oc.settle at_ n l ↔ ∃ T : Nat → Prop, T t ∧ ∀ u, T u → u ∈ l ∧ Sus at_ T u := by
  intro n
  induction n with
  | zero => intro l h; omega
  | succ n ih =>
    intro l h t
    unfold Oc.settle
    simp only
    by_cases e : (l.filter (Oc.borne at_ l)).length = l.length
    · rw [if_pos e]
      have e2 : ∀ u ∈ l, Oc.borne at_ l u = true := List.length_filter_eq_length_iff.mp e
      constructor
      · intro ht
        exact ⟨(· ∈ l), ht, fun u hu => ⟨hu, borne_iff.mp (e2 u hu)⟩⟩
      · rintro ⟨T, ht, k⟩
        exact (k t ht).1
    · rw [if_neg e]
      have lt : (l.filter (Oc.borne at_ l)).length < n := by
        have := List.length_filter_le (Oc.borne at_ l) l
        omega
      rw [ih _ lt t]
      constructor
      · rintro ⟨T, ht, k⟩
        exact ⟨T, ht, fun u hu => ⟨(List.mem_filter.mp (k u hu).1).1, (k u hu).2⟩⟩
      · rintro ⟨T, ht, k⟩
        refine ⟨T, ht, fun u hu => ⟨List.mem_filter.mpr ⟨(k u hu).1, borne_iff.mpr ((k u hu).2.mono fun v hv => (k v hv).1)⟩, (k u hu).2⟩⟩
/-- the possible types: the greatest group that carries itself -/
theorem types_iff {at_ : List C} {ax : List Axiom} {t : Nat} : t ∈ Oc.types at_ ax ↔ ∃ T : Nat → Prop, T t ∧ ∀ u, T u → u < 2 ^ at_.length ∧ Oc.keeps at_ ax u = true ∧ Sus at_ T u := by
  unfold Oc.types
  rw [settle_iff]
  · constructor
    · rintro ⟨T, ht, k⟩
      refine ⟨T, ht, fun u hu => ?_⟩
      have := List.mem_filter.mp (k u hu).1
      exact ⟨List.mem_range.mp this.1, this.2, (k u hu).2⟩
    · rintro ⟨T, ht, k⟩
      exact ⟨T, ht, fun u hu => ⟨List.mem_filter.mpr ⟨List.mem_range.mpr (k u hu).1, (k u hu).2.1⟩, (k u hu).2.2⟩⟩
  · have := List.length_filter_le (Oc.keeps at_ ax) (List.range (2 ^ at_.length))
    rw [List.length_range] at this
    omega
theorem types_self {at_ : List C} {ax : List Axiom} {t : Nat} (h : t ∈ Oc.types at_ ax) : t < 2 ^ at_.length ∧ Oc.keeps at_ ax t = true ∧ Sus at_ (· ∈ Oc.types at_ ax) t := by
  obtain ⟨T, ht, k⟩ := types_iff.mp h
  exact ⟨(k t ht).1, (k t ht).2.1, (k t ht).2.2.mono fun u hu => types_iff.mpr ⟨T, hu, k⟩⟩
/-! # Models -/
structure M where
  D : Nat → Prop
  nm : Nat → Nat → Prop
  rl : Nat → Nat → Nat → Prop
def sem (m : M) : C → Nat → Prop
  | .top, _ => True
  | .bot, _ => False
  | .name a, e => m.nm a e
  | .and c d, e => sem m c e ∧ sem m d e
  | .or c d, e => sem m c e ∨ sem m d e
  | .not c, e => ¬ sem m c e
  | .some r c, e => ∃ f, m.D f ∧ m.rl r e f ∧ sem m c f
  | .all r c, e => ∀ f, m.D f → m.rl r e f → sem m c f
def Keeps (m : M) (ax : List Axiom) : Prop := ∀ a ∈ ax, ∀ e, m.D e → sem m a.1 e → sem m a.2 e
theorem keeps_iff {at_ : List C} {ax : List Axiom} {t : Nat} : Oc.keeps at_ ax t = true ↔ ∀ a ∈ ax, Oc.holds at_ t a.1 = true → Oc.holds at_ t a.2 = true := by
  unfold Oc.keeps
  rw [List.all_eq_true]
  refine ⟨fun h a ha e => ?_, fun h a ha => ?_⟩
  · have := h a ha
    simpa [e] using this
  · have := h a ha
    cases e : Oc.holds at_ t a.1 with
    | false => rfl
    | true => simp [this e]
theorem fits_some {at_ : List C} {r t u : Nat} {c : C} (h : Oc.fits at_ r t u = true) (hx : C.some r c ∈ at_) (hn : Oc.holds at_ t (.some r c) = false) : Oc.holds at_ u c = false := by
  unfold Oc.fits at h
  have := List.all_eq_true.mp h _ hx
  simpa [hn] using this
theorem fits_all {at_ : List C} {r t u : Nat} {c : C} (h : Oc.fits at_ r t u = true) (hx : C.all r c ∈ at_) (hn : Oc.holds at_ t (.all r c) = true) : Oc.holds at_ u c = true := by
  unfold Oc.fits at h
  have := List.all_eq_true.mp h _ hx
  simpa [hn] using this
/-- the model of the possible types -/
def ofTypes (at_ : List C) (S : Nat → Prop) : M := ⟨S, fun a e => Oc.holds at_ e (.name a) = true, fun r e f => Oc.fits at_ r e f = true⟩
theorem sem_types {at_ : List C} {S : Nat → Prop} (hS : ∀ t, S t → Sus at_ S t) : ∀ (c : C), Closed at_ → Cov at_ c → ∀ t, S t → (sem (ofTypes at_ S) c t ↔ Oc.holds at_ t c = true) := by
  intro c
  induction c with
  | top => intro _ _ t _; simp [sem, Oc.holds]
  | bot => intro _ _ t _; simp [sem, Oc.holds]
  | name a => intro _ _ t _; exact Iff.rfl
  | and c d ic id =>
    intro cl cv t ht
    have a := ic cl (fun y hy => cv y (by simp [C.atoms, hy])) t ht
    have b := id cl (fun y hy => cv y (by simp [C.atoms, hy])) t ht
    simp [sem, Oc.holds, a, b]
  | or c d ic id =>
    intro cl cv t ht
    have a := ic cl (fun y hy => cv y (by simp [C.atoms, hy])) t ht
    have b := id cl (fun y hy => cv y (by simp [C.atoms, hy])) t ht
    simp [sem, Oc.holds, a, b]
  | not c ic =>
    intro cl cv t ht
    have a := ic cl (fun y hy => cv y (by simp [C.atoms, hy])) t ht
    simp [sem, Oc.holds, a]
  | some r c ic =>
    intro cl cv t ht
    have hx : C.some r c ∈ at_ := cv _ (by simp [C.atoms])
    have a := ic cl (fun y hy => cv y (by simp [C.atoms, hy]))
    show (∃ f, S f ∧ Oc.fits at_ r t f = true ∧ sem (ofTypes at_ S) c f) ↔ _
    constructor
    · rintro ⟨f, hf, h1, h2⟩
      have h3 := (a f hf).mp h2
      cases e : Oc.holds at_ t (.some r c) with
      | true => rfl
      | false => rw [fits_some h1 hx e] at h3; cases h3
    · intro e
      obtain ⟨u, h1, h2, h3⟩ := hS t ht _ hx e
      exact ⟨u, h1, h2, (a u h1).mpr h3⟩
  | all r c ic =>
    intro cl cv t ht
    have hx : C.all r c ∈ at_ := cv _ (by simp [C.atoms])
    have a := ic cl (fun y hy => cv y (by simp [C.atoms, hy]))
    show (∀ f, S f → Oc.fits at_ r t f = true → sem (ofTypes at_ S) c f) ↔ _
    constructor
    · intro h
      cases e : Oc.holds at_ t (.all r c) with
      | true => rfl
      | false =>
        obtain ⟨u, h1, h2, h3⟩ := hS t ht _ hx e
        have := (a u h1).mp (h u h1 h2)
        rw [h3] at this
        cases this
    · intro e f hf h1
      exact (a f hf).mpr (fits_all h1 hx e)
open Classical in
/-- the type of an element of a model -/
noncomputable def typ (at_ : List C) (m : M) (e : Nat) : Nat := mk at_.length fun k => match at_[k]? with
  | some x => decide (sem m x e)
  | none => false
theorem bit_eq (m k : Nat) : Oc.bit m k = m.testBit k := by
  unfold Oc.bit
  rw [Nat.testBit_eq_decide_div_mod_eq, Bool.eq_iff_iff]
  simp
theorem idx_some {at_ : List C} {x : C} (h : x ∈ at_) : ∃ k, at_.idxOf? x = some k ∧ at_[k]? = some x := by
  induction at_ with
  | nil => cases h
  | cons y l ih =>
    rw [List.idxOf?_cons]
    by_cases e : y = x
    · subst e; exact ⟨0, by simp, rfl⟩
    · rcases List.mem_cons.mp h with h | h
      · exact absurd h.symm e
      · obtain ⟨k, h1, h2⟩ := ih h
        refine ⟨k + 1, ?_, by simpa using h2⟩
        have : (y == x) = false := by simpa using e
        simp [this, h1]
theorem typ_atom {at_ : List C} {m : M} {e : Nat} {x : C} (h : x ∈ at_) : (match at_.idxOf? x with
    | some k => Oc.bit (typ at_ m e) k
    | none => false) = true ↔ sem m x e := by
  obtain ⟨k, h1, h2⟩ := idx_some h
  rw [h1]
  show Oc.bit (typ at_ m e) k = true ↔ _
  have lt : k < at_.length := (List.getElem?_eq_some_iff.mp h2).1
  unfold typ
  rw [bit_eq, mk_bit, h2]
  simp [lt]
theorem sem_typ {at_ : List C} {m : M} (e : Nat) : ∀ (c : C), Cov at_ c → (Oc.holds at_ (typ at_ m e) c = true ↔ sem m c e) := by
  intro c
  induction c with
  | top => intro _; simp [sem, Oc.holds]
  | bot => intro _; simp [sem, Oc.holds]
  | name a => intro cv; exact typ_atom (cv _ (by simp [C.atoms]))
  | and c d ic id =>
    intro cv
    have a := ic (fun y hy => cv y (by simp [C.atoms, hy]))
    have b := id (fun y hy => cv y (by simp [C.atoms, hy]))
    simp [sem, Oc.holds, a, b]
  | or c d ic id =>
    intro cv
    have a := ic (fun y hy => cv y (by simp [C.atoms, hy]))
    have b := id (fun y hy => cv y (by simp [C.atoms, hy]))
    simp [sem, Oc.holds, a, b]
  | not c ic =>
    intro cv
    have a := ic (fun y hy => cv y (by simp [C.atoms, hy]))
    show (!Oc.holds at_ (typ at_ m e) c) = true ↔ ¬ sem m c e
    rw [Bool.not_eq_true', ← a, Bool.not_eq_true]
  | some r c ic => intro cv; exact typ_atom (cv _ (by simp [C.atoms]))
  | all r c ic => intro cv; exact typ_atom (cv _ (by simp [C.atoms]))
theorem cov_in {at_ : List C} (cl : Closed at_) {x : C} (h : x ∈ at_) : Cov at_ x := cl x h
theorem cov_some {at_ : List C} (cl : Closed at_) {r : Nat} {c : C} (h : C.some r c ∈ at_) : Cov at_ c := fun y hy => cl _ h y (by simp [C.atoms, hy])
theorem cov_all {at_ : List C} (cl : Closed at_) {r : Nat} {c : C} (h : C.all r c ∈ at_) : Cov at_ c := fun y hy => cl _ h y (by simp [C.atoms, hy])
theorem fits_typ {at_ : List C} {m : M} (cl : Closed at_) {r e f : Nat} (hf : m.D f) (h : m.rl r e f) : Oc.fits at_ r (typ at_ m e) (typ at_ m f) = true := by
  unfold Oc.fits
  rw [List.all_eq_true]
  intro x hx
  cases x with
  | some s c =>
    have a := sem_typ (m := m) e _ (fun y hy => cl _ hx y hy)
    have b := sem_typ (m := m) f c (cov_some cl hx)
    by_cases er : s = r
    · subst er
      cases e1 : Oc.holds at_ (typ at_ m e) (.some s c) with
      | true => simp [e1]
      | false =>
        cases e2 : Oc.holds at_ (typ at_ m f) c with
        | false => simp [e2]
        | true =>
          have : Oc.holds at_ (typ at_ m e) (.some s c) = true := a.mpr ⟨f, hf, h, b.mp e2⟩
          rw [e1] at this; cases this
    · have : (s != r) = true := by simpa using er
      simp [this]
  | all s c =>
    have a := sem_typ (m := m) e _ (fun y hy => cl _ hx y hy)
    have b := sem_typ (m := m) f c (cov_all cl hx)
    by_cases er : s = r
    · subst er
      cases e1 : Oc.holds at_ (typ at_ m e) (.all s c) with
      | false => simp [e1]
      | true =>
        have := b.mpr (a.mp e1 f hf h)
        simp [this]
    · have : (s != r) = true := by simpa using er
      simp [this]
  | _ => rfl
theorem typ_in {at_ : List C} {ax : List Axiom} {m : M} (cl : Closed at_) (cv : CovA at_ ax) (hk : Keeps m ax) {e : Nat} (he : m.D e) : typ at_ m e ∈ Oc.types at_ ax := by
  refine types_iff.mpr ⟨fun t => ∃ f, m.D f ∧ t = typ at_ m f, ⟨e, he, rfl⟩, ?_⟩
  rintro _ ⟨f, hf, rfl⟩
  refine ⟨mk_lt _ _, keeps_iff.mpr fun a h h1 => ?_, ?_⟩
  · exact (sem_typ f _ (cv a h).2).mpr (hk a h f hf ((sem_typ f _ (cv a h).1).mp h1))
  · intro x hx
    cases x with
    | some r c =>
      intro h1
      obtain ⟨g, hg, h2, h3⟩ := (sem_typ (m := m) f _ (cl _ hx)).mp h1
      exact ⟨_, ⟨g, hg, rfl⟩, fits_typ cl hg h2, (sem_typ g _ (cov_some cl hx)).mpr h3⟩
    | all r c =>
      intro h1
      have h2 : ¬ sem m (.all r c) f := fun z => by
        rw [(sem_typ (m := m) f _ (cl _ hx)).mpr z] at h1
        cases h1
      have ⟨g, h3⟩ : ∃ g, ¬ (m.D g → m.rl r f g → sem m c g) := Classical.not_forall.mp h2
      have hg : m.D g := Classical.byContradiction fun z => h3 fun a => absurd a z
      have hr : m.rl r f g := Classical.byContradiction fun z => h3 fun _ a => absurd a z
      have hc : ¬ sem m c g := fun z => h3 fun _ _ => z
      refine ⟨_, ⟨g, hg, rfl⟩, fits_typ cl hg hr, ?_⟩
      rw [← Bool.not_eq_true]
      exact fun z => hc ((sem_typ g _ (cov_all cl hx)).mp z)
    | _ => trivial
/-- **What is subsumed does not hang on the atoms**: the atoms of the axioms and of both concepts are enough, more are no harm -/
theorem under_model {at_ : List C} {ax : List Axiom} {c d : C} (cl : Closed at_) (cv : CovA at_ ax) (hc : Cov at_ c) (hd : Cov at_ d) :
    ((Oc.types at_ ax).any fun t => Oc.holds at_ t c && !Oc.holds at_ t d) = true ↔ ∃ (m : M) (e : Nat), Keeps m ax ∧ m.D e ∧ sem m c e ∧ ¬ sem m d e := by
  rw [List.any_eq_true]
  constructor
  · rintro ⟨t, ht, h⟩
    rw [Bool.and_eq_true, Bool.not_eq_true'] at h
    have hS : ∀ u, u ∈ Oc.types at_ ax → Sus at_ (· ∈ Oc.types at_ ax) u := fun u hu => (types_self hu).2.2
    have key := fun x cx => sem_types (S := (· ∈ Oc.types at_ ax)) hS x cl cx
    refine ⟨ofTypes at_ (· ∈ Oc.types at_ ax), t, ?_, ht, (key c hc t ht).mpr h.1, fun z => ?_⟩
    · intro a h1 e he h2
      exact (key _ (cv a h1).2 e he).mpr (keeps_iff.mp (types_self he).2.1 a h1 ((key _ (cv a h1).1 e he).mp h2))
    · have := (key d hd t ht).mp z
      rw [h.2] at this
      cases this
  · rintro ⟨m, e, hk, he, h1, h2⟩
    refine ⟨typ at_ m e, typ_in cl cv hk he, ?_⟩
    rw [Bool.and_eq_true, Bool.not_eq_true']
    refine ⟨(sem_typ e _ hc).mpr h1, ?_⟩
    rw [← Bool.not_eq_true]
    exact fun z => h2 ((sem_typ e _ hd).mp z)
theorem under_eq {a1 a2 : List C} {ax : List Axiom} {c d : C} (cl1 : Closed a1) (cv1 : CovA a1 ax) (hc1 : Cov a1 c) (hd1 : Cov a1 d)
    (cl2 : Closed a2) (cv2 : CovA a2 ax) (hc2 : Cov a2 c) (hd2 : Cov a2 d) :
    ((Oc.types a1 ax).any fun t => Oc.holds a1 t c && !Oc.holds a1 t d) = ((Oc.types a2 ax).any fun t => Oc.holds a2 t c && !Oc.holds a2 t d) := by
  rw [Bool.eq_iff_iff, under_model cl1 cv1 hc1 hd1, under_model cl2 cv2 hc2 hd2]
theorem atomsOf_atom {l : List C} : ∀ x ∈ Oc.atomsOf l, isAtom x = true := fun x hx => by
  obtain ⟨c, _, h⟩ := mem_atomsOf.mp hx
  exact atoms_atom h
end Wk
end
section
set_option autoImplicit false
namespace Wk
open Oc (C Axiom)
def isRole : C → Bool
  | .some _ _ => true
  | .all _ _ => true
  | _ => false
def roles (at_ : List C) : List C := at_.filter isRole
def roleOf : C → Nat
  | .some r _ => r
  | .all r _ => r
  | _ => 0
def inner : C → C
  | .some _ c => c
  | .all _ c => c
  | _ => .top
/-- the elements of pattern p need a related one -/
def nd (at_ : List C) (x : C) (p : Nat) : Bool := match x with
  | .some r c => Oc.holds at_ p (.some r c)
  | .all r c => !Oc.holds at_ p (.all r c)
  | _ => false
/-- .. of these patterns -/
def gl (at_ : List C) (x : C) (u : Nat) : Bool := match x with
  | .some _ c => Oc.holds at_ u c
  | .all _ c => !Oc.holds at_ u c
  | _ => false
def NN (at_ : List C) : Nat := 2 ^ at_.length
def G (at_ : List C) (c : C) : Nat := mk (NN at_) fun p => Oc.holds at_ p c
def fit1 (at_ : List C) (r p u : Nat) (x : C) : Bool := roleOf x != r || (nd at_ x p || !gl at_ x u)
theorem fits_roles (at_ : List C) (r p u : Nat) : Oc.fits at_ r p u = (roles at_).all (fit1 at_ r p u) := by
  unfold Oc.fits roles
  induction at_ with
  | nil => rfl
  | cons y l _ => 
    rw [List.all_filter]
    congr 1
    funext x
    cases x with
    | some s c => rfl
    | all s c => simp [isRole, fit1, roleOf, nd, gl]
    | _ => rfl
/-- the group of the related ones behind some links -/
def rel (at_ : List C) (S : Nat → Bool) (r p : Nat) (xs : List C) (u : Nat) : Bool := S u && xs.all (fit1 at_ r p u)
theorem rel_all (at_ : List C) (S : Nat → Bool) (r p u : Nat) : rel at_ S r p (roles at_) u = (S u && Oc.fits at_ r p u) := by
  rw [fits_roles]
  rfl
theorem rel_snoc (at_ : List C) (S : Nat → Bool) (r p : Nat) (xs : List C) (x : C) (u : Nat) : rel at_ S r p (xs ++ [x]) u = (rel at_ S r p xs u && fit1 at_ r p u x) := by
  unfold rel
  rw [List.all_append, Bool.and_assoc]
  simp
def can1 (at_ : List C) (S : Nat → Bool) (p : Nat) (x : C) : Bool := !nd at_ x p || decide (mk (NN at_) (fun u => gl at_ x u && rel at_ S (roleOf x) p (roles at_) u) ≠ 0)
def can (at_ : List C) (S : Nat → Bool) (p : Nat) : Bool := (roles at_).all (can1 at_ S p)
theorem can1_iff {at_ : List C} {S : Nat → Bool} {p : Nat} {x : C} : can1 at_ S p x = true ↔ (nd at_ x p = true → ∃ u, u < NN at_ ∧ S u = true ∧ Oc.fits at_ (roleOf x) p u = true ∧ gl at_ x u = true) := by
  unfold can1
  cases e : nd at_ x p with
  | false => simp
  | true =>
    simp only [Bool.not_true, Bool.false_or, decide_eq_true_eq, forall_const]
    rw [ne_eq, mk_eq_zero]
    constructor
    · intro h
      obtain ⟨u, hu⟩ := Classical.not_forall.mp h
      have lt : u < NN at_ := Classical.byContradiction fun z => hu fun a => absurd a z
      have hb : (gl at_ x u && rel at_ S (roleOf x) p (roles at_) u) = true := by
        cases q : (gl at_ x u && rel at_ S (roleOf x) p (roles at_) u) with
        | true => rfl
        | false => exact absurd (fun _ => q) hu
      rw [rel_all, Bool.and_eq_true, Bool.and_eq_true] at hb
      exact ⟨u, lt, hb.2.1, hb.2.2, hb.1⟩
    · rintro ⟨u, lt, h1, h2, h3⟩ z
      have := z u lt
      rw [rel_all, h1, h2, h3] at this
      cases this
theorem can_iff {at_ : List C} {S : Nat → Bool} {p : Nat} : can at_ S p = true ↔ Sus at_ (fun u => u < NN at_ ∧ S u = true) p := by
  unfold can Sus
  rw [List.all_eq_true]
  constructor
  · intro h x hx
    cases x with
    | some r c =>
      intro e
      have := can1_iff.mp (h _ (List.mem_filter.mpr ⟨hx, rfl⟩)) e
      obtain ⟨u, h1, h2, h3, h4⟩ := this
      exact ⟨u, ⟨h1, h2⟩, h3, h4⟩
    | all r c =>
      intro e
      have := can1_iff.mp (h _ (List.mem_filter.mpr ⟨hx, rfl⟩)) (by show (!Oc.holds at_ p (.all r c)) = true; rw [e]; rfl)
      obtain ⟨u, h1, h2, h3, h4⟩ := this
      exact ⟨u, ⟨h1, h2⟩, h3, by have : (!Oc.holds at_ u c) = true := h4; simpa using this⟩
    | _ => trivial
  · intro h x hx
    obtain ⟨hx, hr⟩ := List.mem_filter.mp hx
    have := h x hx
    rw [can1_iff]
    intro e
    cases x with
    | some r c =>
      obtain ⟨u, h1, h2, h3⟩ := this e
      exact ⟨u, h1.1, h1.2, h2, h3⟩
    | all r c =>
      have e2 : (!Oc.holds at_ p (.all r c)) = true := e
      obtain ⟨u, h1, h2, h3⟩ := this (by simpa using e2)
      exact ⟨u, h1.1, h1.2, h2, by show (!Oc.holds at_ u c) = true; rw [h3]; rfl⟩
    | _ => cases hr
theorem can_mono {at_ : List C} {S T : Nat → Bool} {p : Nat} (h : can at_ S p = true) (st : ∀ u, u < NN at_ → S u = true → T u = true) : can at_ T p = true :=
  can_iff.mpr ((can_iff.mp h).mono fun u hu => ⟨hu.1, st u hu.1 hu.2⟩)
theorem can_congr {at_ : List C} {S T : Nat → Bool} {p : Nat} (st : ∀ u, u < NN at_ → S u = T u) : can at_ S p = can at_ T p := by
  rw [Bool.eq_iff_iff]
  exact ⟨fun h => can_mono h fun u a b => by rw [← st u a]; exact b, fun h => can_mono h fun u a b => by rw [st u a]; exact b⟩
/-- between the possible types and those that keep the axioms -/
structure Mid (at_ : List C) (ax : List Axiom) (S : Nat → Bool) : Prop where
  lo : ∀ u, u ∈ Oc.types at_ ax → S u = true
  hi : ∀ u, u < NN at_ → S u = true → Oc.keeps at_ ax u = true
theorem Mid.drop {at_ : List C} {ax : List Axiom} {S : Nat → Bool} {p : Nat} (m : Mid at_ ax S) (h : can at_ S p = false) : Mid at_ ax (fun u => S u && !decide (u = p)) := by
  refine ⟨fun u hu => ?_, fun u lt h1 => m.hi u lt (by rw [Bool.and_eq_true] at h1; exact h1.1)⟩
  rw [Bool.and_eq_true]
  refine ⟨m.lo u hu, ?_⟩
  rw [Bool.not_eq_true']
  refine decide_eq_false fun e => ?_
  subst e
  have q : can at_ S u = true := can_iff.mpr ((types_self hu).2.2.mono fun v hv => ⟨(types_self hv).1, m.lo v hv⟩)
  rw [h] at q
  cases q
/-- where every pattern can stay, the group is the possible types -/
theorem Mid.done {at_ : List C} {ax : List Axiom} {S : Nat → Bool} (m : Mid at_ ax S) (h : ∀ p, p < NN at_ → S p = true → can at_ S p = true) : ∀ p, p < NN at_ → S p = decide (p ∈ Oc.types at_ ax) := by
  intro p lt
  cases e : S p with
  | true =>
    refine (decide_eq_true (types_iff.mpr ⟨fun u => u < NN at_ ∧ S u = true, ⟨lt, e⟩, fun u hu => ⟨hu.1, m.hi u hu.1 hu.2, can_iff.mp (h u hu.1 hu.2)⟩⟩)).symm
  | false =>
    refine (decide_eq_false fun z => ?_).symm
    rw [m.lo p z] at e
    cases e
/-- one pass: some patterns are ruled out, one after another -/
structure Pass (at_ : List C) (ax : List Axiom) (S0 S : Nat → Bool) (p : Nat) : Prop where
  mid : Mid at_ ax S
  sub : ∀ u, u < NN at_ → S u = true → S0 u = true
  ok : mk (NN at_) S = mk (NN at_) S0 → ∀ q, q < p → q < NN at_ → S0 q = true → can at_ S0 q = true
theorem Pass.start {at_ : List C} {ax : List Axiom} {S : Nat → Bool} (m : Mid at_ ax S) : Pass at_ ax S S 0 := ⟨m, fun _ _ h => h, fun _ q h => absurd h (Nat.not_lt_zero q)⟩
theorem Pass.stay {at_ : List C} {ax : List Axiom} {S0 S : Nat → Bool} {p : Nat} (h : Pass at_ ax S0 S p) (g : S p = false ∨ can at_ S p = true) : Pass at_ ax S0 S (p + 1) := by
  refine ⟨h.mid, h.sub, fun e q lt lt2 h0 => ?_⟩
  by_cases z : q = p
  · subst z
    have es := mk_inj e
    rcases g with g | g
    · rw [es q lt2, h0] at g; cases g
    · exact can_mono g h.sub
  · exact h.ok e q (by omega) lt2 h0
theorem mk_drop_lt {n : Nat} {S : Nat → Bool} {p : Nat} (lt : p < n) (h : S p = true) : mk n (fun u => S u && !decide (u = p)) < mk n S := by
  have e := mk_add n S (fun u => decide (u = p))
  have : 0 < mk n (fun u => S u && decide (u = p)) := by
    refine Nat.pos_of_ne_zero fun z => ?_
    have := mk_eq_zero.mp z p lt
    simp [h] at this
  omega
theorem Pass.rule {at_ : List C} {ax : List Axiom} {S0 S : Nat → Bool} {p : Nat} (h : Pass at_ ax S0 S p) (lt : p < NN at_) (h1 : S p = true) (g : can at_ S p = false) : Pass at_ ax S0 (fun u => S u && !decide (u = p)) (p + 1) := by
  refine ⟨h.mid.drop g, fun u a b => h.sub u a (by rw [Bool.and_eq_true] at b; exact b.1), fun e => ?_⟩
  have a := mk_drop_lt lt h1
  have b := mk_le h.sub
  omega
theorem Mid.start {at_ : List C} {ax : List Axiom} : Mid at_ ax (fun u => Oc.keeps at_ ax u) := ⟨fun u hu => (types_self hu).2.1, fun _ _ h => h⟩
/-- the patterns that keep the first axioms -/
theorem keeps_snoc (at_ : List C) (ax : List Axiom) (a : Axiom) (u : Nat) : Oc.keeps at_ (ax ++ [a]) u = (Oc.keeps at_ ax u && (!Oc.holds at_ u a.1 || Oc.holds at_ u a.2)) := by
  unfold Oc.keeps
  rw [List.all_append]
  simp
theorem G_top (at_ : List C) : G at_ .top = 2 ^ NN at_ - 1 := mk_true _
theorem G_bot (at_ : List C) : G at_ .bot = 0 := mk_false _
theorem G_and (at_ : List C) (c d : C) : G at_ c &&& G at_ d = G at_ (.and c d) := mk_and _ _ _
theorem G_or (at_ : List C) (c d : C) : G at_ c ||| G at_ d = G at_ (.or c d) := mk_or _ _ _
theorem mk_not (n : Nat) (f : Nat → Bool) : (2 ^ n - 1) ^^^ mk n f = mk n (fun u => !f u) := by
  rw [← mk_true, mk_xor]
  congr 1
  funext u
  simp
theorem G_not (at_ : List C) (c : C) : (2 ^ NN at_ - 1) ^^^ G at_ c = G at_ (.not c) := mk_not _ _
end Wk
namespace Wk
open Oc (C Axiom)
/-- in the parts, a concept's own followers stand behind it -/
theorem kids_behind : ∀ (c : C) (j : Nat) (s : C), (subs c)[j]? = some s → ∀ k ∈ kids s, k ∈ (subs c).drop (j + 1) := by
  have two : ∀ (c d : C) (f : C), (∀ (j : Nat) (s : C), (subs c)[j]? = some s → ∀ k ∈ kids s, k ∈ (subs c).drop (j + 1)) → (∀ (j : Nat) (s : C), (subs d)[j]? = some s → ∀ k ∈ kids s, k ∈ (subs d).drop (j + 1)) →
      subs f = f :: (subs c ++ subs d) → kids f = [c, d] → ∀ (j : Nat) (s : C), (subs f)[j]? = some s → ∀ k ∈ kids s, k ∈ (subs f).drop (j + 1) := by
    intro c d f ic id e1 e2 j s h k hk
    rw [e1] at h ⊢
    cases j with
    | zero =>
      have : s = f := by simpa using h.symm
      subst this
      rw [e2] at hk
      simp only [Nat.zero_add, List.drop_one, List.tail_cons, List.mem_append]
      rcases List.mem_cons.mp hk with hk | hk
      · subst hk; exact .inl (sub_self _)
      · have := List.mem_singleton.mp hk
        subst this; exact .inr (sub_self _)
    | succ j =>
      rw [List.getElem?_cons_succ] at h
      rw [List.drop_succ_cons]
      by_cases lt : j < (subs c).length
      · rw [List.getElem?_append_left lt] at h
        have := ic j s h k hk
        rw [List.drop_append_of_le_length (by omega)]
        exact List.mem_append_left _ this
      · rw [List.getElem?_append_right (by omega)] at h
        have := id _ s h k hk
        rw [List.drop_append, List.drop_eq_nil_iff.mpr (by omega), List.nil_append]
        have e3 : j - (subs c).length + 1 = j + 1 - (subs c).length := by omega
        rw [← e3]
        exact this
  have one : ∀ (c f : C), (∀ (j : Nat) (s : C), (subs c)[j]? = some s → ∀ k ∈ kids s, k ∈ (subs c).drop (j + 1)) →
      subs f = f :: subs c → kids f = [c] → ∀ (j : Nat) (s : C), (subs f)[j]? = some s → ∀ k ∈ kids s, k ∈ (subs f).drop (j + 1) := by
    intro c f ic e1 e2 j s h k hk
    rw [e1] at h ⊢
    cases j with
    | zero =>
      have : s = f := by simpa using h.symm
      subst this
      rw [e2] at hk
      have := List.mem_singleton.mp hk
      subst this
      simpa using sub_self _
    | succ j =>
      rw [List.getElem?_cons_succ] at h
      rw [List.drop_succ_cons]
      exact ic j s h k hk
  have none_ : ∀ (f : C), subs f = [f] → kids f = [] → ∀ (j : Nat) (s : C), (subs f)[j]? = some s → ∀ k ∈ kids s, k ∈ (subs f).drop (j + 1) := by
    intro f e1 e2 j s h k hk
    rw [e1] at h
    cases j with
    | zero =>
      have : s = f := by simpa using h.symm
      subst this
      rw [e2] at hk
      cases hk
    | succ j => simp at h
  intro c
  induction c with
  | top | bot | name => exact none_ _ rfl rfl
  | and c d ic id | or c d ic id => exact two c d _ ic id rfl rfl
  | not c ic | some r c ic | all r c ic => exact one c _ ic rfl rfl
theorem nodup_at : ∀ {l : List C} {j k : Nat} {x : C}, l.Nodup → l[j]? = some x → l[k]? = some x → j = k
  | [], j, k, x, _, h, _ => by simp at h
  | y :: l, 0, 0, x, _, _, _ => rfl
  | y :: l, 0, k + 1, x, hn, h, g => by
    have e : y = x := by simpa using h
    subst e
    exact absurd (List.mem_of_getElem? (by simpa using g)) (List.nodup_cons.mp hn).1
  | y :: l, j + 1, 0, x, hn, h, g => by
    have e : y = x := by simpa using g
    subst e
    exact absurd (List.mem_of_getElem? (by simpa using h)) (List.nodup_cons.mp hn).1
  | y :: l, j + 1, k + 1, x, hn, h, g => congrArg (· + 1) (nodup_at (List.nodup_cons.mp hn).2 (by simpa using h) (by simpa using g))
theorem bit_atom {at_ : List C} (hn : at_.Nodup) {k : Nat} {x : C} (h : at_[k]? = some x) (ha : isAtom x = true) (p : Nat) : Oc.holds at_ p x = p.testBit k := by
  have e : at_.idxOf? x = some k := by
    obtain ⟨j, h1, h2⟩ := idx_some (List.mem_of_getElem? h)
    have : j = k := nodup_at hn h2 h
    subst this
    exact h1
  cases x with
  | name a => show (match at_.idxOf? (.name a) with | some k => Oc.bit p k | none => false) = _; rw [e]; exact bit_eq p k
  | some r c => show (match at_.idxOf? (.some r c) with | some k => Oc.bit p k | none => false) = _; rw [e]; exact bit_eq p k
  | all r c => show (match at_.idxOf? (.all r c) with | some k => Oc.bit p k | none => false) = _; rw [e]; exact bit_eq p k
  | _ => cases ha
end Wk
end
section
set_option autoImplicit false
namespace Wk
theorem row_some {l x s : List Int} (h : PyFlat.row l = some (x, s)) : ∃ n r, l = n :: r ∧ 0 ≤ n ∧ n.toNat ≤ r.length ∧ x = r.take n.toNat ∧ s = r.drop n.toNat := by
  cases l with
  | nil => cases h
  | cons n r =>
    have h : (if 0 ≤ n ∧ n.toNat ≤ r.length then some (r.take n.toNat, r.drop n.toNat) else none) = some (x, s) := h
    by_cases c : 0 ≤ n ∧ n.toNat ≤ r.length
    · rw [if_pos c] at h
      cases h
      exact ⟨n, r, rfl, c.1, c.2, rfl, rfl⟩
    · rw [if_neg c] at h
      cases h
theorem rows_one {l : List Int} {xs : List (List Int)} {t : List Int} (h : PyFlat.rows 1 l = some (xs, t)) : ∃ n r, l = n :: r ∧ 0 ≤ n ∧ n.toNat ≤ r.length ∧ xs = [r.take n.toNat] ∧ t = r.drop n.toNat := by
  unfold PyFlat.rows at h
  cases e : PyFlat.row l with
  | none => rw [e] at h; cases h
  | some y =>
    rw [e] at h
    obtain ⟨n, r, h1, h2, h3, h4, h5⟩ := row_some (x := y.1) (s := y.2) e
    simp only [PyFlat.rows] at h
    cases h
    exact ⟨n, r, h1, h2, h3, by rw [h4], h5⟩
/-- one call of the flat list, by its form -/
inductive CallAt : List Int → List (List Int) → List Int → Prop
  | bare {p : Int} {r : List Int} (hp : p = 0 ∨ p = 5 ∨ p = 6 ∨ p = 8) : CallAt (p :: r) [[p]] r
  | line {w n : Int} {r : List Int} (h0 : 0 ≤ n) (h1 : n.toNat ≤ r.length) : CallAt (1 :: w :: n :: r) [[1, w], r.take n.toNat] (r.drop n.toNat)
  | less {i w n : Int} {r : List Int} (h0 : 0 ≤ n) (h1 : n.toNat ≤ r.length) : CallAt (2 :: i :: w :: n :: r) [[2, i, w], r.take n.toNat] (r.drop n.toNat)
  | one {p n : Int} {r : List Int} (hp : p = 3 ∨ p = 4 ∨ p = 7) (h0 : 0 ≤ n) (h1 : n.toNat ≤ r.length) : CallAt (p :: n :: r) [[p], r.take n.toNat] (r.drop n.toNat)
theorem shape_cases (p : Int) : (p = 0 ∨ p = 5 ∨ p = 6 ∨ p = 8) ∧ PyOc09.shape p = some (0, 0) ∨ p = 1 ∧ PyOc09.shape p = some (1, 1) ∨ p = 2 ∧ PyOc09.shape p = some (2, 1) ∨ (p = 3 ∨ p = 4 ∨ p = 7) ∧ PyOc09.shape p = some (0, 1) ∨ PyOc09.shape p = none := by
  by_cases h0 : p = 0
  · subst h0; exact .inl ⟨by simp, rfl⟩
  by_cases h1 : p = 1
  · subst h1; exact .inr (.inl ⟨rfl, rfl⟩)
  by_cases h2 : p = 2
  · subst h2; exact .inr (.inr (.inl ⟨rfl, rfl⟩))
  by_cases h3 : p = 3
  · subst h3; exact .inr (.inr (.inr (.inl ⟨by simp, rfl⟩)))
  by_cases h4 : p = 4
  · subst h4; exact .inr (.inr (.inr (.inl ⟨by simp, rfl⟩)))
  by_cases h5 : p = 5
  · subst h5; exact .inl ⟨by simp, rfl⟩
  by_cases h6 : p = 6
  · subst h6; exact .inl ⟨by simp, rfl⟩
  by_cases h7 : p = 7
  · subst h7; exact .inr (.inr (.inr (.inl ⟨by simp, rfl⟩)))
  by_cases h8 : p = 8
  · subst h8; exact .inl ⟨by simp, rfl⟩
  refine .inr (.inr (.inr (.inr ?_)))
  unfold PyOc09.shape
  rw [if_neg h0, if_neg h1, if_neg h2, if_neg h3, if_neg h4, if_neg h5, if_neg h6, if_neg h7, if_neg h8]
theorem call_at {l : List Int} {c : List (List Int)} {t : List Int} (h : PyFlat.call PyOc09.shape l = some (c, t)) : CallAt l c t := by
  cases l with
  | nil => cases h
  | cons p r =>
    unfold PyFlat.call at h
    rcases shape_cases p with ⟨hp, e⟩ | ⟨hp, e⟩ | ⟨hp, e⟩ | ⟨hp, e⟩ | e
    · simp only [e] at h
      rw [if_neg (Nat.not_lt_zero _)] at h
      simp only [PyFlat.rows, List.take_zero, List.drop_zero] at h
      cases h
      exact .bare hp
    · simp only [e] at h
      cases r with
      | nil => cases h
      | cons w r =>
        rw [if_neg (by simp)] at h
        simp only [List.drop_succ_cons, List.drop_zero, List.take_succ_cons, List.take_zero] at h
        cases er : PyFlat.rows 1 r with
        | none => rw [er] at h; cases h
        | some y =>
          rw [er] at h
          obtain ⟨n, r', h1, h2, h3, h4, h5⟩ := rows_one (xs := y.1) (t := y.2) er
          cases h
          subst h1 hp
          rw [h4, h5]
          exact .line h2 h3
    · simp only [e] at h
      cases r with
      | nil => cases h
      | cons i r =>
        cases r with
        | nil => cases h
        | cons w r =>
          rw [if_neg (by simp)] at h
          simp only [List.drop_succ_cons, List.drop_zero, List.take_succ_cons, List.take_zero] at h
          cases er : PyFlat.rows 1 r with
          | none => rw [er] at h; cases h
          | some y =>
            rw [er] at h
            obtain ⟨n, r', h1, h2, h3, h4, h5⟩ := rows_one (xs := y.1) (t := y.2) er
            cases h
            subst h1 hp
            rw [h4, h5]
            exact .less h2 h3
    · simp only [e] at h
      rw [if_neg (Nat.not_lt_zero _)] at h
      simp only [List.take_zero, List.drop_zero] at h
      cases er : PyFlat.rows 1 r with
      | none => rw [er] at h; cases h
      | some y =>
        rw [er] at h
        obtain ⟨n, r', h1, h2, h3, h4, h5⟩ := rows_one (xs := y.1) (t := y.2) er
        cases h
        subst h1
        rw [h4, h5]
        exact .one hp h2 h3
    · simp only [e] at h
      cases h
theorem whole_at {l : List Int} {c : List (List Int)} {t : List Int} (h : CallAt l c t) : PyOc09.whole c = c := by
  cases h with
  | bare hp => rcases hp with rfl | rfl | rfl | rfl <;> rfl
  | line => rfl
  | less => rfl
  | one hp => rcases hp with rfl | rfl | rfl <;> rfl
theorem calls_split {f : Nat} {l : List Int} {raw : List (List (List Int))} (h : PyFlat.calls PyOc09.shape f l = some raw) : (l = [] ∧ raw = []) ∨ ∃ c t raw' f', CallAt l c t ∧ raw = c :: raw' ∧ PyFlat.calls PyOc09.shape f' t = some raw' := by
  cases l with
  | nil =>
    refine .inl ⟨rfl, ?_⟩
    cases f <;> (unfold PyFlat.calls at h; cases h; rfl)
  | cons p r =>
    cases f with
    | zero => unfold PyFlat.calls at h; cases h
    | succ f =>
      unfold PyFlat.calls at h
      cases e : PyFlat.call PyOc09.shape (p :: r) with
      | none => rw [e] at h; cases h
      | some y =>
        rw [e] at h
        cases e2 : PyFlat.calls PyOc09.shape f y.2 with
        | none => simp only [e2] at h; cases h
        | some cs =>
          simp only [e2] at h
          cases h
          exact .inr ⟨y.1, y.2, cs, f, call_at (c := y.1) (t := y.2) e, rfl, e2⟩
/-- what an asked request is -/
theorem asked_facts {ns : List Int} (h : PyOc09.answers_asked ns = true) : ∃ raw, PyFlat.calls PyOc09.shape ns.length ns = some raw ∧ raw.length ≤ 60 ∧ (raw.map PyOc09.whole).all Oc09Neutral.asked1 = true ∧ (PyOc09.answers ns).length ≤ 10000000 ∧
    PyOc09.answers ns = PyFlat.told (PyFlat.played Oc09Neutral.step Oc09Neutral.start (raw.map PyOc09.whole)) := by
  unfold PyOc09.answers_asked at h
  cases e : PyFlat.calls PyOc09.shape ns.length ns with
  | none => rw [e] at h; cases h
  | some raw =>
    rw [e] at h
    simp only [Bool.and_eq_true] at h
    obtain ⟨⟨⟨⟨h1, h2⟩, h3⟩, h4⟩, h5⟩ := h
    unfold Oc09Neutral.asked at h4
    rw [Bool.and_eq_true] at h4
    refine ⟨raw, rfl, of_decide_eq_true h2, h4.1, of_decide_eq_true h5, ?_⟩
    unfold PyOc09.answers PyOc09.calls
    rw [e]
end Wk
end
section
set_option autoImplicit false
namespace Wk
open Oc (C Axiom)
open Oc09 (Ladder Book)
/-! # Ways: the mathematics -/
theorem foldl_add (l : List Nat) : ∀ a, l.foldl (fun a b => a + b) a = a + l.sum := by
  induction l with
  | nil => intro a; simp
  | cons x l ih => intro a; rw [List.foldl_cons, ih, List.sum_cons]; omega
theorem sum_eq (l : List Nat) : Oc09.sum l = l.sum := by
  unfold Oc09.sum
  rw [foldl_add]
  omega
/-- the prices of an axiom as the program keeps them -/
def pricesOf (x : Ladder) : List Nat := (x.forms.map (·.1)).drop 1 ++ [x.last]
theorem price_take {x : Ladder} {a : Axiom} {r : List (Nat × Axiom)} (h : x.forms = (0, a) :: r) {k : Nat} (hk : k ≤ x.forms.length) : ((pricesOf x).take k).sum = x.price k := by
  unfold Ladder.price pricesOf
  rw [sum_eq, h]
  rw [h] at hk
  rw [List.length_cons] at hk ⊢
  simp only [List.map_cons, List.drop_succ_cons, List.drop_zero, List.take_succ_cons, List.sum_cons]
  by_cases c : k = r.length + 1
  · subst c
    rw [if_pos rfl, List.take_of_length_le (by simp), List.take_of_length_le (by omega)]
    simp
  · rw [if_neg c, List.take_append_of_le_length (by rw [List.length_map]; omega), List.map_take]
    simp
/-- a way as asked: a level for each axiom, which it has -/
def IsWay (ls : List Ladder) (ks : List Nat) : Prop := ks.length = ls.length ∧ ∀ x ∈ ls.zip ks, x.2 ≤ x.1.forms.length
theorem ways_snoc (n : Nat) : ∀ l : List Nat, Oc09.ways (l ++ [n]) = (Oc09.ways l).flatMap fun w => (List.range n).map fun k => w ++ [k] := by
  intro l
  induction l with
  | nil =>
    show ((List.range n).flatMap fun k => ([[]] : List (List Nat)).map fun r => k :: r) = ([[]] : List (List Nat)).flatMap _
    simp [List.flatMap_cons]
    induction List.range n with
    | nil => rfl
    | cons x l ih => simp [List.flatMap_cons, ih]
  | cons m l ih =>
    show ((List.range m).flatMap fun k => (Oc09.ways (l ++ [n])).map fun r => k :: r) = ((List.range m).flatMap fun k => (Oc09.ways l).map fun r => k :: r).flatMap _
    rw [ih]
    simp only [List.map_flatMap, List.flatMap_assoc, List.flatMap_map, List.map_map]
    congr 1
theorem ways_mem : ∀ (ls : List Ladder) (w : List Nat), w ∈ Oc09.ways (ls.map Ladder.levels) ↔ IsWay ls w := by
  intro ls
  induction ls with
  | nil =>
    intro w
    show w ∈ [[]] ↔ _
    unfold IsWay
    simp
  | cons x ls ih =>
    intro w
    show w ∈ ((List.range x.levels).flatMap fun k => (Oc09.ways (ls.map Ladder.levels)).map fun r => k :: r) ↔ _
    rw [List.mem_flatMap]
    constructor
    · rintro ⟨k, hk, hw⟩
      obtain ⟨r, hr, rfl⟩ := List.mem_map.mp hw
      obtain ⟨h1, h2⟩ := (ih r).mp hr
      refine ⟨by simp [h1], fun y hy => ?_⟩
      rw [List.zip_cons_cons] at hy
      rcases List.mem_cons.mp hy with rfl | hy
      · have := List.mem_range.mp hk
        unfold Ladder.levels at this
        show k ≤ x.forms.length
        omega
      · exact h2 y hy
    · rintro ⟨h1, h2⟩
      cases w with
      | nil => simp at h1
      | cons k r =>
        refine ⟨k, List.mem_range.mpr ?_, List.mem_map.mpr ⟨r, (ih r).mpr ⟨by simpa using h1, fun y hy => h2 y (by rw [List.zip_cons_cons]; simp [hy])⟩, rfl⟩⟩
        have := h2 (x, k) (by rw [List.zip_cons_cons]; simp)
        unfold Ladder.levels
        show k < x.forms.length + 1
        have : k ≤ x.forms.length := this
        omega
theorem sum_const {n c : Nat} : ((List.range n).map fun _ => c).sum = n * c := by
  induction n with
  | zero => simp
  | succ n ih =>
    rw [List.range_succ, List.map_append, List.sum_append, Nat.succ_mul, ih]
    simp
theorem ways_len : ∀ (l : List Nat), (∀ n ∈ l, n ≤ 4) → (Oc09.ways l).length ≤ 4 ^ l.length := by
  intro l
  induction l with
  | nil => intro _; exact Nat.le_refl _
  | cons n l ih =>
    intro h2
    have := ih (fun x hx => h2 x (by simp [hx]))
    show ((List.range n).flatMap fun k => (Oc09.ways l).map fun r => k :: r).length ≤ _
    rw [List.length_flatMap]
    simp only [List.length_map]
    rw [sum_const, List.length_cons, Nat.pow_succ, Nat.mul_comm]
    exact Nat.mul_le_mul this (h2 n (by simp))
/-- the repair is the first of the least -/
def pick {β : Type} (f : β → Nat) (a : Option β) (k : β) : Option β := match a with
  | none => some k
  | some m => if f k < f m then some k else some m
theorem mend_pick (b : Book) : b.mend = (b.ways.filter b.good).foldl (pick b.price) none := by
  unfold Book.mend
  congr 1
  funext a k
  cases a <;> rfl
theorem fold_first {β : Type} (f : β → Nat) : ∀ (l : List β) (m : β), ∃ r, l.foldl (pick f) (some m) = some r ∧ ((r = m ∧ ∀ k ∈ l, f m ≤ f k) ∨ ∃ i : Nat, l[i]? = some r ∧ f r < f m ∧ ∀ (j : Nat) (k : β), l[j]? = some k → f r ≤ f k ∧ (j < i → f r < f k))
  | [], m => ⟨m, rfl, .inl ⟨rfl, fun _ h => by cases h⟩⟩
  | x :: l, m => by
    rw [List.foldl_cons]
    by_cases c : f x < f m
    · rw [show pick f (some m) x = some x from if_pos c]
      obtain ⟨r, h1, h2⟩ := fold_first f l x
      refine ⟨r, h1, .inr ?_⟩
      rcases h2 with ⟨rfl, h2⟩ | ⟨i, h2, h3, h4⟩
      · refine ⟨0, rfl, c, fun j k hj => ?_⟩
        cases j with
        | zero =>
          have : r = k := by simpa using hj
          subst this
          exact ⟨Nat.le_refl _, fun z => absurd z (Nat.lt_irrefl _)⟩
        | succ j => exact ⟨h2 k (List.mem_of_getElem? (by simpa using hj)), fun z => absurd z (by omega)⟩
      · refine ⟨i + 1, by simpa using h2, by omega, fun j k hj => ?_⟩
        cases j with
        | zero =>
          have : x = k := by simpa using hj
          subst this
          exact ⟨by omega, fun _ => h3⟩
        | succ j =>
          have := h4 j k (by simpa using hj)
          exact ⟨this.1, fun z => this.2 (by omega)⟩
    · rw [show pick f (some m) x = some m from if_neg c]
      obtain ⟨r, h1, h2⟩ := fold_first f l m
      refine ⟨r, h1, ?_⟩
      rcases h2 with ⟨rfl, h2⟩ | ⟨i, h2, h3, h4⟩
      · refine .inl ⟨rfl, fun k hk => ?_⟩
        rcases List.mem_cons.mp hk with rfl | hk
        · omega
        · exact h2 k hk
      · refine .inr ⟨i + 1, by simpa using h2, h3, fun j k hj => ?_⟩
        cases j with
        | zero =>
          have : x = k := by simpa using hj
          subst this
          exact ⟨by omega, fun _ => by omega⟩
        | succ j =>
          have := h4 j k (by simpa using hj)
          exact ⟨this.1, fun z => this.2 (by omega)⟩
theorem mend_nil {b : Book} (h : b.ways.filter b.good = []) : b.mend = none := by
  rw [mend_pick, h]
  rfl
theorem mend_at {b : Book} {i : Nat} {w : List Nat} (h : (b.ways.filter b.good)[i]? = some w) (hl : ∀ (j : Nat) (v : List Nat), (b.ways.filter b.good)[j]? = some v → b.price w ≤ b.price v ∧ (j < i → b.price w < b.price v)) : b.mend = some w := by
  rw [mend_pick]
  generalize b.ways.filter b.good = g at *
  cases g with
  | nil => simp at h
  | cons x l =>
    rw [List.foldl_cons]
    obtain ⟨r, h1, h2⟩ := fold_first b.price l x
    refine h1.trans ?_
    congr 1
    have uniq : ∀ (m : Nat) (v : List Nat), (x :: l)[m]? = some v → (∀ (j : Nat) (u : List Nat), (x :: l)[j]? = some u → b.price v ≤ b.price u ∧ (j < m → b.price v < b.price u)) → v = w := fun m v hm hv => by
      have a1 := hv i w h
      have a2 := hl m v hm
      have : m = i := by
        rcases Nat.lt_trichotomy m i with z | z | z
        · have := a2.2 z; omega
        · exact z
        · have := a1.2 z; omega
      subst this
      rw [h] at hm
      exact (Option.some.inj hm).symm
    rcases h2 with ⟨rfl, h2⟩ | ⟨n, h2, h3, h4⟩
    · refine uniq 0 r rfl fun j u hj => ?_
      cases j with
      | zero =>
        have : r = u := by simpa using hj
        subst this
        exact ⟨Nat.le_refl _, fun z => absurd z (Nat.lt_irrefl _)⟩
      | succ j => exact ⟨h2 u (List.mem_of_getElem? (by simpa using hj)), fun z => absurd z (by omega)⟩
    · refine uniq (n + 1) r (by simpa using h2) fun j u hj => ?_
      cases j with
      | zero =>
        have : x = u := by simpa using hj
        subst this
        exact ⟨by omega, fun _ => h3⟩
      | succ j =>
        have := h4 j u (by simpa using hj)
        exact ⟨this.1, fun z => this.2 (by omega)⟩
theorem mend_mem {b : Book} {w : List Nat} (h : b.mend = some w) : w ∈ b.ways.filter b.good := by
  rw [mend_pick] at h
  generalize b.ways.filter b.good = g at *
  cases g with
  | nil => cases h
  | cons x l =>
    rw [List.foldl_cons] at h
    obtain ⟨r, h1, h2⟩ := fold_first b.price l x
    have e := h1.symm.trans h
    cases e
    rcases h2 with ⟨rfl, _⟩ | ⟨n, h2, _⟩
    · simp
    · exact List.mem_cons_of_mem _ (List.mem_of_getElem? h2)
/-! what is left after the repair -/
/-- an axiom from the level k on -/
def cutL (x : Ladder) (k : Nat) : Ladder := { x with forms := (x.forms.drop k).mapIdx fun j f => if j = 0 then (0, f.2) else f }
def left (ls : List Ladder) (ks : List Nat) : List Ladder := (ls.zip ks).filterMap fun x => if x.1.forms.length ≤ x.2 then none else some (cutL x.1 x.2)
theorem cut_forms (x : Ladder) (k : Nat) : (cutL x k).forms.map (·.2) = (x.forms.map (·.2)).drop k := by
  unfold cutL
  rw [← List.map_drop]
  generalize x.forms.drop k = l
  refine List.ext_getElem? fun i => ?_
  simp only [List.getElem?_map, List.getElem?_mapIdx]
  cases l[i]? with
  | none => rfl
  | some f => by_cases c : i = 0 <;> simp [c]
theorem cut_len (x : Ladder) (k : Nat) : (cutL x k).forms.length = x.forms.length - k := by
  unfold cutL
  simp
theorem cut_zero {x : Ladder} {k : Nat} (h : k < x.forms.length) : ∃ a r, (cutL x k).forms = (0, a) :: r := by
  unfold cutL
  cases e : x.forms.drop k with
  | nil =>
    have := congrArg List.length e
    rw [List.length_drop, List.length_nil] at this
    omega
  | cons f l => exact ⟨f.2, _, List.mapIdx_cons⟩
theorem cut_prices {x : Ladder} {k : Nat} (h : k < x.forms.length) : pricesOf (cutL x k) = (pricesOf x).drop k := by
  unfold pricesOf
  have e : ((cutL x k).forms.map (·.1)).drop 1 = (x.forms.map (·.1)).drop (k + 1) := by
    unfold cutL
    cases e : x.forms.drop k with
    | nil =>
      have := congrArg List.length e
      rw [List.length_drop, List.length_nil] at this
      omega
    | cons f l =>
      have e2 : (x.forms.map (·.1)).drop (k + 1) = l.map (·.1) := by
        rw [← List.map_drop, ← List.drop_drop, e]
        rfl
      rw [e2]
      refine List.ext_getElem? fun i => ?_
      simp only [List.getElem?_drop, List.getElem?_map, List.getElem?_mapIdx]
      rw [Nat.add_comm 1 i, List.getElem?_cons_succ]
      cases l[i]? with
      | none => rfl
      | some g => simp
  rw [e, List.drop_append_of_le_length (by rw [List.length_drop, List.length_map]; omega), List.drop_drop, Nat.add_comm 1 k]
  rfl
end Wk
end
section
set_option Elab.async false
set_option maxRecDepth 100000
set_option maxHeartbeats 4000000
namespace Wk
open PySem PySem.Spec PyProof.Rows L2
/-- the i-th statement of the program -/
def top (i : Nat) : Stmt := PySem.Challenge.pw_weakenings_s01_answers.main.body.getD i (.Pass ⟨0, 0, 0, 0⟩)
/-- a tuple that the top has written -/
def KTup (K : PySem.W.Frag) (a : Addr) (xs : List V) : Prop := ∃ (o : Obj) (its : Array Value) (n : Nat), K.lookup a = some o ∧ o.cls = .type "tuple" ∧ o.data = .seq its n ∧ its.size ≤ sizeLine ∧ Vals xs its.toList
theorem KTup.sq {K : PySem.W.Frag} {a : Addr} {xs : List V} (h : KTup K a xs) (H : Hp) : SqT K H a xs := .inr h
/-- whole numbers as values -/
def iv (l : List Nat) : List V := l.map fun (n : Nat) => V.int (n : Int)
theorem iv_len (l : List Nat) : (iv l).length = l.length := by simp [iv]
theorem iv_get {l : List Nat} {i : Nat} {n : Nat} (h : l[i]? = some n) : (iv l)[i]? = some (V.int (n : Int)) := by
  unfold iv
  rw [List.getElem?_map, h]
  rfl
/-- a list or a tuple of whole numbers -/
def Nums (K : PySem.W.Frag) (H : Hp) (a : Addr) (l : List Nat) : Prop := SqL K H a (iv l) ∨ SqT K H a (iv l)
theorem Same.sqt {K : PySem.W.Frag} {H H' : Hp} {a : Addr} {xs : List V} (e : Same H H') (h : SqT K H a xs) : SqT K H' a xs := by
  rcases h with (tr | ⟨fz, tr⟩) | wr
  · exact .inl (.inl (e _ _ tr))
  · exact .inl (.inr ⟨fz, e _ _ tr⟩)
  · exact .inr wr
theorem Nums.same {K : PySem.W.Frag} {H H' : Hp} {a : Addr} {l : List Nat} (h : Nums K H a l) (e : Same H H') : Nums K H' a l := by
  rcases h with h | h
  · exact .inl (e.seq h)
  · exact .inr (Wk.Same.sqt e h)
theorem atI_nat' {xs : List V} {i : Nat} {v : V} (h : xs[i]? = some v) : atI xs (i : Int) = some v := atI_nat h
end Wk
namespace Wk
open PySem PySem.Spec PyProof.Rows L2
/-! ### what readings ask, answered -/
@[irreducible] def rLen (K : PySem.W.Frag) : V → Hp → VK → Prop := fun x H Q => ∃ p ys, [x] = [V.ref p] ∧ (SqL K H p ys ∨ SqT K H p ys) ∧ Q (.int ys.length) H
theorem pe_len {X : Cx} {e : Expr} {t : TE} {p pos : Pos} (hg : Gl X "len") (hm : X.mg "len" = none) (h : PE X e t)
    (he : starEach (e :: []) X.env = (false, eval e X.env) :: starEach [] X.env := by rfl) (hpl : (backTo pos (starEach [] X.env)).any (·.1) = false := by rfl) : PE X (.Call (.Name "len" p) [e] [] pos) (tUn (rLen X.K) t) :=
  ⟨fun pins s σ H Q I q => (pe_callB call_len_seq hg hm PySem.boot_len (pa_cons h pa_nil he) (by decide) (by decide) he hpl).run pins s σ H Q I (by unfold rLen at q; exact q)⟩
section
variable {K : PySem.W.Frag} {H : Hp} {a : Addr} {l : List Nat} {Q : VK}
theorem r_len (hn : Nums K H a l) (q : Q (.int (l.length : Nat)) H) : rLen K (.ref a) H Q := by
  unfold rLen
  exact ⟨a, iv l, rfl, hn, by rw [iv_len]; exact q⟩
theorem r_lenL {xs : List V} (hn : SqL K H a xs) (q : Q (.int (xs.length : Nat)) H) : rLen K (.ref a) H Q := by unfold rLen; exact ⟨a, xs, rfl, .inl hn, q⟩
theorem r_lenT {xs : List V} (hn : SqT K H a xs) (q : Q (.int (xs.length : Nat)) H) : rLen K (.ref a) H Q := by unfold rLen; exact ⟨a, xs, rfl, .inr hn, q⟩
theorem r_ix {i n : Nat} (hn : Nums K H a l) (h : l[i]? = some n) (q : Q (.int (n : Nat)) H) : rIx K (.ref a) (.int (i : Nat)) H Q := by
  rcases hn with hn | hn
  · exact .inl ⟨a, iv l, _, _, rfl, rfl, hn, atI_nat (iv_get h), q⟩
  · exact .inr (.inl ⟨a, iv l, _, _, rfl, rfl, hn, atI_nat (iv_get h), q⟩)
end
/-- an if whose test is known -/
theorem if_true_of {c : Bool} {A B : Prop} (hc : c = true) (h : A) : if c = true then A else B := by
  rw [if_pos hc]
  exact h
theorem if_false_of {c : Bool} {A B : Prop} (hc : c = false) (h : B) : if c = true then A else B := by
  rw [hc, if_neg Bool.false_ne_true]
  exact h
theorem drop_at {l : List Nat} {i n : Nat} (e : l[i]? = some n) : l.drop i = n :: l.drop (i + 1) := by
  obtain ⟨lt, e⟩ := List.getElem?_eq_some_iff.mp e
  rw [List.drop_eq_getElem_cons lt, e]
theorem getD_at {l : List Nat} {n : Nat} (h : n < l.length) : l[n]? = some (l.getD n 0) := by
  rw [List.getD_eq_getElem?_getD, List.getElem?_eq_getElem h]
  rfl
end Wk
namespace Wk
open PySem PySem.Spec PyProof.Rows L2
theorem pe_globI {X : Cx} {x : Str} {n : Int} {pos : Pos} (hg : Gl X x) (h : ∃ t, X.mg x = some (.int n t)) (hd : (x == ("__debug__" : Str)) = false := by decide) : PE X (.Name x pos) (tC (.int n)) := by
  obtain ⟨t, h⟩ := h
  exact pe_glob (v := .int n) hg h ⟨t, rfl⟩ hd
end Wk
namespace Wk
open PySem PySem.Spec PyProof.Rows L2
/-- lists of the same length, item by item -/
inductive All2 {α β : Type} (R : α → β → Prop) : List α → List β → Prop
  | nil : All2 R [] []
  | cons {a : α} {b : β} {l : List α} {m : List β} : R a b → All2 R l m → All2 R (a :: l) (b :: m)
namespace All2
variable {α β : Type} {R S : α → β → Prop}
theorem length : ∀ {l : List α} {m : List β}, All2 R l m → l.length = m.length
  | _, _, .nil => rfl
  | _, _, .cons _ t => congrArg (· + 1) t.length
theorem snoc {a : α} {b : β} : ∀ {l : List α} {m : List β}, All2 R l m → R a b → All2 R (l ++ [a]) (m ++ [b])
  | _, _, .nil, h => .cons h .nil
  | _, _, .cons h t, k => .cons h (t.snoc k)
theorem mono (f : ∀ a b, R a b → S a b) : ∀ {l : List α} {m : List β}, All2 R l m → All2 S l m
  | _, _, .nil => .nil
  | _, _, .cons h t => .cons (f _ _ h) (t.mono f)
theorem get : ∀ {l : List α} {m : List β} {i : Nat} {a : α}, All2 R l m → l[i]? = some a → ∃ b, m[i]? = some b ∧ R a b
  | _, _, 0, _, .cons h _, e => ⟨_, rfl, by cases e; exact h⟩
  | _, _, i + 1, _, .cons _ t, e => by
    obtain ⟨b, h1, h2⟩ := t.get (i := i) (by simpa using e)
    exact ⟨b, by simpa using h1, h2⟩
theorem get' : ∀ {l : List α} {m : List β} {i : Nat} {b : β}, All2 R l m → m[i]? = some b → ∃ a, l[i]? = some a ∧ R a b
  | _, _, 0, _, .cons h _, e => ⟨_, rfl, by cases e; exact h⟩
  | _, _, i + 1, _, .cons _ t, e => by
    obtain ⟨b, h1, h2⟩ := t.get' (i := i) (by simpa using e)
    exact ⟨b, by simpa using h1, h2⟩
theorem append : ∀ {l l2 : List α} {m m2 : List β}, All2 R l m → All2 R l2 m2 → All2 R (l ++ l2) (m ++ m2)
  | _, _, _, _, .nil, h => h
  | _, _, _, _, .cons h t, k => .cons h (t.append k)
theorem drop : ∀ {l : List α} {m : List β} (i : Nat), All2 R l m → All2 R (l.drop i) (m.drop i)
  | _, _, 0, h => h
  | _, _, _ + 1, .nil => .nil
  | _, _, i + 1, .cons _ t => t.drop i
theorem take : ∀ {l : List α} {m : List β} (i : Nat), All2 R l m → All2 R (l.take i) (m.take i)
  | _, _, 0, _ => .nil
  | _, _, _ + 1, .nil => .nil
  | _, _, i + 1, .cons h t => .cons h (t.take i)
end All2
/-- a tuple of whole numbers -/
def TupN (H : Hp) (a : Addr) (l : List Nat) : Prop := H a = some (.tup (iv l))
theorem TupN.nums {K : PySem.W.Frag} {H : Hp} {a : Addr} {l : List Nat} (h : TupN H a l) : Nums K H a l := .inr (.inl (.inl h))
/-- concepts at addresses -/
def Cons (H : Hp) : List Addr → List Oc.C → Prop := All2 fun a c => TupN H a (enc c)
theorem Cons.same {H H' : Hp} {as : List Addr} {cs : List Oc.C} (h : Cons H as cs) (e : Same H H') : Cons H' as cs := All2.mono (fun _ _ x => e _ _ x) h
/-- a list of concepts -/
def LstC (H : Hp) (p : Addr) (cs : List Oc.C) : Prop := ∃ as : List Addr, H p = some (.lst (as.map V.ref)) ∧ Cons H as cs
theorem LstC.same {H H' : Hp} {p : Addr} {cs : List Oc.C} (h : LstC H p cs) (e : Same H H') : LstC H' p cs := by
  obtain ⟨as, h1, h2⟩ := h
  exact ⟨as, e _ _ h1, h2.same e⟩
theorem Same.new {H : Hp} {p : Addr} {o : HO} (h : H p = none) : Same H (upd H p o) := fun b u e => by
  rw [upd_ne (ne_of_none e h)]
  exact e
theorem Same.mut {H H' : Hp} {p : Addr} {o : HO} (e : Same H H') (h : H p = none) : Same H (upd H' p o) := fun b u q => by
  rw [upd_ne (ne_of_none q h)]
  exact e b u q
theorem iv_drop (l : List Nat) (i : Nat) : (iv l).drop i = iv (l.drop i) := by simp [iv, List.map_drop]
theorem iv_take (l : List Nat) (i : Nat) : (iv l).take i = iv (l.take i) := by simp [iv, List.map_take]
theorem r_sl {K : PySem.W.Frag} {H : Hp} {a : Addr} {l : List Nat} {lo hi : Nat} {Q : VK} (h : TupN H a l) (h1 : lo ≤ hi) (h2 : hi ≤ l.length)
    (q : ∀ p H', Same H H' → TupN H' p ((l.drop lo).take (hi - lo)) → Q (.ref p) H') : rSlA K (.ref a) (some (lo : Int)) (some (hi : Int)) H Q := by
  refine ⟨a, iv l, rfl, .inl (.inl h), fun ⟨e1, e2⟩ => ?_, fun _ p hp => ?_⟩
  · rw [HT.sIx_nat, iv_len] at e1 e2
    have z1 : lo = 0 := by omega
    have z2 : hi = l.length := by omega
    subst z1 z2
    refine q a H (Same.refl H) ?_
    simpa using h
  · refine q p _ (Same.new hp) ?_
    unfold TupN cutV
    rw [upd_same, HT.sIx_nat, HT.sIx_nat, iv_len, Nat.min_eq_left h2, Nat.min_eq_left (by omega), iv_drop, iv_take]
end Wk
namespace Wk
open PySem PySem.Spec PyProof.Rows L2
/-- behind a while's true test: the next turn, at a smaller measure -/
theorem wN {W : Nat → L2.St → Hp → Prop} {m : Nat} {tb : TS} {D : Ends} {σ : L2.St} {H : Hp} (h : tb { D with nx := fun σ' H' => ∃ m', m' < m ∧ W m' σ' H', ct := fun σ' H' => ∃ m', m' < m ∧ W m' σ' H', bk := D.nx } σ H) :
    ∃ N : L2.St → Hp → Prop, (∀ σ' H', N σ' H' → ∃ m', m' < m ∧ W m' σ' H') ∧ tb { D with nx := N, ct := N, bk := D.nx } σ H := ⟨_, fun _ _ x => x, h⟩
end Wk
namespace Wk
open PySem PySem.Spec PyProof.Rows L2
open Oc (C)
theorem hu65 {A : Around} {k : Nat} (hr : Room k A) : A.units + 65 < cLine := by have := hr.un; omega
/-- a tuple of whole numbers as data -/
def dt (l : List Nat) : PyData := .tuple (l.map fun (n : Nat) => PyData.int (n : Int))
theorem dt_lay : ∀ l : List Nat, PyData.canLayAll0 (l.map fun (n : Nat) => PyData.int (n : Int)) = true
  | [] => rfl
  | n :: l => by
    show (true && PyData.canLayAll0 (l.map _)) = true
    rw [dt_lay l]
    rfl
theorem dt_depth : ∀ l : List Nat, PyData.depthAll (l.map fun (n : Nat) => PyData.int (n : Int)) = 0
  | [] => rfl
  | n :: l => by
    show max 0 (PyData.depthAll (l.map _)) = 0
    rw [dt_depth l]
    rfl
theorem dts_lay : ∀ l : List (List Nat), PyData.canLayAll0 (l.map dt) = true
  | [] => rfl
  | n :: l => by
    show (PyData.canLayAll0 _ && PyData.canLayAll0 (l.map _)) = true
    rw [dts_lay l, dt_lay n]
    rfl
theorem dts_depth : ∀ l : List (List Nat), PyData.depthAll (l.map dt) ≤ 1
  | [] => Nat.zero_le _
  | n :: l => by
    show max (PyData.depthAll _ + 1) (PyData.depthAll (l.map _)) ≤ 1
    have := dts_depth l
    rw [dt_depth n]
    omega
theorem dt_shaped (l : List Nat) : SeqAt.shaped (dt l) = true := by
  show (PyData.canLayAll0 _ && decide (PyData.depthAll _ + 1 ≤ 64)) = true
  rw [dt_lay, dt_depth]
  rfl
theorem dts_shaped (l : List (List Nat)) : SeqAt.shaped (.list (l.map dt)) = true := by
  show (PyData.canLayAll0 _ && decide (PyData.depthAll _ + 1 ≤ 64)) = true
  rw [dts_lay, Bool.true_and]
  have := dts_depth l
  exact decide_eq_true (by omega)
theorem dt_eqv : ∀ a b : List Nat, PyData.eqv (dt a) (dt b) = decide (a = b)
  | [], [] => rfl
  | [], _ :: _ => rfl
  | _ :: _, [] => rfl
  | x :: a, y :: b => by
    have ih := dt_eqv a b
    show ((x : Int) == (y : Int) && PyData.eqvAll (a.map _) (b.map _)) = _
    have ih2 : PyData.eqvAll (a.map fun (n : Nat) => PyData.int (n : Int)) (b.map fun (n : Nat) => PyData.int (n : Int)) = decide (a = b) := ih
    rw [ih2, Bool.eq_iff_iff]
    simp
    intro _
    omega
theorem dp_ints {K : PySem.W.Frag} {H : Hp} : ∀ l : List Nat, DpAll K H (iv l) (l.map fun (n : Nat) => PyData.int (n : Int))
  | [] => .nil
  | _ :: l => .cons (.int _) (dp_ints l)
theorem TupN.dp {K : PySem.W.Frag} {H : Hp} {a : Addr} {l : List Nat} (h : TupN H a l) : Dp K H (.ref a) (dt l) := .tup (.inl (.inl h)) (dp_ints l)
theorem Cons.dp {K : PySem.W.Frag} {H : Hp} {as : List Addr} {cs : List C} (h : Cons H as cs) : DpAll K H (as.map V.ref) ((cs.map enc).map dt) := by
  induction h with
  | nil => exact .nil
  | cons h _ ih => exact .cons (TupN.dp h) ih
theorem any_enc {d : C} (fd : Fine d) : ∀ {cs : List C}, (∀ c ∈ cs, Fine c) → ((cs.map enc).map dt).any (fun z => PyData.eqv z (dt (enc d))) = cs.contains d
  | [], _ => rfl
  | c :: cs, h => by
    rw [List.map_cons, List.map_cons, List.any_cons, any_enc fd (fun x hx => h x (by simp [hx])), dt_eqv, List.contains_cons]
    congr 1
    rw [Bool.eq_iff_iff]
    simp
    constructor
    · intro e; exact (enc_inj (h c (by simp)) fd e).symm
    · intro e; rw [e]
theorem r_notin {K : PySem.W.Frag} {H : Hp} {p a : Addr} {as : List Addr} {cs : List C} {d : C} {Q : VK} (hp : H p = some (.lst (as.map V.ref))) (hc : Cons H as cs) (hd : TupN H a (enc d)) (fd : Fine d) (fc : ∀ c ∈ cs, Fine c)
    (q : Q (.bl (!cs.contains d)) H) : rNotInD K (.ref a) (.ref p) H Q :=
  ⟨dt (enc d), (cs.map enc).map dt, TupN.dp hd, .lst (SqL.of hp) (Cons.dp hc), dt_shaped _, dts_shaped _, by rw [any_enc fd fc]; exact q⟩
/-- the first number -/
def sign (c : C) : Nat := (enc c).headD 0
theorem enc_sign (c : C) : (enc c)[0]? = some (sign c) := by cases c <;> rfl
theorem in_signs (c : C) : inV (.int (sign c : Nat)) (iv [2, 6, 7]) = isAtom c := by cases c <;> rfl
theorem flat_iv (l : List Nat) : (iv l).all flatV = true := by
  unfold iv
  rw [List.all_map]
  exact List.all_eq_true.mpr fun _ _ => rfl
theorem add_len : ∀ (l m : List C), (l.foldl addAtom m).length ≤ m.length + l.length
  | [], m => Nat.le_refl _
  | c :: l, m => by
    rw [List.foldl_cons]
    have := add_len l (addAtom m c)
    have h2 : (addAtom m c).length ≤ m.length + 1 := by unfold addAtom; split <;> simp
    rw [List.length_cons]
    omega
theorem add_fine : ∀ (l m : List C), (∀ c ∈ l, Fine c) → (∀ c ∈ m, Fine c) → ∀ c ∈ l.foldl addAtom m, Fine c
  | [], _, _, h => h
  | x :: l, m, hl, hm => by
    rw [List.foldl_cons]
    refine add_fine l _ (fun c h => hl c (by simp [h])) fun c h => ?_
    unfold addAtom at h
    split at h
    · rcases List.mem_append.mp h with h | h
      · exact hm c h
      · simp at h
        exact hl c (by simp [h])
    · exact hm c h
theorem take_more {α : Type} {l : List α} {i : Nat} {x : α} (h : l[i]? = some x) : l.take (i + 1) = l.take i ++ [x] := by
  rw [List.take_add_one, h]
  rfl
theorem get_ref {as : List Addr} {i : Nat} {x : V} (h : (as.map V.ref)[i]? = some x) : ∃ a, as[i]? = some a ∧ x = .ref a := by
  rw [List.getElem?_map] at h
  cases e : as[i]? with
  | none => rw [e] at h; cases h
  | some a => rw [e] at h; exact ⟨a, rfl, (Option.some.inj h).symm⟩
theorem flat_len {α β : Type} {f : α → List β} {k : Nat} : ∀ {l : List α}, (∀ x ∈ l, (f x).length ≤ k) → (l.flatMap f).length ≤ l.length * k
  | [], _ => by simp
  | x :: l, h => by
    rw [List.flatMap_cons, List.length_append, List.length_cons, Nat.succ_mul]
    have := flat_len (l := l) fun y hy => h y (by simp [hy])
    have := h x (by simp)
    omega
end Wk
namespace Wk
open PySem PySem.Spec PyProof.Rows L2
theorem lk_here {k : Str} {v : V} {r : List (Str × V)} : List.lookup k ((k, v) :: r) = some v := by
  have e : (k == k) = true := beq_self_eq_true k
  simp only [List.lookup, e]
theorem lk_past {k g : Str} {v : V} {r : List (Str × V)} (h : (k == g) = false) : List.lookup k ((g, v) :: r) = List.lookup k r := by
  simp only [List.lookup, h]
theorem put_here {f : Str} {v x : V} {r : List (Str × V)} : putF f v ((f, x) :: r) = (f, v) :: r := if_pos rfl
theorem put_past {f g : Str} {v x : V} {r : List (Str × V)} (h : ¬ g = f) : putF f v ((g, x) :: r) = (g, x) :: putF f v r := if_neg h
end Wk
namespace Wk
open PySem PySem.Spec PyProof.Rows L2
/-- within a comprehension: the written part by its own letter -/
theorem pe_fldK {X : Cx} {K : PySem.W.Frag} {e : Expr} {f : Str} {ta : TE} {pos : Pos} (hK : X.K = K) (he : PE X e ta) (hb : attributeBase e f X.env (eval e X.env) = eval e X.env := by rfl) : PE X (.Attribute e f pos) (tFld K ta f) := by
  subst hK
  exact pe_fld he hb
theorem ix_seqK {X : Cx} {K : PySem.W.Frag} (hK : X.K = K) : IxR X (rIx K) := by
  subst hK
  exact ix_seq
end Wk
namespace Wk
open PySem PySem.Spec PyProof.Rows L2
def tTruK (K : PySem.W.Frag) (ta : TE) : TT := fun σ H Q => ta σ H fun x H' => ∃ k, TruV K x H' k ∧ Q k H'
theorem pt_truthK {X : Cx} {K : PySem.W.Frag} {a : Expr} {ta : TE} (hK : X.K = K) (ha : PE X a ta) (he : ∀ whole, isTrue a X.env whole = (do let v ← whole; standAt a.pos; holding [v] (truthy v))) :
    PT X a (tTruK K ta) := by
  subst hK
  exact pt_truth ha he
end Wk
end
section
set_option Elab.async false
set_option maxRecDepth 100000
set_option maxHeartbeats 4000000
namespace Wk
open PySem PySem.Spec PyProof.Rows L2
abbrev s_Axiom_init : Stmt := inClass (top 8) 0
abbrev N_Axiom_init : List Str := ["self", "forms", "prices"]
theorem sc_Axiom_init : FnScope N_Axiom_init ["self", "forms", "prices"] (defScope s_Axiom_init) := ⟨rfl, rfl, rfl, by decide +kernel, rfl, by decide +kernel, by decide +kernel⟩
abbrev s_Axiom_weaken : Stmt := inClass (top 8) 1
abbrev N_Axiom_weaken : List Str := ["self", "price", "form"]
theorem sc_Axiom_weaken : FnScope N_Axiom_weaken ["self", "price", "form"] (defScope s_Axiom_weaken) := ⟨rfl, rfl, rfl, by decide +kernel, rfl, by decide +kernel, by decide +kernel⟩
abbrev s_Axiom_removal : Stmt := inClass (top 8) 2
abbrev N_Axiom_removal : List Str := ["self"]
theorem sc_Axiom_removal : FnScope N_Axiom_removal ["self"] (defScope s_Axiom_removal) := ⟨rfl, rfl, rfl, by decide +kernel, rfl, by decide +kernel, by decide +kernel⟩
abbrev s_Axiom_price_to : Stmt := inClass (top 8) 3
abbrev N_Axiom_price_to : List Str := ["self", "level"]
theorem sc_Axiom_price_to : FnScope N_Axiom_price_to ["self", "level"] (defScope s_Axiom_price_to) := ⟨rfl, rfl, rfl, by decide +kernel, rfl, by decide +kernel, by decide +kernel⟩
abbrev s_Axiom_weakened_to : Stmt := inClass (top 8) 4
abbrev N_Axiom_weakened_to : List Str := ["self", "level"]
theorem sc_Axiom_weakened_to : FnScope N_Axiom_weakened_to ["self", "level"] (defScope s_Axiom_weakened_to) := ⟨rfl, rfl, rfl, by decide +kernel, rfl, by decide +kernel, by decide +kernel⟩
abbrev s_head_length : Stmt := top 19
abbrev N_head_length : List Str := ["numbers", "place", "choices"]
theorem sc_head_length : FnScope N_head_length ["numbers", "place"] (defScope s_head_length) := ⟨rfl, rfl, rfl, by decide +kernel, rfl, by decide +kernel, by decide +kernel⟩
abbrev s_end_of : Stmt := top 20
abbrev N_end_of : List Str := ["numbers", "start", "place", "missing", "length"]
theorem sc_end_of : FnScope N_end_of ["numbers", "start"] (defScope s_end_of) := ⟨rfl, rfl, rfl, by decide +kernel, rfl, by decide +kernel, by decide +kernel⟩
abbrev s_two_concepts : Stmt := top 21
abbrev N_two_concepts : List Str := ["numbers", "middle"]
theorem sc_two_concepts : FnScope N_two_concepts ["numbers"] (defScope s_two_concepts) := ⟨rfl, rfl, rfl, by decide +kernel, rfl, by decide +kernel, by decide +kernel⟩
abbrev s_followers_of : Stmt := top 22
abbrev N_followers_of : List Str := ["concept", "followers", "place", "end"]
theorem sc_followers_of : FnScope N_followers_of ["concept"] (defScope s_followers_of) := ⟨rfl, rfl, rfl, by decide +kernel, rfl, by decide +kernel, by decide +kernel⟩
abbrev s_parts_of : Stmt := top 23
abbrev N_parts_of : List Str := ["concept", "parts", "place"]
theorem sc_parts_of : FnScope N_parts_of ["concept"] (defScope s_parts_of) := ⟨rfl, rfl, rfl, by decide +kernel, rfl, by decide +kernel, by decide +kernel⟩
abbrev s_atoms_of : Stmt := top 24
abbrev N_atoms_of : List Str := ["concepts", "atoms", "concept", "part"]
theorem sc_atoms_of : FnScope N_atoms_of ["concepts"] (defScope s_atoms_of) := ⟨rfl, rfl, rfl, by decide +kernel, rfl, by decide +kernel, by decide +kernel⟩
abbrev s_Link_init : Stmt := inClass (top 26) 0
abbrev N_Link_init : List Str := ["self", "role", "needy", "goal"]
theorem sc_Link_init : FnScope N_Link_init ["self", "role", "needy", "goal"] (defScope s_Link_init) := ⟨rfl, rfl, rfl, by decide +kernel, rfl, by decide +kernel, by decide +kernel⟩
abbrev s_Patterns_init : Stmt := inClass (top 27) 0
abbrev N_Patterns_init : List Str := ["self", "concepts", "atoms", "bit", "atom", "concept", "part", "pattern"]
theorem sc_Patterns_init : FnScope N_Patterns_init ["self", "concepts"] (defScope s_Patterns_init) := ⟨rfl, rfl, rfl, by decide +kernel, rfl, by decide +kernel, by decide +kernel⟩
abbrev s_Patterns_joined : Stmt := inClass (top 27) 1
abbrev N_Patterns_joined : List Str := ["self", "concept", "groups", "follower"]
theorem sc_Patterns_joined : FnScope N_Patterns_joined ["self", "concept"] (defScope s_Patterns_joined) := ⟨rfl, rfl, rfl, by decide +kernel, rfl, by decide +kernel, by decide +kernel⟩
abbrev s_Patterns_link_of : Stmt := inClass (top 27) 2
abbrev N_Patterns_link_of : List Str := ["self", "atom", "needy", "goal"]
theorem sc_Patterns_link_of : FnScope N_Patterns_link_of ["self", "atom"] (defScope s_Patterns_link_of) := ⟨rfl, rfl, rfl, by decide +kernel, rfl, by decide +kernel, by decide +kernel⟩
abbrev s_Patterns_relatable : Stmt := inClass (top 27) 3
abbrev N_Patterns_relatable : List Str := ["self", "pattern", "role", "group", "link"]
theorem sc_Patterns_relatable : FnScope N_Patterns_relatable ["self", "pattern", "role", "group"] (defScope s_Patterns_relatable) := ⟨rfl, rfl, rfl, by decide +kernel, rfl, by decide +kernel, by decide +kernel⟩
abbrev s_Patterns_can_occur : Stmt := inClass (top 27) 4
abbrev N_Patterns_can_occur : List Str := ["self", "pattern", "group", "link"]
theorem sc_Patterns_can_occur : FnScope N_Patterns_can_occur ["self", "pattern", "group"] (defScope s_Patterns_can_occur) := ⟨rfl, rfl, rfl, by decide +kernel, rfl, by decide +kernel, by decide +kernel⟩
abbrev s_Patterns_occurring : Stmt := inClass (top 27) 5
abbrev N_Patterns_occurring : List Str := ["self", "axioms", "group", "axiom", "before", "pattern"]
theorem sc_Patterns_occurring : FnScope N_Patterns_occurring ["self", "axioms"] (defScope s_Patterns_occurring) := ⟨rfl, rfl, rfl, by decide +kernel, rfl, by decide +kernel, by decide +kernel⟩
abbrev s_Patterns_against : Stmt := inClass (top 27) 6
abbrev N_Patterns_against : List Str := ["self", "pair"]
theorem sc_Patterns_against : FnScope N_Patterns_against ["self", "pair"] (defScope s_Patterns_against) := ⟨rfl, rfl, rfl, by decide +kernel, rfl, by decide +kernel, by decide +kernel⟩
abbrev s_Patterns_subsumptions : Stmt := inClass (top 27) 7
abbrev N_Patterns_subsumptions : List Str := ["self", "pairs", "axioms", "group", "pair"]
theorem sc_Patterns_subsumptions : FnScope N_Patterns_subsumptions ["self", "pairs", "axioms"] (defScope s_Patterns_subsumptions) := ⟨rfl, rfl, rfl, by decide +kernel, rfl, by decide +kernel, by decide +kernel⟩
abbrev s_is_subsumed : Stmt := top 28
abbrev N_is_subsumed : List Str := ["pair", "axioms", "concepts", "axiom"]
theorem sc_is_subsumed : FnScope N_is_subsumed ["pair", "axioms"] (defScope s_is_subsumed) := ⟨rfl, rfl, rfl, by decide +kernel, rfl, by decide +kernel, by decide +kernel⟩
abbrev s_all_ways : Stmt := top 30
abbrev N_all_ways : List Str := ["axioms", "ways", "axiom", "longer", "way", "level"]
theorem sc_all_ways : FnScope N_all_ways ["axioms"] (defScope s_all_ways) := ⟨rfl, rfl, rfl, by decide +kernel, rfl, by decide +kernel, by decide +kernel⟩
abbrev s_is_way : Stmt := top 31
abbrev N_is_way : List Str := ["axioms", "levels", "axiom", "level"]
theorem sc_is_way : FnScope N_is_way ["axioms", "levels"] (defScope s_is_way) := ⟨rfl, rfl, rfl, by decide +kernel, rfl, by decide +kernel, by decide +kernel⟩
abbrev s_price_of : Stmt := top 32
abbrev N_price_of : List Str := ["axioms", "way", "axiom", "level"]
theorem sc_price_of : FnScope N_price_of ["axioms", "way"] (defScope s_price_of) := ⟨rfl, rfl, rfl, by decide +kernel, rfl, by decide +kernel, by decide +kernel⟩
abbrev s_forms_at : Stmt := top 33
abbrev N_forms_at : List Str := ["axioms", "way", "forms", "axiom", "level"]
theorem sc_forms_at : FnScope N_forms_at ["axioms", "way"] (defScope s_forms_at) := ⟨rfl, rfl, rfl, by decide +kernel, rfl, by decide +kernel, by decide +kernel⟩
abbrev s_is_nowhere_higher : Stmt := top 34
abbrev N_is_nowhere_higher : List Str := ["way", "other", "level", "bound"]
theorem sc_is_nowhere_higher : FnScope N_is_nowhere_higher ["way", "other"] (defScope s_is_nowhere_higher) := ⟨rfl, rfl, rfl, by decide +kernel, rfl, by decide +kernel, by decide +kernel⟩
abbrev s_minimal_among : Stmt := top 35
abbrev N_minimal_among : List Str := ["ways", "minimal", "way", "other"]
theorem sc_minimal_among : FnScope N_minimal_among ["ways"] (defScope s_minimal_among) := ⟨rfl, rfl, rfl, by decide +kernel, rfl, by decide +kernel, by decide +kernel⟩
abbrev s_Store_init : Stmt := inClass (top 42) 0
abbrev N_Store_init : List Str := ["self"]
theorem sc_Store_init : FnScope N_Store_init ["self"] (defScope s_Store_init) := ⟨rfl, rfl, rfl, by decide +kernel, rfl, by decide +kernel, by decide +kernel⟩
abbrev s_Store_begins : Stmt := inClass (top 42) 1
abbrev N_Store_begins : List Str := ["self"]
theorem sc_Store_begins : FnScope N_Store_begins ["self"] (defScope s_Store_begins) := ⟨rfl, rfl, rfl, by decide +kernel, rfl, by decide +kernel, by decide +kernel⟩
abbrev s_Store_line : Stmt := inClass (top 42) 2
abbrev N_Store_line : List Str := ["self", "price", "numbers", "form"]
theorem sc_Store_line : FnScope N_Store_line ["self", "price", "numbers"] (defScope s_Store_line) := ⟨rfl, rfl, rfl, by decide +kernel, rfl, by decide +kernel, by decide +kernel⟩
abbrev s_Store_less : Stmt := inClass (top 42) 3
abbrev N_Store_less : List Str := ["self", "index", "price", "numbers", "form", "axiom"]
theorem sc_Store_less : FnScope N_Store_less ["self", "index", "price", "numbers"] (defScope s_Store_less) := ⟨rfl, rfl, rfl, by decide +kernel, rfl, by decide +kernel, by decide +kernel⟩
abbrev s_Store_never : Stmt := inClass (top 42) 4
abbrev N_Store_never : List Str := ["self", "numbers"]
theorem sc_Store_never : FnScope N_Store_never ["self", "numbers"] (defScope s_Store_never) := ⟨rfl, rfl, rfl, by decide +kernel, rfl, by decide +kernel, by decide +kernel⟩
abbrev s_Store_keep : Stmt := inClass (top 42) 5
abbrev N_Store_keep : List Str := ["self", "numbers"]
theorem sc_Store_keep : FnScope N_Store_keep ["self", "numbers"] (defScope s_Store_keep) := ⟨rfl, rfl, rfl, by decide +kernel, rfl, by decide +kernel, by decide +kernel⟩
abbrev s_Store_wish : Stmt := inClass (top 42) 6
abbrev N_Store_wish : List Str := ["self", "wishes", "numbers", "pair"]
theorem sc_Store_wish : FnScope N_Store_wish ["self", "wishes", "numbers"] (defScope s_Store_wish) := ⟨rfl, rfl, rfl, by decide +kernel, rfl, by decide +kernel, by decide +kernel⟩
abbrev s_Store_mend : Stmt := inClass (top 42) 7
abbrev N_Store_mend : List Str := ["self"]
theorem sc_Store_mend : FnScope N_Store_mend ["self"] (defScope s_Store_mend) := ⟨rfl, rfl, rfl, by decide +kernel, rfl, by decide +kernel, by decide +kernel⟩
abbrev s_Store_least : Stmt := inClass (top 42) 8
abbrev N_Store_least : List Str := ["self", "minimal", "numbers", "way"]
theorem sc_Store_least : FnScope N_Store_least ["self"] (defScope s_Store_least) := ⟨rfl, rfl, rfl, by decide +kernel, rfl, by decide +kernel, by decide +kernel⟩
abbrev s_Store_check : Stmt := inClass (top 42) 9
abbrev N_Store_check : List Str := ["self", "levels", "held", "holds"]
theorem sc_Store_check : FnScope N_Store_check ["self", "levels"] (defScope s_Store_check) := ⟨rfl, rfl, rfl, by decide +kernel, rfl, by decide +kernel, by decide +kernel⟩
abbrev s_Store_done : Stmt := inClass (top 42) 10
abbrev N_Store_done : List Str := ["self", "way", "price", "weakened", "axiom", "level"]
theorem sc_Store_done : FnScope N_Store_done ["self"] (defScope s_Store_done) := ⟨rfl, rfl, rfl, by decide +kernel, rfl, by decide +kernel, by decide +kernel⟩
abbrev s_Store_priced : Stmt := inClass (top 42) 11
abbrev N_Store_priced : List Str := ["self", "way"]
theorem sc_Store_priced : FnScope N_Store_priced ["self", "way"] (defScope s_Store_priced) := ⟨rfl, rfl, rfl, by decide +kernel, rfl, by decide +kernel, by decide +kernel⟩
abbrev s_Store_repair : Stmt := inClass (top 42) 12
abbrev N_Store_repair : List Str := ["self", "ways"]
theorem sc_Store_repair : FnScope N_Store_repair ["self"] (defScope s_Store_repair) := ⟨rfl, rfl, rfl, by decide +kernel, rfl, by decide +kernel, by decide +kernel⟩
abbrev s_Store_satisfying : Stmt := inClass (top 42) 13
abbrev N_Store_satisfying : List Str := ["self", "patterns", "way"]
theorem sc_Store_satisfying : FnScope N_Store_satisfying ["self"] (defScope s_Store_satisfying) := ⟨rfl, rfl, rfl, by decide +kernel, rfl, by decide +kernel, by decide +kernel⟩
abbrev s_Store_held_with : Stmt := inClass (top 42) 14
abbrev N_Store_held_with : List Str := ["self", "way", "patterns"]
theorem sc_Store_held_with : FnScope N_Store_held_with ["self", "way", "patterns"] (defScope s_Store_held_with) := ⟨rfl, rfl, rfl, by decide +kernel, rfl, by decide +kernel, by decide +kernel⟩
abbrev s_Store_satisfied_by : Stmt := inClass (top 42) 15
abbrev N_Store_satisfied_by : List Str := ["self", "held", "count"]
theorem sc_Store_satisfied_by : FnScope N_Store_satisfied_by ["self", "held"] (defScope s_Store_satisfied_by) := ⟨rfl, rfl, rfl, by decide +kernel, rfl, by decide +kernel, by decide +kernel⟩
abbrev s_Store_check_room : Stmt := inClass (top 42) 16
abbrev N_Store_check_room : List Str := ["self", "present", "most", "pair"]
theorem sc_Store_check_room : FnScope N_Store_check_room ["self", "present", "most", "pair"] (defScope s_Store_check_room) := ⟨rfl, rfl, rfl, by decide +kernel, rfl, by decide +kernel, by decide +kernel⟩
abbrev s_Store_all_concepts : Stmt := inClass (top 42) 17
abbrev N_Store_all_concepts : List Str := ["self", "concepts", "axiom", "form", "pair"]
theorem sc_Store_all_concepts : FnScope N_Store_all_concepts ["self"] (defScope s_Store_all_concepts) := ⟨rfl, rfl, rfl, by decide +kernel, rfl, by decide +kernel, by decide +kernel⟩
abbrev s_check_price : Stmt := top 43
abbrev N_check_price : List Str := ["price"]
theorem sc_check_price : FnScope N_check_price ["price"] (defScope s_check_price) := ⟨rfl, rfl, rfl, by decide +kernel, rfl, by decide +kernel, by decide +kernel⟩
abbrev s_Reader_init : Stmt := inClass (top 54) 0
abbrev N_Reader_init : List Str := ["self", "calls"]
theorem sc_Reader_init : FnScope N_Reader_init ["self", "calls"] (defScope s_Reader_init) := ⟨rfl, rfl, rfl, by decide +kernel, rfl, by decide +kernel, by decide +kernel⟩
abbrev s_Reader_at_end : Stmt := inClass (top 54) 1
abbrev N_Reader_at_end : List Str := ["self"]
theorem sc_Reader_at_end : FnScope N_Reader_at_end ["self"] (defScope s_Reader_at_end) := ⟨rfl, rfl, rfl, by decide +kernel, rfl, by decide +kernel, by decide +kernel⟩
abbrev s_Reader_take_number : Stmt := inClass (top 54) 2
abbrev N_Reader_take_number : List Str := ["self", "number"]
theorem sc_Reader_take_number : FnScope N_Reader_take_number ["self"] (defScope s_Reader_take_number) := ⟨rfl, rfl, rfl, by decide +kernel, rfl, by decide +kernel, by decide +kernel⟩
abbrev s_Reader_take_list : Stmt := inClass (top 54) 3
abbrev N_Reader_take_list : List Str := ["self", "length", "numbers"]
theorem sc_Reader_take_list : FnScope N_Reader_take_list ["self"] (defScope s_Reader_take_list) := ⟨rfl, rfl, rfl, by decide +kernel, rfl, by decide +kernel, by decide +kernel⟩
abbrev s_answers : Stmt := top 55
abbrev N_answers : List Str := ["calls", "store", "reader", "told", "numbers"]
theorem sc_answers : FnScope N_answers ["calls"] (defScope s_answers) := ⟨rfl, rfl, rfl, by decide +kernel, rfl, by decide +kernel, by decide +kernel⟩
abbrev s_answer_of : Stmt := top 56
abbrev N_answer_of : List Str := ["store", "reader"]
theorem sc_answer_of : FnScope N_answer_of ["store", "reader"] (defScope s_answer_of) := ⟨rfl, rfl, rfl, by decide +kernel, rfl, by decide +kernel, by decide +kernel⟩
abbrev s_result_of : Stmt := top 57
abbrev N_result_of : List Str := ["store", "reader", "number", "price", "index"]
theorem sc_result_of : FnScope N_result_of ["store", "reader"] (defScope s_result_of) := ⟨rfl, rfl, rfl, by decide +kernel, rfl, by decide +kernel, by decide +kernel⟩
def fl_Axiom_0 : List (Str × V) := []
def fl_Axiom_1 (v0 : V) : List (Str × V) := [("forms", v0)]
def fl_Axiom_2 (v0 v1 : V) : List (Str × V) := [("forms", v0), ("prices", v1)]
theorem nx_Axiom_0 {y : V} : putF "forms" y ([] : List (Str × V)) = fl_Axiom_1  y := rfl
theorem no_Axiom_0_weaken : ([] : List (Str × V)).lookup ("weaken" : Str) = none := rfl
theorem no_Axiom_0_removal : ([] : List (Str × V)).lookup ("removal" : Str) = none := rfl
theorem no_Axiom_0_price_to : ([] : List (Str × V)).lookup ("price_to" : Str) = none := rfl
theorem no_Axiom_0_weakened_to : ([] : List (Str × V)).lookup ("weakened_to" : Str) = none := rfl
theorem lk_Axiom_1_forms {v0 : V} : (fl_Axiom_1 v0).lookup ("forms" : Str) = some v0 := lk_here
theorem pt_Axiom_1_forms {v0 : V} {y : V} : putF "forms" y (fl_Axiom_1 v0) = fl_Axiom_1 y := put_here
theorem nx_Axiom_1 {v0 : V} {y : V} : putF "prices" y (fl_Axiom_1 v0) = fl_Axiom_2 v0 y := (put_past (by decide +kernel)).trans (congrArg _ (rfl))
theorem no_Axiom_1_weaken {v0 : V} : (fl_Axiom_1 v0).lookup ("weaken" : Str) = none := (lk_past (by decide +kernel)).trans (rfl)
theorem no_Axiom_1_removal {v0 : V} : (fl_Axiom_1 v0).lookup ("removal" : Str) = none := (lk_past (by decide +kernel)).trans (rfl)
theorem no_Axiom_1_price_to {v0 : V} : (fl_Axiom_1 v0).lookup ("price_to" : Str) = none := (lk_past (by decide +kernel)).trans (rfl)
theorem no_Axiom_1_weakened_to {v0 : V} : (fl_Axiom_1 v0).lookup ("weakened_to" : Str) = none := (lk_past (by decide +kernel)).trans (rfl)
theorem lk_Axiom_2_forms {v0 v1 : V} : (fl_Axiom_2 v0 v1).lookup ("forms" : Str) = some v0 := lk_here
theorem pt_Axiom_2_forms {v0 v1 : V} {y : V} : putF "forms" y (fl_Axiom_2 v0 v1) = fl_Axiom_2 y v1 := put_here
theorem lk_Axiom_2_prices {v0 v1 : V} : (fl_Axiom_2 v0 v1).lookup ("prices" : Str) = some v1 := (lk_past (by decide +kernel)).trans (lk_here)
theorem pt_Axiom_2_prices {v0 v1 : V} {y : V} : putF "prices" y (fl_Axiom_2 v0 v1) = fl_Axiom_2 v0 y := (put_past (by decide +kernel)).trans (congrArg _ (put_here))
theorem no_Axiom_2_weaken {v0 v1 : V} : (fl_Axiom_2 v0 v1).lookup ("weaken" : Str) = none := (lk_past (by decide +kernel)).trans ((lk_past (by decide +kernel)).trans (rfl))
theorem no_Axiom_2_removal {v0 v1 : V} : (fl_Axiom_2 v0 v1).lookup ("removal" : Str) = none := (lk_past (by decide +kernel)).trans ((lk_past (by decide +kernel)).trans (rfl))
theorem no_Axiom_2_price_to {v0 v1 : V} : (fl_Axiom_2 v0 v1).lookup ("price_to" : Str) = none := (lk_past (by decide +kernel)).trans ((lk_past (by decide +kernel)).trans (rfl))
theorem no_Axiom_2_weakened_to {v0 v1 : V} : (fl_Axiom_2 v0 v1).lookup ("weakened_to" : Str) = none := (lk_past (by decide +kernel)).trans ((lk_past (by decide +kernel)).trans (rfl))
def fl_Link_0 : List (Str × V) := []
def fl_Link_1 (v0 : V) : List (Str × V) := [("role", v0)]
def fl_Link_2 (v0 v1 : V) : List (Str × V) := [("role", v0), ("needy", v1)]
def fl_Link_3 (v0 v1 v2 : V) : List (Str × V) := [("role", v0), ("needy", v1), ("goal", v2)]
theorem nx_Link_0 {y : V} : putF "role" y ([] : List (Str × V)) = fl_Link_1  y := rfl
theorem lk_Link_1_role {v0 : V} : (fl_Link_1 v0).lookup ("role" : Str) = some v0 := lk_here
theorem pt_Link_1_role {v0 : V} {y : V} : putF "role" y (fl_Link_1 v0) = fl_Link_1 y := put_here
theorem nx_Link_1 {v0 : V} {y : V} : putF "needy" y (fl_Link_1 v0) = fl_Link_2 v0 y := (put_past (by decide +kernel)).trans (congrArg _ (rfl))
theorem lk_Link_2_role {v0 v1 : V} : (fl_Link_2 v0 v1).lookup ("role" : Str) = some v0 := lk_here
theorem pt_Link_2_role {v0 v1 : V} {y : V} : putF "role" y (fl_Link_2 v0 v1) = fl_Link_2 y v1 := put_here
theorem lk_Link_2_needy {v0 v1 : V} : (fl_Link_2 v0 v1).lookup ("needy" : Str) = some v1 := (lk_past (by decide +kernel)).trans (lk_here)
theorem pt_Link_2_needy {v0 v1 : V} {y : V} : putF "needy" y (fl_Link_2 v0 v1) = fl_Link_2 v0 y := (put_past (by decide +kernel)).trans (congrArg _ (put_here))
theorem nx_Link_2 {v0 v1 : V} {y : V} : putF "goal" y (fl_Link_2 v0 v1) = fl_Link_3 v0 v1 y := (put_past (by decide +kernel)).trans (congrArg _ ((put_past (by decide +kernel)).trans (congrArg _ (rfl))))
theorem lk_Link_3_role {v0 v1 v2 : V} : (fl_Link_3 v0 v1 v2).lookup ("role" : Str) = some v0 := lk_here
theorem pt_Link_3_role {v0 v1 v2 : V} {y : V} : putF "role" y (fl_Link_3 v0 v1 v2) = fl_Link_3 y v1 v2 := put_here
theorem lk_Link_3_needy {v0 v1 v2 : V} : (fl_Link_3 v0 v1 v2).lookup ("needy" : Str) = some v1 := (lk_past (by decide +kernel)).trans (lk_here)
theorem pt_Link_3_needy {v0 v1 v2 : V} {y : V} : putF "needy" y (fl_Link_3 v0 v1 v2) = fl_Link_3 v0 y v2 := (put_past (by decide +kernel)).trans (congrArg _ (put_here))
theorem lk_Link_3_goal {v0 v1 v2 : V} : (fl_Link_3 v0 v1 v2).lookup ("goal" : Str) = some v2 := (lk_past (by decide +kernel)).trans ((lk_past (by decide +kernel)).trans (lk_here))
theorem pt_Link_3_goal {v0 v1 v2 : V} {y : V} : putF "goal" y (fl_Link_3 v0 v1 v2) = fl_Link_3 v0 v1 y := (put_past (by decide +kernel)).trans (congrArg _ ((put_past (by decide +kernel)).trans (congrArg _ (put_here))))
def fl_Patterns_0 : List (Str × V) := []
def fl_Patterns_1 (v0 : V) : List (Str × V) := [("total", v0)]
def fl_Patterns_2 (v0 v1 : V) : List (Str × V) := [("total", v0), ("whole", v1)]
def fl_Patterns_3 (v0 v1 v2 : V) : List (Str × V) := [("total", v0), ("whole", v1), ("groups", v2)]
def fl_Patterns_4 (v0 v1 v2 v3 : V) : List (Str × V) := [("total", v0), ("whole", v1), ("groups", v2), ("links", v3)]
theorem nx_Patterns_0 {y : V} : putF "total" y ([] : List (Str × V)) = fl_Patterns_1  y := rfl
theorem no_Patterns_0_joined : ([] : List (Str × V)).lookup ("joined" : Str) = none := rfl
theorem no_Patterns_0_link_of : ([] : List (Str × V)).lookup ("link_of" : Str) = none := rfl
theorem no_Patterns_0_relatable : ([] : List (Str × V)).lookup ("relatable" : Str) = none := rfl
theorem no_Patterns_0_can_occur : ([] : List (Str × V)).lookup ("can_occur" : Str) = none := rfl
theorem no_Patterns_0_occurring : ([] : List (Str × V)).lookup ("occurring" : Str) = none := rfl
theorem no_Patterns_0_against : ([] : List (Str × V)).lookup ("against" : Str) = none := rfl
theorem no_Patterns_0_subsumptions : ([] : List (Str × V)).lookup ("subsumptions" : Str) = none := rfl
theorem lk_Patterns_1_total {v0 : V} : (fl_Patterns_1 v0).lookup ("total" : Str) = some v0 := lk_here
theorem pt_Patterns_1_total {v0 : V} {y : V} : putF "total" y (fl_Patterns_1 v0) = fl_Patterns_1 y := put_here
theorem nx_Patterns_1 {v0 : V} {y : V} : putF "whole" y (fl_Patterns_1 v0) = fl_Patterns_2 v0 y := (put_past (by decide +kernel)).trans (congrArg _ (rfl))
theorem no_Patterns_1_joined {v0 : V} : (fl_Patterns_1 v0).lookup ("joined" : Str) = none := (lk_past (by decide +kernel)).trans (rfl)
theorem no_Patterns_1_link_of {v0 : V} : (fl_Patterns_1 v0).lookup ("link_of" : Str) = none := (lk_past (by decide +kernel)).trans (rfl)
theorem no_Patterns_1_relatable {v0 : V} : (fl_Patterns_1 v0).lookup ("relatable" : Str) = none := (lk_past (by decide +kernel)).trans (rfl)
theorem no_Patterns_1_can_occur {v0 : V} : (fl_Patterns_1 v0).lookup ("can_occur" : Str) = none := (lk_past (by decide +kernel)).trans (rfl)
theorem no_Patterns_1_occurring {v0 : V} : (fl_Patterns_1 v0).lookup ("occurring" : Str) = none := (lk_past (by decide +kernel)).trans (rfl)
theorem no_Patterns_1_against {v0 : V} : (fl_Patterns_1 v0).lookup ("against" : Str) = none := (lk_past (by decide +kernel)).trans (rfl)
theorem no_Patterns_1_subsumptions {v0 : V} : (fl_Patterns_1 v0).lookup ("subsumptions" : Str) = none := (lk_past (by decide +kernel)).trans (rfl)
theorem lk_Patterns_2_total {v0 v1 : V} : (fl_Patterns_2 v0 v1).lookup ("total" : Str) = some v0 := lk_here
theorem pt_Patterns_2_total {v0 v1 : V} {y : V} : putF "total" y (fl_Patterns_2 v0 v1) = fl_Patterns_2 y v1 := put_here
theorem lk_Patterns_2_whole {v0 v1 : V} : (fl_Patterns_2 v0 v1).lookup ("whole" : Str) = some v1 := (lk_past (by decide +kernel)).trans (lk_here)
theorem pt_Patterns_2_whole {v0 v1 : V} {y : V} : putF "whole" y (fl_Patterns_2 v0 v1) = fl_Patterns_2 v0 y := (put_past (by decide +kernel)).trans (congrArg _ (put_here))
theorem nx_Patterns_2 {v0 v1 : V} {y : V} : putF "groups" y (fl_Patterns_2 v0 v1) = fl_Patterns_3 v0 v1 y := (put_past (by decide +kernel)).trans (congrArg _ ((put_past (by decide +kernel)).trans (congrArg _ (rfl))))
theorem no_Patterns_2_joined {v0 v1 : V} : (fl_Patterns_2 v0 v1).lookup ("joined" : Str) = none := (lk_past (by decide +kernel)).trans ((lk_past (by decide +kernel)).trans (rfl))
theorem no_Patterns_2_link_of {v0 v1 : V} : (fl_Patterns_2 v0 v1).lookup ("link_of" : Str) = none := (lk_past (by decide +kernel)).trans ((lk_past (by decide +kernel)).trans (rfl))
theorem no_Patterns_2_relatable {v0 v1 : V} : (fl_Patterns_2 v0 v1).lookup ("relatable" : Str) = none := (lk_past (by decide +kernel)).trans ((lk_past (by decide +kernel)).trans (rfl))
theorem no_Patterns_2_can_occur {v0 v1 : V} : (fl_Patterns_2 v0 v1).lookup ("can_occur" : Str) = none := (lk_past (by decide +kernel)).trans ((lk_past (by decide +kernel)).trans (rfl))
theorem no_Patterns_2_occurring {v0 v1 : V} : (fl_Patterns_2 v0 v1).lookup ("occurring" : Str) = none := (lk_past (by decide +kernel)).trans ((lk_past (by decide +kernel)).trans (rfl))
theorem no_Patterns_2_against {v0 v1 : V} : (fl_Patterns_2 v0 v1).lookup ("against" : Str) = none := (lk_past (by decide +kernel)).trans ((lk_past (by decide +kernel)).trans (rfl))
theorem no_Patterns_2_subsumptions {v0 v1 : V} : (fl_Patterns_2 v0 v1).lookup ("subsumptions" : Str) = none := (lk_past (by decide +kernel)).trans ((lk_past (by decide +kernel)).trans (rfl))
theorem lk_Patterns_3_total {v0 v1 v2 : V} : (fl_Patterns_3 v0 v1 v2).lookup ("total" : Str) = some v0 := lk_here
theorem pt_Patterns_3_total {v0 v1 v2 : V} {y : V} : putF "total" y (fl_Patterns_3 v0 v1 v2) = fl_Patterns_3 y v1 v2 := put_here
theorem lk_Patterns_3_whole {v0 v1 v2 : V} : (fl_Patterns_3 v0 v1 v2).lookup ("whole" : Str) = some v1 := (lk_past (by decide +kernel)).trans (lk_here)
theorem pt_Patterns_3_whole {v0 v1 v2 : V} {y : V} : putF "whole" y (fl_Patterns_3 v0 v1 v2) = fl_Patterns_3 v0 y v2 := (put_past (by decide +kernel)).trans (congrArg _ (put_here))
theorem lk_Patterns_3_groups {v0 v1 v2 : V} : (fl_Patterns_3 v0 v1 v2).lookup ("groups" : Str) = some v2 := (lk_past (by decide +kernel)).trans ((lk_past (by decide +kernel)).trans (lk_here))
theorem pt_Patterns_3_groups {v0 v1 v2 : V} {y : V} : putF "groups" y (fl_Patterns_3 v0 v1 v2) = fl_Patterns_3 v0 v1 y := (put_past (by decide +kernel)).trans (congrArg _ ((put_past (by decide +kernel)).trans (congrArg _ (put_here))))
theorem nx_Patterns_3 {v0 v1 v2 : V} {y : V} : putF "links" y (fl_Patterns_3 v0 v1 v2) = fl_Patterns_4 v0 v1 v2 y := (put_past (by decide +kernel)).trans (congrArg _ ((put_past (by decide +kernel)).trans (congrArg _ ((put_past (by decide +kernel)).trans (congrArg _ (rfl))))))
theorem no_Patterns_3_joined {v0 v1 v2 : V} : (fl_Patterns_3 v0 v1 v2).lookup ("joined" : Str) = none := (lk_past (by decide +kernel)).trans ((lk_past (by decide +kernel)).trans ((lk_past (by decide +kernel)).trans (rfl)))
theorem no_Patterns_3_link_of {v0 v1 v2 : V} : (fl_Patterns_3 v0 v1 v2).lookup ("link_of" : Str) = none := (lk_past (by decide +kernel)).trans ((lk_past (by decide +kernel)).trans ((lk_past (by decide +kernel)).trans (rfl)))
theorem no_Patterns_3_relatable {v0 v1 v2 : V} : (fl_Patterns_3 v0 v1 v2).lookup ("relatable" : Str) = none := (lk_past (by decide +kernel)).trans ((lk_past (by decide +kernel)).trans ((lk_past (by decide +kernel)).trans (rfl)))
theorem no_Patterns_3_can_occur {v0 v1 v2 : V} : (fl_Patterns_3 v0 v1 v2).lookup ("can_occur" : Str) = none := (lk_past (by decide +kernel)).trans ((lk_past (by decide +kernel)).trans ((lk_past (by decide +kernel)).trans (rfl)))
theorem no_Patterns_3_occurring {v0 v1 v2 : V} : (fl_Patterns_3 v0 v1 v2).lookup ("occurring" : Str) = none := (lk_past (by decide +kernel)).trans ((lk_past (by decide +kernel)).trans ((lk_past (by decide +kernel)).trans (rfl)))
theorem no_Patterns_3_against {v0 v1 v2 : V} : (fl_Patterns_3 v0 v1 v2).lookup ("against" : Str) = none := (lk_past (by decide +kernel)).trans ((lk_past (by decide +kernel)).trans ((lk_past (by decide +kernel)).trans (rfl)))
theorem no_Patterns_3_subsumptions {v0 v1 v2 : V} : (fl_Patterns_3 v0 v1 v2).lookup ("subsumptions" : Str) = none := (lk_past (by decide +kernel)).trans ((lk_past (by decide +kernel)).trans ((lk_past (by decide +kernel)).trans (rfl)))
theorem lk_Patterns_4_total {v0 v1 v2 v3 : V} : (fl_Patterns_4 v0 v1 v2 v3).lookup ("total" : Str) = some v0 := lk_here
theorem pt_Patterns_4_total {v0 v1 v2 v3 : V} {y : V} : putF "total" y (fl_Patterns_4 v0 v1 v2 v3) = fl_Patterns_4 y v1 v2 v3 := put_here
theorem lk_Patterns_4_whole {v0 v1 v2 v3 : V} : (fl_Patterns_4 v0 v1 v2 v3).lookup ("whole" : Str) = some v1 := (lk_past (by decide +kernel)).trans (lk_here)
theorem pt_Patterns_4_whole {v0 v1 v2 v3 : V} {y : V} : putF "whole" y (fl_Patterns_4 v0 v1 v2 v3) = fl_Patterns_4 v0 y v2 v3 := (put_past (by decide +kernel)).trans (congrArg _ (put_here))
theorem lk_Patterns_4_groups {v0 v1 v2 v3 : V} : (fl_Patterns_4 v0 v1 v2 v3).lookup ("groups" : Str) = some v2 := (lk_past (by decide +kernel)).trans ((lk_past (by decide +kernel)).trans (lk_here))
theorem pt_Patterns_4_groups {v0 v1 v2 v3 : V} {y : V} : putF "groups" y (fl_Patterns_4 v0 v1 v2 v3) = fl_Patterns_4 v0 v1 y v3 := (put_past (by decide +kernel)).trans (congrArg _ ((put_past (by decide +kernel)).trans (congrArg _ (put_here))))
theorem lk_Patterns_4_links {v0 v1 v2 v3 : V} : (fl_Patterns_4 v0 v1 v2 v3).lookup ("links" : Str) = some v3 := (lk_past (by decide +kernel)).trans ((lk_past (by decide +kernel)).trans ((lk_past (by decide +kernel)).trans (lk_here)))
theorem pt_Patterns_4_links {v0 v1 v2 v3 : V} {y : V} : putF "links" y (fl_Patterns_4 v0 v1 v2 v3) = fl_Patterns_4 v0 v1 v2 y := (put_past (by decide +kernel)).trans (congrArg _ ((put_past (by decide +kernel)).trans (congrArg _ ((put_past (by decide +kernel)).trans (congrArg _ (put_here))))))
theorem no_Patterns_4_joined {v0 v1 v2 v3 : V} : (fl_Patterns_4 v0 v1 v2 v3).lookup ("joined" : Str) = none := (lk_past (by decide +kernel)).trans ((lk_past (by decide +kernel)).trans ((lk_past (by decide +kernel)).trans ((lk_past (by decide +kernel)).trans (rfl))))
theorem no_Patterns_4_link_of {v0 v1 v2 v3 : V} : (fl_Patterns_4 v0 v1 v2 v3).lookup ("link_of" : Str) = none := (lk_past (by decide +kernel)).trans ((lk_past (by decide +kernel)).trans ((lk_past (by decide +kernel)).trans ((lk_past (by decide +kernel)).trans (rfl))))
theorem no_Patterns_4_relatable {v0 v1 v2 v3 : V} : (fl_Patterns_4 v0 v1 v2 v3).lookup ("relatable" : Str) = none := (lk_past (by decide +kernel)).trans ((lk_past (by decide +kernel)).trans ((lk_past (by decide +kernel)).trans ((lk_past (by decide +kernel)).trans (rfl))))
theorem no_Patterns_4_can_occur {v0 v1 v2 v3 : V} : (fl_Patterns_4 v0 v1 v2 v3).lookup ("can_occur" : Str) = none := (lk_past (by decide +kernel)).trans ((lk_past (by decide +kernel)).trans ((lk_past (by decide +kernel)).trans ((lk_past (by decide +kernel)).trans (rfl))))
theorem no_Patterns_4_occurring {v0 v1 v2 v3 : V} : (fl_Patterns_4 v0 v1 v2 v3).lookup ("occurring" : Str) = none := (lk_past (by decide +kernel)).trans ((lk_past (by decide +kernel)).trans ((lk_past (by decide +kernel)).trans ((lk_past (by decide +kernel)).trans (rfl))))
theorem no_Patterns_4_against {v0 v1 v2 v3 : V} : (fl_Patterns_4 v0 v1 v2 v3).lookup ("against" : Str) = none := (lk_past (by decide +kernel)).trans ((lk_past (by decide +kernel)).trans ((lk_past (by decide +kernel)).trans ((lk_past (by decide +kernel)).trans (rfl))))
theorem no_Patterns_4_subsumptions {v0 v1 v2 v3 : V} : (fl_Patterns_4 v0 v1 v2 v3).lookup ("subsumptions" : Str) = none := (lk_past (by decide +kernel)).trans ((lk_past (by decide +kernel)).trans ((lk_past (by decide +kernel)).trans ((lk_past (by decide +kernel)).trans (rfl))))
def fl_Store_0 : List (Str × V) := []
def fl_Store_1 (v0 : V) : List (Str × V) := [("axioms", v0)]
def fl_Store_2 (v0 v1 : V) : List (Str × V) := [("axioms", v0), ("unwanted", v1)]
def fl_Store_3 (v0 v1 v2 : V) : List (Str × V) := [("axioms", v0), ("unwanted", v1), ("wanted", v2)]
theorem nx_Store_0 {y : V} : putF "axioms" y ([] : List (Str × V)) = fl_Store_1  y := rfl
theorem no_Store_0_begins : ([] : List (Str × V)).lookup ("begins" : Str) = none := rfl
theorem no_Store_0_line : ([] : List (Str × V)).lookup ("line" : Str) = none := rfl
theorem no_Store_0_less : ([] : List (Str × V)).lookup ("less" : Str) = none := rfl
theorem no_Store_0_never : ([] : List (Str × V)).lookup ("never" : Str) = none := rfl
theorem no_Store_0_keep : ([] : List (Str × V)).lookup ("keep" : Str) = none := rfl
theorem no_Store_0_wish : ([] : List (Str × V)).lookup ("wish" : Str) = none := rfl
theorem no_Store_0_mend : ([] : List (Str × V)).lookup ("mend" : Str) = none := rfl
theorem no_Store_0_least : ([] : List (Str × V)).lookup ("least" : Str) = none := rfl
theorem no_Store_0_check : ([] : List (Str × V)).lookup ("check" : Str) = none := rfl
theorem no_Store_0_done : ([] : List (Str × V)).lookup ("done" : Str) = none := rfl
theorem no_Store_0_priced : ([] : List (Str × V)).lookup ("priced" : Str) = none := rfl
theorem no_Store_0_repair : ([] : List (Str × V)).lookup ("repair" : Str) = none := rfl
theorem no_Store_0_satisfying : ([] : List (Str × V)).lookup ("satisfying" : Str) = none := rfl
theorem no_Store_0_held_with : ([] : List (Str × V)).lookup ("held_with" : Str) = none := rfl
theorem no_Store_0_satisfied_by : ([] : List (Str × V)).lookup ("satisfied_by" : Str) = none := rfl
theorem no_Store_0_check_room : ([] : List (Str × V)).lookup ("check_room" : Str) = none := rfl
theorem no_Store_0_all_concepts : ([] : List (Str × V)).lookup ("all_concepts" : Str) = none := rfl
theorem lk_Store_1_axioms {v0 : V} : (fl_Store_1 v0).lookup ("axioms" : Str) = some v0 := lk_here
theorem pt_Store_1_axioms {v0 : V} {y : V} : putF "axioms" y (fl_Store_1 v0) = fl_Store_1 y := put_here
theorem nx_Store_1 {v0 : V} {y : V} : putF "unwanted" y (fl_Store_1 v0) = fl_Store_2 v0 y := (put_past (by decide +kernel)).trans (congrArg _ (rfl))
theorem no_Store_1_begins {v0 : V} : (fl_Store_1 v0).lookup ("begins" : Str) = none := (lk_past (by decide +kernel)).trans (rfl)
theorem no_Store_1_line {v0 : V} : (fl_Store_1 v0).lookup ("line" : Str) = none := (lk_past (by decide +kernel)).trans (rfl)
theorem no_Store_1_less {v0 : V} : (fl_Store_1 v0).lookup ("less" : Str) = none := (lk_past (by decide +kernel)).trans (rfl)
theorem no_Store_1_never {v0 : V} : (fl_Store_1 v0).lookup ("never" : Str) = none := (lk_past (by decide +kernel)).trans (rfl)
theorem no_Store_1_keep {v0 : V} : (fl_Store_1 v0).lookup ("keep" : Str) = none := (lk_past (by decide +kernel)).trans (rfl)
theorem no_Store_1_wish {v0 : V} : (fl_Store_1 v0).lookup ("wish" : Str) = none := (lk_past (by decide +kernel)).trans (rfl)
theorem no_Store_1_mend {v0 : V} : (fl_Store_1 v0).lookup ("mend" : Str) = none := (lk_past (by decide +kernel)).trans (rfl)
theorem no_Store_1_least {v0 : V} : (fl_Store_1 v0).lookup ("least" : Str) = none := (lk_past (by decide +kernel)).trans (rfl)
theorem no_Store_1_check {v0 : V} : (fl_Store_1 v0).lookup ("check" : Str) = none := (lk_past (by decide +kernel)).trans (rfl)
theorem no_Store_1_done {v0 : V} : (fl_Store_1 v0).lookup ("done" : Str) = none := (lk_past (by decide +kernel)).trans (rfl)
theorem no_Store_1_priced {v0 : V} : (fl_Store_1 v0).lookup ("priced" : Str) = none := (lk_past (by decide +kernel)).trans (rfl)
theorem no_Store_1_repair {v0 : V} : (fl_Store_1 v0).lookup ("repair" : Str) = none := (lk_past (by decide +kernel)).trans (rfl)
theorem no_Store_1_satisfying {v0 : V} : (fl_Store_1 v0).lookup ("satisfying" : Str) = none := (lk_past (by decide +kernel)).trans (rfl)
theorem no_Store_1_held_with {v0 : V} : (fl_Store_1 v0).lookup ("held_with" : Str) = none := (lk_past (by decide +kernel)).trans (rfl)
theorem no_Store_1_satisfied_by {v0 : V} : (fl_Store_1 v0).lookup ("satisfied_by" : Str) = none := (lk_past (by decide +kernel)).trans (rfl)
theorem no_Store_1_check_room {v0 : V} : (fl_Store_1 v0).lookup ("check_room" : Str) = none := (lk_past (by decide +kernel)).trans (rfl)
theorem no_Store_1_all_concepts {v0 : V} : (fl_Store_1 v0).lookup ("all_concepts" : Str) = none := (lk_past (by decide +kernel)).trans (rfl)
theorem lk_Store_2_axioms {v0 v1 : V} : (fl_Store_2 v0 v1).lookup ("axioms" : Str) = some v0 := lk_here
theorem pt_Store_2_axioms {v0 v1 : V} {y : V} : putF "axioms" y (fl_Store_2 v0 v1) = fl_Store_2 y v1 := put_here
theorem lk_Store_2_unwanted {v0 v1 : V} : (fl_Store_2 v0 v1).lookup ("unwanted" : Str) = some v1 := (lk_past (by decide +kernel)).trans (lk_here)
theorem pt_Store_2_unwanted {v0 v1 : V} {y : V} : putF "unwanted" y (fl_Store_2 v0 v1) = fl_Store_2 v0 y := (put_past (by decide +kernel)).trans (congrArg _ (put_here))
theorem nx_Store_2 {v0 v1 : V} {y : V} : putF "wanted" y (fl_Store_2 v0 v1) = fl_Store_3 v0 v1 y := (put_past (by decide +kernel)).trans (congrArg _ ((put_past (by decide +kernel)).trans (congrArg _ (rfl))))
theorem no_Store_2_begins {v0 v1 : V} : (fl_Store_2 v0 v1).lookup ("begins" : Str) = none := (lk_past (by decide +kernel)).trans ((lk_past (by decide +kernel)).trans (rfl))
theorem no_Store_2_line {v0 v1 : V} : (fl_Store_2 v0 v1).lookup ("line" : Str) = none := (lk_past (by decide +kernel)).trans ((lk_past (by decide +kernel)).trans (rfl))
theorem no_Store_2_less {v0 v1 : V} : (fl_Store_2 v0 v1).lookup ("less" : Str) = none := (lk_past (by decide +kernel)).trans ((lk_past (by decide +kernel)).trans (rfl))
theorem no_Store_2_never {v0 v1 : V} : (fl_Store_2 v0 v1).lookup ("never" : Str) = none := (lk_past (by decide +kernel)).trans ((lk_past (by decide +kernel)).trans (rfl))
theorem no_Store_2_keep {v0 v1 : V} : (fl_Store_2 v0 v1).lookup ("keep" : Str) = none := (lk_past (by decide +kernel)).trans ((lk_past (by decide +kernel)).trans (rfl))
theorem no_Store_2_wish {v0 v1 : V} : (fl_Store_2 v0 v1).lookup ("wish" : Str) = none := (lk_past (by decide +kernel)).trans ((lk_past (by decide +kernel)).trans (rfl))
theorem no_Store_2_mend {v0 v1 : V} : (fl_Store_2 v0 v1).lookup ("mend" : Str) = none := (lk_past (by decide +kernel)).trans ((lk_past (by decide +kernel)).trans (rfl))
theorem no_Store_2_least {v0 v1 : V} : (fl_Store_2 v0 v1).lookup ("least" : Str) = none := (lk_past (by decide +kernel)).trans ((lk_past (by decide +kernel)).trans (rfl))
theorem no_Store_2_check {v0 v1 : V} : (fl_Store_2 v0 v1).lookup ("check" : Str) = none := (lk_past (by decide +kernel)).trans ((lk_past (by decide +kernel)).trans (rfl))
theorem no_Store_2_done {v0 v1 : V} : (fl_Store_2 v0 v1).lookup ("done" : Str) = none := (lk_past (by decide +kernel)).trans ((lk_past (by decide +kernel)).trans (rfl))
theorem no_Store_2_priced {v0 v1 : V} : (fl_Store_2 v0 v1).lookup ("priced" : Str) = none := (lk_past (by decide +kernel)).trans ((lk_past (by decide +kernel)).trans (rfl))
theorem no_Store_2_repair {v0 v1 : V} : (fl_Store_2 v0 v1).lookup ("repair" : Str) = none := (lk_past (by decide +kernel)).trans ((lk_past (by decide +kernel)).trans (rfl))
theorem no_Store_2_satisfying {v0 v1 : V} : (fl_Store_2 v0 v1).lookup ("satisfying" : Str) = none := (lk_past (by decide +kernel)).trans ((lk_past (by decide +kernel)).trans (rfl))
theorem no_Store_2_held_with {v0 v1 : V} : (fl_Store_2 v0 v1).lookup ("held_with" : Str) = none := (lk_past (by decide +kernel)).trans ((lk_past (by decide +kernel)).trans (rfl))
theorem no_Store_2_satisfied_by {v0 v1 : V} : (fl_Store_2 v0 v1).lookup ("satisfied_by" : Str) = none := (lk_past (by decide +kernel)).trans ((lk_past (by decide +kernel)).trans (rfl))
theorem no_Store_2_check_room {v0 v1 : V} : (fl_Store_2 v0 v1).lookup ("check_room" : Str) = none := (lk_past (by decide +kernel)).trans ((lk_past (by decide +kernel)).trans (rfl))
theorem no_Store_2_all_concepts {v0 v1 : V} : (fl_Store_2 v0 v1).lookup ("all_concepts" : Str) = none := (lk_past (by decide +kernel)).trans ((lk_past (by decide +kernel)).trans (rfl))
theorem lk_Store_3_axioms {v0 v1 v2 : V} : (fl_Store_3 v0 v1 v2).lookup ("axioms" : Str) = some v0 := lk_here
theorem pt_Store_3_axioms {v0 v1 v2 : V} {y : V} : putF "axioms" y (fl_Store_3 v0 v1 v2) = fl_Store_3 y v1 v2 := put_here
theorem lk_Store_3_unwanted {v0 v1 v2 : V} : (fl_Store_3 v0 v1 v2).lookup ("unwanted" : Str) = some v1 := (lk_past (by decide +kernel)).trans (lk_here)
theorem pt_Store_3_unwanted {v0 v1 v2 : V} {y : V} : putF "unwanted" y (fl_Store_3 v0 v1 v2) = fl_Store_3 v0 y v2 := (put_past (by decide +kernel)).trans (congrArg _ (put_here))
theorem lk_Store_3_wanted {v0 v1 v2 : V} : (fl_Store_3 v0 v1 v2).lookup ("wanted" : Str) = some v2 := (lk_past (by decide +kernel)).trans ((lk_past (by decide +kernel)).trans (lk_here))
theorem pt_Store_3_wanted {v0 v1 v2 : V} {y : V} : putF "wanted" y (fl_Store_3 v0 v1 v2) = fl_Store_3 v0 v1 y := (put_past (by decide +kernel)).trans (congrArg _ ((put_past (by decide +kernel)).trans (congrArg _ (put_here))))
theorem no_Store_3_begins {v0 v1 v2 : V} : (fl_Store_3 v0 v1 v2).lookup ("begins" : Str) = none := (lk_past (by decide +kernel)).trans ((lk_past (by decide +kernel)).trans ((lk_past (by decide +kernel)).trans (rfl)))
theorem no_Store_3_line {v0 v1 v2 : V} : (fl_Store_3 v0 v1 v2).lookup ("line" : Str) = none := (lk_past (by decide +kernel)).trans ((lk_past (by decide +kernel)).trans ((lk_past (by decide +kernel)).trans (rfl)))
theorem no_Store_3_less {v0 v1 v2 : V} : (fl_Store_3 v0 v1 v2).lookup ("less" : Str) = none := (lk_past (by decide +kernel)).trans ((lk_past (by decide +kernel)).trans ((lk_past (by decide +kernel)).trans (rfl)))
theorem no_Store_3_never {v0 v1 v2 : V} : (fl_Store_3 v0 v1 v2).lookup ("never" : Str) = none := (lk_past (by decide +kernel)).trans ((lk_past (by decide +kernel)).trans ((lk_past (by decide +kernel)).trans (rfl)))
theorem no_Store_3_keep {v0 v1 v2 : V} : (fl_Store_3 v0 v1 v2).lookup ("keep" : Str) = none := (lk_past (by decide +kernel)).trans ((lk_past (by decide +kernel)).trans ((lk_past (by decide +kernel)).trans (rfl)))
theorem no_Store_3_wish {v0 v1 v2 : V} : (fl_Store_3 v0 v1 v2).lookup ("wish" : Str) = none := (lk_past (by decide +kernel)).trans ((lk_past (by decide +kernel)).trans ((lk_past (by decide +kernel)).trans (rfl)))
theorem no_Store_3_mend {v0 v1 v2 : V} : (fl_Store_3 v0 v1 v2).lookup ("mend" : Str) = none := (lk_past (by decide +kernel)).trans ((lk_past (by decide +kernel)).trans ((lk_past (by decide +kernel)).trans (rfl)))
theorem no_Store_3_least {v0 v1 v2 : V} : (fl_Store_3 v0 v1 v2).lookup ("least" : Str) = none := (lk_past (by decide +kernel)).trans ((lk_past (by decide +kernel)).trans ((lk_past (by decide +kernel)).trans (rfl)))
theorem no_Store_3_check {v0 v1 v2 : V} : (fl_Store_3 v0 v1 v2).lookup ("check" : Str) = none := (lk_past (by decide +kernel)).trans ((lk_past (by decide +kernel)).trans ((lk_past (by decide +kernel)).trans (rfl)))
theorem no_Store_3_done {v0 v1 v2 : V} : (fl_Store_3 v0 v1 v2).lookup ("done" : Str) = none := (lk_past (by decide +kernel)).trans ((lk_past (by decide +kernel)).trans ((lk_past (by decide +kernel)).trans (rfl)))
theorem no_Store_3_priced {v0 v1 v2 : V} : (fl_Store_3 v0 v1 v2).lookup ("priced" : Str) = none := (lk_past (by decide +kernel)).trans ((lk_past (by decide +kernel)).trans ((lk_past (by decide +kernel)).trans (rfl)))
theorem no_Store_3_repair {v0 v1 v2 : V} : (fl_Store_3 v0 v1 v2).lookup ("repair" : Str) = none := (lk_past (by decide +kernel)).trans ((lk_past (by decide +kernel)).trans ((lk_past (by decide +kernel)).trans (rfl)))
theorem no_Store_3_satisfying {v0 v1 v2 : V} : (fl_Store_3 v0 v1 v2).lookup ("satisfying" : Str) = none := (lk_past (by decide +kernel)).trans ((lk_past (by decide +kernel)).trans ((lk_past (by decide +kernel)).trans (rfl)))
theorem no_Store_3_held_with {v0 v1 v2 : V} : (fl_Store_3 v0 v1 v2).lookup ("held_with" : Str) = none := (lk_past (by decide +kernel)).trans ((lk_past (by decide +kernel)).trans ((lk_past (by decide +kernel)).trans (rfl)))
theorem no_Store_3_satisfied_by {v0 v1 v2 : V} : (fl_Store_3 v0 v1 v2).lookup ("satisfied_by" : Str) = none := (lk_past (by decide +kernel)).trans ((lk_past (by decide +kernel)).trans ((lk_past (by decide +kernel)).trans (rfl)))
theorem no_Store_3_check_room {v0 v1 v2 : V} : (fl_Store_3 v0 v1 v2).lookup ("check_room" : Str) = none := (lk_past (by decide +kernel)).trans ((lk_past (by decide +kernel)).trans ((lk_past (by decide +kernel)).trans (rfl)))
theorem no_Store_3_all_concepts {v0 v1 v2 : V} : (fl_Store_3 v0 v1 v2).lookup ("all_concepts" : Str) = none := (lk_past (by decide +kernel)).trans ((lk_past (by decide +kernel)).trans ((lk_past (by decide +kernel)).trans (rfl)))
def fl_Reader_0 : List (Str × V) := []
def fl_Reader_1 (v0 : V) : List (Str × V) := [("calls", v0)]
def fl_Reader_2 (v0 v1 : V) : List (Str × V) := [("calls", v0), ("place", v1)]
theorem nx_Reader_0 {y : V} : putF "calls" y ([] : List (Str × V)) = fl_Reader_1  y := rfl
theorem no_Reader_0_at_end : ([] : List (Str × V)).lookup ("at_end" : Str) = none := rfl
theorem no_Reader_0_take_number : ([] : List (Str × V)).lookup ("take_number" : Str) = none := rfl
theorem no_Reader_0_take_list : ([] : List (Str × V)).lookup ("take_list" : Str) = none := rfl
theorem lk_Reader_1_calls {v0 : V} : (fl_Reader_1 v0).lookup ("calls" : Str) = some v0 := lk_here
theorem pt_Reader_1_calls {v0 : V} {y : V} : putF "calls" y (fl_Reader_1 v0) = fl_Reader_1 y := put_here
theorem nx_Reader_1 {v0 : V} {y : V} : putF "place" y (fl_Reader_1 v0) = fl_Reader_2 v0 y := (put_past (by decide +kernel)).trans (congrArg _ (rfl))
theorem no_Reader_1_at_end {v0 : V} : (fl_Reader_1 v0).lookup ("at_end" : Str) = none := (lk_past (by decide +kernel)).trans (rfl)
theorem no_Reader_1_take_number {v0 : V} : (fl_Reader_1 v0).lookup ("take_number" : Str) = none := (lk_past (by decide +kernel)).trans (rfl)
theorem no_Reader_1_take_list {v0 : V} : (fl_Reader_1 v0).lookup ("take_list" : Str) = none := (lk_past (by decide +kernel)).trans (rfl)
theorem lk_Reader_2_calls {v0 v1 : V} : (fl_Reader_2 v0 v1).lookup ("calls" : Str) = some v0 := lk_here
theorem pt_Reader_2_calls {v0 v1 : V} {y : V} : putF "calls" y (fl_Reader_2 v0 v1) = fl_Reader_2 y v1 := put_here
theorem lk_Reader_2_place {v0 v1 : V} : (fl_Reader_2 v0 v1).lookup ("place" : Str) = some v1 := (lk_past (by decide +kernel)).trans (lk_here)
theorem pt_Reader_2_place {v0 v1 : V} {y : V} : putF "place" y (fl_Reader_2 v0 v1) = fl_Reader_2 v0 y := (put_past (by decide +kernel)).trans (congrArg _ (put_here))
theorem no_Reader_2_at_end {v0 v1 : V} : (fl_Reader_2 v0 v1).lookup ("at_end" : Str) = none := (lk_past (by decide +kernel)).trans ((lk_past (by decide +kernel)).trans (rfl))
theorem no_Reader_2_take_number {v0 v1 : V} : (fl_Reader_2 v0 v1).lookup ("take_number" : Str) = none := (lk_past (by decide +kernel)).trans ((lk_past (by decide +kernel)).trans (rfl))
theorem no_Reader_2_take_list {v0 v1 : V} : (fl_Reader_2 v0 v1).lookup ("take_list" : Str) = none := (lk_past (by decide +kernel)).trans ((lk_past (by decide +kernel)).trans (rfl))
/-- where all stands -/
structure Dt where
  f_Axiom_init : Addr
  d_Axiom_init : FuncData
  f_Axiom_weaken : Addr
  d_Axiom_weaken : FuncData
  f_Axiom_removal : Addr
  d_Axiom_removal : FuncData
  f_Axiom_price_to : Addr
  d_Axiom_price_to : FuncData
  f_Axiom_weakened_to : Addr
  d_Axiom_weakened_to : FuncData
  f_head_length : Addr
  d_head_length : FuncData
  f_end_of : Addr
  d_end_of : FuncData
  f_two_concepts : Addr
  d_two_concepts : FuncData
  f_followers_of : Addr
  d_followers_of : FuncData
  f_parts_of : Addr
  d_parts_of : FuncData
  f_atoms_of : Addr
  d_atoms_of : FuncData
  f_Link_init : Addr
  d_Link_init : FuncData
  f_Patterns_init : Addr
  d_Patterns_init : FuncData
  f_Patterns_joined : Addr
  d_Patterns_joined : FuncData
  f_Patterns_link_of : Addr
  d_Patterns_link_of : FuncData
  f_Patterns_relatable : Addr
  d_Patterns_relatable : FuncData
  f_Patterns_can_occur : Addr
  d_Patterns_can_occur : FuncData
  f_Patterns_occurring : Addr
  d_Patterns_occurring : FuncData
  f_Patterns_against : Addr
  d_Patterns_against : FuncData
  f_Patterns_subsumptions : Addr
  d_Patterns_subsumptions : FuncData
  f_is_subsumed : Addr
  d_is_subsumed : FuncData
  f_all_ways : Addr
  d_all_ways : FuncData
  f_is_way : Addr
  d_is_way : FuncData
  f_price_of : Addr
  d_price_of : FuncData
  f_forms_at : Addr
  d_forms_at : FuncData
  f_is_nowhere_higher : Addr
  d_is_nowhere_higher : FuncData
  f_minimal_among : Addr
  d_minimal_among : FuncData
  f_Store_init : Addr
  d_Store_init : FuncData
  f_Store_begins : Addr
  d_Store_begins : FuncData
  f_Store_line : Addr
  d_Store_line : FuncData
  f_Store_less : Addr
  d_Store_less : FuncData
  f_Store_never : Addr
  d_Store_never : FuncData
  f_Store_keep : Addr
  d_Store_keep : FuncData
  f_Store_wish : Addr
  d_Store_wish : FuncData
  f_Store_mend : Addr
  d_Store_mend : FuncData
  f_Store_least : Addr
  d_Store_least : FuncData
  f_Store_check : Addr
  d_Store_check : FuncData
  f_Store_done : Addr
  d_Store_done : FuncData
  f_Store_priced : Addr
  d_Store_priced : FuncData
  f_Store_repair : Addr
  d_Store_repair : FuncData
  f_Store_satisfying : Addr
  d_Store_satisfying : FuncData
  f_Store_held_with : Addr
  d_Store_held_with : FuncData
  f_Store_satisfied_by : Addr
  d_Store_satisfied_by : FuncData
  f_Store_check_room : Addr
  d_Store_check_room : FuncData
  f_Store_all_concepts : Addr
  d_Store_all_concepts : FuncData
  f_check_price : Addr
  d_check_price : FuncData
  f_Reader_init : Addr
  d_Reader_init : FuncData
  f_Reader_at_end : Addr
  d_Reader_at_end : FuncData
  f_Reader_take_number : Addr
  d_Reader_take_number : FuncData
  f_Reader_take_list : Addr
  d_Reader_take_list : FuncData
  f_answers : Addr
  d_answers : FuncData
  f_answer_of : Addr
  d_answer_of : FuncData
  f_result_of : Addr
  d_result_of : FuncData
  a_Axiom : Addr
  a_Link : Addr
  a_Patterns : Addr
  a_Store : Addr
  a_Reader : Addr
  e_WrongNumbers : Addr
  e_NoSuchAxiom : Addr
  e_NotWeaker : Addr
  e_NoRepair : Addr
  e_NoRoom : Addr
  e_UnknownCall : Addr
  t_ATOM_SIGNS : Addr
  t_CHOICES : Addr
  t_FOLLOWERS : Addr
  cr : Addr
  tp : Addr
/-- what the top has written -/
structure Tx (K : PySem.W.Frag) (mg : Str → Option Value) (D : Dt) : Prop where
  h_cr : D.d_Store_repair.code = .ref D.cr
  b_all : mg "all" = none
  b_any : mg "any" = none
  b_enumerate : mg "enumerate" = none
  b_int : mg "int" = none
  b_len : mg "len" = none
  b_list : mg "list" = none
  b_min : mg "min" = none
  b_range : mg "range" = none
  b_reversed : mg "reversed" = none
  b_sum : mg "sum" = none
  b_tuple : mg "tuple" = none
  b_zip : mg "zip" = none
  m_EVERYTHING : ∃ t, mg "EVERYTHING" = some (.int 0 t)
  m_NOTHING : ∃ t, mg "NOTHING" = some (.int 1 t)
  m_NAME : ∃ t, mg "NAME" = some (.int 2 t)
  m_BOTH : ∃ t, mg "BOTH" = some (.int 3 t)
  m_EITHER : ∃ t, mg "EITHER" = some (.int 4 t)
  m_SOME : ∃ t, mg "SOME" = some (.int 6 t)
  m_ATOM_SIGNS : mg "ATOM_SIGNS" = some (.ref D.t_ATOM_SIGNS)
  q_ATOM_SIGNS : KTup K D.t_ATOM_SIGNS (iv [2, 6, 7])
  m_CHOICES : mg "CHOICES" = some (.ref D.t_CHOICES)
  q_CHOICES : KTup K D.t_CHOICES (iv [0, 0, 4, 0, 0, 0, 2, 2])
  m_FOLLOWERS : mg "FOLLOWERS" = some (.ref D.t_FOLLOWERS)
  q_FOLLOWERS : KTup K D.t_FOLLOWERS (iv [0, 0, 0, 2, 2, 1, 1, 1])
  m_MOST_AXIOMS : ∃ t, mg "MOST_AXIOMS" = some (.int 3 t)
  m_MOST_FORMS : ∃ t, mg "MOST_FORMS" = some (.int 3 t)
  m_MOST_WISHES : ∃ t, mg "MOST_WISHES" = some (.int 2 t)
  m_MOST_ATOMS : ∃ t, mg "MOST_ATOMS" = some (.int 5 t)
  m_HIGHEST_PRICE : ∃ t, mg "HIGHEST_PRICE" = some (.int 1000 t)
  m_BEGINS : ∃ t, mg "BEGINS" = some (.int 0 t)
  m_LINE : ∃ t, mg "LINE" = some (.int 1 t)
  m_LESS : ∃ t, mg "LESS" = some (.int 2 t)
  m_NEVER : ∃ t, mg "NEVER" = some (.int 3 t)
  m_KEEP : ∃ t, mg "KEEP" = some (.int 4 t)
  m_MEND : ∃ t, mg "MEND" = some (.int 5 t)
  m_LEAST : ∃ t, mg "LEAST" = some (.int 6 t)
  m_CHECK : ∃ t, mg "CHECK" = some (.int 7 t)
  m_DONE : ∃ t, mg "DONE" = some (.int 8 t)
  F_Axiom_init : Fun K "__init__" "Axiom.__init__" s_Axiom_init D.f_Axiom_init D.d_Axiom_init
  b_Axiom_init : Binds K D.d_Axiom_init ["self", "forms", "prices"] []
  F_Axiom_weaken : Fun K "weaken" "Axiom.weaken" s_Axiom_weaken D.f_Axiom_weaken D.d_Axiom_weaken
  b_Axiom_weaken : Binds K D.d_Axiom_weaken ["self", "price", "form"] []
  M_Axiom_weaken : Meth K D.a_Axiom "weaken" D.f_Axiom_weaken
  F_Axiom_removal : Fun K "removal" "Axiom.removal" s_Axiom_removal D.f_Axiom_removal D.d_Axiom_removal
  b_Axiom_removal : Binds K D.d_Axiom_removal ["self"] []
  M_Axiom_removal : Meth K D.a_Axiom "removal" D.f_Axiom_removal
  F_Axiom_price_to : Fun K "price_to" "Axiom.price_to" s_Axiom_price_to D.f_Axiom_price_to D.d_Axiom_price_to
  b_Axiom_price_to : Binds K D.d_Axiom_price_to ["self", "level"] []
  M_Axiom_price_to : Meth K D.a_Axiom "price_to" D.f_Axiom_price_to
  F_Axiom_weakened_to : Fun K "weakened_to" "Axiom.weakened_to" s_Axiom_weakened_to D.f_Axiom_weakened_to D.d_Axiom_weakened_to
  b_Axiom_weakened_to : Binds K D.d_Axiom_weakened_to ["self", "level"] []
  M_Axiom_weakened_to : Meth K D.a_Axiom "weakened_to" D.f_Axiom_weakened_to
  F_head_length : Fun K "head_length" "head_length" s_head_length D.f_head_length D.d_head_length
  b_head_length : Binds K D.d_head_length ["numbers", "place"] []
  m_head_length : mg "head_length" = some (.ref D.f_head_length)
  F_end_of : Fun K "end_of" "end_of" s_end_of D.f_end_of D.d_end_of
  b_end_of : Binds K D.d_end_of ["numbers", "start"] []
  m_end_of : mg "end_of" = some (.ref D.f_end_of)
  F_two_concepts : Fun K "two_concepts" "two_concepts" s_two_concepts D.f_two_concepts D.d_two_concepts
  b_two_concepts : Binds K D.d_two_concepts ["numbers"] []
  m_two_concepts : mg "two_concepts" = some (.ref D.f_two_concepts)
  F_followers_of : Fun K "followers_of" "followers_of" s_followers_of D.f_followers_of D.d_followers_of
  b_followers_of : Binds K D.d_followers_of ["concept"] []
  m_followers_of : mg "followers_of" = some (.ref D.f_followers_of)
  F_parts_of : Fun K "parts_of" "parts_of" s_parts_of D.f_parts_of D.d_parts_of
  b_parts_of : Binds K D.d_parts_of ["concept"] []
  m_parts_of : mg "parts_of" = some (.ref D.f_parts_of)
  F_atoms_of : Fun K "atoms_of" "atoms_of" s_atoms_of D.f_atoms_of D.d_atoms_of
  b_atoms_of : Binds K D.d_atoms_of ["concepts"] []
  m_atoms_of : mg "atoms_of" = some (.ref D.f_atoms_of)
  F_Link_init : Fun K "__init__" "Link.__init__" s_Link_init D.f_Link_init D.d_Link_init
  b_Link_init : Binds K D.d_Link_init ["self", "role", "needy", "goal"] []
  F_Patterns_init : Fun K "__init__" "Patterns.__init__" s_Patterns_init D.f_Patterns_init D.d_Patterns_init
  b_Patterns_init : Binds K D.d_Patterns_init ["self", "concepts"] []
  F_Patterns_joined : Fun K "joined" "Patterns.joined" s_Patterns_joined D.f_Patterns_joined D.d_Patterns_joined
  b_Patterns_joined : Binds K D.d_Patterns_joined ["self", "concept"] []
  M_Patterns_joined : Meth K D.a_Patterns "joined" D.f_Patterns_joined
  F_Patterns_link_of : Fun K "link_of" "Patterns.link_of" s_Patterns_link_of D.f_Patterns_link_of D.d_Patterns_link_of
  b_Patterns_link_of : Binds K D.d_Patterns_link_of ["self", "atom"] []
  M_Patterns_link_of : Meth K D.a_Patterns "link_of" D.f_Patterns_link_of
  F_Patterns_relatable : Fun K "relatable" "Patterns.relatable" s_Patterns_relatable D.f_Patterns_relatable D.d_Patterns_relatable
  b_Patterns_relatable : Binds K D.d_Patterns_relatable ["self", "pattern", "role", "group"] []
  M_Patterns_relatable : Meth K D.a_Patterns "relatable" D.f_Patterns_relatable
  F_Patterns_can_occur : Fun K "can_occur" "Patterns.can_occur" s_Patterns_can_occur D.f_Patterns_can_occur D.d_Patterns_can_occur
  b_Patterns_can_occur : Binds K D.d_Patterns_can_occur ["self", "pattern", "group"] []
  M_Patterns_can_occur : Meth K D.a_Patterns "can_occur" D.f_Patterns_can_occur
  F_Patterns_occurring : Fun K "occurring" "Patterns.occurring" s_Patterns_occurring D.f_Patterns_occurring D.d_Patterns_occurring
  b_Patterns_occurring : Binds K D.d_Patterns_occurring ["self", "axioms"] []
  M_Patterns_occurring : Meth K D.a_Patterns "occurring" D.f_Patterns_occurring
  F_Patterns_against : Fun K "against" "Patterns.against" s_Patterns_against D.f_Patterns_against D.d_Patterns_against
  b_Patterns_against : Binds K D.d_Patterns_against ["self", "pair"] []
  M_Patterns_against : Meth K D.a_Patterns "against" D.f_Patterns_against
  F_Patterns_subsumptions : Fun K "subsumptions" "Patterns.subsumptions" s_Patterns_subsumptions D.f_Patterns_subsumptions D.d_Patterns_subsumptions
  b_Patterns_subsumptions : Binds K D.d_Patterns_subsumptions ["self", "pairs", "axioms"] []
  M_Patterns_subsumptions : Meth K D.a_Patterns "subsumptions" D.f_Patterns_subsumptions
  F_is_subsumed : Fun K "is_subsumed" "is_subsumed" s_is_subsumed D.f_is_subsumed D.d_is_subsumed
  b_is_subsumed : Binds K D.d_is_subsumed ["pair", "axioms"] []
  m_is_subsumed : mg "is_subsumed" = some (.ref D.f_is_subsumed)
  F_all_ways : Fun K "all_ways" "all_ways" s_all_ways D.f_all_ways D.d_all_ways
  b_all_ways : Binds K D.d_all_ways ["axioms"] []
  m_all_ways : mg "all_ways" = some (.ref D.f_all_ways)
  F_is_way : Fun K "is_way" "is_way" s_is_way D.f_is_way D.d_is_way
  b_is_way : Binds K D.d_is_way ["axioms", "levels"] []
  m_is_way : mg "is_way" = some (.ref D.f_is_way)
  F_price_of : Fun K "price_of" "price_of" s_price_of D.f_price_of D.d_price_of
  b_price_of : Binds K D.d_price_of ["axioms", "way"] []
  m_price_of : mg "price_of" = some (.ref D.f_price_of)
  F_forms_at : Fun K "forms_at" "forms_at" s_forms_at D.f_forms_at D.d_forms_at
  b_forms_at : Binds K D.d_forms_at ["axioms", "way"] []
  m_forms_at : mg "forms_at" = some (.ref D.f_forms_at)
  F_is_nowhere_higher : Fun K "is_nowhere_higher" "is_nowhere_higher" s_is_nowhere_higher D.f_is_nowhere_higher D.d_is_nowhere_higher
  b_is_nowhere_higher : Binds K D.d_is_nowhere_higher ["way", "other"] []
  m_is_nowhere_higher : mg "is_nowhere_higher" = some (.ref D.f_is_nowhere_higher)
  F_minimal_among : Fun K "minimal_among" "minimal_among" s_minimal_among D.f_minimal_among D.d_minimal_among
  b_minimal_among : Binds K D.d_minimal_among ["ways"] []
  m_minimal_among : mg "minimal_among" = some (.ref D.f_minimal_among)
  F_Store_init : Fun K "__init__" "Store.__init__" s_Store_init D.f_Store_init D.d_Store_init
  b_Store_init : Binds K D.d_Store_init ["self"] []
  F_Store_begins : Fun K "begins" "Store.begins" s_Store_begins D.f_Store_begins D.d_Store_begins
  b_Store_begins : Binds K D.d_Store_begins ["self"] []
  M_Store_begins : Meth K D.a_Store "begins" D.f_Store_begins
  F_Store_line : Fun K "line" "Store.line" s_Store_line D.f_Store_line D.d_Store_line
  b_Store_line : Binds K D.d_Store_line ["self", "price", "numbers"] []
  M_Store_line : Meth K D.a_Store "line" D.f_Store_line
  F_Store_less : Fun K "less" "Store.less" s_Store_less D.f_Store_less D.d_Store_less
  b_Store_less : Binds K D.d_Store_less ["self", "index", "price", "numbers"] []
  M_Store_less : Meth K D.a_Store "less" D.f_Store_less
  F_Store_never : Fun K "never" "Store.never" s_Store_never D.f_Store_never D.d_Store_never
  b_Store_never : Binds K D.d_Store_never ["self", "numbers"] []
  M_Store_never : Meth K D.a_Store "never" D.f_Store_never
  F_Store_keep : Fun K "keep" "Store.keep" s_Store_keep D.f_Store_keep D.d_Store_keep
  b_Store_keep : Binds K D.d_Store_keep ["self", "numbers"] []
  M_Store_keep : Meth K D.a_Store "keep" D.f_Store_keep
  F_Store_wish : Fun K "wish" "Store.wish" s_Store_wish D.f_Store_wish D.d_Store_wish
  b_Store_wish : Binds K D.d_Store_wish ["self", "wishes", "numbers"] []
  M_Store_wish : Meth K D.a_Store "wish" D.f_Store_wish
  F_Store_mend : Fun K "mend" "Store.mend" s_Store_mend D.f_Store_mend D.d_Store_mend
  b_Store_mend : Binds K D.d_Store_mend ["self"] []
  M_Store_mend : Meth K D.a_Store "mend" D.f_Store_mend
  F_Store_least : Fun K "least" "Store.least" s_Store_least D.f_Store_least D.d_Store_least
  b_Store_least : Binds K D.d_Store_least ["self"] []
  M_Store_least : Meth K D.a_Store "least" D.f_Store_least
  F_Store_check : Fun K "check" "Store.check" s_Store_check D.f_Store_check D.d_Store_check
  b_Store_check : Binds K D.d_Store_check ["self", "levels"] []
  M_Store_check : Meth K D.a_Store "check" D.f_Store_check
  F_Store_done : Fun K "done" "Store.done" s_Store_done D.f_Store_done D.d_Store_done
  b_Store_done : Binds K D.d_Store_done ["self"] []
  M_Store_done : Meth K D.a_Store "done" D.f_Store_done
  F_Store_priced : Fun K "priced" "Store.priced" s_Store_priced D.f_Store_priced D.d_Store_priced
  b_Store_priced : Binds K D.d_Store_priced ["self", "way"] []
  M_Store_priced : Meth K D.a_Store "priced" D.f_Store_priced
  F_Store_repair : Fun K "repair" "Store.repair" s_Store_repair D.f_Store_repair D.d_Store_repair
  b_Store_repair : Binds K D.d_Store_repair ["self"] []
  M_Store_repair : Meth K D.a_Store "repair" D.f_Store_repair
  F_Store_satisfying : Fun K "satisfying" "Store.satisfying" s_Store_satisfying D.f_Store_satisfying D.d_Store_satisfying
  b_Store_satisfying : Binds K D.d_Store_satisfying ["self"] []
  M_Store_satisfying : Meth K D.a_Store "satisfying" D.f_Store_satisfying
  F_Store_held_with : Fun K "held_with" "Store.held_with" s_Store_held_with D.f_Store_held_with D.d_Store_held_with
  b_Store_held_with : Binds K D.d_Store_held_with ["self", "way", "patterns"] []
  M_Store_held_with : Meth K D.a_Store "held_with" D.f_Store_held_with
  F_Store_satisfied_by : Fun K "satisfied_by" "Store.satisfied_by" s_Store_satisfied_by D.f_Store_satisfied_by D.d_Store_satisfied_by
  b_Store_satisfied_by : Binds K D.d_Store_satisfied_by ["self", "held"] []
  M_Store_satisfied_by : Meth K D.a_Store "satisfied_by" D.f_Store_satisfied_by
  F_Store_check_room : Fun K "check_room" "Store.check_room" s_Store_check_room D.f_Store_check_room D.d_Store_check_room
  b_Store_check_room : Binds K D.d_Store_check_room ["self", "present", "most", "pair"] []
  M_Store_check_room : Meth K D.a_Store "check_room" D.f_Store_check_room
  F_Store_all_concepts : Fun K "all_concepts" "Store.all_concepts" s_Store_all_concepts D.f_Store_all_concepts D.d_Store_all_concepts
  b_Store_all_concepts : Binds K D.d_Store_all_concepts ["self"] []
  M_Store_all_concepts : Meth K D.a_Store "all_concepts" D.f_Store_all_concepts
  F_check_price : Fun K "check_price" "check_price" s_check_price D.f_check_price D.d_check_price
  b_check_price : Binds K D.d_check_price ["price"] []
  m_check_price : mg "check_price" = some (.ref D.f_check_price)
  F_Reader_init : Fun K "__init__" "Reader.__init__" s_Reader_init D.f_Reader_init D.d_Reader_init
  b_Reader_init : Binds K D.d_Reader_init ["self", "calls"] []
  F_Reader_at_end : Fun K "at_end" "Reader.at_end" s_Reader_at_end D.f_Reader_at_end D.d_Reader_at_end
  b_Reader_at_end : Binds K D.d_Reader_at_end ["self"] []
  M_Reader_at_end : Meth K D.a_Reader "at_end" D.f_Reader_at_end
  F_Reader_take_number : Fun K "take_number" "Reader.take_number" s_Reader_take_number D.f_Reader_take_number D.d_Reader_take_number
  b_Reader_take_number : Binds K D.d_Reader_take_number ["self"] []
  M_Reader_take_number : Meth K D.a_Reader "take_number" D.f_Reader_take_number
  F_Reader_take_list : Fun K "take_list" "Reader.take_list" s_Reader_take_list D.f_Reader_take_list D.d_Reader_take_list
  b_Reader_take_list : Binds K D.d_Reader_take_list ["self"] []
  M_Reader_take_list : Meth K D.a_Reader "take_list" D.f_Reader_take_list
  F_answers : Fun K "answers" "answers" s_answers D.f_answers D.d_answers
  b_answers : Binds K D.d_answers ["calls"] []
  m_answers : mg "answers" = some (.ref D.f_answers)
  F_answer_of : Fun K "answer_of" "answer_of" s_answer_of D.f_answer_of D.d_answer_of
  b_answer_of : Binds K D.d_answer_of ["store", "reader"] []
  m_answer_of : mg "answer_of" = some (.ref D.f_answer_of)
  F_result_of : Fun K "result_of" "result_of" s_result_of D.f_result_of D.d_result_of
  b_result_of : Binds K D.d_result_of ["store", "reader"] []
  m_result_of : mg "result_of" = some (.ref D.f_result_of)
  c_Axiom : Cls K D.a_Axiom
  m_Axiom : mg "Axiom" = some (.ref D.a_Axiom)
  M_Axiom : Mk K D.a_Axiom D.f_Axiom_init
  n_Axiom_forms : NoAttr K D.a_Axiom "forms"
  n_Axiom_prices : NoAttr K D.a_Axiom "prices"
  c_Link : Cls K D.a_Link
  m_Link : mg "Link" = some (.ref D.a_Link)
  M_Link : Mk K D.a_Link D.f_Link_init
  n_Link_role : NoAttr K D.a_Link "role"
  n_Link_needy : NoAttr K D.a_Link "needy"
  n_Link_goal : NoAttr K D.a_Link "goal"
  c_Patterns : Cls K D.a_Patterns
  m_Patterns : mg "Patterns" = some (.ref D.a_Patterns)
  M_Patterns : Mk K D.a_Patterns D.f_Patterns_init
  n_Patterns_total : NoAttr K D.a_Patterns "total"
  n_Patterns_whole : NoAttr K D.a_Patterns "whole"
  n_Patterns_groups : NoAttr K D.a_Patterns "groups"
  n_Patterns_links : NoAttr K D.a_Patterns "links"
  c_Store : Cls K D.a_Store
  m_Store : mg "Store" = some (.ref D.a_Store)
  M_Store : Mk K D.a_Store D.f_Store_init
  n_Store_axioms : NoAttr K D.a_Store "axioms"
  n_Store_unwanted : NoAttr K D.a_Store "unwanted"
  n_Store_wanted : NoAttr K D.a_Store "wanted"
  c_Reader : Cls K D.a_Reader
  m_Reader : mg "Reader" = some (.ref D.a_Reader)
  M_Reader : Mk K D.a_Reader D.f_Reader_init
  n_Reader_calls : NoAttr K D.a_Reader "calls"
  n_Reader_place : NoAttr K D.a_Reader "place"
  m_WrongNumbers : mg "WrongNumbers" = some (.ref D.e_WrongNumbers)
  x_WrongNumbers : PySem.W.excIn K D.e_WrongNumbers [.type "Exception", .type "BaseException", .type "object"] "Exception.__new__" = true
  k_WrongNumbers : PySem.W.keepIn K (.ref D.e_WrongNumbers) = true
  s_WrongNumbers : PySem.W.subIn K (.ref D.e_WrongNumbers) (.type "BaseException") = some true
  y_WrongNumbers : PySem.W.typeIn K (.ref D.e_WrongNumbers) = some (.type "type")
  z_WrongNumbers_WrongNumbers : PySem.W.exmOne K (.ref D.e_WrongNumbers) (.ref D.e_WrongNumbers) = some true
  z_WrongNumbers_NoSuchAxiom : PySem.W.exmOne K (.ref D.e_WrongNumbers) (.ref D.e_NoSuchAxiom) = some false
  z_WrongNumbers_NotWeaker : PySem.W.exmOne K (.ref D.e_WrongNumbers) (.ref D.e_NotWeaker) = some false
  z_WrongNumbers_NoRepair : PySem.W.exmOne K (.ref D.e_WrongNumbers) (.ref D.e_NoRepair) = some false
  z_WrongNumbers_NoRoom : PySem.W.exmOne K (.ref D.e_WrongNumbers) (.ref D.e_NoRoom) = some false
  z_WrongNumbers_UnknownCall : PySem.W.exmOne K (.ref D.e_WrongNumbers) (.ref D.e_UnknownCall) = some false
  m_NoSuchAxiom : mg "NoSuchAxiom" = some (.ref D.e_NoSuchAxiom)
  x_NoSuchAxiom : PySem.W.excIn K D.e_NoSuchAxiom [.type "Exception", .type "BaseException", .type "object"] "Exception.__new__" = true
  k_NoSuchAxiom : PySem.W.keepIn K (.ref D.e_NoSuchAxiom) = true
  s_NoSuchAxiom : PySem.W.subIn K (.ref D.e_NoSuchAxiom) (.type "BaseException") = some true
  y_NoSuchAxiom : PySem.W.typeIn K (.ref D.e_NoSuchAxiom) = some (.type "type")
  z_NoSuchAxiom_WrongNumbers : PySem.W.exmOne K (.ref D.e_NoSuchAxiom) (.ref D.e_WrongNumbers) = some false
  z_NoSuchAxiom_NoSuchAxiom : PySem.W.exmOne K (.ref D.e_NoSuchAxiom) (.ref D.e_NoSuchAxiom) = some true
  z_NoSuchAxiom_NotWeaker : PySem.W.exmOne K (.ref D.e_NoSuchAxiom) (.ref D.e_NotWeaker) = some false
  z_NoSuchAxiom_NoRepair : PySem.W.exmOne K (.ref D.e_NoSuchAxiom) (.ref D.e_NoRepair) = some false
  z_NoSuchAxiom_NoRoom : PySem.W.exmOne K (.ref D.e_NoSuchAxiom) (.ref D.e_NoRoom) = some false
  z_NoSuchAxiom_UnknownCall : PySem.W.exmOne K (.ref D.e_NoSuchAxiom) (.ref D.e_UnknownCall) = some false
  m_NotWeaker : mg "NotWeaker" = some (.ref D.e_NotWeaker)
  x_NotWeaker : PySem.W.excIn K D.e_NotWeaker [.type "Exception", .type "BaseException", .type "object"] "Exception.__new__" = true
  k_NotWeaker : PySem.W.keepIn K (.ref D.e_NotWeaker) = true
  s_NotWeaker : PySem.W.subIn K (.ref D.e_NotWeaker) (.type "BaseException") = some true
  y_NotWeaker : PySem.W.typeIn K (.ref D.e_NotWeaker) = some (.type "type")
  z_NotWeaker_WrongNumbers : PySem.W.exmOne K (.ref D.e_NotWeaker) (.ref D.e_WrongNumbers) = some false
  z_NotWeaker_NoSuchAxiom : PySem.W.exmOne K (.ref D.e_NotWeaker) (.ref D.e_NoSuchAxiom) = some false
  z_NotWeaker_NotWeaker : PySem.W.exmOne K (.ref D.e_NotWeaker) (.ref D.e_NotWeaker) = some true
  z_NotWeaker_NoRepair : PySem.W.exmOne K (.ref D.e_NotWeaker) (.ref D.e_NoRepair) = some false
  z_NotWeaker_NoRoom : PySem.W.exmOne K (.ref D.e_NotWeaker) (.ref D.e_NoRoom) = some false
  z_NotWeaker_UnknownCall : PySem.W.exmOne K (.ref D.e_NotWeaker) (.ref D.e_UnknownCall) = some false
  m_NoRepair : mg "NoRepair" = some (.ref D.e_NoRepair)
  x_NoRepair : PySem.W.excIn K D.e_NoRepair [.type "Exception", .type "BaseException", .type "object"] "Exception.__new__" = true
  k_NoRepair : PySem.W.keepIn K (.ref D.e_NoRepair) = true
  s_NoRepair : PySem.W.subIn K (.ref D.e_NoRepair) (.type "BaseException") = some true
  y_NoRepair : PySem.W.typeIn K (.ref D.e_NoRepair) = some (.type "type")
  z_NoRepair_WrongNumbers : PySem.W.exmOne K (.ref D.e_NoRepair) (.ref D.e_WrongNumbers) = some false
  z_NoRepair_NoSuchAxiom : PySem.W.exmOne K (.ref D.e_NoRepair) (.ref D.e_NoSuchAxiom) = some false
  z_NoRepair_NotWeaker : PySem.W.exmOne K (.ref D.e_NoRepair) (.ref D.e_NotWeaker) = some false
  z_NoRepair_NoRepair : PySem.W.exmOne K (.ref D.e_NoRepair) (.ref D.e_NoRepair) = some true
  z_NoRepair_NoRoom : PySem.W.exmOne K (.ref D.e_NoRepair) (.ref D.e_NoRoom) = some false
  z_NoRepair_UnknownCall : PySem.W.exmOne K (.ref D.e_NoRepair) (.ref D.e_UnknownCall) = some false
  m_NoRoom : mg "NoRoom" = some (.ref D.e_NoRoom)
  x_NoRoom : PySem.W.excIn K D.e_NoRoom [.type "Exception", .type "BaseException", .type "object"] "Exception.__new__" = true
  k_NoRoom : PySem.W.keepIn K (.ref D.e_NoRoom) = true
  s_NoRoom : PySem.W.subIn K (.ref D.e_NoRoom) (.type "BaseException") = some true
  y_NoRoom : PySem.W.typeIn K (.ref D.e_NoRoom) = some (.type "type")
  z_NoRoom_WrongNumbers : PySem.W.exmOne K (.ref D.e_NoRoom) (.ref D.e_WrongNumbers) = some false
  z_NoRoom_NoSuchAxiom : PySem.W.exmOne K (.ref D.e_NoRoom) (.ref D.e_NoSuchAxiom) = some false
  z_NoRoom_NotWeaker : PySem.W.exmOne K (.ref D.e_NoRoom) (.ref D.e_NotWeaker) = some false
  z_NoRoom_NoRepair : PySem.W.exmOne K (.ref D.e_NoRoom) (.ref D.e_NoRepair) = some false
  z_NoRoom_NoRoom : PySem.W.exmOne K (.ref D.e_NoRoom) (.ref D.e_NoRoom) = some true
  z_NoRoom_UnknownCall : PySem.W.exmOne K (.ref D.e_NoRoom) (.ref D.e_UnknownCall) = some false
  m_UnknownCall : mg "UnknownCall" = some (.ref D.e_UnknownCall)
  x_UnknownCall : PySem.W.excIn K D.e_UnknownCall [.type "Exception", .type "BaseException", .type "object"] "Exception.__new__" = true
  k_UnknownCall : PySem.W.keepIn K (.ref D.e_UnknownCall) = true
  s_UnknownCall : PySem.W.subIn K (.ref D.e_UnknownCall) (.type "BaseException") = some true
  y_UnknownCall : PySem.W.typeIn K (.ref D.e_UnknownCall) = some (.type "type")
  z_UnknownCall_WrongNumbers : PySem.W.exmOne K (.ref D.e_UnknownCall) (.ref D.e_WrongNumbers) = some false
  z_UnknownCall_NoSuchAxiom : PySem.W.exmOne K (.ref D.e_UnknownCall) (.ref D.e_NoSuchAxiom) = some false
  z_UnknownCall_NotWeaker : PySem.W.exmOne K (.ref D.e_UnknownCall) (.ref D.e_NotWeaker) = some false
  z_UnknownCall_NoRepair : PySem.W.exmOne K (.ref D.e_UnknownCall) (.ref D.e_NoRepair) = some false
  z_UnknownCall_NoRoom : PySem.W.exmOne K (.ref D.e_UnknownCall) (.ref D.e_NoRoom) = some false
  z_UnknownCall_UnknownCall : PySem.W.exmOne K (.ref D.e_UnknownCall) (.ref D.e_UnknownCall) = some true

end Wk
end
section
set_option Elab.async false
set_option maxRecDepth 100000
set_option maxHeartbeats 4000000
namespace Wk
open PySem PySem.Spec PyProof.Rows L2

/-- xs.extend(t), t a tuple whatever its own dict and slots are -/
theorem meets_extendT {p c : Addr} {us ts : Array Value} {k m : Nat} {dic : Option Addr} {sls : Array (Option Value)} (room : (!us.isEmpty && Builtin.List.listTooLong (us.size + ts.size)) = false) (fit : us.size + ts.size ≤ sizeLine) :
    Meets (Builtin.«list.extend» ⟨[.ref p, .ref c], []⟩) (fun _ R st => st.heap.get? p = some { cls := .type "list", dict := none, data := .seq us k, slots := #[] } ∧
      st.heap.get? c = some { cls := .type "tuple", dict := dic, data := .seq ts m, slots := sls } ∧ R (.ok (.ret Value.none)) { st with heap := st.heap.update p (Obj.mapSeq fun x => x ++ ts), toks := st.toks }) := by
  refine .of_wp fun P W B R st top => ?_
  have room' : ¬ (!us.isEmpty && Builtin.List.listTooLong (us.size + ts.size)) = true := by
    rw [room]
    simp
  have fit1 : us.size ≤ sizeLine := Nat.le_trans (Nat.le_add_right _ _) fit
  have fit2 : (us ++ ts).size ≤ sizeLine + 1 := by
    rw [Array.size_append]
    omega
  obtain ⟨heap, gens, drawn, toks, os⟩ := st
  obtain ⟨atP, atC, goal⟩ := top
  have k1 := AutoSeq1.idx_int
  have k2 := PyProof.Rows.sub_tuple_tuple
  have k3 := PyProof.Rows.sub_list_list
  have k4 := PyProof.Rows.sub_tuple_list
  have k5 := PyProof.Rows.sub_list_tuple
  wp_walk using (wpAny_updateSeq atP rfl (hz := fit1) (_hz' := fit2)), AutoSeq1.wpAny_loadPart' atP, AutoSeq1.wpAny_loadPart' atC
  exact ⟨_, rfl, goal⟩
def rExtendT : V → List V → Hp → VK → Prop := fun x vs H Q => ∃ l b xs zs, x = .ref l ∧ vs = [.ref b] ∧ H l = some (.lst xs) ∧ H b = some (.tup zs) ∧ xs.length + zs.length ≤ sizeLine ∧ Q .non (upd H l (.lst (xs ++ zs)))
theorem mt_extendT {X : Cx} : MtM X "list.extend" rExtendT := by
  intro pins st σ H x vs v us Q I rx rv top
  obtain ⟨p, c, xs, zs, rfl, rfl, atP, atC, fit, goal⟩ := top
  cases rx
  obtain ⟨u, rfl, ru⟩ := rv.one
  cases ru
  obtain ⟨-, is, k, vp, lp, gp⟩ := I.lstM atP
  obtain ⟨-, ts, vc, ob, gc, cls, m, dat⟩ := I.hok c _ atC
  obtain ⟨kind, dic, con, sls⟩ := ob
  cases cls
  cases dat
  have lc := vc.length
  have room : (!is.toArray.isEmpty && Builtin.List.listTooLong (is.toArray.size + ts.toArray.size)) = false := by
    rw [List.size_toArray, List.size_toArray, notLongL (by omega)]
    exact Bool.and_false _
  have met := meets_extendT (p := p) (c := c) (k := k) (m := m) (dic := dic) (sls := sls) room (by rw [List.size_toArray, List.size_toArray]; omega)
  refine call_meets F.slot_list_extend ⟨_, gp, rfl⟩ F.entry_list_extend (F.args_list_extend_2 (.ref p) (.ref c)) met ⟨gp, gc, .non, _, ?_, rfl, goal⟩
  exact I.lset (its' := is ++ ts) atP gp (by simp) (vp.append vc) (by rw [List.length_append]; exact fit)
end Wk
end
section
set_option Elab.async false
set_option maxRecDepth 100000
set_option maxHeartbeats 4000000
namespace Wk
open PySem PySem.Spec PyProof.Rows L2
open Oc (C)
theorem b_and (a b : Nat) : Builtin.bitAnd (a : Int) (b : Int) = ((a &&& b : Nat) : Int) := by
  unfold Builtin.bitAnd
  rw [decide_eq_true (Int.natCast_nonneg a), decide_eq_true (Int.natCast_nonneg b)]
  simp
theorem b_or (a b : Nat) : Builtin.bitOr (a : Int) (b : Int) = ((a ||| b : Nat) : Int) := by
  rw [Bits.bitOr_pp (Int.natCast_nonneg a) (Int.natCast_nonneg b)]
  simp
theorem b_xor (a b : Nat) : Builtin.bitXor (a : Int) (b : Int) = ((a ^^^ b : Nat) : Int) := by
  rw [Bits.bitXor_pp (Int.natCast_nonneg a) (Int.natCast_nonneg b)]
  simp
theorem b_andnot (n : Nat) (f g : Nat → Bool) : Builtin.bitAnd (mk n f : Nat) (Builtin.bitNot (mk n g : Nat)) = ((mk n (fun u => f u && !g u) : Nat) : Int) := by
  have hneg : ¬ (0 : Int) ≤ Builtin.bitNot (mk n g : Nat) := by
    unfold Builtin.bitNot
    omega
  unfold Builtin.bitAnd
  rw [decide_eq_true (Int.natCast_nonneg _), decide_eq_false hneg]
  have e : (Builtin.bitNot (Builtin.bitNot (mk n g : Nat))).toNat = mk n g := by
    unfold Builtin.bitNot
    omega
  show (mk n f : Int) - (((mk n f : Int).toNat &&& _ : Nat) : Int) = _
  rw [e, Int.toNat_natCast, mk_and]
  have := mk_add n f g
  omega
theorem mk_single {n p : Nat} (h : p < n) : mk n (fun u => decide (u = p)) = 2 ^ p := by
  refine Nat.eq_of_testBit_eq fun i => ?_
  rw [mk_bit, Nat.testBit_two_pow]
  by_cases e : i = p
  · subst e; simp [h]
  · have : ¬ p = i := fun z => e z.symm
    simp [e, this]
theorem b_drop {n p : Nat} (S : Nat → Bool) (h : p < n) : Builtin.bitAnd (mk n S : Nat) (Builtin.bitNot (1 * 2 ^ ((p : Nat) : Int).toNat)) = ((mk n (fun u => S u && !decide (u = p)) : Nat) : Int) := by
  have e : (1 * 2 ^ ((p : Nat) : Int).toNat : Int) = ((mk n (fun u => decide (u = p)) : Nat) : Int) := by
    rw [mk_single h, Int.toNat_natCast]
    simp
  rw [e]
  exact b_andnot n S _
theorem b_bit (m p : Nat) : Builtin.bitAnd ((m : Int) / 2 ^ ((p : Nat) : Int).toNat) 1 = if m.testBit p then 1 else 0 := by
  rw [bitAnd_m1, Int.toNat_natCast]
  have e : (m : Int) / 2 ^ p % 2 = ((m / 2 ^ p % 2 : Nat) : Int) := by simp
  rw [e, Nat.testBit_eq_decide_div_mod_eq]
  have : m / 2 ^ p % 2 < 2 := Nat.mod_lt _ (by decide)
  by_cases c : m / 2 ^ p % 2 = 1
  · simp [c]
  · have : m / 2 ^ p % 2 = 0 := by omega
    simp [this]
theorem b_bitne (m p : Nat) : (Builtin.bitAnd ((m : Int) / 2 ^ ((p : Nat) : Int).toNat) 1 != 0) = m.testBit p := by
  rw [b_bit]
  cases m.testBit p <;> rfl
/-- a concept's key -/
def ky (c : C) : List Key := (enc c).map fun (n : Nat) => (Sum.inl (n : Int) : Key)
theorem ky_iv (c : C) : (ky c).map kV = iv (enc c) := by
  unfold ky iv
  rw [List.map_map]
  rfl
theorem ky_inj {c d : C} (f : Fine c) (g : Fine d) (h : ky c = ky d) : c = d := by
  refine enc_inj f g ?_
  have e : ∀ (l m : List Nat), l.map (fun (n : Nat) => (Sum.inl (n : Int) : Key)) = m.map (fun (n : Nat) => (Sum.inl (n : Int) : Key)) → l = m := by
    intro l
    induction l with
    | nil => intro m h; cases m with
      | nil => rfl
      | cons b m => cases h
    | cons a l ih => intro m h; cases m with
      | nil => cases h
      | cons b m =>
        rw [List.map_cons, List.map_cons] at h
        injection h with h1 h2
        injection h1 with h1
        rw [ih m h2]
        congr 1
        omega
  exact e _ _ h
theorem dget {H : Hp} {d b : Addr} {kvs : List (List Key × V)} {c : C} {v : V} (e : H d = some (.dT kvs)) (hb : TupN H b (enc c)) (hv : valV kvs (ky c) = some v) : DGet H d (.ref b) (some v) := by
  rw [← hv]
  exact DGet.t e (by rw [ky_iv]; exact hb)
theorem dput {H : Hp} {d b : Addr} {kvs : List (List Key × V)} {c : C} {v : V} (e : H d = some (.dT kvs)) (hb : TupN H b (enc c)) (hl : kvs.length < sizeLine) : DPut H d (.ref b) v (upd H d (.dT (putK kvs (ky c) v))) :=
  DPut.t e (by rw [ky_iv]; exact hb) hl
theorem putK_len (c : List (List Key × V)) (k : List Key) (x : V) : (putK c k x).length ≤ c.length + 1 := by
  unfold putK
  split <;> simp
end Wk
end
section
set_option Elab.async false
set_option maxRecDepth 100000
set_option maxHeartbeats 4000000
namespace Wk
open PySem PySem.Spec PyProof.Rows L2
/-! zip of a list and a tuple -/
/-- the list at a and the tuple at b as they stand at each turn, in new pairs -/
def ItzM (K : PySem.W.Frag) (a b : Addr) : It :=
  ⟨fun i H => ∃ xs ys : List V, SqL K H a xs ∧ SqT K H b ys ∧ i < xs.length ∧ i < ys.length,
    fun i H v H' => ∃ T x y, v = .ref T ∧ H T = none ∧ H' = upd H T (.tup [x, y]) ∧ (∀ l, SqL K H a l → l[i]? = some x) ∧ ∀ l, SqT K H b l → l[i]? = some y,
    fun i H => ∃ xs ys : List V, SqL K H a xs ∧ SqT K H b ys ∧ i = min xs.length ys.length⟩
theorem five {c z TI TO i1 i2 : Addr} (h : c ∈ [z, TI, TO, i1, i2]) : c = z ∨ c = TI ∨ c = TO ∨ c = i1 ∨ c = i2 := by simpa using h
theorem turn_zipM {P : Program} {w : World} {K : PySem.W.Frag} {elts : List Expr} {kk : Nat} {tpos : Pos} {a b z TI TO i1 i2 : Addr} (S : ZipSep2 z TI TO i1 i2 [i1, a] [i2, b]) :
    Turn P w K (.Tuple elts kk tpos) (ItzM K a b) [z, TI, TO, i1, i2] z (fun i h => IsZip h z TI TO .none ∧ IsTupOf2 h TI (.ref i1) (.ref i2) ∧ (∃ u v, IsTupOf2 h TO u v) ∧ h.IsListIter i1 a i ∧ h.IsTupleIter i2 b i) where
  mem := by simp
  obj := fun i h st c hc => by
    obtain ⟨hz, hTI, ⟨u, v, hTO⟩, ⟨o1, e1, _, d1⟩, ⟨o2, e2, _, d2⟩⟩ := st
    rcases five hc with rfl | rfl | rfl | rfl | rfl
    · exact ⟨_, hz, fun _ q => nomatch q⟩
    · exact ⟨_, hTI, fun _ q => nomatch q⟩
    · exact ⟨_, hTO, fun _ q => nomatch q⟩
    · exact ⟨o1, e1, fun _ q => by rw [d1] at q; cases q⟩
    · exact ⟨o2, e2, fun _ q => by rw [d2] at q; cases q⟩
  keep := fun i h h' st k => by
    obtain ⟨hz, hTI, ⟨u, v, hTO⟩, h1, h2⟩ := st
    exact ⟨k _ (by simp) _ hz, k _ (by simp) _ hTI, ⟨u, v, k _ (by simp) _ hTO⟩, h1.at fun o e => k i1 (by simp) o e, h2.at fun o e => k i2 (by simp) o e⟩
  item := by
    intro X hP hw hK hc i pins s σ H E I hf st hg
    subst hP hw hK
    obtain ⟨hz, hTI, ⟨u0, v0, hTO⟩, h1, h2⟩ := st
    obtain ⟨xs, ys, hqx, hqy, l1, l2⟩ := hg
    obtain ⟨its, rv, p, _⟩ := I.list hqx
    obtain ⟨its2, rv2, p2, _⟩ := I.tuple hqy
    have n1 : a ≠ i1 := fun q => by
      obtain ⟨o, e, c, d⟩ := h1
      obtain ⟨o2, e2, c2, m, d2⟩ := p.isList
      rw [q, e] at e2; cases e2
      rw [d] at d2; cases d2
    have n2 : b ≠ i2 := fun q => by
      obtain ⟨o, e, c, d⟩ := h2
      obtain ⟨o2, e2, c2, m, d2⟩ := (show s.heap.IsTuple b its2.toArray from p2)
      rw [q, e] at e2; cases e2
      rw [d] at d2; cases d2
    have hzl : z < s.heap.objs.size := Heap.lt_size hz
    have k1 := rv.length
    have k2 := rv2.length
    refine wpAny_pyNext_zipD2_item S (Draws.list (A := X.A.in1) (I.ok.hd hc) i1 a n1 its.toArray) (Draws.tuple (A := X.A.in1) (I.ok.hd hc) i2 b n2 its2.toArray) hz hTI hTO ⟨h1, p.isList⟩ ⟨h2, p2⟩
      (by rw [List.size_toArray]; omega) (by rw [List.size_toArray]; omega) fun x1 x2 h' tk y1 y2 z' TO' st1 st2 hT hsz hk => ?_
    refine ⟨_, rfl, wpAny_letOwnedTupleGo_zip (s := { s with heap := h', toks := tk }) z' fun h'' z'' sb => ?_⟩
    obtain ⟨u, hu, ru⟩ := rv.get (List.getElem?_eq_getElem l1)
    obtain ⟨v, hv, rv'⟩ := rv2.get (List.getElem?_eq_getElem l2)
    have e1 : u = x1 := by
      have y1 : its[i]? = some x1 := by simpa using y1
      rw [hu] at y1; exact Option.some.inj y1
    have e2 : v = x2 := by
      have y2 : its2[i]? = some x2 := by simpa using y2
      rw [hv] at y2; exact Option.some.inj y2
    subst e1 e2
    have hT2 : h''.get? s.heap.objs.size = some { cls := .type "tuple", data := .seq #[u, v] } := (sb.2 _ (Nat.ne_of_gt hzl)).trans hT
    have new : ObjOk X.prog X.w (upd H s.heap.objs.size (.tup [xs[i], ys[i]])) h'' s.heap.objs.size (.tup [xs[i], ys[i]]) :=
      ⟨(by decide : 2 ≤ sizeLine), [u, v], .cons ru (.cons rv' .nil), _, hT2, rfl, _, rfl⟩
    have J : Inv X pins σ (upd H s.heap.objs.size (.tup [xs[i], ys[i]])) { s with heap := h'', toks := tk } :=
      I.turnedNew (ch := [z, TI, TO, i1, i2]) (fun c o hb q => by
        simp only [List.mem_cons, not_or] at hb
        exact (sb.2 c hb.1).trans (hk c o hb.1 hb.2.2.1 hb.2.2.2.1 hb.2.2.2.2.1 q)) hf (Nat.le_refl _) new
    have TIkept := (sb.2 _ S.TIz).trans (hk _ _ S.TIz S.TITO S.TIi1 S.TIi2 hTI)
    refine ⟨.ref s.heap.objs.size, _, J, rfl, ⟨_, _, _, rfl, I.hok.fresh (Nat.le_refl _), rfl, fun l hl => ?_, fun l hl => ?_⟩, ⟨z'', TIkept, ⟨u, v, (sb.2 _ S.TOz).trans TO'⟩, ?_, ?_⟩, fun c hcm => ?_⟩
    · rw [I.list_inj hl hqx]; exact List.getElem?_eq_getElem l1
    · rw [I.tuple_inj hl hqy]; exact List.getElem?_eq_getElem l2
    · exact st1.1.at fun o e => (sb.2 _ S.zi1.symm).trans e
    · exact st2.1.at fun o e => (sb.2 _ S.zi2.symm).trans e
    · have hlt : c < s.heap.objs.size := by
        rcases five hcm with rfl | rfl | rfl | rfl | rfl
        · exact hzl
        · exact Heap.lt_size hTI
        · exact Heap.lt_size hTO
        · obtain ⟨_, e, _⟩ := h1; exact Heap.lt_size e
        · obtain ⟨_, e, _⟩ := h2; exact Heap.lt_size e
      exact (upd_ne (Nat.ne_of_lt hlt)).trans (hf c hcm).1
  done := by
    intro X hP hw hK hc i pins s σ H E I hf st hg
    subst hP hw hK
    obtain ⟨hz, hTI, ⟨u0, v0, hTO⟩, h1, h2⟩ := st
    obtain ⟨xs, ys, hqx, hqy, hend⟩ := hg
    obtain ⟨its, rv, p, _⟩ := I.list hqx
    obtain ⟨its2, rv2, p2, _⟩ := I.tuple hqy
    have n1 : a ≠ i1 := fun q => by
      obtain ⟨o, e, c, d⟩ := h1
      obtain ⟨o2, e2, c2, m, d2⟩ := p.isList
      rw [q, e] at e2; cases e2
      rw [d] at d2; cases d2
    have n2 : b ≠ i2 := fun q => by
      obtain ⟨o, e, c, d⟩ := h2
      obtain ⟨o2, e2, c2, m, d2⟩ := (show s.heap.IsTuple b its2.toArray from p2)
      rw [q, e] at e2; cases e2
      rw [d] at d2; cases d2
    have k1 := rv.length
    have k2 := rv2.length
    refine wpAny_pyNext_zipD2_end S (Draws.list (A := X.A.in1) (I.ok.hd hc) i1 a n1 its.toArray) (Draws.tuple (A := X.A.in1) (I.ok.hd hc) i2 b n2 its2.toArray) hz hTI hTO ⟨h1, p.isList⟩ ⟨h2, p2⟩
      (by rw [List.size_toArray]; omega) (by rw [List.size_toArray]; omega) (by rw [List.size_toArray, List.size_toArray]; omega) fun h' tk hk => ⟨rfl, ?_⟩
    refine I.turnedL (ch := [z, TI, TO, i1, i2]) (fun c o hb q => ?_) hf
    simp only [List.mem_cons, not_or] at hb
    exact hk c o hb.1 hb.2.2.1 hb.2.2.2.1 hb.2.2.2.2.1 q
  self := fun A i s Q E st h => wpAny_pyIter_zip st.1 h
/-- zip(xs, t): xs a list, t a list or a tuple -/
@[irreducible] def rZip (K : PySem.W.Frag) (vs : List V) (H : Hp) (R : It → Hp → Prop) : Prop := ∃ a b xs ys, vs = [.ref a, .ref b] ∧ SqL K H a xs ∧ ((SqL K H b ys ∧ R (Itz K a b) H) ∨ (SqT K H b ys ∧ R (ItzM K a b) H))
def iZipM (K : PySem.W.Frag) (ta : TA) : TI := fun σ H R => ta σ H fun vs H1 => rZip K vs H1 R
theorem out2 {x y z : Addr} (h1 : x ≠ y) (h2 : x ≠ z) : x ∉ [y, z] := fun h => by
  rcases List.mem_cons.mp h with e | h
  · exact h1 e
  · exact h2 (List.mem_singleton.mp h)
theorem lt_ne {x y : Nat} (h : x < y) : x ≠ y := Nat.ne_of_lt h
theorem gt_ne {x y : Nat} (h : y < x) : x ≠ y := Nat.ne_of_gt h
theorem sep_new {n a b : Nat} (ha : a < n) (hb : b < n) : ZipSep2 (n + 4) (n + 2) (n + 3) n (n + 1) [n, a] [n + 1, b] :=
  ⟨lt_ne (by omega), lt_ne (by omega), lt_ne (by omega), gt_ne (by omega), by simp, out2 (gt_ne (by omega)) (gt_ne (by omega)), out2 (gt_ne (by omega)) (gt_ne (by omega)), gt_ne (by omega), by simp,
    out2 (gt_ne (by omega)) (gt_ne (by omega)), out2 (gt_ne (by omega)) (gt_ne (by omega)), out2 (lt_ne (by omega)) (gt_ne (by omega)), out2 (gt_ne (by omega)) (gt_ne (by omega))⟩
theorem pi_zipM {X : Cx} {e e2 : Expr} {ta : TA} {p pos tpos : Pos} {elts : List Expr} {kk : Nat} (hg : Gl X "zip") (hm : X.mg "zip" = none) (ha : PA X [e, e2] ta)
    (hs : starEach [e, e2] X.env = (false, eval e X.env) :: starEach [e2] X.env := by rfl) (hpl : (backTo pos (starEach [e2] X.env)).any (·.1) = false := by rfl) :
    PI X (.Tuple elts kk tpos) (.Call (.Name "zip" p) [e, e2] [] pos) (iZipM X.K ta) := by
  refine ⟨fun pins s σ H R I h => ?_⟩
  refine Call_ (ld_blt I hg hm PyProof.Rows.boot_zip (PyProof.Rows.callWith_type1 (thn (ha.run pos pins s σ H _ I h) fun us s1 ⟨vs, H1, I1, r1, q0⟩ => ?_) hs hpl))
  unfold rZip at q0
  obtain ⟨a, b, xs, ys, ex, hqx, q1⟩ := q0
  subst ex
  obtain ⟨u1, u2, rfl, r, r'⟩ := vals2 r1
  cases r
  cases r'
  have new5 : ∀ c, c ∈ [s1.heap.objs.size + 4, s1.heap.objs.size + 2, s1.heap.objs.size + 3, s1.heap.objs.size, s1.heap.objs.size + 1] → FpOk X pins H1 c := fun c hcm => by
    have hle : s1.heap.objs.size ≤ c := by
      rcases five hcm with z | z | z | z | z <;> (rw [z]; first | exact Nat.le_add_right _ _ | exact Nat.le_refl _)
    exact I1.fpOk hle (I1.hok.fresh hle)
  obtain ⟨its, rv, p1, _⟩ := I1.list hqx
  rcases q1 with ⟨hqy, q⟩ | ⟨hqy, q⟩
  · obtain ⟨its2, rv2, p2, _⟩ := I1.list hqy
    refine call_zip_2 p1.isList p2.isList fun h' hz hTI hTO h1 h2 hsz hk => wpAny_pyIter_zip hz ?_
    exact ⟨s1.heap.objs.size + 4, [s1.heap.objs.size + 4, s1.heap.objs.size + 2, s1.heap.objs.size + 3, s1.heap.objs.size, s1.heap.objs.size + 1], _, _, H1, rfl, I1.kept (t' := s1.toks) hk,
      turn_zip (PySem.W.ktu_apart s1.heap.objs.size a b p1.lt p2.lt), ⟨hz, hTI, ⟨_, _, hTO⟩, h1, h2⟩, new5, q⟩
  · obtain ⟨its2, rv2, p2, _⟩ := I1.tuple hqy
    obtain ⟨o2, ho2, _⟩ := id p2
    refine zip_begins2 (begins_list a its.toArray) (begins_tuple b its2.toArray) p1.isList p2 fun h' hz hTI hTO h1 h2 hsz hk => wpAny_pyIter_zip hz ?_
    exact ⟨s1.heap.objs.size + 4, [s1.heap.objs.size + 4, s1.heap.objs.size + 2, s1.heap.objs.size + 3, s1.heap.objs.size, s1.heap.objs.size + 1], _, _, H1, rfl, I1.kept (t' := s1.toks) hk,
      turn_zipM (sep_new p1.lt (Heap.lt_size ho2)), ⟨hz, hTI, ⟨_, _, hTO⟩, ⟨_, h1, rfl, rfl⟩, ⟨_, h2, rfl, rfl⟩⟩, new5, q⟩
theorem walk_zipM {K : PySem.W.Frag} {a b : Addr} {xs ys : List V} {n : Nat} (hn : n = min xs.length ys.length) : Walk (ItzM K a b) n (fun H => SqL K H a xs ∧ SqT K H b ys) (YPair (fun i => xs[i]?) (fun i => ys[i]?)) := by
  subst hn
  refine ⟨fun i H hi q => ⟨xs, ys, q.1, q.2, by omega, by omega⟩, fun H q => ⟨xs, ys, q.1, q.2, rfl⟩, ?_⟩
  rintro i H v H' hi q ⟨T, x, y, h1, h2, h3, h4, h5⟩
  exact ⟨T, x, y, h1, h2, h3, h4 xs q.1, h5 ys q.2⟩
theorem walk_zipT {K : PySem.W.Frag} {a b : Addr} {xs ys : List V} {n : Nat} (hn : n = min xs.length ys.length) : Walk (RZ.ItzT K a b) n (fun H => SqT K H a xs ∧ SqT K H b ys) (YPair (fun i => xs[i]?) (fun i => ys[i]?)) := by
  subst hn
  refine ⟨fun i H hi q => ?_, fun H q => ⟨xs, ys, q.1, q.2, by omega⟩, ?_⟩
  · have h1 : i < xs.length := by omega
    have h2 : i < ys.length := by omega
    exact ⟨xs, ys, xs[i], ys[i], q.1, q.2, by simp [h1], by simp [h2]⟩
  · rintro i H v H' hi q ⟨T, x, y, h1, h2, h3, h4, h5⟩
    exact ⟨T, x, y, h1, h2, h3, h4 xs q.1, h5 ys q.2⟩
end Wk
end
section
set_option Elab.async false
set_option maxRecDepth 100000
set_option maxHeartbeats 4000000
namespace Wk
open PySem PySem.Spec PyProof.Rows L2 LamX NdefX
/-! min(xs, key=lambda x: ..), xs a list of objects -/
section
variable {X : Cx} {pins : List (Addr × Obj)} {σ : L2.St} {H : Hp} {s : Shared}
theorem lt_ne' {x y : Nat} (h : x < y) : x ≠ y := Nat.ne_of_lt h
theorem stk_out (I : Inv X pins σ H s) {b : Addr} (h : FpOk X pins H b) : b ∉ frs X.stack := fun z => (List.mem_cons.mp (I.stkSub b z)).elim h.2.1 h.2.2.1
theorem fp_at {H' : Hp} {b : Addr} (h : FpOk X pins H b) (n : H' b = none) : FpOk X pins H' b := ⟨n, h.2⟩
/-- a lambda is made: its table may grow, its code object may be new; all else stands -/
theorem lam_new {c P : Addr} {params : Arguments} {body : Expr} {scope : Scope} {pos : Pos} {E : Value → Shared → Prop} {Q : Value → Shared → Prop} {q : Str} (I : Inv X pins σ H s) (eq : q = X.env.qual ++ "<lambda>")
    (TB : TabB X.base X.mg c P) (hcode : X.env.code = .ref c) (hT : TabS H P q) (hdef : defaultsOf params X.env = ([], [])) (hfree : ∀ y ∈ scope.names, y.2 = .free → ∃ c, X.env.cells.lookup y.1 = some c)
    (go : ∀ (f c' : Addr) (pm ctv : Value) (H1 : Hp) (s' : Shared), Inv X pins σ H1 s' → ExtN H H1 → (∀ b, H1 b = none → H b = none) → TabS H1 P q → FpOk X pins H1 f →
      s'.heap.get? f = some (PySem.W.kla_obj "<lambda>" q params body scope (cloFrom X.env.cells scope.names []) pm c' ctv) → H1 c' = some (CodeO c' q) → Q (.ref f) s') :
    wpAny (model X.prog X.w) X.A (eval (.Lambda params body scope pos) X.env) Q E s := by
  subst eq
  obtain ⟨ps, hP, ht, ha⟩ := id hT
  refine PySem.W.kla_eval hdef ?_
  have tab : s.heap.get? P = some { cls := .none, data := .fields ps } := I.hok P _ hP
  have glob := I.mod.glob.keeps I.bk
  cases hc : codeAmong pos ps.toList with
  | some cv =>
    obtain ⟨c', rfl, hco⟩ := ha pos cv hc
    refine PySem.W.kla_makeFunctionHit (closure_ok hfree) I.ok.glob glob hcode (TB.code.keeps I.bk) tab ht hc (TB.bm.keeps I.bk) fun ctv h' tk kept hsz => ?_
    refine go h'.objs.size c' _ ctv H _ (I.kept (t' := tk) fun b o e => Heap.get?_push_of_some _ (kept b o e)) (ExtN.refl H) (fun _ z => z) hT (I.fpOk hsz (I.hok.fresh hsz)) (Heap.get?_push_size _ rfl) hco
  | none =>
    refine PySem.W.kla_makeFunction (closure_ok hfree) I.ok.glob glob hcode (TB.code.keeps I.bk) tab ht hc TB.gP (TB.bm.keeps I.bk) fun c' ctv h' tk hx hge hlt hrec htb => ?_
    obtain ⟨_, oc, vs, t, e, hoc, hd, hv⟩ := hrec
    cases e
    have hsz : s.heap.objs.size ≤ h'.objs.size := Nat.le_trans hge (Nat.le_of_lt hlt)
    have fc : H c' = none := I.hok.fresh hge
    have ff : H h'.objs.size = none := I.hok.fresh hsz
    have nfP : h'.objs.size ≠ P := (ne_of_none hP ff).symm
    have old : ∀ b o, H b = some o → b ≠ P → (upd (upd H P (.tbl (ps ++ #[rawInt pos.line, rawInt pos.col, .ref c']))) c' (CodeO c' (X.env.qual ++ "<lambda>"))) b = some o := fun b o e n => by
      rw [upd_ne (ne_of_none e fc), upd_ne n]
      exact e
    have atP : (upd (upd H P (.tbl (ps ++ #[rawInt pos.line, rawInt pos.col, .ref c']))) c' (CodeO c' (X.env.qual ++ "<lambda>"))) P = some (.tbl (ps ++ #[rawInt pos.line, rawInt pos.col, .ref c'])) := by
      rw [upd_ne (ne_of_none hP fc), upd_same]
    have toL : (ps ++ #[rawInt pos.line, rawInt pos.col, .ref c']).toList = ps.toList ++ [rawInt pos.line, rawInt pos.col, .ref c'] := by simp
    have J := inv_table (t' := tk) (c := c') (q := X.env.qual ++ "<lambda>") (more := #[rawInt pos.line, rawInt pos.col, .ref c']) (h' := h'.push (PySem.W.kla_obj "<lambda>" (X.env.qual ++ "<lambda>") params body scope (cloFrom X.env.cells scope.names []) ((X.mg "__name__").getD .none) c' ctv)) I hP
      (fun b o hb u => Heap.get?_push_of_some _ (hx b o hb u)) (Heap.get?_push_of_some _ htb) hge ⟨oc, vs, t, Heap.get?_push_of_some _ hoc, hd, hv⟩
    refine go h'.objs.size c' _ ctv _ _ J (fun b o e n => old b o e fun z => ?_) (fun b z => upd_none (upd_none z)) ⟨_, atP, ?_, fun p' cv hcv => ?_⟩ (I.fpOk hsz ?_) (Heap.get?_push_size _ rfl) upd_same
    · subst z
      rw [hP] at e
      exact n _ (Option.some.inj e).symm
    · rw [toL]
      exact PySem.TriplesOk_snoc _ _ _ _ ht
    · rw [toL] at hcv
      rcases among_app _ ht hcv with z | z
      · obtain ⟨c0, e0, h0⟩ := ha p' cv z
        exact ⟨c0, e0, old _ _ h0 fun y => by rw [y, hP] at h0; exact codeO_ne _ (Option.some.inj h0).symm⟩
      · exact ⟨c', z, upd_same⟩
    · rw [upd_ne (Nat.ne_of_gt hlt), upd_ne nfP]
      exact ff
end
section
variable {CX : CXT} {P : Program} {w : World} {K : PySem.W.Frag} {mg : Str → Option Value} {base : Heap} {N ps fr : List Str} {F : NF} {f : Addr} {A : Around} {outer : List Env} {s : Shared} {H : Hp} {E : XK} {us : List Value} {vs : List V} {ws : List (Option V)}
/-- the lambda's body, entered -/
theorem lam_run {k : Nat} {body : Expr} {te : TE} {pm ctv : Value} {Q : VK} (S : NScope N ps fr F.scope) (hb : bindArgs (PySem.W.kla_fn F.name F.qual F.params body F.scope F.cl pm (.ref F.c) ctv) ⟨us, []⟩ = pure (ps.zip us))
    (hr : Room (k + 1) A) (e0 : Env0 P w K mg base A outer s H) (hf : s.heap.get? f = some (PySem.W.kla_obj F.name F.qual F.params body F.scope F.cl pm F.c ctv)) (hc : H F.c = some (CodeO F.c F.qual))
    (C : CellsAt F.cl fr ws s.heap H) (r : Vals vs us) (hl : vs.length = ps.length)
    (hbody : Room k (A.deeper (envF F f s.heap.objs.size)) → PE (ncx CX P w K mg base N F f A outer s H E) body te) (ht : te (startF N vs ws) H Q) :
    codeAny (model P w) A (.call (.ref f) ⟨us, []⟩) (CR CX outer P w H s Q E) s := by
  have lim : s.heap.NoLimit := e0.mod.nolimit.keeps fun b o e => (e0.bs b o e).1
  refine PySem.W.kla_callFunE hr.depth hf rfl S.co S.gen rfl (codeO_at e0.hok hc) ?_
  rw [hb]
  refine wpAny_pure (wpAny_newFunctionEnv S.nocell (fun y hy => S.par y.1 (List.of_mem_zip (a := y.1) (b := y.2) hy).1) (fun h₁ hns hsb => ⟨lim.fresh _ hsb, ?_⟩) S.kind)
  have kp : ∀ b o, s.heap.get? b = some o → h₁.get? b = some o := fun b o e => hsb.extBut b o (Nat.ne_of_lt (Heap.lt_size e)) (Heap.get?_push_of_some _ e)
  have I := inv_startN (CX := CX) (tk := s.toks + (ps.zip us).length) (E := E) (f := f) S hr.hd e0 hl r C hns kp
  refine PySem.W.kla_codeExpr (wpAny_mono ((hbody (hr.deeper _)).run [] _ _ H Q I ht) (fun v s' z => ?_) fun _ _ z => z)
  obtain ⟨x, H', J, rv, q⟩ := z
  exact ⟨x, H', J.os, J.bare, J.base, J.hok, rv, q⟩
end
section
variable {X : Cx} {pins : List (Addr × Obj)} {σ : L2.St} {f S It l : Addr} {fo : Obj} {G : Hp → Prop} {as : List Addr} {kf : Nat → Int}
/-- called with the i-th item the function at f gives kf i, G stays, and what is ours stays -/
def KeyOk (X : Cx) (pins : List (Addr × Obj)) (σ : L2.St) (f : Addr) (fo : Obj) (G : Hp → Prop) (as : List Addr) (kf : Nat → Int) : Prop :=
  ∀ (i : Nat) (a : Addr) (H : Hp) (s : Shared), as[i]? = some a → Inv X pins σ H s → G H → s.heap.get? f = some fo →
    wpAny (model X.prog X.w) X.A.in1 (call (.ref f) [.ref a]) (fun u s' => ∃ t H', u = .int (kf i) t ∧ Inv X pins σ H' s' ∧ G H' ∧ ∀ b o, FpOk X pins H b → s.heap.get? b = some o → FpOk X pins H' b ∧ s'.heap.get? b = some o) (fun _ _ => False) s
def Least (as : List Addr) (kf : Nat → Int) (n i : Nat) : Prop := i < n ∧ ∀ m, m < n → kf i ≤ kf m ∧ (m < i → kf i < kf m)
theorem refs_val {as : List Addr} {its : List Value} (r : Vals (as.map V.ref) its) : its = as.map Value.ref := by
  induction as generalizing its with
  | nil => cases r; rfl
  | cons a l ih =>
    cases r with
    | cons h t =>
      rw [ih t, List.map_cons]
      exact congrArg (· :: _) h
/-- what has been drawn so far: nothing, or the least with its key -/
def Best (as : List Addr) (kf : Nat → Int) (n : Nat) (arr : Array Value) : Prop := (n = 0 ∧ arr = #[]) ∨ ∃ (i : Nat) (a : Addr) (t : Tok), arr = #[.ref a, .int (kf i) t] ∧ as[i]? = some a ∧ Least as kf n i
theorem min_loop {R : Result → Shared → Prop} (hh : X.A.handled = none) (nSI : S ≠ It) (nfS : f ≠ S) (nfI : f ≠ It) (key : KeyOk X pins σ f fo G as kf) (hl : ∀ H, G H → SqL X.K H l (as.map V.ref)) (pos : 0 < as.length)
    (done : ∀ i a H s, as[i]? = some a → Least as kf as.length i → Inv X pins σ H s → G H → R (.ok (.ret (.ref a))) s) :
    ∀ (r n : Nat) (H : Hp) (s : Shared) (arr : Array Value) (c : Nat), as.length - n = r → n ≤ as.length → Inv X pins σ H s → G H → FpOk X pins H f → FpOk X pins H S → FpOk X pins H It → s.heap.get? f = some fo →
      s.heap.get? S = some (seqObj "list" arr c) → s.heap.IsListIter It l n → Best as kf n arr → codeAny (model X.prog X.w) X.A (.builtin "min.loop" ⟨[.ref It, .ref f, .ref S], []⟩) R s := by
  have hname : (toString "min" ++ toString ".loop" : String) = "min.loop" := by decide
  intro r
  induction r with
  | zero =>
    intro n H s arr c hr hn I g ff fS fI hf hS hit hb
    have hn : n = as.length := by omega
    subst hn
    rcases hb with ⟨z, _⟩ | ⟨i, a, t, rfl, ea, hle⟩
    · omega
    obtain ⟨its, rv, pl, _⟩ := I.list (hl H g)
    obtain rfl := refs_val rv
    have nlI : l ≠ It := fun q => by
      obtain ⟨o, e, _, d⟩ := hit
      obtain ⟨o2, e2, _, m, d2⟩ := pl.isList
      rw [q, e] at e2; cases e2
      rw [d] at d2; cases d2
    have W := Walks.list (prog := X.prog) (w := X.w) (A := X.A.in1) hh It l nlI (as.map Value.ref).toArray
    have sz : (as.map Value.ref).toArray.size = as.length := by simp
    refine codeAny_builtin PySem.F.entry_min_loop ?_
    rw [Around.under_plainId PySem.F.plain_min_loop _]
    show wpAny _ X.A.in1 (seqItems? (.ref S) >>= _) _ _ s
    refine wpAny_bind (wpAny_seqItems hS rfl ?_)
    show wpAny _ X.A.in1 (tryCatch (pyNext (.ref It)) _ >>= _) _ _ s
    refine wpAny_bind (wpAny_tryCatch (W.done _ _ _ ⟨by rw [sz]; exact hit, pl.isList⟩ fun h' tk' hk => ?_))
    have I1 := I.turnedL (t' := tk') (ch := [It]) hk (fun b hb => by rw [List.mem_singleton.mp hb]; exact fI)
    have hS1 := hk S _ (by simpa using nSI) hS
    show wpAny _ X.A.in1 (updateSeq S (fun _ => #[]) >>= _) _ _ _
    refine wpAny_bind (wpAny_updateSeq hS1 rfl (wpAny_bind (wpAny_letGo (wpAny_pure ?_))))
    have sb := Heap.SameBut.update h' S (Obj.mapSeq fun _ => (#[] : Array Value))
    exact done i a H _ ea hle (I1.turnedL (t' := tk') (ch := [S]) (fun b o nb e => (sb.2 b (fun z => nb (List.mem_singleton.mpr z))).trans e) (fun b hb => by rw [List.mem_singleton.mp hb]; exact fS)) g
  | succ r ih =>
    intro n H s arr c hr hn I g ff fS fI hf hS hit hb
    have lt : n < as.length := by omega
    obtain ⟨its, rv, pl, _⟩ := I.list (hl H g)
    obtain rfl := refs_val rv
    have nlI : l ≠ It := fun q => by
      obtain ⟨o, e, _, d⟩ := hit
      obtain ⟨o2, e2, _, m, d2⟩ := pl.isList
      rw [q, e] at e2; cases e2
      rw [d] at d2; cases d2
    have W := Walks.list (prog := X.prog) (w := X.w) (A := X.A.in1) hh It l nlI (as.map Value.ref).toArray
    have sz : (as.map Value.ref).toArray.size = as.length := by simp
    obtain ⟨b, hb'⟩ : ∃ b, as[n]? = some b := ⟨_, List.getElem?_eq_getElem lt⟩
    refine codeAny_builtin PySem.F.entry_min_loop ?_
    rw [Around.under_plainId PySem.F.plain_min_loop _]
    show wpAny _ X.A.in1 (seqItems? (.ref S) >>= _) _ _ s
    refine wpAny_bind (wpAny_seqItems hS rfl ?_)
    show wpAny _ X.A.in1 (tryCatch (pyNext (.ref It)) _ >>= _) _ _ s
    refine wpAny_bind (wpAny_tryCatch (W.item n _ _ _ (by rw [sz]; exact lt) ⟨hit, pl.isList⟩ fun v h' tk' hP hst hk => ?_))
    have ev : v = .ref b := by
      have hP : (as.map Value.ref)[n]? = some v := by simpa using hP
      rw [List.getElem?_map, hb'] at hP
      exact (Option.some.inj hP).symm
    subst ev
    have I1 := I.turnedL (t' := tk') (ch := [It]) hk (fun b hb => by rw [List.mem_singleton.mp hb]; exact fI)
    have hS1 := hk S _ (by simpa using nSI) hS
    have hf1 := hk f _ (by simpa using nfI) hf
    obtain ⟨oI, hoI, hoc, hod⟩ := hst.1
    show wpAny _ X.A.in1 (tryCatch (holding [.ref b] (call (.ref f) [.ref b])) _ >>= _) _ _ _
    refine wpAny_bind (wpAny_tryCatch (wpAny_holding (wpAny_mono (key n b H _ hb' I1 g hf1) (fun u s2 z => ?_) fun _ _ z => z.elim)))
    obtain ⟨t2, H2, rfl, I2, g2, ours⟩ := z
    obtain ⟨ff2, hf2⟩ := ours f _ ff hf1
    obtain ⟨fS2, hS2⟩ := ours S _ fS hS1
    obtain ⟨fI2, hI2⟩ := ours It _ fI hoI
    have hI2 : s2.heap.IsListIter It l (n + 1) := ⟨oI, hI2, hoc, hod⟩
    have next : ∀ (h3 : Heap) (tk3 : Nat) (arr' : Array Value) (c' : Nat), (∀ d o, d ∉ [S] → s2.heap.get? d = some o → h3.get? d = some o) → h3.get? S = some (seqObj "list" arr' c') → Best as kf (n + 1) arr' →
        codeAny (model X.prog X.w) X.A (.builtin "min.loop" ⟨[.ref It, .ref f, .ref S], []⟩) R { s2 with heap := h3, toks := tk3 } := fun h3 tk3 arr' c' k3 hS3 hb3 => by
      refine ih (n + 1) H2 _ arr' c' (by omega) lt (I2.turnedL (t' := tk3) (ch := [S]) k3 (fun b hb => by rw [List.mem_singleton.mp hb]; exact fS2)) g2 ff2 fS2 fI2 (k3 f _ (by simpa using nfS) hf2) hS3 ?_ hb3
      obtain ⟨o, e, r⟩ := hI2
      exact ⟨o, k3 It o (by simpa using nSI.symm) e, r⟩
    have wr : ∀ (v : Array Value), ∃ c', (s2.heap.update S (Obj.mapSeq fun _ => v)).get? S = some (seqObj "list" v c') := fun v => ⟨_, get?_update_seq hS2 fun _ => v⟩
    have sb : ∀ (v : Array Value), ∀ d o, d ∉ [S] → s2.heap.get? d = some o → (s2.heap.update S (Obj.mapSeq fun _ => v)).get? d = some o := fun v d o nd e => ((Heap.SameBut.update s2.heap S (Obj.mapSeq fun _ => v)).2 d (fun z => nd (List.mem_singleton.mpr z))).trans e
    rcases hb with ⟨rfl, rfl⟩ | ⟨i, a, t, rfl, ea, hle⟩
    · show wpAny _ X.A.in1 (updateSeq S (fun _ => #[.ref b, .int (kf 0) t2]) >>= _) _ _ _
      refine wpAny_bind (wpAny_updateSeq hS2 rfl ?_)
      rw [hname]
      obtain ⟨c', hc'⟩ := wr #[.ref b, .int (kf 0) t2]
      refine wpAny_pure ⟨plainId_quiet PySem.F.plain_min_loop _, next _ s2.toks _ c' (sb _) hc' (.inr ⟨0, b, t2, rfl, hb', Nat.lt_succ_self _, fun m hm => ?_⟩)⟩
      have : m = 0 := by omega
      subst this
      exact ⟨Int.le_refl _, fun z => absurd z (Nat.lt_irrefl _)⟩
    · show wpAny _ X.A.in1 (tryCatch (holding [.ref b, .int (kf n) t2] (richCompare .Lt (.int (kf n) t2) (.int (kf i) t) >>= _)) _ >>= _) _ _ _
      refine wpAny_bind (wpAny_tryCatch (wpAny_holding (wpAny_bind (CmpOf.ints_lt (prog := X.prog) (w := X.w) (A := X.A.in1) (P := fun i v => ∃ t, v = .int (kf i) t) kf (fun i v h => h) n i _ _ _ _ _ ⟨t2, rfl⟩ ⟨t, rfl⟩ ?_))))
      refine wpAny_bind (wpAny_holding (wpAny_truthy_bool ?_))
      refine wpAny_bind (wpAny_letGo (wpAny_pure ?_))
      by_cases less : kf n < kf i
      · rw [if_pos (show (fun i j => decide (kf i < kf j)) n i = true from decide_eq_true less)]
        show wpAny _ X.A.in1 (updateSeq S (fun _ => #[.ref b, .int (kf n) t2]) >>= _) _ _ _
        refine wpAny_bind (wpAny_updateSeq hS2 rfl (wpAny_bind (wpAny_letGo ?_)))
        rw [hname]
        obtain ⟨c', hc'⟩ := wr #[.ref b, .int (kf n) t2]
        refine wpAny_pure ⟨plainId_quiet PySem.F.plain_min_loop _, next _ s2.toks _ c' (sb _) hc' (.inr ⟨n, b, t2, rfl, hb', Nat.lt_succ_self _, fun m hm => ?_⟩)⟩
        by_cases e : m = n
        · subst e
          exact ⟨Int.le_refl _, fun z => absurd z (Nat.lt_irrefl _)⟩
        · have := (hle.2 m (by omega)).1
          exact ⟨by omega, fun _ => by omega⟩
      · rw [if_neg (show ¬ (fun i j => decide (kf i < kf j)) n i = true from fun z => less (of_decide_eq_true z))]
        refine wpAny_bind (wpAny_letGo ?_)
        rw [hname]
        refine wpAny_pure ⟨plainId_quiet PySem.F.plain_min_loop _, next s2.heap s2.toks _ c (fun _ _ _ e => e) hS2 (.inr ⟨i, a, t, rfl, ea, Nat.lt_succ_of_lt hle.1, fun m hm => ?_⟩)⟩
        by_cases e : m = n
        · subst e
          exact ⟨by omega, fun z => absurd z (by have := hle.1; omega)⟩
        · exact hle.2 m (by omega)
theorem min_key {R : Value → Shared → Prop} {E : Value → Shared → Prop} {H : Hp} {s : Shared} (hh : X.A.handled = none) (I : Inv X pins σ H s) (g : G H) (ff : FpOk X pins H f) (hf : s.heap.get? f = some fo) (key : KeyOk X pins σ f fo G as kf)
    (hl : ∀ H, G H → SqL X.K H l (as.map V.ref)) (pos : 0 < as.length) (done : ∀ i a H s, as[i]? = some a → Least as kf as.length i → Inv X pins σ H s → G H → R (.ref a) s) :
    wpAny (model X.prog X.w) X.A (call (.builtin "min") [.ref l] [(Str.ofString "key", .ref f)]) R E s := by
  have hname : (toString "min" ++ toString ".loop" : String) = "min.loop" := by decide
  obtain ⟨its, rv, pl, _⟩ := I.list (hl H g)
  refine kmk_tree PySem.F.kind_min PySem.F.plain_min PySem.F.entry_min (kmk_min_key _ _) ?_
  show wpAny _ X.A.in1 (Builtin.Builtins.bindParams "min" ["key", "default"] 0 ⟨[], [(Str.ofString "key", .ref f)]⟩ >>= _) _ _ s
  refine wpAny_bind (wpAny_of_eq (a := [some (.ref f), none]) rfl ?_)
  refine wpAny_bind (wpAny_pure (wpAny_bind (wpAny_pyIter_list pl.isList (wpAny_bind (wpAny_newList ?_ (Nat.zero_le _))))))
  rw [hname]
  have zI : (s.heap.push { cls := .type "list_iterator", data := .fields #[.ref l, .int 0 0] }).objs.size = s.heap.objs.size + 1 := Heap.size_push ..
  have I1 : Inv X pins σ H { s with heap := (s.heap.push { cls := .type "list_iterator", data := .fields #[.ref l, .int 0 0] }).push (seqObj "list" #[] 0) } := I.kept (t' := s.toks) fun b o e => Heap.get?_push_of_some _ (Heap.get?_push_of_some _ e)
  have nn : ∀ {m : Nat}, s.heap.objs.size ≤ m → FpOk X pins H m := fun h => I.fpOk h (I.hok.fresh h)
  have fl : f < s.heap.objs.size := Heap.lt_size hf
  have fS := nn (m := s.heap.objs.size + 1) (Nat.le_succ _)
  rw [← zI] at fS
  have lS : f < (s.heap.push { cls := .type "list_iterator", data := .fields #[.ref l, .int 0 0] }).objs.size := by rw [zI]; exact Nat.lt_succ_of_lt fl
  refine wpAny_pure ⟨plainId_quiet PySem.F.plain_min_loop _, min_loop (It := s.heap.objs.size) hh ?_ (lt_ne' lS) (lt_ne' fl) key hl pos done _ 0 H _ #[] 0 rfl (Nat.zero_le _) I1 g ff fS (nn (Nat.le_refl _))
    (Heap.get?_push_of_some _ (Heap.get?_push_of_some _ hf)) (Heap.get?_push_size _ rfl) ⟨_, Heap.get?_push_of_some _ (Heap.get?_push_size _ rfl), rfl, rfl⟩ (.inl ⟨rfl, rfl⟩)⟩
  rw [zI]
  exact Nat.succ_ne_self _
end
/-- min(xs, key=lambda x: ..): the first of the least; Nl: the lambda's names; js: where the captured ones stand here -/
def tMinLam (K : PySem.W.Frag) (P : Addr) (q : Str) (Nl : List Str) (js : List Nat) (te t : TE) : TE := fun σ H Q => t σ H fun x H1 => ∃ (l : Addr) (as : List Addr), x = .ref l ∧ SqL K H1 l (as.map V.ref) ∧ 0 < as.length ∧ TabS H1 P q ∧
  ∀ H2, ExtN H1 H2 → (∀ b, H2 b = none → H1 b = none) → TabS H2 P q → ∃ kf : Nat → Int,
    (∀ i a H', as[i]? = some a → Same H2 H' → te (startF Nl [.ref a] (js.map (slotAt σ))) H' fun z H'' => z = .int (kf i) ∧ Same H' H'') ∧
    ∀ i a H', as[i]? = some a → Least as kf as.length i → Same H2 H' → Q (.ref a) H'
theorem sqL_extN {K : PySem.W.Frag} {H H' : Hp} {a : Addr} {xs : List V} (h : SqL K H a xs) (e : ExtN H H') : SqL K H' a xs := by
  rcases h with (h | ⟨o, h⟩) | h
  · exact .inl (.inl (e _ _ h (fun _ z => by cases z)))
  · exact .inl (.inr ⟨o, e _ _ h (fun _ z => by cases z)⟩)
  · exact .inr h
theorem pe_minlam {X : Cx} {c P : Addr} {q : Str} {k : Nat} {Nl fr : List Str} {y : Str} {js : List Nat} {ys : Expr} {t te : TE} {params : Arguments} {body : Expr} {scope : Scope} {lpos kpos p pos : Pos} (hcalm : X.calm = true) (hg : Gl X "min") (hm : X.mg "min" = none) (hq : q = X.env.qual ++ "<lambda>")
    (TB : TabB X.base X.mg c P) (hcode : X.env.code = .ref c) (hr : Room (k + 2) X.A) (hys : PE X ys t) (hdef : defaultsOf params X.env = ([], [])) (S : NScope Nl [y] fr scope)
    (hfree : ∀ z ∈ scope.names, z.2 = .free → X.env.scope.names.lookup z.1 = some .cell ∨ X.env.scope.names.lookup z.1 = some .free) (hfr : ∀ z ∈ fr, (z, NameKind.free) ∈ scope.names) (hjs : js.map (fun j => X.N[j]?) = fr.map some)
    (hb : ∀ (cl : List (Str × Addr)) (pm cdv ct u : Value), bindArgs (PySem.W.kla_fn "<lambda>" q params body scope cl pm cdv ct) ⟨[u], []⟩ = pure ([y].zip [u]))
    (hbody : ∀ (f c' : Addr) (cl : List (Str × Addr)) (A : Around) (outer : List Env) (s : Shared) (H : Hp), Room k (A.deeper (envF ⟨"<lambda>", q, params, [], scope, cl, c'⟩ f s.heap.objs.size)) →
      PE (ncx CX0 X.prog X.w X.K X.mg X.base Nl ⟨"<lambda>", q, params, [], scope, cl, c'⟩ f A outer s H (fun _ _ _ => False)) body te)
    (hs1 : starEach [ys] X.env = (false, eval ys X.env) :: starEach [] X.env := by rfl) (he : backTo pos (starEach [ys] X.env) = (false, eval ys X.env) :: backTo pos (starEach [] X.env) := by rfl) (hpl : (backTo pos (starEach [ys] X.env)).any (·.1) = false := by rfl)
    (hall : (backToKw pos (keywordEach [⟨some "key", .Lambda params body scope lpos, kpos⟩] X.env)).all (·.1.isSome) = true := by rfl)
    (hnone : (backToKw pos (keywordEach [⟨some "key", .Lambda params body scope lpos, kpos⟩] X.env)).any (·.1.isNone) = false := by rfl) :
    PE X (.Call (.Name "min" p) [ys] [⟨some "key", .Lambda params body scope lpos, kpos⟩] pos) (tMinLam X.K P q Nl js te t) := by
  refine ⟨fun pins s σ H Q I h => ?_⟩
  refine wpAny_Call_Name_kw (ld_blt I hg hm (by decide +kernel : bootBuiltins "min" = some (.builtin "min")) ?_)
  refine PyProof.Rows.callWith_kw (thn ((pa_cons hys pa_nil hs1).run pos pins s σ H (fun vs H1 => match vs with
    | [x] => ∃ (l : Addr) (as : List Addr), x = .ref l ∧ SqL X.K H1 l (as.map V.ref) ∧ 0 < as.length ∧ TabS H1 P q ∧ ∀ H2, ExtN H1 H2 → (∀ b, H2 b = none → H1 b = none) → TabS H2 P q → ∃ kf : Nat → Int,
      (∀ i a H', as[i]? = some a → Same H2 H' → te (startF Nl [.ref a] (js.map (slotAt σ))) H' fun z H'' => z = .int (kf i) ∧ Same H' H'') ∧ ∀ i a H', as[i]? = some a → Least as kf as.length i → Same H2 H' → Q (.ref a) H'
    | _ => False) I h) fun us s1 ⟨vs, H1, I1, r1, q1⟩ => ?_) he hpl hall hnone
  cases r1 with
  | nil => exact q1.elim
  | cons r rr =>
  cases rr with
  | cons _ _ => exact q1.elim
  | nil =>
  obtain ⟨l, as, rfl, hl, hpos, hT, h2⟩ := q1
  cases r
  show wpAny _ _ (evalAll [do let v ← eval (.Lambda params body scope lpos) X.env; standAt pos; pure v]) _ _ s1
  have hf' : ∀ z ∈ scope.names, z.2 = .free → ∃ c, X.env.cells.lookup z.1 = some c := fun z hz e => (hfree z hz e).elim (fun k => I1.ok.has _ (.inl k)) fun k => I1.ok.has _ (.inr k)
  refine wpAny_evalAll_cons (wpAny_bind (lam_new I1 hq TB hcode hT hdef hf' fun f c' pm ctv H2 s2 I2 e2 n2 T2 ff hf hco => wpAny_bind (wpAny_standAt (wpAny_pure (wpAny_evalAll_nil ?_)))))
  obtain ⟨kf, hkey, hdone⟩ := h2 H2 e2 n2 T2
  refine min_key (G := Same H2) (I1.ok.hd hcalm) I2 (Same.refl H2) ff hf (fun i a H3 s3 ha I3 g3 hf3 => ?_) (fun H3 g3 => ?_) hpos (fun i a H3 s3 ha hle I3 g3 => ⟨.ref a, H3, I3, rfl, hdone i a H3 ha hle g3⟩)
  · have e0 : Env0 X.prog X.w X.K X.mg X.base X.A.in1 X.stack s3 H3 := ⟨I3.env0.frames, I3.env0.mod, I3.env0.bs, I3.env0.bsz, I3.env0.funs, I3.env0.frf, I3.env0.hok, I3.env0.bare⟩
    have cp : Caps X (cloFrom X.env.cells scope.names []) fr js := Caps.made I3.ok hfree hfr hjs
    have run := lam_run (CX := CX0) (F := ⟨"<lambda>", q, params, [], scope, cloFrom X.env.cells scope.names [], c'⟩) (E := fun _ _ _ => False) (vs := [.ref a]) S (hb _ pm (.ref c') ctv (.ref a)) hr.in1 e0 hf3 (g3 _ _ hco) (cells_of I3 cp) (.cons rfl .nil) rfl
      (hbody f c' _ _ _ s3 H3) (hkey i a H3 ha g3)
    refine wpAny_call (codeAny_mono run fun r s4 hq => ?_)
    cases r with
    | error e => exact (show False from hq).elim
    | ok fl =>
      cases fl with
      | next => exact False.elim hq
      | brk => exact False.elim hq
      | cont => exact False.elim hq
      | ret u =>
        obtain ⟨v, H4, os, bare, un, hok, rv, rfl, sm⟩ := hq
        obtain ⟨t, rfl⟩ := rv
        refine ⟨t, H4, rfl, I3.call' os un hok bare (fun b z => absurd z (by simp)), g3.trans sm, fun b o fb e => ⟨fp_at fb (un.free b o e fb.1 (by simp)), un.keep b o e fb.1 (stk_out I3 fb) (by simp)⟩⟩
  · exact sqL_extN (sqL_extN hl e2) (ExtN.of g3)
end Wk
end
section
set_option Elab.async false
set_option maxRecDepth 100000
set_option maxHeartbeats 4000000
namespace Wk
open PySem PySem.Spec PyProof.Rows L2 LamX
open PySem.W (WData Codec OpenSpec Well WellAll ReadsW ReadsAllW)
/-! the end of a Spec row where one def's code object has a table that grows -/
/-- a fragment without what stands at P -/
def rm (P : Addr) (K : PySem.W.Frag) : PySem.W.Frag := K.filter fun q => !Nat.beq q.1 P
theorem rm_lookup {P a : Addr} {o : Obj} : ∀ {K : PySem.W.Frag}, (rm P K).lookup a = some o → K.lookup a = some o ∧ a ≠ P
  | [], h => by cases h
  | (b, x) :: K, h => by
    by_cases e : b = P
    · have z : rm P ((b, x) :: K) = rm P K := List.filter_cons_of_neg (by subst e; simp)
      rw [z] at h
      obtain ⟨h1, h2⟩ := rm_lookup h
      refine ⟨?_, h2⟩
      have ne : (a == b) = false := by rw [e]; simpa using h2
      simp only [List.lookup, ne]
      exact h1
    · have z : rm P ((b, x) :: K) = (b, x) :: rm P K := List.filter_cons_of_pos (by
        cases q : Nat.beq b P with
        | false => rfl
        | true => exact absurd (Nat.eq_of_beq_eq_true q) e)
      rw [z] at h
      by_cases ab : a = b
      · subst ab
        have s : (a == a) = true := beq_self_eq_true a
        simp only [List.lookup, s] at h ⊢
        exact ⟨h, e⟩
      · have ne : (a == b) = false := by simpa using ab
        simp only [List.lookup, ne] at h ⊢
        exact rm_lookup h
theorem rm_none {P : Addr} {K : PySem.W.Frag} : (rm P K).lookup P = none := by
  cases e : (rm P K).lookup P with
  | none => rfl
  | some o => exact absurd rfl (rm_lookup e).2
theorem rm_in {P : Addr} {K : PySem.W.Frag} {h : Heap} (x : K.In h) : (rm P K).In h := fun a o e => x a o (rm_lookup e).1
theorem spec_callT {P : Program} {w : World} {K : PySem.W.Frag} {mg mb : Str → Option Value} {CX : CXT} {k : Nat} {fa c tp : Addr} {fd : FuncData} {ps : List Str} {sp : Sp} {s₁ : Shared} {vals : List Value} {ds : List WData} {R : PySem.W.WRecords} {cl : Str → Option Addr} {d0 : WData}
    (KX : K.In s₁.heap) (hns : s₁.heap.Ns mainGlobals mg) (hb : s₁.heap.Ns builtinsNs mb) (hbb : ∀ x : Str, x ≠ "__name__" → mb x = bootBuiltins x) (hlim : s₁.heap.NoLimit) (hg : s₁.gens = #[])
    (hT : s₁.heap.get? tp = some { cls := .none, data := .fields #[] }) (nT : K.lookup tp = none) (C : PySem.W.codeHdIn K c tp = true)
    (hbm : ∃ (bm : Addr) (ob : Obj), mg "__builtins__" = some (.ref bm) ∧ bm ≠ builtinsNs ∧ s₁.heap.get? bm = some ob ∧ ob.cls = .type "module" ∧ ob.dict = some builtinsNs ∧ ob.data = .plain)
    (hwl : WellAll w.params s₁.heap vals ds) (hpl : plWs ds = true) (hwt : ∀ d ∈ ds, d.weight ≤ 1048576) (hr : Room k callerA)
    (F : ∀ base : Heap, K.In base → base.Ns mainGlobals mg → TabB base mg c tp → FnOk P w K mg base CX k fa fd ps sp) (hbind : ∀ (s : Shared) (us : List Value), us.length = ps.length → BindsTo s fd ⟨us, []⟩ (ps.zip us)) (hlen : ds.length = ps.length)
    (hsp : ∀ (H0 H : Hp) (xs : List V), OnlyF H0 → (∀ b u, H0 b = some u → H b = some u) → H tp = some (.tbl #[]) → DwAll K H0 xs ds → sp xs H (fun v H' => Dw K H' v d0) fun _ _ _ => False)
    (hCX : ∀ H e s', CX [] H s₁ (fun _ _ _ => False) e s' → False) :
    codeAny (model P w) callerA (.call (.ref fa) ⟨vals, []⟩) (fun r s' => ∃ u as, r = .ok (.ret u) ∧ ReadsW R cl s'.heap u d0 as ∧ OldK s₁.heap s'.heap ∧ s'.os = s₁.os ∧ AllBare s'.gens) s₁ := by
  obtain ⟨A, ho, ar⟩ := area_all ds vals hwl hpl hwt
  obtain ⟨H0, eH0⟩ : ∃ H0 : Hp, H0 = argH K s₁.heap A := ⟨_, rfl⟩
  have only0 : OnlyF H0 := by rw [eH0]; exact argH_only ar
  have hok0 : HOk P w H0 s₁.heap := by rw [eH0]; exact argH_ok ar
  have data0 : DwAll K H0 (vals.map toV) ds := by rw [eH0]; exact dw_all KX ar ds vals hwl hpl ho
  have off0 : ∀ b u, H0 b = some u → K.lookup b = none := fun b u q => (argH_is ar (by rw [← eH0]; exact q)).1
  have seq0 : ∀ b u, H0 b = some u → ∃ o vs n, s₁.heap.get? b = some o ∧ o.data = .seq vs n := fun b u q => by
    obtain ⟨_, vs, _, _, h⟩ := argH_is ar (show argH K s₁.heap A b = some u by rw [← eH0]; exact q)
    rcases h with ⟨e, _⟩ | ⟨e, _⟩ <;> exact ⟨_, _, _, e, rfl⟩
  have t0 : H0 tp = none := by
    cases q : H0 tp with
    | none => rfl
    | some u =>
      obtain ⟨o, vs, n, e, d⟩ := seq0 _ _ q
      rw [hT] at e
      cases e
      cases d
  obtain ⟨H, eH⟩ : ∃ H : Hp, H = upd H0 tp (.tbl #[]) := ⟨_, rfl⟩
  have atT : H tp = some (.tbl #[]) := by rw [eH]; exact upd_same
  have up : ∀ b u, H0 b = some u → H b = some u := fun b u e => by rw [eH, upd_ne (ne_of_none e t0)]; exact e
  have down : ∀ b u, H b = some u → (b = tp ∧ u = .tbl #[]) ∨ H0 b = some u := fun b u e => by
    by_cases z : b = tp
    · subst z
      rw [atT] at e
      exact .inl ⟨rfl, (Option.some.inj e).symm⟩
    · rw [eH, upd_ne z] at e
      exact .inr e
  have hok : HOk P w H s₁.heap := fun b u e => by
    rcases down b u e with ⟨rfl, rfl⟩ | e
    · exact hT
    · exact (hok0 b u e).stay (fun _ _ _ q => q) (fun d q => up _ _ q) fun d xs q => up _ _ q
  have noH : ∀ {b : Addr} {o : Obj}, s₁.heap.get? b = some o → b ≠ tp → (∀ vs n, o.data ≠ .seq vs n) → H b = none := fun {b o} e n d => by
    cases q : H b with
    | none => rfl
    | some u =>
      rcases down b u q with ⟨z, _⟩ | q
      · exact absurd z n
      · obtain ⟨o', vs, m, e', d'⟩ := seq0 _ _ q
        rw [e] at e'
        cases e'
        exact absurd d' (d vs m)
  have nsT : ∀ {b : Addr} {m : Str → Option Value}, s₁.heap.Ns b m → b ≠ tp := fun {b m} ⟨o, es, ep, e, d, _⟩ z => by
    rw [z, hT] at e
    cases e
    cases d
  have nsK : ∀ {b : Addr} {m : Str → Option Value}, s₁.heap.Ns b m → (hidT s₁.heap H).Ns b m := fun {b m} hn => by
    have nb := nsT hn
    obtain ⟨o, es, ep, e, d, r⟩ := hn
    exact ⟨o, es, ep, hidT_get e (noH e nb fun vs n z => by rw [d] at z; cases z), d, r⟩
  have offK : ∀ b o, K.lookup b = some o → H b = none := fun b o e => by
    cases q : H b with
    | none => rfl
    | some u =>
      rcases down b u q with ⟨rfl, _⟩ | q
      · rw [nT] at e; cases e
      · rw [off0 b u q] at e; cases e
  have hKb : K.In (hidT s₁.heap H) := fun b o e => hidT_get (KX b o e) (offK b o e)
  have hM : Mod K mg (hidT s₁.heap H) := ⟨hKb, nsK hns, ⟨mb, nsK hb, hbb⟩, let ⟨mc, h1, h2⟩ := hlim; ⟨mc, nsK h1, h2⟩⟩
  have e0 : Env0 P w K mg (hidT s₁.heap H) callerA [] s₁ H := ⟨rfl, hM, fun b o e => of_hidT e, Nat.le_of_eq (hidT_size _ _), trivial, fun b hb => absurd (show b ∈ ([] : List Addr) from hb) (by simp), hok, .of_eq hg⟩
  have tb : TabB (hidT s₁.heap H) mg c tp := by
    obtain ⟨bm, ob, b1, b2, b3, b4, b5, b6⟩ := hbm
    have n1 : bm ≠ mainGlobals := fun q => by
      obtain ⟨o, es, ep, e, d, _⟩ := hns
      rw [q, e] at b3
      cases b3
      rw [d] at b6
      cases b6
    have n2 : bm ≠ tp := fun q => by
      rw [q, hT] at b3
      cases b3
      cases b6
    exact NdefX.tabB_of_K hKb C ⟨bm, ob, b1, b2, n1, n2, hidT_get b3 (noH b3 n2 fun vs n z => by rw [b6] at z; cases z), b4, b5, b6⟩ (nsT hns)
  have hl : vals.length = ps.length := by rw [wellAll_len hwl]; exact hlen
  refine codeAny_mono ((F _ hKb (nsK hns) tb).run callerA [] s₁ H ⟨vals, []⟩ vals (vals.map toV) _ _ hr e0 (hbind s₁ vals hl) (vals_toV ho) (hsp H0 H _ only0 up atT data0)) fun r s' x => ?_
  cases r with
  | error e => exact (hCX H e s' x).elim
  | ok fl =>
    cases fl with
    | next => exact False.elim x
    | brk => exact False.elim x
    | cont => exact False.elim x
    | ret u =>
      obtain ⟨v, H', os, bare, un, hok', r', q⟩ := x
      have kept : ∀ b o, b ≠ tp → s₁.heap.get? b = some o → s'.heap.get? b = some o := fun b o nb e => by
        cases q2 : H b with
        | none => exact un.keep b o e q2 (fun z => absurd (show b ∈ ([] : List Addr) from z) (by simp)) (by simp)
        | some u2 =>
          rcases down b u2 q2 with ⟨z, _⟩ | q3
          · exact absurd z nb
          · rcases only0 b with z | ⟨ob, u3, z⟩
            · rw [q3] at z; cases z
            · obtain ⟨e1, _⟩ := hok0 b _ z
              obtain ⟨e2, _⟩ := hok' b _ (un.frzs b ob _ (up _ _ z))
              rw [e] at e1
              cases e1
              exact e2
      obtain ⟨more, grown⟩ := un.tbls tp #[] atT
      have gT : s'.heap.get? tp = some { cls := .none, data := .fields (#[] ++ more) } := hok' tp _ grown
      have KX' : K.In s'.heap := fun b o e => kept b o (fun z => by rw [z, nT] at e; cases e) (KX b o e)
      obtain ⟨as, hrd⟩ := Dw.reads (R := R) (cl := cl) hok' KX' d0 v u q r'
      refine ⟨u, as, rfl, hrd, ⟨fun b o e => ?_, fun b o e => ?_⟩, os, bare⟩
      · by_cases hb : b = tp
        · subst hb
          rw [hT] at e
          cases e
          exact .inr (.inl ⟨((PySem.W.codeHd_of_K KX C).tab hT).isCodeTable, rfl, #[], more, rfl, gT⟩)
        · exact .inl (kept b o hb e)
      · by_cases hb : b = tp
        · subst hb
          exact ⟨_, gT⟩
        · exact ⟨o, kept b o hb e⟩
theorem walk_specT {r : OpenSpec} {k : Nat} {q : Program} {loose : List Str} {XP : (Str → Option Value) → Heap → Prop} {YP : World → Heap → Prop} {d : DefRec} {K : Params → PySem.W.Frag} {c tp : Addr} {CX : CXT} {ps : List Str} {sp : PySem.W.Frag → Sp}
    (hwell : r.wellSaid = true) (hdf : d.params.defaults = []) (hlen : r.args.length = ps.length) (hr : Room k callerA)
    (hY : ∀ (w : World) (h : Heap), YP w h → (K w.params).In h ∧ h.get? tp = some { cls := .none, data := .fields #[] }) (nT : ∀ p, (K p).lookup tp = none) (C : ∀ p, PySem.W.codeHdIn (K p) c tp = true)
    (F : ∀ (w : World) (mg : Str → Option Value) (fa : Addr) (h : Heap), YP w h → (K w.params).In h → h.Ns mainGlobals mg → mg d.name = some (.ref fa) →
      ∃ fd : FuncData, (∀ (s : Shared) (us : List Value), us.length = ps.length → BindsTo s fd ⟨us, []⟩ (ps.zip us)) ∧
        ∀ base : Heap, (K w.params).In base → base.Ns mainGlobals mg → TabB base mg c tp → FnOk r.prog w (K w.params) mg base CX k fa fd ps (sp (K w.params)))
    (hsp : ∀ (K : PySem.W.Frag) (H0 H : Hp) (xs : List V) (a : Codec.denoteAll r.args), OnlyF H0 → (∀ b u, H0 b = some u → H b = some u) → H tp = some (.tbl #[]) → Codec.withinAll r.args a = true → Codec.app r.args r.asked a = true →
      DwAll K H0 xs (Codec.encAll r.args a) → sp K xs H (fun v H' => Dw K H' v (r.ret.enc (Codec.app r.args r.f a))) fun _ _ _ => False)
    (hCX : ∀ (H : Hp) (s : Shared) (e : Value) (s' : Shared), CX [] H s (fun _ _ _ => False) e s' → False) :
    PySem.W.WalkOS q loose XP YP r d [] (fun f vs => PySem.call f vs) := by
  intro w s₀ s₁ mg mb G Y fa o pm cd doc dV kV ho hd hcd hD hmg hg args vals as hpre hlay hrd hwl hlo
  obtain ⟨a, e1, e2⟩ := PySem.W.os_pre_some hpre
  obtain ⟨rfl, hwi⟩ := Codec.encAll_of_decAll r.args args a e1
  obtain ⟨KX, hT⟩ := hY w _ Y
  obtain ⟨fd, hb, hF⟩ := F w mg fa _ Y KX G.T.g hmg
  refine PySem.W.enter_call (codeAny_mono (spec_callT (R := []) (cl := classAt s₀.heap) (d0 := r.ret.enc (Codec.app r.args r.f a)) KX G.T.g G.T.b G.T.builtins G.T.nolimit hg hT (nT _) (C _) G.T.bmain hwl (pl_encAll _ _) (layable_weight hlay) hr hF hb
    (by rw [encAll_len]; exact hlen) (fun H0 H xs x1 x2 x3 x4 => hsp _ H0 H xs a x1 x2 x3 hwi e2 x4) fun H e s' => hCX H s₁ e s') fun r' s' hq => ?_)
  obtain ⟨u, as', rfl, h1, h2, h3, h4⟩ := hq
  exact ⟨.inl ⟨u, _, as', rfl, fun _ => rfl, h1, (OpenSpec.post_iff hwell hwi _ _).mpr rfl, fun z => Bool.noConfusion (show false = true from z)⟩, h2, h3, h4⟩
end Wk
end
section
set_option Elab.async false
set_option maxRecDepth 100000
set_option maxHeartbeats 4000000
namespace Wk
open PySem PySem.Spec PyProof.Rows L2
open Oc (C)
def spHead (K : PySem.W.Frag) : Sp := fun vs H Q _ => ∃ (a : Addr) (l : List Nat) (i : Nat), vs = [.ref a, .int i] ∧ Nums K H a l ∧ Q (.int (hl (l.drop i))) H
/-- where the concept that begins at i ends -/
def endV (l : List Nat) (i : Nat) : V := match rd (l.drop i) with
  | none => .non
  | some x => .int ((l.length - x.2.length : Nat) : Int)
def spEnd (K : PySem.W.Frag) : Sp := fun vs H Q _ => ∃ (a : Addr) (l : List Nat) (i : Nat), vs = [.ref a, .int i] ∧ Nums K H a l ∧ i ≤ l.length ∧ Q (endV l i) H
/-- two concepts as a pair of tuples -/
def PairAt (H : Hp) (r : Addr) (x : C × C) : Prop := ∃ p q, H r = some (.tup [.ref p, .ref q]) ∧ TupN H p (enc x.1) ∧ TupN H q (enc x.2)
theorem PairAt.same {H H' : Hp} {r : Addr} {x : C × C} (h : PairAt H r x) (e : Same H H') : PairAt H' r x := by
  obtain ⟨p, q, h1, h2, h3⟩ := h
  exact ⟨p, q, e _ _ h1, e _ _ h2, e _ _ h3⟩
def spTwo (K : PySem.W.Frag) (D : Dt) : Sp := fun vs H Q E => ∃ (a : Addr) (l : List Nat), vs = [.ref a] ∧ SqL K H a (iv l) ∧
  (Oc.two l = none → E (.ref D.e_WrongNumbers) none H) ∧ (∀ x, Oc.two l = some x → ∀ H' r, Same H H' → PairAt H' r x → Q (.ref r) H')
def spFol : Sp := fun vs H Q _ => ∃ (a : Addr) (c : C), vs = [.ref a] ∧ TupN H a (enc c) ∧ Fine c ∧ (enc c).length ≤ 1000 ∧ ∀ H' p, Same H H' → H p = none → LstC H' p (kids c) → Q (.ref p) H'
def spParts : Sp := fun vs H Q _ => ∃ (a : Addr) (c : C), vs = [.ref a] ∧ TupN H a (enc c) ∧ Fine c ∧ (enc c).length ≤ 1000 ∧ ∀ H' p, Same H H' → H p = none → LstC H' p (subs c) → Q (.ref p) H'
def spAtoms : Sp := fun vs H Q _ => ∃ (a : Addr) (cs : List C), vs = [.ref a] ∧ LstC H a cs ∧ (∀ c ∈ cs, Fine c ∧ (enc c).length ≤ 1000) ∧ cs.length ≤ 1000 ∧ ∀ H' p, Same H H' → H p = none → LstC H' p (Oc.atomsOf cs) → Q (.ref p) H'
section
variable {P : Program} {w : World} {K : PySem.W.Frag} {mg : Str → Option Value} {base : Heap} {D : Dt}
theorem ok_head_length (T : Tx K mg D) : FnOk P w K mg base CX0 1 D.f_head_length D.d_head_length ["numbers", "place"] (spHead K) := by
  refine T.F_head_length.ok sc_head_length (fun vs H Q E h => ?_) (fun cdv A outer s H vs Q E hr h => ?_)
  · obtain ⟨a, l, i, rfl, _⟩ := h
    rfl
  · obtain ⟨a, l, i, rfl, hn, k⟩ := h
    refine ⟨_, (pss_cons (ps_if (PW.pt (pw_or (pt_cmpR op_ge (pv 1) (pe_len (by rfl) T.b_len (pv 0)) (nomark _)) (pw_or1 (pt_cmpR op_ge (pe_ix ix_seq (pv 0) (pv 1) (fun _ _ => rfl)) (pe_len (by rfl) T.b_len (pe_glob (v := .ref D.t_CHOICES) rfl T.m_CHOICES rfl)) (nomark _)))))
      (pss_one (ps_ret (pe_int)))
      (pss_nil))
      (pss_cons (ps_set (i := 2) sc_head_length.nd rfl (.inl rfl) (pe_ix ix_seq (pe_glob (v := .ref D.t_CHOICES) rfl T.m_CHOICES rfl) (pe_ix ix_seq (pv 0) (pv 1) (fun _ _ => rfl)) (fun _ _ => rfl)))
      (pss_cons (ps_if (pt_cmpR op_eq (pv 2) (pe_int) (nomark _))
      (pss_one (ps_ret (pe_int)))
      (pss_nil))
      (pss_cons (ps_if (PW.pt (pw_or (pt_cmpR op_ge (pe_op op_add (pv 1) (pe_int)) (pe_len (by rfl) T.b_len (pv 0)) (nomark _)) (pw_or1 (pt_cmpR op_ge (pe_ix ix_seq (pv 0) (pe_op op_add (pv 1) (pe_int)) (fun _ _ => rfl)) (pv 2) (nomark _)))))
      (pss_one (ps_ret (pe_int)))
      (pss_nil))
      (pss_one (ps_ret (pe_int))))))), ?_⟩
    refine ⟨_, rfl, _, rfl, r_len hn ?_⟩
    refine ⟨_, _, rfl, rfl, _, rfl, ?_⟩
    by_cases c1 : l.length ≤ i
    · refine if_true_of (by simpa using c1) ?_
      have e : l.drop i = [] := List.drop_eq_nil_iff.mpr c1
      rw [e] at k
      exact iteT k
    · refine if_false_of (by simpa using c1) ?_
      obtain ⟨n, en⟩ : ∃ n, l[i]? = some n := ⟨_, List.getElem?_eq_getElem (by omega)⟩
      rw [drop_at en] at k
      refine ⟨_, rfl, _, rfl, r_ix hn en ?_⟩
      refine r_len (.inr (T.q_CHOICES.sq H)) ?_
      refine ⟨_, _, rfl, rfl, _, rfl, ?_⟩
      by_cases c2 : 8 ≤ n
      · refine if_true_of (by simp; omega) ?_
        have e : hl (n :: l.drop (i + 1)) = 0 := by rw [hl_cons, if_pos c2]
        rw [e] at k
        exact k
      · refine if_false_of (by simp; omega) ?_
        rw [hl_cons, if_neg c2] at k
        have hg : ([0, 0, 4, 0, 0, 0, 2, 2] : List Nat)[n]? = some (([0, 0, 4, 0, 0, 0, 2, 2] : List Nat).getD n 0) := getD_at (by simp; omega)
        refine ⟨_, rfl, _, rfl, r_ix hn en (r_ix (.inr (T.q_CHOICES.sq H)) hg ?_)⟩
        refine ⟨_, rfl, rfl, _, rfl, ?_⟩
        generalize ([0, 0, 4, 0, 0, 0, 2, 2] : List Nat).getD n 0 = c at k ⊢
        by_cases c3 : c = 0
        · refine if_true_of (by simp [c3]) ?_
          rw [if_pos c3] at k
          exact k
        · refine if_false_of (by simp [c3]) ?_
          rw [if_neg c3] at k
          refine ⟨_, rfl, _, _, rfl, rfl, _, rfl, r_len hn ?_⟩
          refine ⟨_, _, rfl, rfl, _, rfl, ?_⟩
          by_cases c4 : l.length ≤ i + 1
          · refine if_true_of (by simp; omega) ?_
            have e : l.drop (i + 1) = [] := List.drop_eq_nil_iff.mpr c4
            rw [e] at k
            exact iteT k
          · refine if_false_of (by simp; omega) ?_
            obtain ⟨m, em⟩ : ∃ m, l[i + 1]? = some m := ⟨_, List.getElem?_eq_getElem (by omega)⟩
            rw [drop_at em] at k
            refine ⟨_, rfl, _, rfl, _, _, rfl, rfl, r_ix hn em ?_⟩
            refine ⟨_, rfl, _, _, rfl, rfl, _, rfl, ?_⟩
            by_cases c5 : c ≤ m
            · refine if_true_of (by simpa using c5) ?_
              simp only [if_pos c5] at k
              exact k
            · refine if_false_of (by simpa using c5) ?_
              simp only [if_neg c5] at k
              exact k
theorem ok_end_of (T : Tx K mg D) : FnOk P w K mg base CX0 2 D.f_end_of D.d_end_of ["numbers", "start"] (spEnd K) := by
  refine T.F_end_of.ok sc_end_of (fun vs H Q E h => ?_) (fun cdv A outer s H vs Q E hr h => ?_)
  · obtain ⟨a, l, i, rfl, _⟩ := h
    rfl
  · obtain ⟨a, l, i, rfl, hn, hi, k⟩ := h
    refine ⟨_, (pss_cons (ps_set (i := 2) sc_end_of.nd rfl (.inl rfl) (pv 1))
      (pss_cons (ps_set (i := 3) sc_end_of.nd rfl (.inl rfl) (pe_int))
      (pss_cons (ps_while PassesOwn.never (pt_cmpR op_gt (pv 3) (pe_int) (nomark _))
      (pss_cons (ps_set (i := 4) sc_end_of.nd rfl (.inl rfl) (pe_call (ok_head_length T) (hr.mono (by decide)) (by rfl) T.m_head_length T.F_head_length.kp T.b_head_length .nil pass0 (pa_cons (pv 0) (pa_cons (pv 2) pa_nil))))
      (pss_cons (ps_if (pt_cmpR op_eq (pv 4) (pe_int) (nomark _))
      (pss_one (ps_ret (pe_non)))
      (pss_nil))
      (pss_cons (ps_aug (i := 3) sc_end_of.nd rfl (.inl rfl) (pe_op op_sub (pe_ix ix_seq (pe_glob (v := .ref D.t_FOLLOWERS) rfl T.m_FOLLOWERS rfl) (pe_ix ix_seq (pv 0) (pv 2) (fun _ _ => rfl)) (fun _ _ => rfl)) (pe_int)) ip_add)
      (pss_one (ps_aug (i := 2) sc_end_of.nd rfl (.inl rfl) (pv 4) ip_add))))))
      (pss_one (ps_ret (pv 2)))))), ?_⟩
    refine ⟨_, rfl, ?_⟩
    refine ⟨fun t σ H' => H' = H ∧ ∃ (p m : Nat) (v : Option V), σ = [some (.ref a), some (.int i), some (.int p), some (.int m), v] ∧ p ≤ l.length ∧ many m (l.drop p) = many 1 (l.drop i) ∧ t = l.length - p, ⟨_, rfl, i, 1, none, rfl, hi, rfl, rfl⟩, ?_⟩
    rintro t σ H' ⟨rfl, p, m, v, rfl, hp, hm, rfl⟩
    refine ⟨_, rfl, _, _, rfl, rfl, _, rfl, ?_⟩
    by_cases c1 : 0 < m
    · refine if_true_of (by simpa using c1) ?_
      refine wN ?_
      refine ⟨_, rfl, _, rfl, a, l, p, rfl, hn, ?_⟩
      refine ⟨_, rfl, rfl, _, rfl, ?_⟩
      obtain ⟨m, rfl⟩ : ∃ n, m = n + 1 := ⟨m - 1, by omega⟩
      by_cases c2 : hl (l.drop p) = 0
      · refine if_true_of (by simpa using c2) ?_
        rw [many_zero m c2, many_one] at hm
        have e : endV l i = .non := by
          unfold endV
          cases z : rd (l.drop i) with
          | none => rfl
          | some x => rw [z] at hm; cases hm
        rw [e] at k
        exact k
      · refine if_false_of (by simpa using c2) ?_
        rw [many_step m c2] at hm
        have lt : p < l.length := by
          rcases Nat.lt_or_ge p l.length with z | z
          · exact z
          · rw [List.drop_eq_nil_iff.mpr z] at c2; exact absurd rfl c2
        obtain ⟨n, en⟩ : ∃ n, l[p]? = some n := ⟨_, List.getElem?_eq_getElem lt⟩
        have en8 : n < 8 := by
          rw [drop_at en, hl_cons] at c2
          by_cases z : 8 ≤ n
          · rw [if_pos z] at c2; exact absurd rfl c2
          · omega
        have hg : ([0, 0, 0, 2, 2, 1, 1, 1] : List Nat)[n]? = some (fol n) := getD_at (by simp; omega)
        have hle := hl_le (l.drop p)
        rw [List.length_drop] at hle
        refine ⟨_, rfl, _, rfl, _, rfl, r_ix hn en (r_ix (.inr (T.q_FOLLOWERS.sq _)) hg ?_)⟩
        refine ⟨_, _, rfl, rfl, _, _, rfl, rfl, ?_⟩
        refine ⟨_, rfl, _, rfl, _, _, rfl, rfl, ?_⟩
        refine ⟨l.length - (p + hl (l.drop p)), by omega, rfl, p + hl (l.drop p), m + fol n, some (.int (hl (l.drop p) : Nat)), ?_, by omega, ?_, rfl⟩
        · have e1 : ((m + 1 : Nat) : Int) + ((fol n : Int) - 1) = ((m + fol n : Nat) : Int) := by omega
          have e2 : (p : Int) + (hl (l.drop p) : Int) = ((p + hl (l.drop p) : Nat) : Int) := by omega
          rw [← e1, ← e2]
          rfl
        · rw [← hm, List.drop_drop, drop_at en]
          rfl
    · refine if_false_of (by simpa using c1) ?_
      have z : m = 0 := by omega
      subst z
      rw [many_one] at hm
      have e : endV l i = .int p := by
        unfold endV
        cases z : rd (l.drop i) with
        | none => rw [z] at hm; cases hm
        | some x =>
          rw [z] at hm
          have e2 : l.drop p = x.2 := Option.some.inj hm
          show V.int _ = _
          rw [← e2, List.length_drop]
          congr 2
          omega
      rw [e] at k
      exact ⟨_, rfl, k⟩
theorem endV_some {l : List Nat} {i : Nat} {c : C} {r : List Nat} (h : rd (l.drop i) = some (c, r)) : endV l i = .int ((i + (enc c).length : Nat) : Int) ∧ i + (enc c).length ≤ l.length ∧ l.drop (i + (enc c).length) = r := by
  obtain ⟨e, f⟩ := rd_some h
  have len := congrArg List.length e
  rw [List.length_drop, List.length_append] at len
  have pos := enc_pos c
  have e2 : l.drop (i + (enc c).length) = r := by rw [← List.drop_drop, e, List.drop_left]
  refine ⟨?_, by omega, e2⟩
  unfold endV
  rw [h]
  show V.int ((l.length - r.length : Nat) : Int) = _
  congr 2
  omega
theorem endV_none {l : List Nat} {i : Nat} (h : rd (l.drop i) = none) : endV l i = .non := by
  unfold endV
  rw [h]
theorem two_eq (l : List Nat) : Oc.two l = match rd l with
  | none => none
  | some x => match rd x.2 with
    | none => none
    | some y => if y.2 = [] then some (x.1, y.1) else none := by
  show (match rd l with | some (c, r) => (Oc.concept r).map fun d => (c, d) | none => none) = _
  cases rd l with
  | none => rfl
  | some x =>
    show (match rd x.2 with | some (c, []) => some c | _ => none).map _ = match rd x.2 with | none => none | some y => if y.2 = [] then some (x.1, y.1) else none
    cases rd x.2 with
    | none => rfl
    | some y =>
      obtain ⟨c, r⟩ := y
      cases r with
      | nil => rfl
      | cons a r => rfl
theorem ok_two_concepts (T : Tx K mg D) : FnOk P w K mg base (L2.CX P w) 3 D.f_two_concepts D.d_two_concepts ["numbers"] (spTwo K D) := by
  refine T.F_two_concepts.okX sc_two_concepts (fun vs H Q E h => ?_) (fun cdv A outer s H vs Q E hr h => ?_)
  · obtain ⟨a, l, rfl, _⟩ := h
    rfl
  · obtain ⟨a, l, rfl, hs, kN, kS⟩ := h
    have hn : Nums K H a l := .inl hs
    refine ⟨_, (pss_cons (ps_set (i := 1) sc_two_concepts.nd rfl (.inl rfl) (pe_call (ok_end_of T) (hr.mono (by decide)) (by rfl) T.m_end_of T.F_end_of.kp T.b_end_of .nil pass0 (pa_cons (pv 0) (pa_cons (pe_int) pa_nil))))
      (pss_cons (ps_if (PW.pt (pw_or (pt_cmpR op_isN (pv 1) pe_non (nomark _)) (pw_or1 (pt_cmpR op_ne (pe_call (ok_end_of T) (hr.mono (by decide)) (by rfl) T.m_end_of T.F_end_of.kp T.b_end_of .nil pass0 (pa_cons (pv 0) (pa_cons (pv 1) pa_nil))) (pe_len (by rfl) T.b_len (pv 0)) (nomark _)))))
      (pss_one (ps_raise rfl (takes_of rfl rfl rfl rfl) (pmk_own PySem.F.excBase_Exception T.x_WrongNumbers T.m_WrongNumbers T.k_WrongNumbers (raises_own T.s_WrongNumbers T.y_WrongNumbers) (by exact rfl))))
      (pss_nil))
      (pss_one (ps_ret (pe_tup (pa_cons (pe_callTy call_tuple_of (by rfl) T.b_tuple (by decide +kernel) (pa_cons (pe_slice sl_list (pv 0) po_none (po_some (pv 1))) pa_nil)) (pa_cons (pe_callTy call_tuple_of (by rfl) T.b_tuple (by decide +kernel) (pa_cons (pe_slice sl_list (pv 0) (po_some (pv 1)) po_none) pa_nil)) pa_nil))))))), ?_⟩
    refine ⟨_, rfl, a, l, 0, rfl, hn, Nat.zero_le _, ?_⟩
    rw [two_eq] at kN
    have kS' := kS
    simp only [two_eq] at kS
    cases e1 : rd l with
    | none =>
      rw [endV_none (i := 0) e1]
      refine ⟨_, rfl, rfl, _, rfl, ?_⟩
      refine if_true_of (by decide) (iteT ?_)
      rw [e1] at kN
      exact kN rfl
    | some x =>
      obtain ⟨c, r⟩ := x
      obtain ⟨z1, z2, z3⟩ := endV_some (i := 0) e1
      rw [Nat.zero_add] at z1 z2 z3
      rw [z1]
      refine ⟨_, rfl, rfl, _, rfl, ?_⟩
      refine if_false_of (by simp) ?_
      refine ⟨_, rfl, _, rfl, a, l, _, rfl, hn, z2, ?_⟩
      refine ⟨_, rfl, r_len hn ?_⟩
      cases e2 : rd r with
      | none =>
        rw [endV_none (by rw [z3]; exact e2)]
        refine ⟨rfl, _, rfl, ?_⟩
        refine if_true_of (by simp) ?_
        simp only [e1, e2] at kN
        exact kN trivial
      | some y =>
        obtain ⟨d, r2⟩ := y
        obtain ⟨y1, y2, y3⟩ := endV_some (l := l) (i := (enc c).length) (by rw [z3]; exact e2)
        rw [y1]
        refine ⟨rfl, _, rfl, ?_⟩
        simp only [e1, e2] at kN kS
        obtain ⟨q1, f1⟩ := rd_some e1
        obtain ⟨q2, f2⟩ := rd_some e2
        by_cases c1 : r2 = []
        · subst c1
          rw [List.drop_eq_nil_iff] at y3
          have e3 : (enc c).length + (enc d).length = l.length := by omega
          refine if_false_of (by simp [e3]) ?_
          rw [List.append_nil] at q2
          subst q2
          refine ⟨_, rfl, _, rfl, _, rfl, a, iv l, rfl, hs, fun s1 n1 => ?_⟩
          refine ⟨s1, _, rfl, .inl ⟨SqL.of upd_same, fun p n2 => ?_⟩⟩
          have sm1 : Same H (upd H s1 (.lst (cutV (iv l) none (some ((enc c).length : Nat))))) := Same.new n1
          have sm2 := Same.new (o := .tup (cutV (iv l) none (some ((enc c).length : Nat)))) n2
          refine ⟨_, rfl, _, rfl, _, rfl, a, iv l, rfl, sm2.seq (sm1.seq hs), fun s2 n3 => ?_⟩
          refine ⟨s2, _, rfl, .inl ⟨SqL.of upd_same, fun q n4 => ?_⟩⟩
          refine ⟨by show 2 ≤ sizeLine; decide, fun t n5 => ?_⟩
          have sm3 := Same.new (o := .lst (cutV (iv l) (some ((enc c).length : Nat)) none)) n3
          have sm4 := Same.new (o := .tup (cutV (iv l) (some ((enc c).length : Nat)) none)) n4
          have sm5 := Same.new (o := .tup [.ref p, .ref q]) n5
          refine kS (c, d) (by simp) _ t ((((sm1.trans sm2).trans sm3).trans sm4).trans sm5) ⟨p, q, upd_same, ?_, ?_⟩
          · refine sm5 _ _ (sm4 _ _ (sm3 _ _ ?_))
            rw [upd_same]
            unfold cutV
            rw [HT.sIx_none, HT.sIx_nat, iv_len, Nat.min_eq_left (by omega), List.drop_zero, iv_take, q1, Nat.sub_zero, List.take_left]
          · refine sm5 _ _ ?_
            rw [upd_same]
            unfold cutV
            rw [HT.sIx_none, HT.sIx_nat, iv_len, Nat.min_eq_left (by omega), iv_drop, iv_take, q1, List.drop_left, List.length_append]
            congr 3
            exact List.take_of_length_le (by omega)
        · refine if_true_of ?_ ?_
          · have : 0 < (l.drop ((enc c).length + (enc d).length)).length := by rw [y3]; exact List.length_pos_iff.mpr c1
            rw [List.length_drop] at this
            simp
            omega
          · rw [if_neg c1] at kN
            exact kN rfl
/-- where the parts that are still to come begin -/
def posOf (c : C) (done : List C) : Nat := (hd c).length + (done.flatMap enc).length
theorem enc_at {c : C} {done rest : List C} (h : kids c = done ++ rest) : (enc c).drop (posOf c done) = rest.flatMap enc ∧ posOf c done + (rest.flatMap enc).length = (enc c).length := by
  have e : enc c = (hd c ++ done.flatMap enc) ++ rest.flatMap enc := by rw [enc_hd, h, List.flatMap_append, List.append_assoc]
  refine ⟨?_, ?_⟩
  · rw [e]
    exact List.drop_left' (by rw [List.length_append]; rfl)
  · rw [e, List.length_append, List.length_append]
    rfl
theorem ok_followers_of (T : Tx K mg D) : FnOk P w K mg base CX0 3 D.f_followers_of D.d_followers_of ["concept"] spFol := by
  have hd1 := fun (c : C) => hd_pos c
  refine T.F_followers_of.ok sc_followers_of (fun vs H Q E h => ?_) (fun cdv A outer s H vs Q E hr h => ?_)
  · obtain ⟨a, c, rfl, _⟩ := h
    rfl
  · obtain ⟨a, c, rfl, ha, fc, hl0, k⟩ := h
    refine ⟨_, (pss_cons (ps_set (i := 1) sc_followers_of.nd rfl (.inl rfl) (pe_lst (pa_nil)))
      (pss_cons (ps_set (i := 2) sc_followers_of.nd rfl (.inl rfl) (pe_call (ok_head_length T) (hr.mono (by decide)) (by rfl) T.m_head_length T.F_head_length.kp T.b_head_length .nil pass0 (pa_cons (pv 0) (pa_cons (pe_int) pa_nil))))
      (pss_cons (ps_while PassesOwn.never (pt_cmpR op_lt (pv 2) (pe_len (by rfl) T.b_len (pv 0)) (nomark _))
      (pss_cons (ps_set (i := 3) sc_followers_of.nd rfl (.inl rfl) (pe_call (ok_end_of T) (hr.mono (by decide)) (by rfl) T.m_end_of T.F_end_of.kp T.b_end_of .nil pass0 (pa_cons (pv 0) (pa_cons (pv 2) pa_nil))))
      (pss_cons (ps_expr (pe_bm PySem.F.plainAttrs_list PySem.F.slot_list_append PySem.F.type_list_append mt_append (pv 1) (pa_cons (pe_slice sl_tupA (pv 0) (po_some (pv 2)) (po_some (pv 3))) pa_nil)))
      (pss_one (ps_set (i := 2) sc_followers_of.nd rfl (.inl rfl) (pv 3))))))
      (pss_one (ps_ret (pv 1)))))), ?_⟩
    refine ⟨by show 0 ≤ sizeLine; decide, fun p np => ?_⟩
    have s0 := Same.new (o := .lst []) np
    refine ⟨_, rfl, a, enc c, 0, rfl, TupN.nums (s0 _ _ ha), ?_⟩
    have e0 : hl ((enc c).drop 0) = (hd c).length := by have := hl_enc fc []; rwa [List.append_nil] at this
    rw [e0]
    refine ⟨fun t σ H' => ∃ (done rest : List C) (as : List Addr) (v : Option V), kids c = done ++ rest ∧ σ = [some (.ref a), some (.ref p), some (.int (posOf c done : Nat)), v] ∧ Same H H' ∧ H' p = some (.lst (as.map V.ref)) ∧ Cons H' as done ∧ t = rest.length,
      ⟨_, [], kids c, [], none, rfl, rfl, s0, upd_same, .nil, rfl⟩, ?_⟩
    rintro t σ H' ⟨done, rest, as, v, hk, rfl, s1, hp, hc, rfl⟩
    obtain ⟨e1, e2⟩ := enc_at hk
    have ha1 := s1 _ _ ha
    refine ⟨_, rfl, _, rfl, r_len (TupN.nums ha1) ?_⟩
    refine ⟨_, _, rfl, rfl, _, rfl, ?_⟩
    cases rest with
    | nil =>
      simp at e2
      refine if_false_of (by simp; omega) ?_
      rw [List.append_nil] at hk
      exact ⟨_, rfl, k H' p s1 np ⟨as, hp, hk ▸ hc⟩⟩
    | cons d rest =>
      rw [List.flatMap_cons] at e1 e2
      rw [List.length_append] at e2
      have pd := enc_pos d
      refine if_true_of (by simp; omega) ?_
      refine wN ?_
      have fd : Fine d := fine_kids fc d (by rw [hk]; simp)
      obtain ⟨z1, z2, z3⟩ := endV_some (l := enc c) (i := posOf c done) (by rw [e1]; exact rd_enc fd _)
      refine ⟨_, rfl, _, rfl, a, enc c, posOf c done, rfl, TupN.nums ha1, by omega, ?_⟩
      rw [z1]
      refine ⟨_, rfl, .inl ⟨rfl, _, SqL.of hp⟩, _, rfl, _, rfl, _, rfl, _, rfl, _, rfl, r_sl ha1 (Nat.le_add_right _ _) z2 fun q H2 s2 hq => ?_⟩
      have hlen : as.length = done.length := hc.length
      have kl : (kids c).length ≤ 2 := by cases c <;> simp [kids]
      rw [hk, List.length_append] at kl
      refine ⟨p, _, _, rfl, rfl, s2 _ _ hp, by rw [List.length_map]; exact Nat.lt_of_lt_of_le (show as.length < 3 by omega) (by decide), ?_⟩
      refine ⟨_, rfl, ?_⟩
      have q0 : TupN H2 q (enc d) := by
        unfold TupN at hq ⊢
        rw [hq, e1, Nat.add_sub_cancel_left, List.take_left]
      have s3 : Same H (upd H2 p (.lst (as.map V.ref ++ [.ref q]))) := Same.mut (s1.trans s2) np
      have npq : q ≠ p := ne_of q0 (s2 _ _ hp) (by intro z; cases z)
      have keep : ∀ b l, TupN H2 b l → TupN (upd H2 p (.lst (as.map V.ref ++ [.ref q]))) b l := fun b l hb => by
        unfold TupN at hb ⊢
        rw [upd_ne (ne_of hb (s2 _ _ hp) (by intro z; cases z))]
        exact hb
      refine ⟨rest.length, by simp, done ++ [d], rest, as ++ [q], some (.int ((posOf c done + (enc d).length : Nat) : Int)), by rw [hk]; simp, ?_, s3, ?_, ?_, rfl⟩
      · have e3 : posOf c (done ++ [d]) = posOf c done + (enc d).length := by
          unfold posOf
          rw [List.flatMap_append, List.length_append]
          simp
          omega
        rw [e3]
        rfl
      · rw [upd_same, List.map_append]
        rfl
      · exact All2.snoc (All2.mono (fun b c' hb => keep _ _ (s2 _ _ hb)) hc) (keep _ _ q0)
theorem ok_parts_of (T : Tx K mg D) : FnOk P w K mg base CX0 3 D.f_parts_of D.d_parts_of ["concept"] spParts := by
  refine T.F_parts_of.ok sc_parts_of (fun vs H Q E h => ?_) (fun cdv A outer s H vs Q E hr h => ?_)
  · obtain ⟨a, c, rfl, _⟩ := h
    rfl
  · obtain ⟨a, c, rfl, ha, fc, hl0, k⟩ := h
    refine ⟨_, (pss_cons (ps_set (i := 1) sc_parts_of.nd rfl (.inl rfl) (pe_lst (pa_nil)))
      (pss_cons (ps_set (i := 2) sc_parts_of.nd rfl (.inl rfl) (pe_int))
      (pss_cons (ps_while PassesOwn.never (pt_cmpR op_lt (pv 2) (pe_len (by rfl) T.b_len (pv 0)) (nomark _))
      (pss_cons (ps_expr (pe_bm PySem.F.plainAttrs_list PySem.F.slot_list_append PySem.F.type_list_append mt_append (pv 1) (pa_cons (pe_slice sl_tupA (pv 0) (po_some (pv 2)) (po_some (pe_call (ok_end_of T) (hr.mono (by decide)) (by rfl) T.m_end_of T.F_end_of.kp T.b_end_of .nil pass0 (pa_cons (pv 0) (pa_cons (pv 2) pa_nil))))) pa_nil)))
      (pss_one (ps_aug (i := 2) sc_parts_of.nd rfl (.inl rfl) (pe_call (ok_head_length T) (hr.mono (by decide)) (by rfl) T.m_head_length T.F_head_length.kp T.b_head_length .nil pass0 (pa_cons (pv 0) (pa_cons (pv 2) pa_nil))) ip_add))))
      (pss_one (ps_ret (pv 1)))))), ?_⟩
    refine ⟨by show 0 ≤ sizeLine; decide, fun p np => ?_⟩
    have s0 := Same.new (o := .lst []) np
    refine ⟨fun t σ H' => ∃ (done st : List C) (as : List Addr) (n : Nat), subs c = done ++ st.flatMap subs ∧ (enc c).drop n = st.flatMap enc ∧ n ≤ (enc c).length ∧ (∀ d ∈ st, Fine d) ∧ σ = [some (.ref a), some (.ref p), some (.int (n : Nat))] ∧ Same H H' ∧ H' p = some (.lst (as.map V.ref)) ∧ Cons H' as done ∧ t = (enc c).length - n,
      ⟨_, [], [c], [], 0, by simp, by simp, Nat.zero_le _, by simpa using fc, rfl, s0, upd_same, .nil, rfl⟩, ?_⟩
    rintro t σ H' ⟨done, st, as, n, hk, e1, hn, hf, rfl, s1, hp, hc, rfl⟩
    have ha1 := s1 _ _ ha
    have el := congrArg List.length e1
    rw [List.length_drop] at el
    refine ⟨_, rfl, _, rfl, r_len (TupN.nums ha1) ?_⟩
    refine ⟨_, _, rfl, rfl, _, rfl, ?_⟩
    cases st with
    | nil =>
      simp at el
      refine if_false_of (by simp; omega) ?_
      simp at hk
      exact ⟨_, rfl, k H' p s1 np ⟨as, hp, hk ▸ hc⟩⟩
    | cons d st =>
      rw [List.flatMap_cons] at e1 el
      rw [List.length_append] at el
      have pd := enc_pos d
      refine if_true_of (by simp; omega) ?_
      refine wN ?_
      have fd : Fine d := hf d (by simp)
      obtain ⟨z1, z2, z3⟩ := endV_some (l := enc c) (i := n) (by rw [e1]; exact rd_enc fd _)
      refine ⟨_, rfl, .inl ⟨rfl, _, SqL.of hp⟩, _, rfl, _, rfl, _, rfl, _, rfl, _, rfl, a, enc c, n, rfl, TupN.nums ha1, by omega, ?_⟩
      rw [z1]
      refine ⟨_, rfl, r_sl ha1 (Nat.le_add_right _ _) z2 fun q H2 s2 hq => ?_⟩
      have hlen : as.length = done.length := hc.length
      have kl := subs_len c
      rw [hk, List.length_append] at kl
      refine ⟨p, _, _, rfl, rfl, s2 _ _ hp, by rw [List.length_map]; exact Nat.lt_of_lt_of_le (show as.length < 1001 by omega) (by decide), ?_⟩
      have q0 : TupN H2 q (enc d) := by
        unfold TupN at hq ⊢
        rw [hq, e1, Nat.add_sub_cancel_left, List.take_left]
      have s3 : Same H (upd H2 p (.lst (as.map V.ref ++ [.ref q]))) := Same.mut (s1.trans s2) np
      have keep : ∀ b l, TupN H2 b l → TupN (upd H2 p (.lst (as.map V.ref ++ [.ref q]))) b l := fun b l hb => by
        unfold TupN at hb ⊢
        rw [upd_ne (ne_of hb (s2 _ _ hp) (by intro z; cases z))]
        exact hb
      refine ⟨_, rfl, _, rfl, _, rfl, a, enc c, n, rfl, TupN.nums (s3 _ _ ha), ?_⟩
      have e4 : hl ((enc c).drop n) = (hd d).length := by rw [e1]; exact hl_enc fd _
      rw [e4]
      have hdl : (hd d).length ≤ (enc d).length := by rw [enc_hd d, List.length_append]; omega
      have hdp := hd_pos d
      refine ⟨_, _, rfl, rfl, ?_⟩
      refine ⟨(enc c).length - (n + (hd d).length), by omega, done ++ [d], kids d ++ st, as ++ [q], n + (hd d).length, ?_, ?_, by omega, ?_, ?_, s3, ?_, ?_, rfl⟩
      · rw [hk, List.flatMap_cons, subs_kids d, List.flatMap_append]
        simp
      · rw [← List.drop_drop, e1, enc_hd d, List.append_assoc, List.drop_left, List.flatMap_append]
      · intro x hx
        rcases List.mem_append.mp hx with hx | hx
        · exact fine_kids fd x hx
        · exact hf x (by simp [hx])
      · rfl
      · rw [upd_same, List.map_append]
        rfl
      · exact All2.snoc (All2.mono (fun b c' hb => keep _ _ (s2 _ _ hb)) hc) (keep _ _ q0)
theorem ok_atoms_of (T : Tx K mg D) : FnOk P w K mg base CX0 4 D.f_atoms_of D.d_atoms_of ["concepts"] spAtoms := by
  refine T.F_atoms_of.ok sc_atoms_of (fun vs H Q E h => ?_) (fun cdv A outer s H vs Q E hr h => ?_)
  · obtain ⟨a, c, rfl, _⟩ := h
    rfl
  · obtain ⟨a, cs, rfl, ⟨as, ha, hc⟩, fc, hl0, k⟩ := h
    refine ⟨_, (pss_cons (ps_set (i := 1) sc_atoms_of.nd rfl (.inl rfl) (pe_lst (pa_nil)))
      (pss_cons (ps_for PassesOwn.never rfl (pi_list (pv 0)) (pg_name (i := 2) sc_atoms_of.nd rfl (Or.inl rfl))
      (pss_one (ps_for PassesOwn.never rfl (pi_list (pe_call (ok_parts_of T) (hr.mono (by decide)) (by rfl) T.m_parts_of T.F_parts_of.kp T.b_parts_of .nil pass0 (pa_cons (pv 2) pa_nil))) (pg_name (i := 3) sc_atoms_of.nd rfl (Or.inl rfl))
      (pss_one (ps_if (PW.pt (pw_and (pt_cmpR op_in_seq (pe_ix ix_seq (pv 3) (pe_int) (fun _ _ => rfl)) (pe_glob (v := .ref D.t_ATOM_SIGNS) rfl T.m_ATOM_SIGNS rfl) (by rfl)) (pw_and1 (pt_cmpR (op_notInD (hu65 hr)) (pv 3) (pv 1) (by rfl)))))
      (pss_one (ps_expr (pe_bm PySem.F.plainAttrs_list PySem.F.slot_list_append PySem.F.type_list_append mt_append (pv 1) (pa_cons (pv 3) pa_nil))))
      (pss_nil))))))
      (pss_one (ps_ret (pv 1))))), ?_⟩
    refine ⟨by show 0 ≤ sizeLine; decide, fun p np => ?_⟩
    have s0 := Same.new (o := .lst []) np
    refine ⟨_, rfl, a, rfl, ⟨_, SqL.of (s0 _ _ ha)⟩, for_list (K := K) (a := a) (xs := as.map V.ref) (fun i σ H' => ∃ (bs : List Addr) (v1 v2 : Option V), σ = [some (.ref a), some (.ref p), v1, v2] ∧ Same H H' ∧ H' p = some (.lst (bs.map V.ref)) ∧
      Cons H' bs (((cs.take i).flatMap subs).foldl addAtom [])) ⟨[], none, none, rfl, s0, upd_same, .nil⟩ (fun i σ H' _ ⟨_, _, _, _, s1, _⟩ => SqL.of (s1 _ _ ha)) ?_ ?_⟩
    · rintro i x σ H1 hi ⟨bs, v1, v2, rfl, s1, hp, hb⟩
      obtain ⟨ca, hca, rfl⟩ := get_ref hi
      obtain ⟨c, hcc, hct⟩ := All2.get hc hca
      have fci := fc c (List.mem_of_getElem? hcc)
      refine ⟨_, rfl, ca, c, rfl, s1 _ _ hct, fci.1, fci.2, fun H2 q s2 nq ⟨ps, hq, hps⟩ => ?_⟩
      have nqp : q ≠ p := fun z => by rw [z, hp] at nq; cases nq
      have hil : i < cs.length := (List.getElem?_eq_some_iff.mp hcc).1
      refine ⟨q, rfl, ⟨_, SqL.of hq⟩, for_list (K := K) (a := q) (xs := ps.map V.ref) (fun j σ H' => ∃ (bs : List Addr) (v2 : Option V), σ = [some (.ref a), some (.ref p), some (.ref ca), v2] ∧ Same H H' ∧ H' q = some (.lst (ps.map V.ref)) ∧ Cons H' ps (subs c) ∧
        H' p = some (.lst (bs.map V.ref)) ∧ Cons H' bs (((subs c).take j).foldl addAtom (((cs.take i).flatMap subs).foldl addAtom []))) ?_ ?_ ?_ ?_⟩
      · refine ⟨bs, v2, rfl, s1.trans s2, hq, hps, s2 _ _ hp, ?_⟩
        rw [List.take_zero]
        exact hb.same s2
      · exact fun j σ H' _ ⟨_, _, _, _, z, _⟩ => SqL.of z
      · rintro j y σ H3 hj ⟨bs, v2, rfl, s3, hq3, hps3, hp3, hb3⟩
        obtain ⟨da, hda, rfl⟩ := get_ref hj
        obtain ⟨d, hd, hdt⟩ := All2.get hps3 hda
        have fd : Fine d := fine_subs fci.1 d (List.mem_of_getElem? hd)
        have fparts : ∀ c' ∈ (cs.take i).flatMap subs, Fine c' := fun c' h => by
          obtain ⟨z, hz, h⟩ := List.mem_flatMap.mp h
          exact fine_subs (fc z (List.mem_of_mem_take hz)).1 c' h
        have facc := add_fine _ [] fparts (by simp)
        have facc2 := add_fine ((subs c).take j) _ (fun c' h => fine_subs fci.1 c' (List.mem_of_mem_take h)) facc
        refine ⟨_, rfl, r_ix (TupN.nums hdt) (enc_sign d) ?_⟩
        refine ⟨_, _, rfl, .inr (T.q_ATOM_SIGNS.sq _), rfl, flat_iv _, _, rfl, ?_⟩
        have e1 : (if false = true then !inV (V.int (sign d : Nat)) (iv [2, 6, 7]) else inV (V.int (sign d : Nat)) (iv [2, 6, 7])) = isAtom d := by
          rw [if_neg Bool.false_ne_true]
          exact in_signs d
        have step : ∀ m : List C, ((subs c).take (j + 1)).foldl addAtom m = addAtom (((subs c).take j).foldl addAtom m) d := fun m => by
          rw [take_more hd, List.foldl_append]
          rfl
        have lenb := hb3.length
        have lb1 := add_len ((subs c).take j) (((cs.take i).flatMap subs).foldl addAtom [])
        have lb2 := add_len ((cs.take i).flatMap subs) []
        have lb3 : ((cs.take i).flatMap subs).length ≤ 1000 * 1000 := by
          refine Nat.le_trans (flat_len (fun z hz => Nat.le_trans (subs_len z) (fc z (List.mem_of_mem_take hz)).2)) ?_
          exact Nat.mul_le_mul_right _ (by rw [List.length_take]; omega)
        have lb4 : ((subs c).take j).length ≤ 1000 := by
          have := subs_len c
          rw [List.length_take]
          omega
        cases ea : isAtom d with
        | false =>
          refine if_false_of (e1.trans ea) (iteF ?_)
          refine ⟨bs, some (.ref da), rfl, s3, hq3, hps3, hp3, ?_⟩
          rw [step]
          unfold addAtom
          rw [if_neg (by simp [ea])]
          exact hb3
        | true =>
          refine if_true_of (e1.trans ea) ?_
          refine ⟨_, rfl, _, rfl, r_notin hp3 hb3 hdt fd facc2 ⟨_, rfl, ?_⟩⟩
          cases ec : (((subs c).take j).foldl addAtom (((cs.take i).flatMap subs).foldl addAtom [])).contains d with
          | true =>
            refine if_false_of rfl ?_
            refine ⟨bs, some (.ref da), rfl, s3, hq3, hps3, hp3, ?_⟩
            rw [step]
            unfold addAtom at ec ⊢
            rw [if_neg (by simp only [ec]; simp)]
            exact hb3
          | false =>
            refine if_true_of rfl ?_
            refine ⟨_, rfl, .inl ⟨rfl, _, SqL.of hp3⟩, _, rfl, p, _, _, rfl, rfl, hp3, ?_, ?_⟩
            · rw [List.length_map, lenb]
              refine Nat.lt_of_le_of_lt (Nat.le_trans lb1 (Nat.add_le_add (Nat.le_trans lb2 (Nat.add_le_add_left lb3 _)) lb4)) (by decide)
            · have keep : ∀ b l, TupN H3 b l → TupN (upd H3 p (.lst (bs.map V.ref ++ [.ref da]))) b l := fun b l hb => by
                unfold TupN at hb ⊢
                rw [upd_ne (ne_of hb hp3 (by intro z; cases z))]
                exact hb
              refine ⟨bs ++ [da], some (.ref da), rfl, Same.mut s3 np, ?_, All2.mono (fun b c' hb => keep _ _ hb) hps3, ?_, ?_⟩
              · rw [upd_ne nqp]
                exact hq3
              · rw [upd_same, List.map_append]
                rfl
              · rw [step]
                have : addAtom (((subs c).take j).foldl addAtom (((cs.take i).flatMap subs).foldl addAtom [])) d = (((subs c).take j).foldl addAtom (((cs.take i).flatMap subs).foldl addAtom [])) ++ [d] := by
                  rw [addAtom, if_pos ⟨ea, ec⟩]
                rw [this]
                exact All2.snoc (All2.mono (fun b c' hb => keep _ _ hb) hb3) (keep _ _ hdt)
      · rintro σ H' ⟨bs, v2, rfl, s3, hq3, hps3, hp3, hb3⟩
        refine ⟨bs, some (.ref ca), v2, rfl, s3, hp3, ?_⟩
        rw [take_more hcc, List.flatMap_append, List.foldl_append]
        rw [List.length_map, hps3.length, List.take_length] at hb3
        simpa using hb3
    · rintro σ H' ⟨bs, v1, v2, rfl, s1, hp, hb⟩
      rw [List.length_map, hc.length, List.take_length, ← atomsOf_fold] at hb
      exact ⟨_, rfl, k H' p s1 np ⟨bs, hp, hb⟩⟩
end
end Wk
end
section
set_option Elab.async false
set_option maxRecDepth 100000
set_option maxHeartbeats 4000000
namespace Wk
open PySem PySem.Spec PyProof.Rows L2
open Oc (C Axiom)
def LinkAt (D : Dt) (H : Hp) (at_ : List C) (a : Addr) (x : C) : Prop := ∃ dx, H a = some (.ins D.a_Link dx (fl_Link_3 (.int (roleOf x : Nat)) (.int (mk (NN at_) (nd at_ x) : Nat)) (.int (mk (NN at_) (gl at_ x) : Nat))))
def GroupsAt (H : Hp) (ds : Addr) (at_ : List C) (ok : C → Prop) : Prop := ∃ kvs, H ds = some (.dT kvs) ∧ ∀ c, ok c → valV kvs (ky c) = some (.int (G at_ c : Nat))
def PatAt (D : Dt) (H : Hp) (x : Addr) (at_ : List C) (ok : C → Prop) : Prop := ∃ dx ds dl ls, H x = some (.ins D.a_Patterns dx (fl_Patterns_4 (.int (NN at_ : Nat)) (.int ((2 ^ NN at_ - 1 : Nat) : Int)) (.ref ds) (.ref dl))) ∧ GroupsAt H ds at_ ok ∧
  H dl = some (.lst (ls.map V.ref)) ∧ All2 (LinkAt D H at_) ls (roles at_)
theorem PatAt.same {D : Dt} {H H' : Hp} {x : Addr} {at_ : List C} {ok : C → Prop} (h : PatAt D H x at_ ok) (e : Same H H') : PatAt D H' x at_ ok := by
  obtain ⟨dx, ds, dl, ls, h1, ⟨kvs, h2, h3⟩, h4, h5⟩ := h
  exact ⟨dx, ds, dl, ls, e _ _ h1, ⟨kvs, e _ _ h2, h3⟩, e _ _ h4, h5.mono fun a b ⟨dx, z⟩ => ⟨dx, e _ _ z⟩⟩
def spLinkI (D : Dt) : Sp := fun vs H Q _ => ∃ (p dx : Addr) (a b c : V), vs = [.ref p, a, b, c] ∧ H p = some (.ins D.a_Link dx []) ∧
  ∀ H', H' p = some (.ins D.a_Link dx (fl_Link_3 a b c)) → (∀ b o, H b = some o → b ≠ p → H' b = some o) → Q .non H'
def spRel (D : Dt) : Sp := fun vs H Q _ => ∃ (x : Addr) (at_ : List C) (ok : C → Prop) (p r : Nat) (S : Nat → Bool), vs = [.ref x, .int p, .int r, .int (mk (NN at_) S : Nat)] ∧ PatAt D H x at_ ok ∧ p < NN at_ ∧
  Q (.int (mk (NN at_) (rel at_ S r p (roles at_)) : Nat)) H
def spCan (D : Dt) : Sp := fun vs H Q _ => ∃ (x : Addr) (at_ : List C) (ok : C → Prop) (p : Nat) (S : Nat → Bool), vs = [.ref x, .int p, .int (mk (NN at_) S : Nat)] ∧ PatAt D H x at_ ok ∧ p < NN at_ ∧
  Q (.bl (can at_ S p)) H
def spAgainst (D : Dt) : Sp := fun vs H Q _ => ∃ (x r : Addr) (at_ : List C) (ok : C → Prop) (a : Axiom), vs = [.ref x, .ref r] ∧ PatAt D H x at_ ok ∧ PairAt H r a ∧ ok a.1 ∧ ok a.2 ∧
  Q (.int (mk (NN at_) (fun u => Oc.holds at_ u a.1 && !Oc.holds at_ u a.2) : Nat)) H
def spOcc (D : Dt) : Sp := fun vs H Q _ => ∃ (x p : Addr) (at_ : List C) (ok : C → Prop) (rs : List Addr) (ax : List Axiom), vs = [.ref x, .ref p] ∧ PatAt D H x at_ ok ∧ at_.length ≤ 5 ∧ H p = some (.lst (rs.map V.ref)) ∧ All2 (PairAt H) rs ax ∧
  (∀ a ∈ ax, ok a.1 ∧ ok a.2) ∧ Q (.int (mk (NN at_) (fun u => decide (u ∈ Oc.types at_ ax)) : Nat)) H
section
variable {P : Program} {w : World} {K : PySem.W.Frag} {mg : Str → Option Value} {base : Heap} {D : Dt}
theorem ok_Link_init (T : Tx K mg D) : FnOk P w K mg base CX0 1 D.f_Link_init D.d_Link_init ["self", "role", "needy", "goal"] (spLinkI D) := by
  refine T.F_Link_init.ok sc_Link_init (fun vs H Q E h => ?_) (fun cdv A outer s H vs Q E hr h => ?_)
  · obtain ⟨p, dx, a, b, c, rfl, _⟩ := h
    rfl
  · obtain ⟨p, dx, a, b, c, rfl, hp, k⟩ := h
    refine ⟨_, (pss_cons (ps_fld (pv 0) (pv 1) rfl)
      (pss_cons (ps_fld (pv 0) (pv 2) rfl)
      (pss_one (ps_fld (pv 0) (pv 3) rfl)))), ?_⟩
    refine ⟨_, rfl, _, rfl, p, D.a_Link, dx, [], rfl, hp, T.c_Link, T.n_Link_role, (by show 0 < 1000; decide), ?_⟩
    refine ⟨_, rfl, _, rfl, p, D.a_Link, dx, _, rfl, upd_same, T.c_Link, T.n_Link_needy, (by show 1 < 1000; decide), ?_⟩
    refine ⟨_, rfl, _, rfl, p, D.a_Link, dx, _, rfl, upd_same, T.c_Link, T.n_Link_goal, (by show 2 < 1000; decide), ?_⟩
    refine k _ (upd_same.trans ?_) fun b o e hb => ?_
    · exact congrArg (fun z => some (HO.ins D.a_Link dx z)) ((congrArg _ ((congrArg _ nx_Link_0).trans nx_Link_1)).trans nx_Link_2)
    · rw [upd_ne hb, upd_ne hb, upd_ne hb]
      exact e
theorem ok_Patterns_relatable (T : Tx K mg D) : FnOk P w K mg base CX0 1 D.f_Patterns_relatable D.d_Patterns_relatable ["self", "pattern", "role", "group"] (spRel D) := by
  refine T.F_Patterns_relatable.ok sc_Patterns_relatable (fun vs H Q E h => ?_) (fun cdv A outer s H vs Q E hr h => ?_)
  · obtain ⟨x, at_, ok, p, r, S, rfl, _⟩ := h
    rfl
  · obtain ⟨x, at_, ok, p, r, S, rfl, ⟨dx, ds, dl, ls, hx, _, hl, hls⟩, hp, k⟩ := h
    refine ⟨_, (pss_cons (ps_for PassesOwn.never rfl (pi_list (pe_fld (pv 0) rfl)) (pg_name (i := 4) sc_Patterns_relatable.nd rfl (Or.inl rfl))
      (pss_one (ps_if (PW.pt (pw_and (pt_cmpR op_eq (pe_fld (pv 4) rfl) (pv 2) (nomark _)) (pw_and1 (pt_not (pt_truth (pe_op op_and (pe_op op_shr (pe_fld (pv 4) rfl) (pv 1)) (pe_int)) (by intro _; rfl))))))
      (pss_one (ps_set (i := 3) sc_Patterns_relatable.nd rfl (.inl rfl) (pe_op op_and (pv 3) (pe_un un_inv (pe_fld (pv 4) rfl)))))
      (pss_nil))))
      (pss_one (ps_ret (pv 3)))), ?_⟩
    refine ⟨_, rfl, x, D.a_Patterns, dx, _, _, rfl, hx, T.c_Patterns, T.n_Patterns_links, lk_Patterns_4_links, dl, rfl, ⟨_, SqL.of hl⟩, for_list (K := K) (a := dl) (xs := ls.map V.ref)
      (fun i σ H' => H' = H ∧ ∃ v, σ = [some (.ref x), some (.int p), some (.int r), some (.int (mk (NN at_) (rel at_ S r p ((roles at_).take i)) : Nat)), v]) ⟨rfl, none, ?_⟩ (fun i σ H' _ ⟨e, _⟩ => e ▸ SqL.of hl) ?_ ?_⟩
    · have e : rel at_ S r p ((roles at_).take 0) = S := by funext u; unfold rel; simp
      rw [e]
      rfl
    · rintro i y σ H' hi ⟨rfl, v, rfl⟩
      obtain ⟨la, hla, rfl⟩ := get_ref hi
      obtain ⟨c, hc, ⟨dy, hy⟩⟩ := All2.get hls hla
      have e1 : rel at_ S r p ((roles at_).take (i + 1)) = fun u => rel at_ S r p ((roles at_).take i) u && fit1 at_ r p u c := by
        funext u
        rw [take_more hc, rel_snoc]
      refine ⟨_, rfl, la, D.a_Link, dy, _, _, rfl, hy, T.c_Link, T.n_Link_role, lk_Link_3_role, _, rfl, rfl, _, rfl, ?_⟩
      by_cases c1 : roleOf c = r
      · refine if_true_of (by simp [c1]) ?_
        refine ⟨_, rfl, la, D.a_Link, dy, _, _, rfl, hy, T.c_Link, T.n_Link_needy, lk_Link_3_needy, _, rfl, _, _, rfl, rfl, Int.natCast_nonneg _, _, _, rfl, rfl, _, rfl, ?_⟩
        rw [b_bitne, mk_bit]
        cases c2 : nd at_ c p with
        | true =>
          refine if_false_of (by simp [hp]) ?_
          refine ⟨rfl, some (.ref la), ?_⟩
          rw [e1]
          have e2 : (fun u => rel at_ S r p ((roles at_).take i) u && fit1 at_ r p u c) = rel at_ S r p ((roles at_).take i) := by
            funext u
            unfold fit1
            simp [c2]
          rw [e2]
          rfl
        | false =>
          refine if_true_of (by simp) ?_
          refine ⟨_, rfl, _, rfl, la, D.a_Link, dy, _, _, rfl, hy, T.c_Link, T.n_Link_goal, lk_Link_3_goal, _, rfl, _, _, rfl, rfl, ?_⟩
          refine ⟨rfl, some (.ref la), ?_⟩
          rw [e1]
          have e2 : (fun u => rel at_ S r p ((roles at_).take i) u && fit1 at_ r p u c) = fun u => rel at_ S r p ((roles at_).take i) u && !gl at_ c u := by
            funext u
            unfold fit1
            simp [c2, c1]
          rw [e2, ← b_andnot]
          rfl
      · refine if_false_of (by simp; omega) (iteF ?_)
        refine ⟨rfl, some (.ref la), ?_⟩
        rw [e1]
        have e2 : (fun u => rel at_ S r p ((roles at_).take i) u && fit1 at_ r p u c) = rel at_ S r p ((roles at_).take i) := by
          funext u
          unfold fit1
          simp [c1]
        rw [e2]
        rfl
    · rintro σ H' ⟨rfl, v, rfl⟩
      rw [List.length_map, hls.length, List.take_length]
      exact ⟨_, rfl, k⟩
theorem ok_Patterns_can_occur (T : Tx K mg D) : FnOk P w K mg base CX0 2 D.f_Patterns_can_occur D.d_Patterns_can_occur ["self", "pattern", "group"] (spCan D) := by
  refine T.F_Patterns_can_occur.ok sc_Patterns_can_occur (fun vs H Q E h => ?_) (fun cdv A outer s H vs Q E hr h => ?_)
  · obtain ⟨x, at_, ok, p, S, rfl, _⟩ := h
    rfl
  · obtain ⟨x, at_, ok, p, S, rfl, hP, hp, k⟩ := h
    obtain ⟨dx, ds, dl, ls, hx, hg, hl, hls⟩ := id hP
    refine ⟨_, (pss_cons (ps_for PassesOwn.never rfl (pi_list (pe_fld (pv 0) rfl)) (pg_name (i := 3) sc_Patterns_can_occur.nd rfl (Or.inl rfl))
      (pss_one (ps_if (PW.pt (pw_and (pt_truth (pe_op op_and (pe_op op_shr (pe_fld (pv 3) rfl) (pv 1)) (pe_int)) (by intro _; rfl)) (pw_and1 (pt_cmpR op_eq (pe_op op_and (pe_fld (pv 3) rfl) (pe_meth (pv 0) T.c_Patterns T.M_Patterns_relatable (ok_Patterns_relatable T) (hr.mono (by decide)) T.b_Patterns_relatable .nil pass0 (pa_cons (pv 1) (pa_cons (pe_fld (pv 3) rfl) (pa_cons (pv 2) pa_nil))))) (pe_int) (nomark _)))))
      (pss_one (ps_ret (pe_bl)))
      (pss_nil))))
      (pss_one (ps_ret (pe_bl)))), ?_⟩
    refine ⟨_, rfl, x, D.a_Patterns, dx, _, _, rfl, hx, T.c_Patterns, T.n_Patterns_links, lk_Patterns_4_links, dl, rfl, ⟨_, SqL.of hl⟩, for_list (K := K) (a := dl) (xs := ls.map V.ref)
      (fun i σ H' => H' = H ∧ (∃ v, σ = [some (.ref x), some (.int p), some (.int (mk (NN at_) S : Nat)), v]) ∧ ((roles at_).take i).all (can1 at_ S p) = true) ⟨rfl, ⟨none, rfl⟩, rfl⟩ (fun i σ H' _ ⟨e, _⟩ => e ▸ SqL.of hl) ?_ ?_⟩
    · rintro i y σ H' hi ⟨rfl, ⟨v, rfl⟩, ha⟩
      obtain ⟨la, hla, rfl⟩ := get_ref hi
      obtain ⟨c, hc, ⟨dy, hy⟩⟩ := All2.get hls hla
      have step : ((roles at_).take (i + 1)).all (can1 at_ S p) = can1 at_ S p c := by
        rw [take_more hc, List.all_append, ha]
        simp
      have hmem : c ∈ roles at_ := List.mem_of_getElem? hc
      refine ⟨_, rfl, la, D.a_Link, dy, _, _, rfl, hy, T.c_Link, T.n_Link_needy, lk_Link_3_needy, _, rfl, _, _, rfl, rfl, Int.natCast_nonneg _, _, _, rfl, rfl, _, rfl, ?_⟩
      rw [b_bitne, mk_bit]
      cases c2 : nd at_ c p with
      | false =>
        refine if_false_of (by simp) (iteF ?_)
        refine ⟨rfl, ⟨some (.ref la), rfl⟩, ?_⟩
        rw [step]
        unfold can1
        rw [c2]
        rfl
      | true =>
        refine if_true_of (by simp [hp]) ?_
        refine ⟨_, rfl, la, D.a_Link, dy, _, _, rfl, hy, T.c_Link, T.n_Link_goal, lk_Link_3_goal, _, rfl, x, dx, _, rfl, hx, no_Patterns_4_relatable, _, rfl, _, rfl, la, D.a_Link, dy, _, _, rfl, hy, T.c_Link, T.n_Link_role, lk_Link_3_role, _, rfl, ?_⟩
        refine ⟨x, at_, ok, p, roleOf c, S, rfl, hP, hp, ?_⟩
        refine ⟨_, _, rfl, rfl, rfl, _, rfl, ?_⟩
        by_cases c3 : mk (NN at_) (fun u => gl at_ c u && rel at_ S (roleOf c) p (roles at_) u) = 0
        · refine if_true_of (by simp [b_and, mk_and, c3]) ?_
          have e : can at_ S p = false := by
            cases q : can at_ S p with
            | false => rfl
            | true =>
              have := List.all_eq_true.mp q c hmem
              unfold can1 at this
              rw [c2, c3] at this
              simp at this
          rw [e] at k
          exact k
        · refine if_false_of (by simp [b_and, mk_and, c3]) ?_
          refine ⟨rfl, ⟨some (.ref la), rfl⟩, ?_⟩
          rw [step]
          unfold can1
          rw [c2]
          simp [c3]
    · rintro σ H' ⟨rfl, ⟨v, rfl⟩, ha⟩
      rw [List.length_map, hls.length, List.take_length] at ha
      have e : can at_ S p = true := ha
      rw [e] at k
      exact k
theorem ok_Patterns_against (T : Tx K mg D) : FnOk P w K mg base CX0 1 D.f_Patterns_against D.d_Patterns_against ["self", "pair"] (spAgainst D) := by
  refine T.F_Patterns_against.ok sc_Patterns_against (fun vs H Q E h => ?_) (fun cdv A outer s H vs Q E hr h => ?_)
  · obtain ⟨x, r, at_, ok, a, rfl, _⟩ := h
    rfl
  · obtain ⟨x, r, at_, ok, a, rfl, ⟨dx, ds, dl, ls, hx, ⟨kvs, hd, hv⟩, hl, hls⟩, ⟨p, q, hpr, hp1, hq1⟩, o1, o2, k⟩ := h
    refine ⟨_, (pss_one (ps_ret (pe_op op_and (pe_dget (by exact hu_of hr) (pe_fld (pv 0) rfl) (pe_ix ix_seq (pv 1) (pe_int) (fun _ _ => rfl)) (fun _ _ => rfl)) (pe_un un_inv (pe_dget (by exact hu_of hr) (pe_fld (pv 0) rfl) (pe_ix ix_seq (pv 1) (pe_int) (fun _ _ => rfl)) (fun _ _ => rfl)))))), ?_⟩
    refine ⟨_, rfl, x, D.a_Patterns, dx, _, _, rfl, hx, T.c_Patterns, T.n_Patterns_groups, lk_Patterns_4_groups, _, rfl, .inr (.inl ⟨r, _, 0, _, rfl, rfl, SqT.of hpr, atI_nat (j := 0) rfl, ds, _, rfl, dget hd hp1 (hv _ o1), ?_⟩)⟩
    refine ⟨_, rfl, x, D.a_Patterns, dx, _, _, rfl, hx, T.c_Patterns, T.n_Patterns_groups, lk_Patterns_4_groups, _, rfl, .inr (.inl ⟨r, _, 1, _, rfl, rfl, SqT.of hpr, atI_nat (j := 1) rfl, ds, _, rfl, dget hd hq1 (hv _ o2), ?_⟩)⟩
    refine ⟨_, rfl, _, _, rfl, rfl, ?_⟩
    rw [← b_andnot] at k
    exact k
theorem ok_Patterns_occurring (T : Tx K mg D) : FnOk P w K mg base CX0 3 D.f_Patterns_occurring D.d_Patterns_occurring ["self", "axioms"] (spOcc D) := by
  refine T.F_Patterns_occurring.ok sc_Patterns_occurring (fun vs H Q E h => ?_) (fun cdv A outer s H vs Q E hr h => ?_)
  · obtain ⟨x, p, at_, ok, rs, ax, rfl, _⟩ := h
    rfl
  · obtain ⟨x, p, at_, ok, rs, ax, rfl, hP, h5, hp, hrs, hok, k⟩ := h
    obtain ⟨dx, ds, dl, ls, hx, hg, hl, hls⟩ := id hP
    have hN : NN at_ ≤ 32 := by
      unfold NN
      calc 2 ^ at_.length ≤ 2 ^ 5 := Nat.pow_le_pow_right (by decide) h5
        _ = 32 := by decide
    refine ⟨_, (pss_cons (ps_set (i := 2) sc_Patterns_occurring.nd rfl (.inl rfl) (pe_fld (pv 0) rfl))
      (pss_cons (ps_for PassesOwn.never rfl (pi_list (pv 1)) (pg_name (i := 3) sc_Patterns_occurring.nd rfl (Or.inl rfl))
      (pss_one (ps_set (i := 2) sc_Patterns_occurring.nd rfl (.inl rfl) (pe_op op_and (pv 2) (pe_un un_inv (pe_meth (pv 0) T.c_Patterns T.M_Patterns_against (ok_Patterns_against T) (hr.mono (by decide)) T.b_Patterns_against .nil pass0 (pa_cons (pv 3) pa_nil)))))))
      (pss_cons (ps_set (i := 4) sc_Patterns_occurring.nd rfl (.inl rfl) (pe_non))
      (pss_cons (ps_while PassesOwn.never (pt_cmpR op_ne (pv 2) (pv 4) (nomark _))
      (pss_cons (ps_set (i := 4) sc_Patterns_occurring.nd rfl (.inl rfl) (pv 2))
      (pss_one (ps_for PassesOwn.never rfl (pi_range1 (by rfl) T.b_range (pa_cons (pe_fld (pv 0) rfl) pa_nil)) (pg_name (i := 5) sc_Patterns_occurring.nd rfl (Or.inl rfl))
      (pss_one (ps_if (PW.pt (pw_and (pt_truth (pe_op op_and (pe_op op_shr (pv 2) (pv 5)) (pe_int)) (by intro _; rfl)) (pw_and1 (pt_not (pt_val (pe_meth (pv 0) T.c_Patterns T.M_Patterns_can_occur (ok_Patterns_can_occur T) (hr.mono (by decide)) T.b_Patterns_can_occur .nil pass0 (pa_cons (pv 5) (pa_cons (pv 2) pa_nil))))))))
      (pss_one (ps_set (i := 2) sc_Patterns_occurring.nd rfl (.inl rfl) (pe_op op_and (pv 2) (pe_un un_inv (pe_op op_shl (pe_int) (pv 5))))))
      (pss_nil)))))))
      (pss_one (ps_ret (pv 2))))))), ?_⟩
    refine ⟨_, rfl, x, D.a_Patterns, dx, _, _, rfl, hx, T.c_Patterns, T.n_Patterns_whole, lk_Patterns_4_whole, ?_⟩
    refine ⟨_, rfl, p, rfl, ⟨_, SqL.of hp⟩, for_list (K := K) (a := p) (xs := rs.map V.ref)
      (fun i σ H' => H' = H ∧ ∃ v, σ = [some (.ref x), some (.ref p), some (.int (mk (NN at_) (fun u => Oc.keeps at_ (ax.take i) u) : Nat)), v, none, none]) ⟨rfl, none, ?_⟩ (fun i σ H' _ ⟨e, _⟩ => e ▸ SqL.of hp) ?_ ?_⟩
    · have e : (fun u => Oc.keeps at_ (ax.take 0) u) = fun _ => true := by funext u; rfl
      rw [e, mk_true]
      rfl
    · rintro i y σ H' hi ⟨rfl, v, rfl⟩
      obtain ⟨r, hr2, rfl⟩ := get_ref hi
      obtain ⟨a, ha, hpa⟩ := All2.get hrs hr2
      obtain ⟨o1, o2⟩ := hok a (List.mem_of_getElem? ha)
      refine ⟨_, rfl, _, rfl, x, dx, _, rfl, hx, no_Patterns_4_against, _, rfl, ?_⟩
      refine ⟨x, r, at_, ok, a, rfl, hP, hpa, o1, o2, ?_⟩
      refine ⟨_, rfl, _, _, rfl, rfl, rfl, some (.ref r), ?_⟩
      have e : (fun u => Oc.keeps at_ (ax.take (i + 1)) u) = fun u => Oc.keeps at_ (ax.take i) u && !(Oc.holds at_ u a.1 && !Oc.holds at_ u a.2) := by
        funext u
        rw [take_more ha, keeps_snoc]
        cases Oc.holds at_ u a.1 <;> cases Oc.holds at_ u a.2 <;> simp
      rw [e]
      exact congrArg (fun z => [some (V.ref x), some (V.ref p), some (V.int z), some (V.ref r), none, none]) (b_andnot (NN at_) _ _)
    · rintro σ H' ⟨rfl, v, rfl⟩
      rw [List.length_map, hrs.length, List.take_length]
      refine ⟨fun t σ H2 => H2 = H' ∧ ∃ (S : Nat → Bool) (bv : V) (v2 : Option V), σ = [some (.ref x), some (.ref p), some (.int (mk (NN at_) S : Nat)), v, some bv, v2] ∧ Mid at_ ax S ∧ (bv = .non ∨ ∃ b : Nat, bv = .int b) ∧
        (bv = .int (mk (NN at_) S : Nat) → ∀ q, q < NN at_ → S q = true → can at_ S q = true) ∧ t = if bv = .int (mk (NN at_) S : Nat) then 0 else mk (NN at_) S + 1, ⟨_, rfl, _, .non, none, rfl, Mid.start, .inl rfl, (fun z => by cases z), rfl⟩, ?_⟩
      rintro t σ H2 ⟨rfl, S, bv, v2, rfl, mid, hbv, hst, rfl⟩
      refine ⟨_, rfl, _, rfl, ?_, _, rfl, ?_⟩
      · rcases hbv with rfl | ⟨b, rfl⟩ <;> rfl
      · by_cases c1 : bv = .int (mk (NN at_) S : Nat)
        · refine if_false_of (by simp [c1]) ?_
          refine ⟨_, rfl, ?_⟩
          have e : mk (NN at_) S = mk (NN at_) (fun u => decide (u ∈ Oc.types at_ ax)) := mk_congr (mid.done (hst c1))
          rw [← e] at k
          exact k
        · refine if_true_of (by simp; exact fun z => c1 z.symm) ?_
          refine wN ?_
          refine ⟨_, rfl, ?_⟩
          refine ⟨_, rfl, x, D.a_Patterns, dx, _, _, rfl, hx, T.c_Patterns, T.n_Patterns_total, lk_Patterns_4_total, _, rfl, by omega, by omega, for_range (lo := 0) (n := NN at_)
            (fun i σ H3 => H3 = H2 ∧ ∃ (S2 : Nat → Bool) (v2 : Option V), σ = [some (.ref x), some (.ref p), some (.int (mk (NN at_) S2 : Nat)), v, some (.int (mk (NN at_) S : Nat)), v2] ∧ Pass at_ ax S S2 i) ⟨rfl, S, v2, rfl, Pass.start mid⟩ ?_ ?_⟩
          · rintro i σ H3 hi ⟨rfl, S2, v3, rfl, ps⟩
            rw [Int.zero_add]
            refine ⟨_, rfl, _, rfl, _, _, rfl, rfl, Int.natCast_nonneg _, _, _, rfl, rfl, _, rfl, ?_⟩
            rw [b_bitne, mk_bit]
            cases c2 : S2 i with
            | false =>
              refine if_false_of (by simp) (iteF ?_)
              exact ⟨rfl, S2, _, rfl, ps.stay (.inl c2)⟩
            | true =>
              refine if_true_of (by simp [hi]) ?_
              refine ⟨_, rfl, x, dx, _, rfl, hx, no_Patterns_4_can_occur, _, rfl, _, rfl, ?_⟩
              refine ⟨x, at_, ok, i, S2, rfl, hP, hi, ?_⟩
              refine ⟨_, rfl, ?_⟩
              cases c3 : can at_ S2 i with
              | true =>
                refine if_false_of (by simp) ?_
                exact ⟨rfl, S2, _, rfl, ps.stay (.inr c3)⟩
              | false =>
                refine if_true_of (by simp) ?_
                refine ⟨_, rfl, _, rfl, _, _, rfl, rfl, ⟨Int.natCast_nonneg _, by omega, by decide⟩, _, rfl, _, _, rfl, rfl, rfl, _, some (.int (i : Nat)), ?_, ps.rule hi c2 c3⟩
                rw [← b_drop S2 hi]
                rfl
          · rintro σ H3 ⟨rfl, S2, v3, rfl, ps⟩
            refine ⟨if V.int (mk (NN at_) S : Nat) = V.int (mk (NN at_) S2 : Nat) then 0 else mk (NN at_) S2 + 1, ?_, rfl, S2, _, v3, rfl, ps.mid, .inr ⟨_, rfl⟩, ?_, rfl⟩
            · rw [if_neg c1]
              have := mk_le ps.sub
              by_cases z : V.int (mk (NN at_) S : Nat) = V.int (mk (NN at_) S2 : Nat)
              · rw [if_pos z]; omega
              · rw [if_neg z]
                have : mk (NN at_) S ≠ mk (NN at_) S2 := fun y => z (by rw [y])
                omega
            · intro z q lt hq
              have e : mk (NN at_) S2 = mk (NN at_) S := by
                injection z with z
                omega
              have es := mk_inj e
              rw [can_congr es]
              exact ps.ok e q lt lt (by rw [← es q lt]; exact hq)
end
end Wk
end
section
set_option Elab.async false
set_option maxRecDepth 100000
set_option maxHeartbeats 4000000
namespace Wk
open PySem PySem.Spec PyProof.Rows L2
open Oc (C Axiom)
/-- an object of Patterns while it is made -/
structure Half (D : Dt) (H : Hp) (x dx ds : Addr) (fs : List (Str × V)) (at_ : List C) (kvs : List (List Key × V)) : Prop where
  ob : H x = some (.ins D.a_Patterns dx fs)
  gr : fs.lookup ("groups" : Str) = some (.ref ds)
  wh : fs.lookup ("whole" : Str) = some (.int ((2 ^ NN at_ - 1 : Nat) : Int))
  di : H ds = some (.dT kvs)
def spJoined (D : Dt) : Sp := fun vs H Q _ => ∃ (x a dx ds : Addr) (fs : List (Str × V)) (at_ : List C) (kvs : List (List Key × V)) (c : C), vs = [.ref x, .ref a] ∧ Half D H x dx ds fs at_ kvs ∧ (∀ d ∈ kids c, valV kvs (ky d) = some (.int (G at_ d : Nat))) ∧
  TupN H a (enc c) ∧ Fine c ∧ (enc c).length ≤ 1000 ∧ isAtom c = false ∧ ∀ H', Same H H' → Q (.int (G at_ c : Nat)) H'
def spLinkOf (D : Dt) : Sp := fun vs H Q _ => ∃ (x a dx ds : Addr) (fs : List (Str × V)) (at_ : List C) (kvs : List (List Key × V)) (c : C), vs = [.ref x, .ref a] ∧ Half D H x dx ds fs at_ kvs ∧
  valV kvs (ky c) = some (.int (G at_ c : Nat)) ∧ valV kvs (ky (inner c)) = some (.int (G at_ (inner c) : Nat)) ∧
  TupN H a (enc c) ∧ Fine c ∧ (enc c).length ≤ 1000 ∧ isRole c = true ∧ ∀ H' l, Same H H' → LinkAt D H' at_ l c → Q (.ref l) H'
section
variable {P : Program} {w : World} {K : PySem.W.Frag} {mg : Str → Option Value} {base : Heap} {D : Dt}
theorem Half.same {D : Dt} {H H' : Hp} {x dx ds : Addr} {fs : List (Str × V)} {at_ : List C} {kvs : List (List Key × V)} (h : Half D H x dx ds fs at_ kvs) (e : Same H H') : Half D H' x dx ds fs at_ kvs := ⟨e _ _ h.ob, h.gr, h.wh, e _ _ h.di⟩
theorem ok_Patterns_joined (T : Tx K mg D) : FnOk P w K mg base CX0 4 D.f_Patterns_joined D.d_Patterns_joined ["self", "concept"] (spJoined D) := by
  refine T.F_Patterns_joined.ok sc_Patterns_joined (fun vs H Q E h => ?_) (fun cdv A outer s H vs Q E hr h => ?_)
  · obtain ⟨x, a, dx, ds, fs, at_, kvs, c, rfl, _⟩ := h
    rfl
  · obtain ⟨x, a, dx, ds, fs, at_, kvs, c, rfl, hh, hk, ha, fc, hl0, hna, k⟩ := h
    refine ⟨_, (pss_cons (ps_setLc (i := 2) (own := [("follower", 3)]) (g := gName 3) (by rfl) sc_Patterns_joined.nd rfl rfl (sw_true rfl rfl rfl (by decide +kernel)) (pi_list (pe_call (ok_followers_of T) (hr.mono (by decide)) (by rfl) T.m_followers_of T.F_followers_of.kp T.b_followers_of .nil pass0 (pa_cons (pv 1) pa_nil))) (blkOk_by (own := [("follower", 3)]) (N := N_Patterns_joined) (sc := defScope s_Patterns_joined) (by decide +kernel)) (fun _ _ _ _ _ => by exact pg_name (i := 3) sc_Patterns_joined.nd rfl (Or.inl rfl)) (fun _ _ _ _ _ => by exact pts_nil) (fun _ _ _ _ _ => by exact pe_dget (by exact hu_of hr) (pe_fldK (K := K) rfl (pv 0) (by rfl)) (pv 3) (fun _ _ => rfl)))
      (pss_cons (ps_if (pt_cmpR op_eq (pe_ix ix_seq (pv 1) (pe_int) (fun _ _ => rfl)) (pe_globI rfl T.m_EVERYTHING) (nomark _))
      (pss_one (ps_ret (pe_fld (pv 0) rfl)))
      (pss_nil))
      (pss_cons (ps_if (pt_cmpR op_eq (pe_ix ix_seq (pv 1) (pe_int) (fun _ _ => rfl)) (pe_globI rfl T.m_NOTHING) (nomark _))
      (pss_one (ps_ret (pe_int)))
      (pss_nil))
      (pss_cons (ps_if (pt_cmpR op_eq (pe_ix ix_seq (pv 1) (pe_int) (fun _ _ => rfl)) (pe_globI rfl T.m_BOTH) (nomark _))
      (pss_one (ps_ret (pe_op op_and (pe_ix ix_seq (pv 2) (pe_int) (fun _ _ => rfl)) (pe_ix ix_seq (pv 2) (pe_int) (fun _ _ => rfl)))))
      (pss_nil))
      (pss_cons (ps_if (pt_cmpR op_eq (pe_ix ix_seq (pv 1) (pe_int) (fun _ _ => rfl)) (pe_globI rfl T.m_EITHER) (nomark _))
      (pss_one (ps_ret (pe_op op_or (pe_ix ix_seq (pv 2) (pe_int) (fun _ _ => rfl)) (pe_ix ix_seq (pv 2) (pe_int) (fun _ _ => rfl)))))
      (pss_nil))
      (pss_one (ps_ret (pe_op op_xor (pe_fld (pv 0) rfl) (pe_ix ix_seq (pv 2) (pe_int) (fun _ _ => rfl)))))))))), ?_⟩
    refine ⟨_, rfl, a, c, rfl, ha, fc, hl0, fun H1 q s1 nq ⟨as, hq, hc⟩ => ?_⟩
    have h1 := hh.same s1
    refine ⟨q, rfl, ⟨_, SqL.of hq⟩, fun L nL => lc_list (K := K) (a := q) (xs := as.map V.ref) (fun i H2 => Same H1 H2 ∧ H2 L = some (.lst (((kids c).take i).map fun d => V.int (G at_ d : Nat)))) ⟨Same.new nL, upd_same⟩ (fun i H2 _ ⟨s2, _⟩ => SqL.of (s2 _ _ hq)) ?_ ?_⟩
    · rintro i y H2 hi ⟨s2, hL⟩
      obtain ⟨b, hb, rfl⟩ := get_ref hi
      obtain ⟨d, hd, hbd⟩ := All2.get hc hb
      have h2 := h1.same s2
      refine ⟨rfl, _, rfl, x, D.a_Patterns, dx, _, _, rfl, h2.ob, T.c_Patterns, T.n_Patterns_groups, h2.gr, _, rfl, ds, _, rfl, dget h2.di (s2 _ _ hbd) (hk d (List.mem_of_getElem? hd)), ?_⟩
      refine ⟨_, hL, ?_, Same.mut s2 nL, ?_⟩
      · have kl : (kids c).length ≤ 2 := by cases c <;> simp [kids]
        rw [List.length_map, List.length_take]
        exact Nat.lt_of_le_of_lt (show _ ≤ 2 by omega) (by decide)
      · rw [upd_same, take_more hd, List.map_append]
        rfl
    · rintro H2 ⟨s2, hL⟩
      rw [List.length_map, hc.length, List.take_length] at hL
      have ha2 : TupN H2 a (enc c) := s2 _ _ (s1 _ _ ha)
      have h2 := h1.same s2
      have k2 := k H2 (s1.trans s2)
      cases c with
      | name _ => cases hna
      | some _ _ => cases hna
      | all _ _ => cases hna
      | top =>
        refine ⟨_, rfl, r_ix (TupN.nums ha2) (enc_sign _) ⟨rfl, _, rfl, if_true_of (by rfl) ?_⟩⟩
        refine ⟨_, rfl, x, D.a_Patterns, dx, _, _, rfl, h2.ob, T.c_Patterns, T.n_Patterns_whole, h2.wh, ?_⟩
        rw [← G_top]
        exact k2
      | bot =>
        refine ⟨_, rfl, r_ix (TupN.nums ha2) (enc_sign _) ⟨rfl, _, rfl, if_false_of (by rfl) ?_⟩⟩
        refine ⟨_, rfl, r_ix (TupN.nums ha2) (enc_sign _) ⟨rfl, _, rfl, if_true_of (by rfl) ?_⟩⟩
        rw [G_bot] at k2
        exact k2
      | and c d =>
        refine ⟨_, rfl, r_ix (TupN.nums ha2) (enc_sign _) ⟨rfl, _, rfl, if_false_of (by rfl) ?_⟩⟩
        refine ⟨_, rfl, r_ix (TupN.nums ha2) (enc_sign _) ⟨rfl, _, rfl, if_false_of (by rfl) ?_⟩⟩
        refine ⟨_, rfl, r_ix (TupN.nums ha2) (enc_sign _) ⟨rfl, _, rfl, if_true_of (by rfl) ?_⟩⟩
        refine ⟨_, rfl, .inl ⟨L, _, 0, _, rfl, rfl, SqL.of hL, atI_nat (j := 0) rfl, ?_⟩⟩
        refine ⟨_, rfl, .inl ⟨L, _, 1, _, rfl, rfl, SqL.of hL, atI_nat (j := 1) rfl, _, _, rfl, rfl, ?_⟩⟩
        rw [← G_and, ← b_and] at k2
        exact k2
      | or c d =>
        refine ⟨_, rfl, r_ix (TupN.nums ha2) (enc_sign _) ⟨rfl, _, rfl, if_false_of (by rfl) ?_⟩⟩
        refine ⟨_, rfl, r_ix (TupN.nums ha2) (enc_sign _) ⟨rfl, _, rfl, if_false_of (by rfl) ?_⟩⟩
        refine ⟨_, rfl, r_ix (TupN.nums ha2) (enc_sign _) ⟨rfl, _, rfl, if_false_of (by rfl) ?_⟩⟩
        refine ⟨_, rfl, r_ix (TupN.nums ha2) (enc_sign _) ⟨rfl, _, rfl, if_true_of (by rfl) ?_⟩⟩
        refine ⟨_, rfl, .inl ⟨L, _, 0, _, rfl, rfl, SqL.of hL, atI_nat (j := 0) rfl, ?_⟩⟩
        refine ⟨_, rfl, .inl ⟨L, _, 1, _, rfl, rfl, SqL.of hL, atI_nat (j := 1) rfl, _, _, rfl, rfl, ?_⟩⟩
        rw [← G_or, ← b_or] at k2
        exact k2
      | not c =>
        refine ⟨_, rfl, r_ix (TupN.nums ha2) (enc_sign _) ⟨rfl, _, rfl, if_false_of (by rfl) ?_⟩⟩
        refine ⟨_, rfl, r_ix (TupN.nums ha2) (enc_sign _) ⟨rfl, _, rfl, if_false_of (by rfl) ?_⟩⟩
        refine ⟨_, rfl, r_ix (TupN.nums ha2) (enc_sign _) ⟨rfl, _, rfl, if_false_of (by rfl) ?_⟩⟩
        refine ⟨_, rfl, r_ix (TupN.nums ha2) (enc_sign _) ⟨rfl, _, rfl, if_false_of (by rfl) ?_⟩⟩
        refine ⟨_, rfl, x, D.a_Patterns, dx, _, _, rfl, h2.ob, T.c_Patterns, T.n_Patterns_whole, h2.wh, ?_⟩
        refine ⟨_, rfl, .inl ⟨L, _, 0, _, rfl, rfl, SqL.of hL, atI_nat (j := 0) rfl, _, _, rfl, rfl, ?_⟩⟩
        rw [← G_not, ← b_xor] at k2
        exact k2
theorem role_facts {c : C} (h : isRole c = true) : kids c = [inner c] ∧ (enc c)[1]? = some (roleOf c) ∧ (sign c = 6 ∧ (∃ r d, c = .some r d) ∨ sign c = 7 ∧ ∃ r d, c = .all r d) := by
  cases c with
  | some r d => exact ⟨rfl, rfl, .inl ⟨rfl, r, d, rfl⟩⟩
  | all r d => exact ⟨rfl, rfl, .inr ⟨rfl, r, d, rfl⟩⟩
  | _ => cases h
theorem ok_Patterns_link_of (T : Tx K mg D) : FnOk P w K mg base CX0 4 D.f_Patterns_link_of D.d_Patterns_link_of ["self", "atom"] (spLinkOf D) := by
  refine T.F_Patterns_link_of.ok sc_Patterns_link_of (fun vs H Q E h => ?_) (fun cdv A outer s H vs Q E hr h => ?_)
  · obtain ⟨x, a, dx, ds, fs, at_, kvs, c, rfl, _⟩ := h
    rfl
  · obtain ⟨x, a, dx, ds, fs, at_, kvs, c, rfl, hh, hv1, hv2, ha, fc, hl0, hrole, k⟩ := h
    obtain ⟨ek, er, esign⟩ := role_facts hrole
    refine ⟨_, (pss_cons (ps_set (i := 2) sc_Patterns_link_of.nd rfl (.inl rfl) (pe_dget (by exact hu_of hr) (pe_fld (pv 0) rfl) (pv 1) (fun _ _ => rfl)))
      (pss_cons (ps_set (i := 3) sc_Patterns_link_of.nd rfl (.inl rfl) (pe_dget (by exact hu_of hr) (pe_fld (pv 0) rfl) (pe_ix ix_seq (pe_call (ok_followers_of T) (hr.mono (by decide)) (by rfl) T.m_followers_of T.F_followers_of.kp T.b_followers_of .nil pass0 (pa_cons (pv 1) pa_nil)) (pe_int) (fun _ _ => rfl)) (fun _ _ => rfl)))
      (pss_cons (ps_if (pt_cmpR op_eq (pe_ix ix_seq (pv 1) (pe_int) (fun _ _ => rfl)) (pe_globI rfl T.m_SOME) (nomark _))
      (pss_one (ps_ret (pe_make T.M_Link (ok_Link_init T) (hr.mono (by decide)) (by rfl) T.m_Link T.b_Link_init .nil pass0 (pa_cons (pe_ix ix_seq (pv 1) (pe_int) (fun _ _ => rfl)) (pa_cons (pv 2) (pa_cons (pv 3) pa_nil))))))
      (pss_nil))
      (pss_one (ps_ret (pe_make T.M_Link (ok_Link_init T) (hr.mono (by decide)) (by rfl) T.m_Link T.b_Link_init .nil pass0 (pa_cons (pe_ix ix_seq (pv 1) (pe_int) (fun _ _ => rfl)) (pa_cons (pe_op op_xor (pe_fld (pv 0) rfl) (pv 2)) (pa_cons (pe_op op_xor (pe_fld (pv 0) rfl) (pv 3)) pa_nil))))))))), ?_⟩
    refine ⟨_, rfl, x, D.a_Patterns, dx, _, _, rfl, hh.ob, T.c_Patterns, T.n_Patterns_groups, hh.gr, _, rfl, ds, _, rfl, dget hh.di ha hv1, ?_⟩
    refine ⟨_, rfl, x, D.a_Patterns, dx, _, _, rfl, hh.ob, T.c_Patterns, T.n_Patterns_groups, hh.gr, _, rfl, a, c, rfl, ha, fc, hl0, fun H1 q s1 nq ⟨as, hq, hc⟩ => ?_⟩
    have h1 := hh.same s1
    rw [ek] at hc
    obtain ⟨b, hb, hbd⟩ := All2.get' hc (i := 0) rfl
    have ha1 : TupN H1 a (enc c) := s1 _ _ ha
    refine .inl ⟨q, _, 0, _, rfl, rfl, SqL.of hq, atI_nat (j := 0) (by rw [List.getElem?_map, hb]; rfl), ?_⟩
    refine ⟨ds, _, rfl, dget h1.di hbd hv2, ?_⟩
    refine ⟨_, rfl, r_ix (TupN.nums ha1) (enc_sign _) ⟨rfl, _, rfl, ?_⟩⟩
    rcases esign with ⟨es, r, d, rfl⟩ | ⟨es, r, d, rfl⟩
    · refine if_true_of (by rw [es]; rfl) ?_
      refine ⟨_, rfl, r_ix (TupN.nums ha1) er ⟨_, rfl, _, rfl, ?_⟩⟩
      intro l dl nl ndl nel
      refine ⟨l, dl, _, _, _, rfl, upd_same, fun H2 hl2 keep => ⟨rfl, ?_⟩⟩
      refine k H2 l ?_ ⟨dl, hl2⟩
      intro b o e
      have e1 := s1 b o e
      refine keep b o ?_ (ne_of_none e1 nl)
      rw [upd_ne (ne_of_none e1 nl), upd_ne (ne_of_none e1 ndl)]
      exact e1
    · refine if_false_of (by rw [es]; rfl) ?_
      refine ⟨_, rfl, r_ix (TupN.nums ha1) er ?_⟩
      refine ⟨_, rfl, x, D.a_Patterns, dx, _, _, rfl, h1.ob, T.c_Patterns, T.n_Patterns_whole, h1.wh, _, rfl, _, _, rfl, rfl, ?_⟩
      refine ⟨_, rfl, x, D.a_Patterns, dx, _, _, rfl, h1.ob, T.c_Patterns, T.n_Patterns_whole, h1.wh, _, rfl, _, _, rfl, rfl, ?_⟩
      intro l dl nl ndl nel
      refine ⟨l, dl, _, _, _, rfl, upd_same, fun H2 hl2 keep => ⟨rfl, ?_⟩⟩
      refine k H2 l ?_ ⟨dl, hl2.trans ?_⟩
      · intro b o e
        have e1 := s1 b o e
        refine keep b o ?_ (ne_of_none e1 nl)
        rw [upd_ne (ne_of_none e1 nl), upd_ne (ne_of_none e1 ndl)]
        exact e1
      · have z1 : Builtin.bitXor ((2 ^ NN at_ - 1 : Nat) : Int) (G at_ (.all r d) : Nat) = (mk (NN at_) (nd at_ (.all r d)) : Nat) := by
          rw [b_xor]
          unfold G
          rw [mk_not]
          rfl
        have z2 : Builtin.bitXor ((2 ^ NN at_ - 1 : Nat) : Int) (G at_ d : Nat) = (mk (NN at_) (gl at_ (.all r d)) : Nat) := by
          rw [b_xor]
          unfold G
          rw [mk_not]
          rfl
        rw [← z1, ← z2]
        rfl
end
end Wk
end
section
set_option Elab.async false
set_option maxRecDepth 100000
set_option maxHeartbeats 4000000
namespace Wk
open PySem PySem.Spec PyProof.Rows L2
open Oc (C Axiom)
def KX (x ds : Addr) (H H' : Hp) : Prop := ∀ b o, H b = some o → b ≠ x → b ≠ ds → H' b = some o
theorem KX.refl (x ds : Addr) (H : Hp) : KX x ds H H := fun _ _ h _ _ => h
theorem KX.trans {x ds : Addr} {H H1 H2 : Hp} (a : KX x ds H H1) (b : KX x ds H1 H2) : KX x ds H H2 := fun c o h n m => b c o (a c o h n m) n m
theorem KX.of {x ds : Addr} {H H' : Hp} (h : Same H H') : KX x ds H H' := fun b o e _ _ => h b o e
theorem KX.ux {x ds : Addr} {H H' : Hp} {o : HO} (h : KX x ds H H') : KX x ds H (upd H' x o) := fun b u e n m => by rw [upd_ne n]; exact h b u e n m
theorem KX.ud {x ds : Addr} {H H' : Hp} {o : HO} (h : KX x ds H H') : KX x ds H (upd H' ds o) := fun b u e n m => by rw [upd_ne m]; exact h b u e n m
/-- which groups the dict holds -/
def Dn (kvs : List (List Key × V)) (at_ : List C) (ok : C → Prop) : Prop := ∀ c, ok c → Fine c ∧ valV kvs (ky c) = some (.int (G at_ c : Nat))
theorem Dn.put {kvs : List (List Key × V)} {at_ : List C} {ok : C → Prop} {c : C} (h : Dn kvs at_ ok) (fc : Fine c) : Dn (putK kvs (ky c) (.int (G at_ c : Nat))) at_ (fun d => ok d ∨ d = c) := by
  intro d hd
  rcases hd with hd | hd
  · obtain ⟨f, e⟩ := h d hd
    refine ⟨f, ?_⟩
    rw [valV_put]
    by_cases z : ky d = ky c
    · rw [if_pos z, ky_inj f fc z]
    · rw [if_neg z]; exact e
  · subst hd
    refine ⟨fc, ?_⟩
    rw [valV_put, if_pos rfl]
theorem Dn.mono {kvs : List (List Key × V)} {at_ : List C} {ok ok' : C → Prop} (h : Dn kvs at_ ok) (f : ∀ c, ok' c → ok c) : Dn kvs at_ ok' := fun c hc => h c (f c hc)
def spPatI (D : Dt) : Sp := fun vs H Q _ => ∃ (x p dx : Addr) (cs : List C), vs = [.ref x, .ref p] ∧ H x = some (.ins D.a_Patterns dx []) ∧ LstC H p cs ∧ (∀ c ∈ cs, Fine c ∧ (enc c).length ≤ 1000) ∧ cs.length ≤ 1000 ∧ (Oc.atomsOf cs).length ≤ 5 ∧
  ∀ H', PatAt D H' x (Oc.atomsOf cs) (fun c => ∃ d ∈ cs, c ∈ subs d) → (∀ b o, H b = some o → b ≠ x → H' b = some o) → Q .non H'
theorem sub_enc_len : ∀ {c d : C}, d ∈ subs c → (enc d).length ≤ (enc c).length := by
  intro c
  induction c with
  | top | bot | name => intro d h; simp [subs] at h; subst h; exact Nat.le_refl _
  | and c d ic id | or c d ic id =>
    intro x h
    simp only [subs, List.mem_cons, List.mem_append] at h
    rcases h with h | h | h
    · subst h; exact Nat.le_refl _
    · have := ic h; simp only [enc, List.length_cons, List.length_append]; omega
    · have := id h; simp only [enc, List.length_cons, List.length_append]; omega
  | not c ic | some r c ic | all r c ic =>
    intro x h
    simp only [subs, List.mem_cons] at h
    rcases h with h | h
    · subst h; exact Nat.le_refl _
    · have := ic h; simp only [enc, List.length_cons]; omega
section
variable {P : Program} {w : World} {K : PySem.W.Frag} {mg : Str → Option Value} {base : Heap} {D : Dt}
theorem shl_eq (n : Nat) : (1 * 2 ^ ((n : Nat) : Int).toNat : Int) = ((2 ^ n : Nat) : Int) := by rw [Int.toNat_natCast]; simp
theorem shl_eq1 (n : Nat) : (1 * 2 ^ ((n : Nat) : Int).toNat - 1 : Int) = ((2 ^ n - 1 : Nat) : Int) := by
  rw [shl_eq]
  have := Nat.two_pow_pos n
  omega
theorem ok_Patterns_init (T : Tx K mg D) : FnOk P w K mg base CX0 5 D.f_Patterns_init D.d_Patterns_init ["self", "concepts"] (spPatI D) := by
  refine T.F_Patterns_init.ok sc_Patterns_init (fun vs H Q E h => ?_) (fun cdv A outer s H vs Q E hr h => ?_)
  · obtain ⟨x, p, dx, cs, rfl, _⟩ := h
    rfl
  · obtain ⟨x, p, dx, cs, rfl, hx0, hcs, hfc, hl1, h5, k⟩ := h
    refine ⟨_, (pss_cons (ps_set (i := 2) sc_Patterns_init.nd rfl (.inl rfl) (pe_call (ok_atoms_of T) (hr.mono (by decide)) (by rfl) T.m_atoms_of T.F_atoms_of.kp T.b_atoms_of .nil pass0 (pa_cons (pv 1) pa_nil)))
      (pss_cons (ps_fld (pv 0) (pe_op op_shl (pe_int) (pe_len (by rfl) T.b_len (pv 2))) rfl)
      (pss_cons (ps_fld (pv 0) (pe_op op_sub (pe_op op_shl (pe_int) (pe_fld (pv 0) rfl)) (pe_int)) rfl)
      (pss_cons (ps_fld (pv 0) (pe_dnewT) rfl)
      (pss_cons (ps_for PassesOwn.never rfl (pi_enum (by rfl) T.b_enumerate (pa_cons (pv 2) pa_nil)) (pg_tup (by rfl) (pgs_cons (pg_name (i := 3) sc_Patterns_init.nd rfl (Or.inr rfl)) (pgs_cons (pg_name (i := 4) sc_Patterns_init.nd rfl (Or.inl rfl)) (pgs_nil))))
      (pss_one (ps_dput (by exact hu_of hr) (pe_fld (pv 0) rfl) (pv 4) (pe_callB (cr_sum rfl) (by rfl) T.b_sum (by decide +kernel) (pa_cons (pe_lc (own := [("pattern", 7)]) (g := gName 7) (by rfl) sc_Patterns_init.nd (pi_range1 (by rfl) T.b_range (pa_cons (pe_fld (pv 0) rfl) pa_nil)) (blkOk_by (own := [("pattern", 7)]) (N := N_Patterns_init) (sc := defScope s_Patterns_init) (by decide +kernel)) (fun _ _ _ _ _ => by exact pg_name (i := 7) sc_Patterns_init.nd rfl (Or.inl rfl)) (fun _ _ _ _ _ => by exact pts_one (pt_truthK (K := K) rfl (pe_op op_and (pe_op op_shr (pv 7) (pv 3)) (pe_int)) (by intro _; rfl))) (fun _ _ _ _ _ => by exact pe_op op_shl (pe_int) (pv 7))) pa_nil)) rfl)))
      (pss_cons (ps_for PassesOwn.never rfl (pi_list (pv 1)) (pg_name (i := 5) sc_Patterns_init.nd rfl (Or.inl rfl))
      (pss_one (ps_for PassesOwn.never rfl (pi_reversed (by rfl) T.b_reversed (pa_cons (pe_call (ok_parts_of T) (hr.mono (by decide)) (by rfl) T.m_parts_of T.F_parts_of.kp T.b_parts_of .nil pass0 (pa_cons (pv 5) pa_nil)) pa_nil)) (pg_name (i := 6) sc_Patterns_init.nd rfl (Or.inl rfl))
      (pss_one (ps_if (pt_cmpR op_notIn_seq (pe_ix ix_seq (pv 6) (pe_int) (fun _ _ => rfl)) (pe_glob (v := .ref D.t_ATOM_SIGNS) rfl T.m_ATOM_SIGNS rfl) (by rfl))
      (pss_one (ps_dput (by exact hu_of hr) (pe_fld (pv 0) rfl) (pv 6) (pe_meth (pv 0) T.c_Patterns T.M_Patterns_joined (ok_Patterns_joined T) (hr.mono (by decide)) T.b_Patterns_joined .nil pass0 (pa_cons (pv 6) pa_nil)) rfl))
      (pss_nil))))))
      (pss_one (ps_fld (pv 0) (pe_lc (own := [("atom", 4)]) (g := gName 4) (by rfl) sc_Patterns_init.nd (pi_list (pv 2)) (blkOk_by (own := [("atom", 4)]) (N := N_Patterns_init) (sc := defScope s_Patterns_init) (by decide +kernel)) (fun _ _ _ _ _ => by exact pg_name (i := 4) sc_Patterns_init.nd rfl (Or.inl rfl)) (fun _ _ _ _ _ => by exact pts_one (pt_cmpR op_ne (pe_ix (ix_seqK (K := K) rfl) (pv 4) (pe_int) (fun _ _ => rfl)) (pe_globI rfl T.m_NAME) (nomark _))) (fun _ _ _ _ _ => by exact pe_meth (pv 0) T.c_Patterns T.M_Patterns_link_of (ok_Patterns_link_of T) (hr.mono (by decide)) T.b_Patterns_link_of .nil pass0 (pa_cons (pv 4) pa_nil))) rfl)))))))), ?_⟩
    refine ⟨_, rfl, p, cs, rfl, hcs, hfc, hl1, fun H1 pa s1 npa ⟨as, hpa, hats⟩ => ?_⟩
    generalize eat : Oc.atomsOf cs = at_ at *
    have hnd : at_.Nodup := by rw [← eat]; exact atomsOf_nodup cs
    have hatom : ∀ c ∈ at_, isAtom c = true := by rw [← eat]; exact atomsOf_atom
    have hfat : ∀ c ∈ at_, Fine c ∧ (enc c).length ≤ 1000 := by
      rw [← eat]
      intro c hc
      obtain ⟨d, hd, hcd⟩ := mem_atomsOf.mp hc
      rw [atoms_subs] at hcd
      have hs := (List.mem_filter.mp hcd).1
      refine ⟨fine_subs (hfc d hd).1 c hs, Nat.le_trans (sub_enc_len hs) (hfc d hd).2⟩
    have hN : NN at_ ≤ 32 := by
      unfold NN
      calc 2 ^ at_.length ≤ 2 ^ 5 := Nat.pow_le_pow_right (by decide) h5
        _ = 32 := by decide
    have hal : as.length = at_.length := hats.length
    have hx1 : H1 x = some (.ins D.a_Patterns dx []) := s1 _ _ hx0
    have npx : pa ≠ x := fun z => by rw [z, hx0] at npa; cases npa
    -- self.total, self.whole, self.groups
    have e1 : putF "total" (.int (1 * 2 ^ (((as.map V.ref).length : Nat) : Int).toNat)) [] = fl_Patterns_1 (.int (NN at_ : Nat)) := by
      rw [List.length_map, hal, shl_eq]
      exact nx_Patterns_0
    refine ⟨_, rfl, r_lenL (SqL.of hpa) ⟨_, _, rfl, rfl, ⟨Int.natCast_nonneg _, by rw [List.length_map, hal]; omega, by decide⟩, ?_⟩⟩
    refine ⟨_, rfl, x, D.a_Patterns, dx, [], rfl, hx1, T.c_Patterns, T.n_Patterns_total, (by show 0 < 1000; decide), ?_⟩
    rw [e1]
    have hx2 : (upd H1 x (.ins D.a_Patterns dx (fl_Patterns_1 (.int (NN at_ : Nat))))) x = some (.ins D.a_Patterns dx (fl_Patterns_1 (.int (NN at_ : Nat)))) := upd_same
    refine ⟨_, rfl, x, D.a_Patterns, dx, _, _, rfl, hx2, T.c_Patterns, T.n_Patterns_total, lk_Patterns_1_total, _, _, rfl, rfl, ⟨Int.natCast_nonneg _, by omega, by decide⟩, _, _, rfl, rfl, ?_⟩
    refine ⟨_, rfl, x, D.a_Patterns, dx, _, rfl, hx2, T.c_Patterns, T.n_Patterns_whole, (by show 1 < 1000; decide), ?_⟩
    have e2 : putF "whole" (.int (1 * 2 ^ ((NN at_ : Nat) : Int).toNat - 1)) (fl_Patterns_1 (.int (NN at_ : Nat))) = fl_Patterns_2 (.int (NN at_ : Nat)) (.int ((2 ^ NN at_ - 1 : Nat) : Int)) := by
      rw [shl_eq1]
      exact nx_Patterns_1
    rw [e2]
    intro ds nds
    have nds2 : H1 ds = none ∧ ds ≠ x := by
      by_cases z : ds = x
      · subst z; rw [upd_same] at nds; cases nds
      · rw [upd_ne z, upd_ne z] at nds; exact ⟨nds, z⟩
    obtain ⟨nds1, ndx⟩ := nds2
    refine ⟨_, rfl, x, D.a_Patterns, dx, _, rfl, (by rw [upd_ne (fun z => ndx z.symm)]; exact upd_same), T.c_Patterns, T.n_Patterns_groups, (by show 2 < 1000; decide), ?_⟩
    rw [nx_Patterns_2]
    -- the atoms' groups
    have kpa : ∀ H', KX x ds H1 H' → H' pa = some (.lst (as.map V.ref)) := fun H' kx => kx _ _ hpa npx (ne_of_none hpa nds1)
    have ktup : ∀ H' b l, KX x ds H1 H' → TupN H1 b l → TupN H' b l := fun H' b l kx hb => kx _ _ hb (ne_of hb hx1 (by intro z; cases z)) (ne_of_none hb nds1)
    refine ⟨_, rfl, pa, as.map V.ref, rfl, SqL.of (kpa _ (KX.ux (KX.ud (KX.ux (KX.ux (KX.refl x ds H1)))))), for_it (walk_enum (K := K) (a := pa) (xs := as.map V.ref)) (fun i σ H' => ∃ kvs v3 v4, σ = [some (.ref x), some (.ref p), some (.ref pa), v3, v4, none, none, none] ∧ KX x ds H1 H' ∧
      H' x = some (.ins D.a_Patterns dx (fl_Patterns_3 (.int (NN at_ : Nat)) (.int ((2 ^ NN at_ - 1 : Nat) : Int)) (.ref ds))) ∧ H' ds = some (.dT kvs) ∧ Dn kvs at_ (fun c => c ∈ at_.take i) ∧ kvs.length ≤ i)
      ⟨[], none, none, rfl, KX.ux (KX.ud (KX.ux (KX.ux (KX.refl x ds H1)))), upd_same, ?_, ?_, Nat.le_refl _⟩ (fun i σ H' _ ⟨_, _, _, _, kx, _⟩ => SqL.of (kpa H' kx)) ?_ ?_⟩
    · rw [upd_ne ndx]
      exact upd_same
    · intro c hc
      rw [List.take_zero] at hc
      cases hc
    · rintro i y σ H2 H3 lt ⟨kvs, v3, v4, rfl, kx, hx3, hds, hdn, hlen⟩ ⟨t, y1, y2, rfl, nt, rfl, ey1, ey2⟩
      cases ey1
      obtain ⟨b, hb, rfl⟩ := get_ref ey2
      obtain ⟨c, hc, hbc⟩ := All2.get hats hb
      have hci : c ∈ at_ := List.mem_of_getElem? hc
      have st := Same.new (o := HO.tup [.int (i : Nat), .ref b]) nt
      refine ⟨t, _, rfl, SqT.of upd_same, rfl, _, _, rfl, _, _, rfl, rfl, ?_⟩
      refine ⟨_, rfl, x, D.a_Patterns, dx, _, _, rfl, st _ _ hx3, T.c_Patterns, T.n_Patterns_total, lk_Patterns_3_total, _, rfl, by omega, by omega, ?_⟩
      rw [Int.toNat_natCast]
      intro L nL
      refine lc_range (lo := 0) (n := NN at_)
        (fun j H4 => Same (upd H2 t (HO.tup [.int (i : Nat), .ref b])) H4 ∧ H4 L = some (.lst ((((List.range j).filter fun q => q.testBit i).map fun q => (2 : Int) ^ q).map V.int))) ⟨Same.new nL, upd_same⟩ ?_ ?_
      · rintro j H4 ltj ⟨s4, hL⟩
        rw [Int.zero_add]
        refine ⟨rfl, ?_⟩
        refine ⟨_, rfl, _, rfl, _, _, rfl, rfl, Int.natCast_nonneg _, _, _, rfl, rfl, _, rfl, ?_⟩
        rw [b_bitne]
        cases c1 : j.testBit i with
        | true =>
          refine if_true_of rfl ?_
          refine ⟨_, rfl, _, _, rfl, rfl, ⟨Int.natCast_nonneg _, by omega, by decide⟩, _, hL, ?_, Same.mut s4 nL, ?_⟩
          · rw [List.length_map, List.length_map]
            refine Nat.lt_of_le_of_lt (List.length_filter_le _ _) ?_
            rw [List.length_range]
            exact Nat.lt_of_lt_of_le ltj (Nat.le_trans hN (by decide))
          · rw [upd_same, List.range_succ, List.filter_append, List.map_append, List.map_append]
            show some (HO.lst (_ ++ [V.int (1 * 2 ^ ((j : Nat) : Int).toNat)])) = _
            rw [shl_eq]
            simp [c1]
        | false =>
          refine if_false_of rfl ⟨s4, ?_⟩
          rw [hL, List.range_succ, List.filter_append]
          simp [c1]
      · rintro H4 ⟨s4, hL⟩
        refine ⟨L, _, rfl, SqL.of hL, ?_⟩
        rw [mk_sum]
        have eG : mk (NN at_) (fun q => q.testBit i) = G at_ c := by
          unfold G
          congr 1
          funext q
          exact (bit_atom hnd hc (hatom c hci) q).symm
        rw [eG]
        have s5 := st.trans s4
        refine ⟨_, rfl, x, D.a_Patterns, dx, _, _, rfl, s5 _ _ hx3, T.c_Patterns, T.n_Patterns_groups, lk_Patterns_3_groups, _, rfl, ds, _, rfl, dput (s5 _ _ hds) (s5 _ _ (ktup _ _ _ kx hbc)) ?_, ?_⟩
        · rw [List.length_map, hal] at lt
          exact Nat.lt_of_le_of_lt (show kvs.length ≤ 5 by omega) (by decide)
        · refine ⟨_, some (.int (i : Nat)), some (.ref b), rfl, (kx.trans (KX.of s5)).ud, ?_, upd_same, (hdn.put (hfat c hci).1).mono fun d hd => ?_, ?_⟩
          · rw [upd_ne (fun z => ndx z.symm)]
            exact s5 _ _ hx3
          · rw [take_more hc] at hd
            simpa using hd
          · have := putK_len kvs (ky c) (.int (G at_ c : Nat))
            omega
    · rintro σ H2 ⟨kvs, v3, v4, rfl, kx, hx3, hds, hdn, hlen⟩
      rw [List.length_map, hal, List.take_length] at hdn
      rw [List.length_map, hal] at hlen
      obtain ⟨cas, hp0, hcons0⟩ := hcs
      have hp1 := s1 _ _ hp0
      have hcons1 : Cons H1 cas cs := Cons.same hcons0 s1
      have kp : ∀ H', KX x ds H1 H' → H' p = some (.lst (cas.map V.ref)) := fun H' kx => kx _ _ hp1 (ne_of hp1 hx1 (by intro z; cases z)) (ne_of_none hp1 nds1)
      -- the other parts' groups
      refine ⟨_, rfl, p, rfl, ⟨_, SqL.of (kp _ kx)⟩, for_list (K := K) (a := p) (xs := cas.map V.ref) (fun i σ H' => ∃ kvs v3 v4 v5 v6, σ = [some (.ref x), some (.ref p), some (.ref pa), v3, v4, v5, v6, none] ∧ KX x ds H1 H' ∧
        H' x = some (.ins D.a_Patterns dx (fl_Patterns_3 (.int (NN at_ : Nat)) (.int ((2 ^ NN at_ - 1 : Nat) : Int)) (.ref ds))) ∧ H' ds = some (.dT kvs) ∧ Dn kvs at_ (fun c => c ∈ at_ ∨ ∃ d ∈ cs.take i, c ∈ subs d) ∧ kvs.length ≤ 5 + i * 1000)
        ⟨kvs, v3, v4, none, none, rfl, kx, hx3, hds, hdn.mono (fun c hc => ?_), by omega⟩ (fun i σ H' _ ⟨_, _, _, _, _, _, kx, _⟩ => SqL.of (kp H' kx)) ?_ ?_⟩
      · rcases hc with hc | ⟨d, hd, _⟩
        · exact hc
        · cases hd
      · rintro i y σ H3 hi ⟨kvs, v3, v4, v5, v6, rfl, kx, hx3, hds, hdn, hlen⟩
        obtain ⟨ca, hca, rfl⟩ := get_ref hi
        obtain ⟨c, hcc, hct⟩ := All2.get hcons1 hca
        have fci := hfc c (List.mem_of_getElem? hcc)
        have hil : i < cs.length := (List.getElem?_eq_some_iff.mp hcc).1
        refine ⟨_, rfl, ca, c, rfl, ktup _ _ _ kx hct, fci.1, fci.2, fun H4 q s4 nq ⟨ps, hq, hps⟩ => ?_⟩
        have hpl : ps.length = (subs c).length := hps.length
        have hsl := subs_len c
        have nqx : q ≠ x := fun z => by rw [z, hx3] at nq; cases nq
        have nqd : q ≠ ds := fun z => by rw [z, hds] at nq; cases nq
        refine ⟨q, ps.map V.ref, rfl, SqL.of hq, for_it (walk_rev (K := K) (a := q) (xs := ps.map V.ref)) (fun j σ H' => ∃ kvs v6, σ = [some (.ref x), some (.ref p), some (.ref pa), v3, v4, some (.ref ca), v6, none] ∧ KX x ds H4 H' ∧
          H' x = some (.ins D.a_Patterns dx (fl_Patterns_3 (.int (NN at_ : Nat)) (.int ((2 ^ NN at_ - 1 : Nat) : Int)) (.ref ds))) ∧ H' ds = some (.dT kvs) ∧
          Dn kvs at_ (fun d => (d ∈ at_ ∨ ∃ e ∈ cs.take i, d ∈ subs e) ∨ d ∈ (subs c).drop ((subs c).length - j)) ∧ kvs.length ≤ 5 + i * 1000 + j)
          ⟨kvs, v6, rfl, KX.refl x ds H4, s4 _ _ hx3, s4 _ _ hds, hdn.mono (fun d hd => ?_), by omega⟩ (fun j σ H' _ ⟨_, _, _, kx4, _⟩ => SqL.of (kx4 _ _ hq nqx nqd)) ?_ ?_⟩
        · rcases hd with hd | hd
          · exact hd
          · rw [Nat.sub_zero, List.drop_length] at hd
            cases hd
        · rintro j y σ H5 H6 lt ⟨kvs, v6, rfl, kx4, hx5, hds5, hdn5, hlen5⟩ ⟨rfl, hy⟩
          obtain ⟨b, hb, rfl⟩ := get_ref hy
          rw [List.length_map, hpl] at hb lt
          obtain ⟨d, hd, hbd⟩ := All2.get hps hb
          have fd : Fine d := fine_subs fci.1 d (List.mem_of_getElem? hd)
          have ld : (enc d).length ≤ 1000 := Nat.le_trans (sub_enc_len (List.mem_of_getElem? hd)) fci.2
          have hx4 : H4 x = _ := s4 _ _ hx3
          have hds4 : H4 ds = _ := s4 _ _ hds
          have htd : TupN H6 b (enc d) := kx4 _ _ hbd (ne_of hbd hx4 (by intro z; cases z)) (ne_of hbd hds4 (by intro z; cases z))
          have ed : (subs c).drop ((subs c).length - (j + 1)) = d :: (subs c).drop ((subs c).length - j) := by
            have e : (subs c).length - 1 - j = (subs c).length - (j + 1) := by omega
            rw [e] at hd
            obtain ⟨l2, e2⟩ := List.getElem?_eq_some_iff.mp hd
            rw [List.drop_eq_getElem_cons l2, e2]
            congr 2
            omega
          have fin : ∀ kvs', Dn kvs' at_ (fun z => ((z ∈ at_ ∨ ∃ e ∈ cs.take i, z ∈ subs e) ∨ z ∈ (subs c).drop ((subs c).length - j)) ∨ z = d) → Dn kvs' at_ (fun z => (z ∈ at_ ∨ ∃ e ∈ cs.take i, z ∈ subs e) ∨ z ∈ (subs c).drop ((subs c).length - (j + 1))) := fun kvs' h => h.mono fun z hz => by
            rw [ed] at hz
            rcases hz with hz | hz
            · exact .inl (.inl hz)
            · rcases List.mem_cons.mp hz with hz | hz
              · exact .inr hz
              · exact .inl (.inr hz)
          refine ⟨_, rfl, r_ix (TupN.nums htd) (enc_sign d) ?_⟩
          refine ⟨_, _, rfl, .inr (T.q_ATOM_SIGNS.sq _), rfl, flat_iv _, _, rfl, ?_⟩
          have e1 : (if true = true then !inV (V.int (sign d : Nat)) (iv [2, 6, 7]) else inV (V.int (sign d : Nat)) (iv [2, 6, 7])) = !isAtom d := by
            rw [if_pos rfl, in_signs]
          cases ea : isAtom d with
          | true =>
            refine if_false_of (by rw [e1, ea]; rfl) ?_
            refine ⟨kvs, some (.ref b), rfl, kx4, hx5, hds5, fin _ (hdn5.mono fun z hz => ?_), by omega⟩
            rcases hz with hz | hz
            · exact hz
            · subst hz
              have : z ∈ at_ := by
                rw [← eat]
                refine mem_atomsOf.mpr ⟨c, List.mem_of_getElem? hcc, ?_⟩
                rw [atoms_subs]
                exact List.mem_filter.mpr ⟨List.mem_of_getElem? hd, ea⟩
              exact .inl (.inl this)
          | false =>
            refine if_true_of (by rw [e1, ea]; rfl) ?_
            refine ⟨_, rfl, x, dx, _, rfl, hx5, no_Patterns_3_joined, _, rfl, ?_⟩
            refine ⟨x, b, dx, ds, _, at_, kvs, d, rfl, ⟨hx5, lk_Patterns_3_groups, lk_Patterns_3_whole, hds5⟩, fun kd hkd => ?_, htd, fd, ld, ea, fun H7 s7 => ?_⟩
            · refine (hdn5 kd (.inr ?_)).2
              have := kids_behind c _ d hd kd hkd
              have e : (subs c).length - 1 - j + 1 = (subs c).length - j := by omega
              rw [e] at this
              exact this
            · refine ⟨_, rfl, x, D.a_Patterns, dx, _, _, rfl, s7 _ _ hx5, T.c_Patterns, T.n_Patterns_groups, lk_Patterns_3_groups, _, rfl, ds, _, rfl, dput (s7 _ _ hds5) (s7 _ _ htd) ?_, ?_⟩
              · have : i * 1000 ≤ 1000 * 1000 := Nat.mul_le_mul_right _ (by omega)
                exact Nat.lt_of_le_of_lt (show kvs.length ≤ 2000000 by omega) (by decide)
              · refine ⟨_, some (.ref b), rfl, (kx4.trans (KX.of s7)).ud, ?_, upd_same, fin _ (hdn5.put fd), ?_⟩
                · rw [upd_ne (fun z => ndx z.symm)]
                  exact s7 _ _ hx5
                · have := putK_len kvs (ky d) (.int (G at_ d : Nat))
                  omega
        · rintro σ H5 ⟨kvs, v6, rfl, kx4, hx5, hds5, hdn5, hlen5⟩
          rw [List.length_map, hpl] at hdn5 hlen5
          refine ⟨kvs, v3, v4, some (.ref ca), v6, rfl, (kx.trans (KX.of s4)).trans kx4, hx5, hds5, hdn5.mono fun z hz => ?_, by omega⟩
          rw [take_more hcc] at hz
          rw [Nat.sub_self, List.drop_zero]
          rcases hz with hz | ⟨e, he, hz⟩
          · exact .inl (.inl hz)
          · rcases List.mem_append.mp he with he | he
            · exact .inl (.inr ⟨e, he, hz⟩)
            · have := List.mem_singleton.mp he
              subst this
              exact .inr hz
      · rintro σ H3 ⟨kvs, v3, v4, v5, v6, rfl, kx, hx3, hds, hdn, hlen⟩
        rw [List.length_map, hcons1.length, List.take_length] at hdn
        -- the links
        refine ⟨_, rfl, pa, rfl, ⟨_, SqL.of (kpa _ kx)⟩, fun L nL => lc_list (K := K) (a := pa) (xs := as.map V.ref) (fun i H' => ∃ ls, Same H3 H' ∧ H' L = some (.lst (ls.map V.ref)) ∧ All2 (LinkAt D H' at_) ls (roles (at_.take i)))
          ⟨[], Same.new nL, upd_same, .nil⟩ (fun i H' _ ⟨_, s, _⟩ => SqL.of (s _ _ (kpa _ kx))) ?_ ?_⟩
        · rintro i y H4 hi ⟨ls, s4, hL, hls⟩
          obtain ⟨b, hb, rfl⟩ := get_ref hi
          obtain ⟨c, hc, hbc⟩ := All2.get hats hb
          have hci : c ∈ at_ := List.mem_of_getElem? hc
          have htc : TupN H4 b (enc c) := s4 _ _ (ktup _ _ _ kx hbc)
          have er : roles (at_.take (i + 1)) = roles (at_.take i) ++ (if isRole c = true then [c] else []) := by
            unfold roles
            rw [take_more hc, List.filter_append]
            congr 1
            cases hrc : isRole c <;> simp [hrc]
          refine ⟨rfl, ?_⟩
          refine ⟨_, rfl, r_ix (TupN.nums htc) (enc_sign c) ⟨rfl, _, rfl, ?_⟩⟩
          have es : (!decide (V.int (sign c : Nat) = V.int 2)) = isRole c := by
            have := hatom c hci
            cases c <;> first | rfl | (cases this)
          cases ec : isRole c with
          | false =>
            refine if_false_of (es.trans ec) ⟨ls, s4, hL, ?_⟩
            rw [er, ec]
            simpa using hls
          | true =>
            refine if_true_of (es.trans ec) ?_
            refine ⟨_, rfl, x, dx, _, rfl, s4 _ _ hx3, no_Patterns_3_link_of, _, rfl, ?_⟩
            have hin : inner c ∈ subs c := by
              obtain ⟨ek, _⟩ := role_facts ec
              exact kid_sub (by rw [ek]; simp)
            obtain ⟨z, hz, hcz⟩ : ∃ z ∈ cs, c ∈ subs z := by
              rw [← eat] at hci
              obtain ⟨z, hz, h⟩ := mem_atomsOf.mp hci
              rw [atoms_subs] at h
              exact ⟨z, hz, (List.mem_filter.mp h).1⟩
            refine ⟨x, b, dx, ds, _, at_, kvs, c, rfl, ⟨s4 _ _ hx3, lk_Patterns_3_groups, lk_Patterns_3_whole, s4 _ _ hds⟩, (hdn c (.inl hci)).2, (hdn (inner c) (.inr ⟨z, hz, sub_trans hcz hin⟩)).2, htc, (hfat c hci).1, (hfat c hci).2, ec, fun H5 l s5 hl => ?_⟩
            have hL5 := s5 _ _ hL
            refine ⟨_, hL5, ?_, ls ++ [l], Same.mut (s4.trans s5) nL, ?_, ?_⟩
            · have h1 := hls.length
              have h2 : (roles (at_.take i)).length ≤ at_.length := Nat.le_trans (List.length_filter_le _ _) (by rw [List.length_take]; omega)
              rw [List.length_map]
              exact Nat.lt_of_le_of_lt (show ls.length ≤ 5 by omega) (by decide)
            · rw [upd_same, List.map_append]
              rfl
            · rw [er, ec]
              have keep : ∀ a z, LinkAt D H5 at_ a z → LinkAt D (upd H5 L (.lst (ls.map V.ref ++ [.ref l]))) at_ a z := fun a z ⟨d1, h1⟩ => ⟨d1, by
                rw [upd_ne (ne_of h1 hL5 (by intro z; cases z))]
                exact h1⟩
              exact All2.append (hls.mono fun a z ⟨d1, h1⟩ => keep a z ⟨d1, s5 _ _ h1⟩) (.cons (keep l c hl) .nil)
        · rintro H4 ⟨ls, s4, hL, hls⟩
          rw [List.length_map, hal, List.take_length] at hls
          refine ⟨_, rfl, x, D.a_Patterns, dx, _, rfl, s4 _ _ hx3, T.c_Patterns, T.n_Patterns_links, (by show 3 < 1000; decide), ?_⟩
          rw [nx_Patterns_3]
          have hx4 := s4 _ _ hx3
          have keep : ∀ a o, H4 a = some o → a ≠ x → (upd H4 x (.ins D.a_Patterns dx (fl_Patterns_4 (.int (NN at_ : Nat)) (.int ((2 ^ NN at_ - 1 : Nat) : Int)) (.ref ds) (.ref L)))) a = some o := fun a o h n => by
            rw [upd_ne n]
            exact h
          refine k _ ⟨dx, ds, L, ls, upd_same, ⟨kvs, keep _ _ (s4 _ _ hds) ndx, fun c hc => (hdn c (.inr hc)).2⟩, keep _ _ hL (fun z => by rw [z, hx4] at hL; cases hL), hls.mono fun a z ⟨d1, h1⟩ => ⟨d1, keep _ _ h1 (fun y => ?_)⟩⟩ fun b o hb n => ?_
          · refine keep _ _ (s4 _ _ ((kx _ _ (s1 _ _ hb) n (ne_of_none (s1 _ _ hb) nds1)))) n
          · subst y
            rw [hx4] at h1
            injection h1 with h1
            injection h1 with h1 h2 h3
            have h4 := congrArg (fun l => List.lookup ("total" : Str) l) h3
            have n4 : (fl_Link_3 (.int (roleOf z : Nat)) (.int (mk (NN at_) (nd at_ z) : Nat)) (.int (mk (NN at_) (gl at_ z) : Nat))).lookup ("total" : Str) = none := (lk_past (by decide +kernel)).trans ((lk_past (by decide +kernel)).trans ((lk_past (by decide +kernel)).trans rfl))
            rw [n4, lk_Patterns_3_total] at h4
            cases h4
end
end Wk
end
section
set_option Elab.async false
set_option maxRecDepth 100000
set_option maxHeartbeats 4000000
namespace Wk
open PySem PySem.Spec PyProof.Rows L2
open Oc (C Axiom)
/-- the concepts of axioms -/
def flat (ax : List Axiom) : List C := ax.flatMap fun a => [a.1, a.2]
theorem flat_append (a b : List Axiom) : flat (a ++ b) = flat a ++ flat b := List.flatMap_append
theorem flat_len2 (ax : List Axiom) : (flat ax).length = 2 * ax.length := by
  unfold flat
  induction ax with
  | nil => rfl
  | cons a l ih => rw [List.flatMap_cons, List.length_append, ih]; simp only [List.length_cons, List.length_nil]; omega
theorem mem_flat {ax : List Axiom} {c : C} : c ∈ flat ax ↔ ∃ a ∈ ax, c = a.1 ∨ c = a.2 := by
  unfold flat
  rw [List.mem_flatMap]
  simp
/-- subsumption, by whichever atoms -/
theorem under_any {ax : List Axiom} {a : Axiom} {cs : List C} (h : ∀ c, c = a.1 ∨ c = a.2 ∨ c ∈ flat ax → c ∈ cs) :
    Oc.under ax a.1 a.2 = !(Oc.types (Oc.atomsOf cs) ax).any (fun t => Oc.holds (Oc.atomsOf cs) t a.1 && !Oc.holds (Oc.atomsOf cs) t a.2) := by
  show (!(Oc.types (Oc.atomsFor ax [.and a.1 (.not a.2)]) ax).any (fun t => Oc.holds (Oc.atomsFor ax [.and a.1 (.not a.2)]) t a.1 && !Oc.holds (Oc.atomsFor ax [.and a.1 (.not a.2)]) t a.2)) = _
  have c1 : ∀ b ∈ ax, b.1 ∈ flat ax ∧ b.2 ∈ flat ax := fun b hb => ⟨mem_flat.mpr ⟨b, hb, .inl rfl⟩, mem_flat.mpr ⟨b, hb, .inr rfl⟩⟩
  have cvA : ∀ y, y ∈ a.1.atoms ∨ y ∈ a.2.atoms → y ∈ Oc.atomsFor ax [.and a.1 (.not a.2)] := fun y hy => mem_atomsOf.mpr ⟨.and a.1 (.not a.2), by simp, by
    simp only [C.atoms, List.mem_append]
    exact hy⟩
  rw [under_eq (a1 := Oc.atomsFor ax [.and a.1 (.not a.2)]) (a2 := Oc.atomsOf cs) (atomsOf_closed _)
    (fun b hb => ⟨atomsOf_cov (List.mem_append_left _ (c1 b hb).1), atomsOf_cov (List.mem_append_left _ (c1 b hb).2)⟩)
    (fun y hy => cvA y (.inl hy)) (fun y hy => cvA y (.inr hy)) (atomsOf_closed _)
    (fun b hb => ⟨atomsOf_cov (h _ (.inr (.inr (c1 b hb).1))), atomsOf_cov (h _ (.inr (.inr (c1 b hb).2)))⟩) (atomsOf_cov (h _ (.inl rfl))) (atomsOf_cov (h _ (.inr (.inl rfl))))]
def FineA (a : Axiom) : Prop := (Fine a.1 ∧ (enc a.1).length ≤ 1000) ∧ (Fine a.2 ∧ (enc a.2).length ≤ 1000)
/-- the first concept of the pair is subsumed by the second one, by these atoms -/
def uAt (at_ : List C) (ax : List Axiom) (a : Axiom) : Bool := !(Oc.types at_ ax).any fun t => Oc.holds at_ t a.1 && !Oc.holds at_ t a.2
theorem uAt_eq (at_ : List C) (ax : List Axiom) (a : Axiom) :
    decide (V.int (Builtin.bitAnd (mk (NN at_) (fun u => decide (u ∈ Oc.types at_ ax)) : Nat) (mk (NN at_) (fun u => Oc.holds at_ u a.1 && !Oc.holds at_ u a.2) : Nat)) = V.int 0) = uAt at_ ax a := by
  unfold uAt
  rw [b_and, mk_and, Bool.eq_iff_iff, decide_eq_true_eq, Bool.not_eq_true', ← Bool.not_eq_true, List.any_eq_true]
  constructor
  · intro h
    injection h with h
    have h : mk (NN at_) (fun i => decide (i ∈ Oc.types at_ ax) && (Oc.holds at_ i a.1 && !Oc.holds at_ i a.2)) = 0 := by omega
    rintro ⟨t, ht, h2⟩
    have := mk_eq_zero.mp h t (types_self ht).1
    rw [h2, decide_eq_true ht] at this
    cases this
  · intro h
    have : mk (NN at_) (fun i => decide (i ∈ Oc.types at_ ax) && (Oc.holds at_ i a.1 && !Oc.holds at_ i a.2)) = 0 := mk_eq_zero.mpr fun i lt => by
      cases z : (decide (i ∈ Oc.types at_ ax) && (Oc.holds at_ i a.1 && !Oc.holds at_ i a.2)) with
      | false => rfl
      | true =>
        rw [Bool.and_eq_true, decide_eq_true_eq] at z
        exact absurd ⟨i, z.1, z.2⟩ h
    rw [this]
    rfl
def spSubs (D : Dt) : Sp := fun vs H Q _ => ∃ (x p q : Addr) (at_ : List C) (ok : C → Prop) (rs qs : List Addr) (prs ax : List Axiom), vs = [.ref x, .ref p, .ref q] ∧ PatAt D H x at_ ok ∧ at_.length ≤ 5 ∧
  H p = some (.lst (rs.map V.ref)) ∧ All2 (PairAt H) rs prs ∧ (∀ a ∈ prs, ok a.1 ∧ ok a.2) ∧ prs.length ≤ 100 ∧ H q = some (.lst (qs.map V.ref)) ∧ All2 (PairAt H) qs ax ∧ (∀ a ∈ ax, ok a.1 ∧ ok a.2) ∧
  ∀ H' l, Same H H' → H l = none → H' l = some (.lst ((prs.map (uAt at_ ax)).map V.bl)) → Q (.ref l) H'
def spSub : Sp := fun vs H Q _ => ∃ (r p : Addr) (rs : List Addr) (a : Axiom) (ax : List Axiom), vs = [.ref r, .ref p] ∧ PairAt H r a ∧ H p = some (.lst (rs.map V.ref)) ∧ All2 (PairAt H) rs ax ∧ FineA a ∧ (∀ b ∈ ax, FineA b) ∧ ax.length ≤ 100 ∧
  (Oc.atomsOf ([a.1, a.2] ++ flat ax)).length ≤ 5 ∧ ∀ H', Same H H' → Q (.bl (Oc.under ax a.1 a.2)) H'
section
variable {P : Program} {w : World} {K : PySem.W.Frag} {mg : Str → Option Value} {base : Heap} {D : Dt}
theorem ok_Patterns_subsumptions (T : Tx K mg D) : FnOk P w K mg base CX0 4 D.f_Patterns_subsumptions D.d_Patterns_subsumptions ["self", "pairs", "axioms"] (spSubs D) := by
  refine T.F_Patterns_subsumptions.ok sc_Patterns_subsumptions (fun vs H Q E h => ?_) (fun cdv A outer s H vs Q E hr h => ?_)
  · obtain ⟨x, p, q, at_, ok, rs, qs, prs, ax, rfl, _⟩ := h
    rfl
  · obtain ⟨x, p, q, at_, ok, rs, qs, prs, ax, rfl, hP, h5, hp, hrs, o1, hl, hq, hqs, o2, k⟩ := h
    obtain ⟨dx, ds, dl, ls, hx, hrest⟩ := id hP
    refine ⟨_, (pss_cons (ps_set (i := 3) sc_Patterns_subsumptions.nd rfl (.inr rfl) (pe_meth (pv 0) T.c_Patterns T.M_Patterns_occurring (ok_Patterns_occurring T) (hr.mono (by decide)) T.b_Patterns_occurring .nil pass0 (pa_cons (pv 2) pa_nil)))
      (pss_one (ps_ret (pe_lc (own := [("pair", 4)]) (g := gName 4) (by rfl) sc_Patterns_subsumptions.nd (pi_list (pv 1)) (blkOk_by (own := [("pair", 4)]) (N := N_Patterns_subsumptions) (sc := defScope s_Patterns_subsumptions) (by decide +kernel)) (fun _ _ _ _ _ => by exact pg_name (i := 4) sc_Patterns_subsumptions.nd rfl (Or.inl rfl)) (fun _ _ _ _ _ => by exact pts_nil) (fun _ _ _ _ _ => by exact pe_cmpR op_eq (pe_op op_and (pv 3) (pe_meth (pv 0) T.c_Patterns T.M_Patterns_against (ok_Patterns_against T) (hr.mono (by decide)) T.b_Patterns_against .nil pass0 (pa_cons (pv 4) pa_nil))) (pe_int) (nomark _)))))), ?_⟩
    refine ⟨_, rfl, x, dx, _, rfl, hx, no_Patterns_4_occurring, _, rfl, ?_⟩
    refine ⟨x, q, at_, ok, qs, ax, rfl, hP, h5, hq, hqs, o2, ?_⟩
    refine ⟨_, rfl, p, rfl, ⟨_, SqL.of hp⟩, fun L nL => lc_list (K := K) (a := p) (xs := rs.map V.ref) (fun i H' => Same H H' ∧ H' L = some (.lst (((prs.take i).map (uAt at_ ax)).map V.bl))) ⟨Same.new nL, upd_same⟩ (fun i H' _ ⟨s1, _⟩ => SqL.of (s1 _ _ hp)) ?_ ?_⟩
    · rintro i y H1 hi ⟨s1, hL⟩
      obtain ⟨r, hr', rfl⟩ := get_ref hi
      obtain ⟨a, ha, hra⟩ := All2.get hrs hr'
      obtain ⟨q1, q2⟩ := o1 a (List.mem_of_getElem? ha)
      refine ⟨rfl, _, rfl, _, rfl, x, dx, _, rfl, s1 _ _ hx, no_Patterns_4_against, _, rfl, ?_⟩
      refine ⟨x, r, at_, ok, a, rfl, hP.same s1, hra.same s1, q1, q2, ?_⟩
      refine ⟨_, _, rfl, rfl, rfl, ?_⟩
      refine ⟨_, hL, ?_, Same.mut s1 nL, ?_⟩
      · rw [List.length_map, List.length_map, List.length_take]
        exact Nat.lt_of_le_of_lt (show min i prs.length ≤ 100 by omega) (by decide)
      · rw [upd_same, take_more ha, List.map_append, List.map_append]
        show _ = some (HO.lst (_ ++ [V.bl (uAt at_ ax a)]))
        rw [← uAt_eq]
    · rintro H1 ⟨s1, hL⟩
      rw [List.length_map, hrs.length, List.take_length] at hL
      exact k H1 L s1 nL hL
theorem ok_is_subsumed (T : Tx K mg D) : FnOk P w K mg base CX0 7 D.f_is_subsumed D.d_is_subsumed ["pair", "axioms"] spSub := by
  refine T.F_is_subsumed.ok sc_is_subsumed (fun vs H Q E h => ?_) (fun cdv A outer s H vs Q E hr h => ?_)
  · obtain ⟨r, p, rs, a, ax, rfl, _⟩ := h
    rfl
  · obtain ⟨r, p, rs, a, ax, rfl, hpr, hp, hrs, fa, fax, hl, h5, k⟩ := h
    obtain ⟨b1, b2, hr0, hb1, hb2⟩ := id hpr
    refine ⟨_, (pss_cons (ps_set (i := 2) sc_is_subsumed.nd rfl (.inl rfl) (pe_callTy call_list_of (by rfl) T.b_list (by decide +kernel) (pa_cons (pv 0) pa_nil)))
      (pss_cons (ps_for PassesOwn.never rfl (pi_list (pv 1)) (pg_name (i := 3) sc_is_subsumed.nd rfl (Or.inl rfl))
      (pss_one (ps_expr (pe_bm PySem.F.plainAttrs_list PySem.F.slot_list_extend PySem.F.type_list_extend mt_extendT (pv 2) (pa_cons (pv 3) pa_nil)))))
      (pss_one (ps_ret (pe_ix ix_seq (pe_meth (pe_make T.M_Patterns (ok_Patterns_init T) (hr.mono (by decide)) (by rfl) T.m_Patterns T.b_Patterns_init .nil pass0 (pa_cons (pv 2) pa_nil)) T.c_Patterns T.M_Patterns_subsumptions (ok_Patterns_subsumptions T) (hr.mono (by decide)) T.b_Patterns_subsumptions .nil pass0 (pa_cons (pe_lst (pa_cons (pv 0) pa_nil)) (pa_cons (pv 1) pa_nil))) (pe_int) (fun _ _ => rfl)))))), ?_⟩
    refine ⟨_, rfl, r, _, rfl, .inr (SqT.of hr0), fun l nl => ?_⟩
    have s0 := Same.new (o := .lst [.ref b1, .ref b2]) nl
    refine ⟨_, rfl, p, rfl, ⟨_, SqL.of (s0 _ _ hp)⟩, for_list (K := K) (a := p) (xs := rs.map V.ref) (fun i σ H' => ∃ cas v, σ = [some (.ref r), some (.ref p), some (.ref l), v] ∧ Same H H' ∧ H' l = some (.lst (cas.map V.ref)) ∧ Cons H' cas ([a.1, a.2] ++ flat (ax.take i)))
      ⟨[b1, b2], none, rfl, s0, upd_same, .cons (s0 _ _ hb1) (.cons (s0 _ _ hb2) .nil)⟩ (fun i σ H' _ ⟨_, _, _, s1, _⟩ => SqL.of (s1 _ _ hp)) ?_ ?_⟩
    · rintro i y σ H1 hi ⟨cas, v, rfl, s1, hl1, hc1⟩
      obtain ⟨x, hx, rfl⟩ := get_ref hi
      obtain ⟨b, hb, hxb⟩ := All2.get hrs hx
      obtain ⟨c1, c2, hx0, hc1', hc2'⟩ := PairAt.same hxb s1
      have hlen := hc1.length
      refine ⟨_, rfl, .inl ⟨rfl, _, SqL.of hl1⟩, _, rfl, l, x, _, _, rfl, rfl, hl1, hx0, ?_, ?_⟩
      · rw [List.length_map, hlen, List.length_append, flat_len2, List.length_take]
        exact Nat.le_trans (show _ ≤ 1000 by show 2 + 2 * min i ax.length + 2 ≤ 1000; omega) (by decide)
      · have keep : ∀ b l', TupN H1 b l' → TupN (upd H1 l (.lst (cas.map V.ref ++ [.ref c1, .ref c2]))) b l' := fun b l' hb => by
          unfold TupN at hb ⊢
          rw [upd_ne (ne_of hb hl1 (by intro z; cases z))]
          exact hb
        refine ⟨cas ++ [c1, c2], some (.ref x), rfl, Same.mut s1 nl, ?_, ?_⟩
        · rw [upd_same, List.map_append]
          rfl
        · rw [take_more hb, flat_append, ← List.append_assoc]
          exact All2.append (All2.mono (fun b c' hb => keep _ _ hb) hc1) (.cons (keep _ _ hc1') (.cons (keep _ _ hc2') .nil))
    · rintro σ H1 ⟨cas, v, rfl, s1, hl1, hc1⟩
      rw [List.length_map, hrs.length, List.take_length] at hc1
      have hfine : ∀ c ∈ [a.1, a.2] ++ flat ax, Fine c ∧ (enc c).length ≤ 1000 := fun c hc => by
        rcases List.mem_append.mp hc with hc | hc
        · rcases List.mem_cons.mp hc with hc | hc
          · subst hc; exact fa.1
          · have := List.mem_singleton.mp hc
            subst this; exact fa.2
        · obtain ⟨b, hb, hc⟩ := mem_flat.mp hc
          rcases hc with hc | hc
          · subst hc; exact (fax b hb).1
          · subst hc; exact (fax b hb).2
      refine ⟨_, rfl, fun x dx nx ndx nex => ?_⟩
      have sx : Same H1 (upd (upd H1 dx (.own x)) x (.ins D.a_Patterns dx [])) := fun b o e => by
        rw [upd_ne (ne_of_none e nx), upd_ne (ne_of_none e ndx)]
        exact e
      refine ⟨x, l, dx, [a.1, a.2] ++ flat ax, rfl, upd_same, ⟨cas, sx _ _ hl1, Cons.same hc1 sx⟩, hfine, ?_, h5, fun H2 hP keep => ?_⟩
      · rw [List.length_append, flat_len2]
        show 2 + _ ≤ 1000
        omega
      · have s2 : Same H H2 := fun b o e => keep b o (sx _ _ (s1 _ _ e)) (ne_of_none (s1 _ _ e) nx)
        generalize eat : Oc.atomsOf ([a.1, a.2] ++ flat ax) = at_ at *
        have in1 : ∀ b ∈ ax, b.1 ∈ [a.1, a.2] ++ flat ax ∧ b.2 ∈ [a.1, a.2] ++ flat ax := fun b hb => ⟨List.mem_append_right _ (mem_flat.mpr ⟨b, hb, .inl rfl⟩), List.mem_append_right _ (mem_flat.mpr ⟨b, hb, .inr rfl⟩)⟩
        obtain ⟨dx2, ds, dl, ls, hx2, hrest⟩ := id hP
        refine ⟨rfl, x, dx2, _, rfl, hx2, no_Patterns_4_subsumptions, _, rfl, by show 1 ≤ sizeLine; decide, fun m nm => ?_⟩
        have s3 := Same.new (o := .lst [.ref r]) nm
        have s23 := s2.trans s3
        refine ⟨_, rfl, x, m, p, at_, _, [r], rs, [a], ax, rfl, hP.same s3, h5, upd_same, .cons (hpr.same s23) .nil, fun b hb => ?_, by simp, s23 _ _ hp, hrs.mono (fun _ _ h => h.same s23),
          fun b hb => ⟨⟨b.1, (in1 b hb).1, sub_self _⟩, ⟨b.2, (in1 b hb).2, sub_self _⟩⟩, fun H3 u s4 nu hu => ?_⟩
        · have := List.mem_singleton.mp hb
          subst this
          exact ⟨⟨b.1, by simp, sub_self _⟩, ⟨b.2, by simp, sub_self _⟩⟩
        · refine .inl ⟨u, _, 0, _, rfl, rfl, SqL.of hu, atI_nat (j := 0) rfl, ?_⟩
          have e : Oc.under ax a.1 a.2 = uAt at_ ax a := by
            rw [under_any (cs := [a.1, a.2] ++ flat ax) (fun c hc => by rcases hc with hc | hc | hc <;> simp [hc]), eat]
            rfl
          have k2 := k H3 (s23.trans s4)
          rw [e] at k2
          exact k2
end
end Wk
end
section
set_option Elab.async false
set_option maxRecDepth 100000
set_option maxHeartbeats 4000000
namespace Wk
open PySem PySem.Spec PyProof.Rows L2
/-- where an axiom's object and its two lists stand -/
structure Ax where
  a : Addr
  f : Addr
  p : Addr
def spAxiomI (D : Dt) : Sp := fun vs H Q _ => ∃ (a dx : Addr) (x y : V), vs = [.ref a, x, y] ∧ H a = some (.ins D.a_Axiom dx []) ∧
  ∀ H', H' a = some (.ins D.a_Axiom dx (fl_Axiom_2 x y)) → (∀ b o, H b = some o → b ≠ a → H' b = some o) → (∀ b, H b = none → H' b = none) → Q .non H'
def spWeaken (D : Dt) : Sp := fun vs H Q _ => ∃ (t : Ax) (dx r : Addr) (w : Nat) (fs : List V) (ps : List Nat) (last : Nat), vs = [.ref t.a, .int w, .ref r] ∧ H t.a = some (.ins D.a_Axiom dx (fl_Axiom_2 (.ref t.f) (.ref t.p))) ∧
  H t.f = some (.lst fs) ∧ H t.p = some (.lst (iv (ps ++ [last]))) ∧ fs.length ≤ 1000 ∧ ps.length ≤ 1000 ∧ t.f ≠ t.p ∧ Q .non (upd (upd H t.f (.lst (fs ++ [.ref r]))) t.p (.lst (iv (ps ++ [w, last]))))
def spRemoval (D : Dt) : Sp := fun vs H Q _ => ∃ (a f dx : Addr) (y : V) (fs : List V), vs = [.ref a] ∧ H a = some (.ins D.a_Axiom dx (fl_Axiom_2 (.ref f) y)) ∧ H f = some (.lst fs) ∧ Q (.int (fs.length : Nat)) H
def spPriceTo (D : Dt) : Sp := fun vs H Q _ => ∃ (a p dx : Addr) (x : V) (ps : List Nat) (k : Nat), vs = [.ref a, .int k] ∧ H a = some (.ins D.a_Axiom dx (fl_Axiom_2 x (.ref p))) ∧ H p = some (.lst (iv ps)) ∧
  ∀ H', Same H H' → Q (.int ((ps.take k).sum : Nat)) H'
def spWeakenedTo (D : Dt) : Sp := fun vs H Q _ => ∃ (t : Ax) (dx : Addr) (fs ps : List V) (k : Nat), vs = [.ref t.a, .int k] ∧ H t.a = some (.ins D.a_Axiom dx (fl_Axiom_2 (.ref t.f) (.ref t.p))) ∧ H t.f = some (.lst fs) ∧ H t.p = some (.lst ps) ∧
  ∀ H' (u : Ax) (dy : Addr), Same H H' → H u.f = none → H u.p = none → u.f ≠ u.p → H' u.a = some (.ins D.a_Axiom dy (fl_Axiom_2 (.ref u.f) (.ref u.p))) → H' u.f = some (.lst (fs.drop k)) → H' u.p = some (.lst (ps.drop k)) → Q (.ref u.a) H'
theorem iv_ints (l : List Nat) : iv l = (l.map fun (n : Nat) => (n : Int)).map V.int := by simp [iv]
theorem sum_ints (l : List Nat) : (l.map fun (n : Nat) => (n : Int)).sum = ((l.sum : Nat) : Int) := by
  induction l with
  | nil => rfl
  | cons a l ih => rw [List.map_cons, List.sum_cons, List.sum_cons, ih]; omega
theorem min_take {α : Type} (xs : List α) (k : Nat) : xs.take (min k xs.length) = xs.take k := by
  by_cases c : k ≤ xs.length
  · rw [Nat.min_eq_left c]
  · rw [Nat.min_eq_right (by omega), List.take_length, List.take_of_length_le (by omega)]
theorem min_drop {α : Type} (xs : List α) (k : Nat) : xs.drop (min k xs.length) = xs.drop k := by
  by_cases c : k ≤ xs.length
  · rw [Nat.min_eq_left c]
  · rw [Nat.min_eq_right (by omega), List.drop_length, List.drop_of_length_le (by omega)]
theorem cut_take (xs : List V) (k : Nat) : cutV xs none (some (k : Int)) = xs.take k := by
  unfold cutV
  rw [HT.sIx_nat]
  show (xs.drop 0).take (min k xs.length - 0) = _
  rw [List.drop_zero, Nat.sub_zero, min_take]
theorem cut_drop (xs : List V) (k : Nat) : cutV xs (some (k : Int)) none = xs.drop k := by
  unfold cutV
  rw [HT.sIx_nat]
  show (xs.drop (min k xs.length)).take (xs.length - min k xs.length) = _
  rw [min_drop]
  refine List.take_of_length_le ?_
  rw [List.length_drop]
  omega
section
variable {P : Program} {w : World} {K : PySem.W.Frag} {mg : Str → Option Value} {base : Heap} {D : Dt}
theorem ok_Axiom_init (T : Tx K mg D) : FnOk P w K mg base CX0 1 D.f_Axiom_init D.d_Axiom_init ["self", "forms", "prices"] (spAxiomI D) := by
  refine T.F_Axiom_init.ok sc_Axiom_init (fun vs H Q E h => ?_) (fun cdv A outer s H vs Q E hr h => ?_)
  · obtain ⟨a, dx, x, y, rfl, _⟩ := h
    rfl
  · obtain ⟨a, dx, x, y, rfl, ha, k⟩ := h
    refine ⟨_, (pss_cons (ps_fld (pv 0) (pv 1) rfl)
      (pss_one (ps_fld (pv 0) (pv 2) rfl))), ?_⟩
    refine ⟨_, rfl, _, rfl, a, D.a_Axiom, dx, [], rfl, ha, T.c_Axiom, T.n_Axiom_forms, (by show 0 < 1000; decide), ?_⟩
    refine ⟨_, rfl, _, rfl, a, D.a_Axiom, dx, _, rfl, upd_same, T.c_Axiom, T.n_Axiom_prices, (by show 1 < 1000; decide), ?_⟩
    rw [nx_Axiom_0, nx_Axiom_1]
    refine k _ upd_same (fun b o e n => ?_) fun b e => ?_
    · rw [upd_ne n, upd_ne n]
      exact e
    · have n : b ≠ a := fun z => by rw [z, ha] at e; cases e
      rw [upd_ne n, upd_ne n]
      exact e
theorem ok_Axiom_weaken (T : Tx K mg D) : FnOk P w K mg base CX0 1 D.f_Axiom_weaken D.d_Axiom_weaken ["self", "price", "form"] (spWeaken D) := by
  refine T.F_Axiom_weaken.ok sc_Axiom_weaken (fun vs H Q E h => ?_) (fun cdv A outer s H vs Q E hr h => ?_)
  · obtain ⟨t, dx, r, w, fs, ps, last, rfl, _⟩ := h
    rfl
  · obtain ⟨t, dx, r, w, fs, ps, last, rfl, ha, hf, hp, lf, lp, nfp, k⟩ := h
    refine ⟨_, (pss_cons (ps_expr (pe_bm PySem.F.plainAttrs_list PySem.F.slot_list_append PySem.F.type_list_append mt_append (pe_fld (pv 0) rfl) (pa_cons (pv 2) pa_nil)))
      (pss_one (ps_expr (pe_bm PySem.F.plainAttrs_list PySem.F.slot_list_insert PySem.F.type_list_insert mt_insert (pe_fld (pv 0) rfl) (pa_cons (pe_op op_sub (pe_len (by rfl) T.b_len (pe_fld (pv 0) rfl)) (pe_int)) (pa_cons (pv 1) pa_nil)))))), ?_⟩
    refine ⟨_, rfl, t.a, D.a_Axiom, dx, _, _, rfl, ha, T.c_Axiom, T.n_Axiom_forms, lk_Axiom_2_forms, .inl ⟨rfl, _, SqL.of hf⟩, _, rfl, t.f, _, _, rfl, rfl, hf, Nat.lt_of_le_of_lt lf (by decide), ?_⟩
    have hp1 : (upd H t.f (.lst (fs ++ [.ref r]))) t.p = some (.lst (iv (ps ++ [last]))) := by rw [upd_ne nfp.symm]; exact hp
    have ha1 : (upd H t.f (.lst (fs ++ [.ref r]))) t.a = some (.ins D.a_Axiom dx (fl_Axiom_2 (.ref t.f) (.ref t.p))) := by rw [upd_ne (ne_of ha hf (by intro z; cases z))]; exact ha
    refine ⟨_, rfl, t.a, D.a_Axiom, dx, _, _, rfl, ha1, T.c_Axiom, T.n_Axiom_prices, lk_Axiom_2_prices, .inl ⟨rfl, _, SqL.of hp1⟩, _, rfl, t.a, D.a_Axiom, dx, _, _, rfl, ha1, T.c_Axiom, T.n_Axiom_prices, lk_Axiom_2_prices, r_lenL (SqL.of hp1) ?_⟩
    have e1 : (((iv (ps ++ [last])).length : Nat) : Int) - 1 = (ps.length : Nat) := by rw [iv_len, List.length_append]; simp
    refine ⟨_, _, rfl, rfl, _, rfl, t.p, _, _, _, rfl, rfl, hp1, ?_, ?_, ?_, ?_⟩
    · rw [iv_len, List.length_append]
      exact Nat.lt_of_le_of_lt (Nat.add_le_add_right lp 1) (by decide)
    · show (0 : Int) ≤ _ - 1
      rw [e1]
      exact Int.natCast_nonneg _
    · show _ - 1 < (2 : Int) ^ 63
      rw [e1]
      omega
    · show Q .non (upd _ t.p (.lst ((iv (ps ++ [last])).take ((((iv (ps ++ [last])).length : Nat) : Int) - 1).toNat ++ [V.int (w : Nat)] ++ (iv (ps ++ [last])).drop ((((iv (ps ++ [last])).length : Nat) : Int) - 1).toNat)))
      rw [e1, Int.toNat_natCast]
      have e2 : (iv (ps ++ [last])).take ps.length ++ [V.int (w : Nat)] ++ (iv (ps ++ [last])).drop ps.length = iv (ps ++ [w, last]) := by
        rw [iv_take, iv_drop, List.take_left, List.drop_left]
        simp [iv]
      rw [e2]
      exact k
theorem ok_Axiom_removal (T : Tx K mg D) : FnOk P w K mg base CX0 1 D.f_Axiom_removal D.d_Axiom_removal ["self"] (spRemoval D) := by
  refine T.F_Axiom_removal.ok sc_Axiom_removal (fun vs H Q E h => ?_) (fun cdv A outer s H vs Q E hr h => ?_)
  · obtain ⟨a, f, dx, y, fs, rfl, _⟩ := h
    rfl
  · obtain ⟨a, f, dx, y, fs, rfl, ha, hf, k⟩ := h
    refine ⟨_, (pss_one (ps_ret (pe_len (by rfl) T.b_len (pe_fld (pv 0) rfl)))), ?_⟩
    exact ⟨_, rfl, a, D.a_Axiom, dx, _, _, rfl, ha, T.c_Axiom, T.n_Axiom_forms, lk_Axiom_2_forms, r_lenL (SqL.of hf) k⟩
theorem ok_Axiom_price_to (T : Tx K mg D) : FnOk P w K mg base CX0 1 D.f_Axiom_price_to D.d_Axiom_price_to ["self", "level"] (spPriceTo D) := by
  refine T.F_Axiom_price_to.ok sc_Axiom_price_to (fun vs H Q E h => ?_) (fun cdv A outer s H vs Q E hr h => ?_)
  · obtain ⟨a, p, dx, x, ps, n, rfl, _⟩ := h
    rfl
  · obtain ⟨a, p, dx, x, ps, n, rfl, ha, hp, k⟩ := h
    refine ⟨_, (pss_one (ps_ret (pe_callB (cr_sum rfl) (by rfl) T.b_sum (by decide +kernel) (pa_cons (pe_slice sl_list (pe_fld (pv 0) rfl) po_none (po_some (pv 1))) pa_nil)))), ?_⟩
    refine ⟨_, rfl, a, D.a_Axiom, dx, _, _, rfl, ha, T.c_Axiom, T.n_Axiom_prices, lk_Axiom_2_prices, _, rfl, _, rfl, p, _, rfl, SqL.of hp, fun q nq => ?_⟩
    have e : cutV (iv ps) none (some ((n : Nat) : Int)) = ((ps.take n).map fun (n : Nat) => (n : Int)).map V.int := by
      rw [cut_take, ← iv_ints, iv_take]
    refine ⟨q, _, rfl, SqL.of (by rw [upd_same, e]), ?_⟩
    rw [sum_ints]
    exact k _ (Same.new nq)
theorem ok_Axiom_weakened_to (T : Tx K mg D) : FnOk P w K mg base CX0 3 D.f_Axiom_weakened_to D.d_Axiom_weakened_to ["self", "level"] (spWeakenedTo D) := by
  refine T.F_Axiom_weakened_to.ok sc_Axiom_weakened_to (fun vs H Q E h => ?_) (fun cdv A outer s H vs Q E hr h => ?_)
  · obtain ⟨t, dx, fs, ps, n, rfl, _⟩ := h
    rfl
  · obtain ⟨t, dx, fs, ps, n, rfl, ha, hf, hp, k⟩ := h
    refine ⟨_, (pss_one (ps_ret (pe_make T.M_Axiom (ok_Axiom_init T) (hr.mono (by decide)) (by rfl) T.m_Axiom T.b_Axiom_init .nil pass0 (pa_cons (pe_slice sl_list (pe_fld (pv 0) rfl) (po_some (pv 1)) po_none) (pa_cons (pe_slice sl_list (pe_fld (pv 0) rfl) (po_some (pv 1)) po_none) pa_nil))))), ?_⟩
    refine ⟨_, rfl, t.a, D.a_Axiom, dx, _, _, rfl, ha, T.c_Axiom, T.n_Axiom_forms, lk_Axiom_2_forms, _, rfl, _, rfl, t.f, _, rfl, SqL.of hf, fun f nf => ?_⟩
    rw [cut_drop]
    have s1 := Same.new (o := .lst (fs.drop n)) nf
    refine ⟨_, rfl, t.a, D.a_Axiom, dx, _, _, rfl, s1 _ _ ha, T.c_Axiom, T.n_Axiom_prices, lk_Axiom_2_prices, _, rfl, _, rfl, t.p, _, rfl, SqL.of (s1 _ _ hp), fun p np => ?_⟩
    rw [cut_drop]
    have s2 := Same.new (o := .lst (ps.drop n)) np
    have nfp : f ≠ p := fun z => by subst z; rw [upd_same] at np; cases np
    intro x xd nx nxd nex
    have s3 : Same (upd (upd H f (.lst (fs.drop n))) p (.lst (ps.drop n))) (upd (upd (upd (upd H f (.lst (fs.drop n))) p (.lst (ps.drop n))) xd (.own x)) x (.ins D.a_Axiom xd [])) := fun b o e => by
      rw [upd_ne (ne_of_none e nx), upd_ne (ne_of_none e nxd)]
      exact e
    refine ⟨x, xd, _, _, rfl, upd_same, fun H' hx keep fr => ⟨rfl, ?_⟩⟩
    have s4 : Same (upd (upd H f (.lst (fs.drop n))) p (.lst (ps.drop n))) H' := fun b o e => keep b o (s3 b o e) (ne_of_none e nx)
    refine k H' ⟨x, f, p⟩ xd ((s1.trans s2).trans s4) nf (s1.free np) nfp hx (s4 _ _ ?_) (s4 _ _ upd_same)
    rw [upd_ne nfp, upd_same]
end
end Wk
end
section
set_option Elab.async false
set_option maxRecDepth 100000
set_option maxHeartbeats 4000000
namespace Wk
open PySem PySem.Spec PyProof.Rows L2
open Oc (C Axiom)
open Oc09 (Ladder Book)
def AxAt (D : Dt) (H : Hp) (t : Ax) (x : Ladder) : Prop := ∃ dx rs, H t.a = some (.ins D.a_Axiom dx (fl_Axiom_2 (.ref t.f) (.ref t.p))) ∧ H t.f = some (.lst (rs.map V.ref)) ∧ All2 (PairAt H) rs (x.forms.map (·.2)) ∧ H t.p = some (.lst (iv (pricesOf x)))
/-- where the store and its lists stand -/
structure Sd where
  st : Addr
  la : Addr
  lu : Addr
  lw : Addr
  ax : List Ax
def Sd.own (d : Sd) : List Addr := d.la :: d.lu :: d.lw :: d.ax.flatMap fun t => [t.f, t.p]
structure StA (D : Dt) (H : Hp) (d : Sd) (b : Book) : Prop where
  ob : ∃ dx, H d.st = some (.ins D.a_Store dx (fl_Store_3 (.ref d.la) (.ref d.lu) (.ref d.lw)))
  hla : H d.la = some (.lst (d.ax.map fun t => V.ref t.a))
  hax : All2 (AxAt D H) d.ax b.ladders
  hlu : ∃ us, H d.lu = some (.lst (us.map V.ref)) ∧ All2 (PairAt H) us b.never
  hlw : ∃ us, H d.lw = some (.lst (us.map V.ref)) ∧ All2 (PairAt H) us b.keep
  nd : d.own.Nodup
theorem AxAt.same {D : Dt} {H H' : Hp} {t : Ax} {x : Ladder} (h : AxAt D H t x) (e : Same H H') : AxAt D H' t x := by
  obtain ⟨dx, rs, h1, h2, h3, h4⟩ := h
  exact ⟨dx, rs, e _ _ h1, e _ _ h2, h3.mono (fun _ _ z => z.same e), e _ _ h4⟩
theorem StA.same {D : Dt} {H H' : Hp} {d : Sd} {b : Book} (h : StA D H d b) (e : Same H H') : StA D H' d b := by
  obtain ⟨⟨dx, h1⟩, h2, h3, ⟨us, h4, h5⟩, ⟨ws, h6, h7⟩, h8⟩ := h
  exact ⟨⟨dx, e _ _ h1⟩, e _ _ h2, h3.mono (fun _ _ z => z.same e), ⟨us, e _ _ h4, h5.mono fun _ _ z => z.same e⟩, ⟨ws, e _ _ h6, h7.mono fun _ _ z => z.same e⟩, h8⟩
/-- a book as calls make it -/
structure Bk (b : Book) : Prop where
  fine : ∀ a ∈ b.all, FineA a
  lad : b.ladders.length ≤ 3
  frm : ∀ x ∈ b.ladders, 1 ≤ x.forms.length ∧ x.forms.length ≤ 3
  nev : b.never.length ≤ 2
  kee : b.keep.length ≤ 2
  ats : (Oc.atomsOf (flat b.all)).length ≤ 5
  zer : ∀ x ∈ b.ladders, ∃ a r, x.forms = (0, a) :: r
def spPrice (D : Dt) : Sp := fun vs H Q E => ∃ (w : Nat), vs = [.int w] ∧ (Oc09.isPrice w = false → E (.ref D.e_WrongNumbers) none H) ∧ (Oc09.isPrice w = true → Q .non H)
def spStoreI (D : Dt) : Sp := fun vs H Q _ => ∃ (st dx : Addr), vs = [.ref st] ∧ H st = some (.ins D.a_Store dx []) ∧
  ∀ H' d, d.st = st → StA D H' d ⟨[], [], []⟩ → (∀ c ∈ d.own, H c = none) → (∀ b o, H b = some o → b ≠ st → H' b = some o) → Q .non H'
/-- all else stands; what is owned anew was free -/
def Kp (d d' : Sd) (H H' : Hp) : Prop := d'.st = d.st ∧ (∀ b o, H b = some o → b ≠ d.st → b ∉ d.own → H' b = some o) ∧ ∀ c ∈ d'.own, c ∈ d.own ∨ H c = none
def spBegins (D : Dt) : Sp := fun vs H Q _ => ∃ (d : Sd) (b : Book), vs = [.ref d.st] ∧ StA D H d b ∧ ∀ H' d', StA D H' d' ⟨[], [], []⟩ → Kp d d' H H' → Q (.int 0) H'
def spAllC (D : Dt) : Sp := fun vs H Q _ => ∃ (d : Sd) (b : Book), vs = [.ref d.st] ∧ StA D H d b ∧ Bk b ∧ ∀ H' p, Same H H' → H p = none → LstC H' p (flat b.all) → Q (.ref p) H'
def muchB (b : Book) (a : Axiom) : Bool := decide (5 < (Oc.atomsOf (flat b.all ++ [a.1, a.2])).length)
theorem much_eq (b : Book) (a : Axiom) : Oc09.much ⟨b⟩ a = muchB b a := rfl
def spRoom (K : PySem.W.Frag) (D : Dt) : Sp := fun vs H Q E => ∃ (d : Sd) (b : Book) (l r : Addr) (xs : List V) (m : Nat) (a : Axiom), vs = [.ref d.st, .ref l, .int m, .ref r] ∧ StA D H d b ∧ Bk b ∧ SqL K H l xs ∧ PairAt H r a ∧ FineA a ∧
  ((m ≤ xs.length ∨ muchB b a = true) → ∀ H', Same H H' → E (.ref D.e_NoRoom) none H') ∧ (¬ (m ≤ xs.length ∨ muchB b a = true) → ∀ H', Same H H' → Q .non H')
section
variable {P : Program} {w : World} {K : PySem.W.Frag} {mg : Str → Option Value} {base : Heap} {D : Dt}
theorem ok_check_price (T : Tx K mg D) : FnOk P w K mg base (L2.CX P w) 1 D.f_check_price D.d_check_price ["price"] (spPrice D) := by
  refine T.F_check_price.okX sc_check_price (fun vs H Q E h => ?_) (fun cdv A outer s H vs Q E hr h => ?_)
  · obtain ⟨w, rfl, _⟩ := h
    rfl
  · obtain ⟨w, rfl, k1, k2⟩ := h
    refine ⟨_, (pss_one (ps_if (PW.pt (pw_or (pt_cmpR op_lt (pv 0) (pe_int) (nomark _)) (pw_or1 (pt_cmpR op_gt (pv 0) (pe_globI rfl T.m_HIGHEST_PRICE) (nomark _)))))
      (pss_one (ps_raise rfl (takes_of rfl rfl rfl rfl) (pmk_own PySem.F.excBase_Exception T.x_WrongNumbers T.m_WrongNumbers T.k_WrongNumbers (raises_own T.s_WrongNumbers T.y_WrongNumbers) (by exact rfl))))
      (pss_nil))), ?_⟩
    refine ⟨_, rfl, _, _, rfl, rfl, _, rfl, ?_⟩
    by_cases c1 : w < 1
    · refine if_true_of (by simp; omega) (iteT ?_)
      exact k1 (by unfold Oc09.isPrice; simp; omega)
    · refine if_false_of (by simp; omega) ?_
      refine ⟨_, rfl, _, _, rfl, rfl, _, rfl, ?_⟩
      by_cases c2 : 1000 < w
      · refine if_true_of (by simp; omega) ?_
        exact k1 (by unfold Oc09.isPrice Oc09.PRICE; simp; omega)
      · refine if_false_of (by simp; omega) ?_
        exact k2 (by unfold Oc09.isPrice Oc09.PRICE; simp; omega)
theorem ok_Store_init (T : Tx K mg D) : FnOk P w K mg base CX0 1 D.f_Store_init D.d_Store_init ["self"] (spStoreI D) := by
  refine T.F_Store_init.ok sc_Store_init (fun vs H Q E h => ?_) (fun cdv A outer s H vs Q E hr h => ?_)
  · obtain ⟨st, dx, rfl, _⟩ := h
    rfl
  · obtain ⟨st, dx, rfl, ha, k⟩ := h
    refine ⟨_, (pss_cons (ps_fld (pv 0) (pe_lst (pa_nil)) rfl)
      (pss_cons (ps_fld (pv 0) (pe_lst (pa_nil)) rfl)
      (pss_one (ps_fld (pv 0) (pe_lst (pa_nil)) rfl)))), ?_⟩
    refine ⟨by show 0 ≤ sizeLine; decide, fun la nla => ?_⟩
    have n1 : st ≠ la := ne_of_none ha nla
    refine ⟨_, rfl, st, D.a_Store, dx, _, rfl, (by rw [upd_ne n1]; exact ha), T.c_Store, T.n_Store_axioms, (by show 0 < 1000; decide), ?_⟩
    rw [nx_Store_0]
    refine ⟨by show 0 ≤ sizeLine; decide, fun lu nlu => ?_⟩
    have n2 : st ≠ lu := fun z => by subst z; rw [upd_same] at nlu; cases nlu
    have n3 : la ≠ lu := fun z => by subst z; rw [upd_ne n1.symm, upd_same] at nlu; cases nlu
    have nlu0 : H lu = none := by rw [upd_ne n2.symm, upd_ne n3.symm] at nlu; exact nlu
    refine ⟨_, rfl, st, D.a_Store, dx, _, rfl, (by rw [upd_ne n2]; exact upd_same), T.c_Store, T.n_Store_unwanted, (by show 1 < 1000; decide), ?_⟩
    rw [nx_Store_1]
    refine ⟨by show 0 ≤ sizeLine; decide, fun lw nlw => ?_⟩
    have n4 : st ≠ lw := fun z => by subst z; rw [upd_same] at nlw; cases nlw
    have n5 : lu ≠ lw := fun z => by subst z; rw [upd_ne n2.symm, upd_same] at nlw; cases nlw
    have n6 : la ≠ lw := fun z => by subst z; rw [upd_ne n1.symm, upd_ne n3, upd_ne n1.symm, upd_same] at nlw; cases nlw
    have nlw0 : H lw = none := by rw [upd_ne n4.symm, upd_ne n5.symm, upd_ne n4.symm, upd_ne n6.symm] at nlw; exact nlw
    refine ⟨_, rfl, st, D.a_Store, dx, _, rfl, (by rw [upd_ne n4]; exact upd_same), T.c_Store, T.n_Store_wanted, (by show 2 < 1000; decide), ?_⟩
    rw [nx_Store_2]
    refine k _ ⟨st, la, lu, lw, []⟩ rfl ⟨⟨dx, upd_same⟩, ?_, .nil, ⟨[], ?_, .nil⟩, ⟨[], ?_, .nil⟩, ?_⟩ ?_ fun b o hb n => ?_
    · show upd _ _ _ la = _
      rw [upd_ne n1.symm, upd_ne n6, upd_ne n1.symm, upd_ne n3, upd_ne n1.symm, upd_same]
      rfl
    · show upd _ _ _ lu = _
      rw [upd_ne n2.symm, upd_ne n5, upd_ne n2.symm, upd_same]
      rfl
    · show upd _ _ _ lw = _
      rw [upd_ne n4.symm, upd_same]
      rfl
    · show [la, lu, lw].Nodup
      simp [n3, n5, n6]
    · intro c hc
      have hc : c ∈ [la, lu, lw] := hc
      simp at hc
      rcases hc with rfl | rfl | rfl
      · exact nla
      · exact nlu0
      · exact nlw0
    · rw [upd_ne n, upd_ne (ne_of_none hb nlw0), upd_ne n, upd_ne (ne_of_none hb nlu0), upd_ne n, upd_ne (ne_of_none hb nla)]
      exact hb
theorem ok_Store_begins (T : Tx K mg D) : FnOk P w K mg base CX0 1 D.f_Store_begins D.d_Store_begins ["self"] (spBegins D) := by
  refine T.F_Store_begins.ok sc_Store_begins (fun vs H Q E h => ?_) (fun cdv A outer s H vs Q E hr h => ?_)
  · obtain ⟨d, b, rfl, _⟩ := h
    rfl
  · obtain ⟨d, b, rfl, hS, k⟩ := h
    obtain ⟨dx, ha⟩ := hS.ob
    generalize est : d.st = st at *
    refine ⟨_, (pss_cons (ps_fld (pv 0) (pe_lst (pa_nil)) rfl)
      (pss_cons (ps_fld (pv 0) (pe_lst (pa_nil)) rfl)
      (pss_cons (ps_fld (pv 0) (pe_lst (pa_nil)) rfl)
      (pss_one (ps_ret (pe_int)))))), ?_⟩
    refine ⟨by show 0 ≤ sizeLine; decide, fun la nla => ?_⟩
    have n1 : st ≠ la := ne_of_none ha nla
    refine ⟨_, rfl, st, D.a_Store, dx, _, rfl, (by rw [upd_ne n1]; exact ha), T.c_Store, T.n_Store_axioms, (by show 3 < 1000; decide), ?_⟩
    rw [pt_Store_3_axioms]
    refine ⟨by show 0 ≤ sizeLine; decide, fun lu nlu => ?_⟩
    have n2 : st ≠ lu := fun z => by subst z; rw [upd_same] at nlu; cases nlu
    have n3 : la ≠ lu := fun z => by subst z; rw [upd_ne n1.symm, upd_same] at nlu; cases nlu
    have nlu0 : H lu = none := by rw [upd_ne n2.symm, upd_ne n3.symm] at nlu; exact nlu
    refine ⟨_, rfl, st, D.a_Store, dx, _, rfl, (by rw [upd_ne n2]; exact upd_same), T.c_Store, T.n_Store_unwanted, (by show 3 < 1000; decide), ?_⟩
    rw [pt_Store_3_unwanted]
    refine ⟨by show 0 ≤ sizeLine; decide, fun lw nlw => ?_⟩
    have n4 : st ≠ lw := fun z => by subst z; rw [upd_same] at nlw; cases nlw
    have n5 : lu ≠ lw := fun z => by subst z; rw [upd_ne n2.symm, upd_same] at nlw; cases nlw
    have n6 : la ≠ lw := fun z => by subst z; rw [upd_ne n1.symm, upd_ne n3, upd_ne n1.symm, upd_same] at nlw; cases nlw
    have nlw0 : H lw = none := by rw [upd_ne n4.symm, upd_ne n5.symm, upd_ne n4.symm, upd_ne n6.symm] at nlw; exact nlw
    refine ⟨_, rfl, st, D.a_Store, dx, _, rfl, (by rw [upd_ne n4]; exact upd_same), T.c_Store, T.n_Store_wanted, (by show 3 < 1000; decide), ?_⟩
    rw [pt_Store_3_wanted]
    refine k _ ⟨st, la, lu, lw, []⟩ ⟨⟨dx, upd_same⟩, ?_, .nil, ⟨[], ?_, .nil⟩, ⟨[], ?_, .nil⟩, ?_⟩ ⟨est.symm, fun b o hb n m => ?_, ?_⟩
    · show upd _ _ _ la = _
      rw [upd_ne n1.symm, upd_ne n6, upd_ne n1.symm, upd_ne n3, upd_ne n1.symm, upd_same]
      rfl
    · show upd _ _ _ lu = _
      rw [upd_ne n2.symm, upd_ne n5, upd_ne n2.symm, upd_same]
      rfl
    · show upd _ _ _ lw = _
      rw [upd_ne n4.symm, upd_same]
      rfl
    · show [la, lu, lw].Nodup
      simp [n3, n5, n6]
    · rw [est] at n
      rw [upd_ne n, upd_ne (ne_of_none hb nlw0), upd_ne n, upd_ne (ne_of_none hb nlu0), upd_ne n, upd_ne (ne_of_none hb nla)]
      exact hb
    · intro c hc
      have hc : c ∈ [la, lu, lw] := hc
      simp at hc
      rcases hc with rfl | rfl | rfl
      · exact .inr nla
      · exact .inr nlu0
      · exact .inr nlw0
/-- the forms of the ladders -/
def formsOf (ls : List Ladder) : List Axiom := ls.flatMap fun x => x.forms.map fun f => f.2
theorem all_eq (b : Book) : b.all = formsOf b.ladders ++ (b.never ++ b.keep) := rfl
theorem ext_step {H : Hp} {p c1 c2 : Addr} {cas : List Addr} {cs : List C} {a : Axiom} (hp : H p = some (.lst (cas.map V.ref))) (hc : Cons H cas cs) (h1 : TupN H c1 (enc a.1)) (h2 : TupN H c2 (enc a.2)) :
    (upd H p (.lst (cas.map V.ref ++ [.ref c1, .ref c2]))) p = some (.lst ((cas ++ [c1, c2]).map V.ref)) ∧ Cons (upd H p (.lst (cas.map V.ref ++ [.ref c1, .ref c2]))) (cas ++ [c1, c2]) (cs ++ [a.1, a.2]) := by
  have keep : ∀ b l', TupN H b l' → TupN (upd H p (.lst (cas.map V.ref ++ [.ref c1, .ref c2]))) b l' := fun b l' hb => by
    unfold TupN at hb ⊢
    rw [upd_ne (ne_of hb hp (by intro z; cases z))]
    exact hb
  refine ⟨?_, All2.append (All2.mono (fun b c' hb => keep _ _ hb) hc) (.cons (keep _ _ h1) (.cons (keep _ _ h2) .nil))⟩
  rw [upd_same, List.map_append]
  rfl
theorem ok_Store_all_concepts (T : Tx K mg D) : FnOk P w K mg base CX0 1 D.f_Store_all_concepts D.d_Store_all_concepts ["self"] (spAllC D) := by
  refine T.F_Store_all_concepts.ok sc_Store_all_concepts (fun vs H Q E h => ?_) (fun cdv A outer s H vs Q E hr h => ?_)
  · obtain ⟨d, b, rfl, _⟩ := h
    rfl
  · obtain ⟨d, b, rfl, hS, hB, k⟩ := h
    obtain ⟨⟨dx, ha⟩, hla, hax, ⟨us, hlu, hus⟩, ⟨ws, hlw, hws⟩, hnd⟩ := id hS
    have bform : ∀ ls : List Ladder, (∀ x ∈ ls, x ∈ b.ladders) → ls.length ≤ 3 → (formsOf ls).length ≤ 9 := fun ls hx h3 => by
      refine Nat.le_trans (flat_len (k := 3) fun x hx' => ?_) ?_
      · rw [List.length_map]
        exact (hB.frm x (hx x hx')).2
      · omega
    refine ⟨_, (pss_cons (ps_set (i := 1) sc_Store_all_concepts.nd rfl (.inl rfl) (pe_lst (pa_nil)))
      (pss_cons (ps_for PassesOwn.never rfl (pi_list (pe_fld (pv 0) rfl)) (pg_name (i := 2) sc_Store_all_concepts.nd rfl (Or.inl rfl))
      (pss_one (ps_for PassesOwn.never rfl (pi_list (pe_fld (pv 2) rfl)) (pg_name (i := 3) sc_Store_all_concepts.nd rfl (Or.inl rfl))
      (pss_one (ps_expr (pe_bm PySem.F.plainAttrs_list PySem.F.slot_list_extend PySem.F.type_list_extend mt_extendT (pv 1) (pa_cons (pv 3) pa_nil)))))))
      (pss_cons (ps_for PassesOwn.never rfl (pi_list (pe_op op_cat (pe_fld (pv 0) rfl) (pe_fld (pv 0) rfl))) (pg_name (i := 4) sc_Store_all_concepts.nd rfl (Or.inl rfl))
      (pss_one (ps_expr (pe_bm PySem.F.plainAttrs_list PySem.F.slot_list_extend PySem.F.type_list_extend mt_extendT (pv 1) (pa_cons (pv 4) pa_nil)))))
      (pss_one (ps_ret (pv 1)))))), ?_⟩
    refine ⟨by show 0 ≤ sizeLine; decide, fun p np => ?_⟩
    have s0 := Same.new (o := .lst []) np
    refine ⟨_, rfl, d.st, D.a_Store, dx, _, _, rfl, s0 _ _ ha, T.c_Store, T.n_Store_axioms, lk_Store_3_axioms, d.la, rfl, ⟨_, SqL.of (s0 _ _ hla)⟩, for_list (K := K) (a := d.la) (xs := d.ax.map fun t => V.ref t.a)
      (fun i σ H' => ∃ cas v1 v2, σ = [some (.ref d.st), some (.ref p), v1, v2, none] ∧ Same H H' ∧ H' p = some (.lst (cas.map V.ref)) ∧ Cons H' cas (flat (formsOf (b.ladders.take i))))
      ⟨[], none, none, rfl, s0, upd_same, .nil⟩ (fun i σ H' _ ⟨_, _, _, _, s1, _⟩ => SqL.of (s1 _ _ hla)) ?_ ?_⟩
    · rintro i y σ H1 hi ⟨cas, v1, v2, rfl, s1, hp1, hc1⟩
      rw [List.getElem?_map] at hi
      obtain ⟨t, ht, rfl⟩ : ∃ t, d.ax[i]? = some t ∧ y = V.ref t.a := by
        cases e : d.ax[i]? with
        | none => rw [e] at hi; cases hi
        | some t => rw [e] at hi; exact ⟨t, rfl, (Option.some.inj hi).symm⟩
      obtain ⟨x, hx, hxt⟩ := All2.get hax ht
      obtain ⟨dt, rs, ht1, ht2, ht3, ht4⟩ := hxt.same s1
      have hxm : x ∈ b.ladders := List.mem_of_getElem? hx
      refine ⟨_, rfl, t.a, D.a_Axiom, dt, _, _, rfl, ht1, T.c_Axiom, T.n_Axiom_forms, lk_Axiom_2_forms, t.f, rfl, ⟨_, SqL.of ht2⟩, for_list (K := K) (a := t.f) (xs := rs.map V.ref)
        (fun j σ H' => ∃ cas v2, σ = [some (.ref d.st), some (.ref p), some (.ref t.a), v2, none] ∧ Same H H' ∧ H' t.f = some (.lst (rs.map V.ref)) ∧ All2 (PairAt H') rs (x.forms.map (·.2)) ∧ H' p = some (.lst (cas.map V.ref)) ∧ Cons H' cas (flat (formsOf (b.ladders.take i) ++ (x.forms.map (·.2)).take j)))
        ⟨cas, v2, rfl, s1, ht2, ht3, hp1, by simpa using hc1⟩ (fun j σ H' _ ⟨_, _, _, _, z, _⟩ => SqL.of z) ?_ ?_⟩
      · rintro j y σ H2 hj ⟨cas, v2, rfl, s2, htf, hrs, hp2, hc2⟩
        obtain ⟨r, hr', rfl⟩ := get_ref hj
        obtain ⟨a, ha', hra⟩ := All2.get hrs hr'
        obtain ⟨c1, c2, hr0, hc1', hc2'⟩ := id hra
        have hlen := hc2.length
        have hb1 := bform (b.ladders.take i) (fun z hz => List.mem_of_mem_take hz) (by rw [List.length_take]; have := hB.lad; omega)
        have hb2 := (hB.frm x hxm).2
        refine ⟨_, rfl, .inl ⟨rfl, _, SqL.of hp2⟩, _, rfl, p, r, _, _, rfl, rfl, hp2, hr0, ?_, ?_⟩
        · rw [List.length_map, hlen, flat_len2, List.length_append, List.length_take, List.length_map]
          exact Nat.le_trans (show _ ≤ 100 by show 2 * (_ + min j x.forms.length) + 2 ≤ 100; omega) (by decide)
        · obtain ⟨e1, e2⟩ := ext_step hp2 hc2 hc1' hc2'
          have ntp : t.f ≠ p := fun z => by
            obtain ⟨_, _, _, q, _⟩ := id hxt
            rw [z, np] at q
            cases q
          refine ⟨cas ++ [c1, c2], some (.ref r), rfl, Same.mut s2 np, ?_, ?_, e1, ?_⟩
          · rw [upd_ne ntp]
            exact htf
          · refine hrs.mono fun r' a' ⟨q1, q2, z1, z2, z3⟩ => ⟨q1, q2, ?_, ?_, ?_⟩
            · rw [upd_ne (ne_of z1 hp2 (by intro z; cases z))]; exact z1
            · unfold TupN at z2 ⊢; rw [upd_ne (ne_of z2 hp2 (by intro z; cases z))]; exact z2
            · unfold TupN at z3 ⊢; rw [upd_ne (ne_of z3 hp2 (by intro z; cases z))]; exact z3
          · rw [take_more ha', ← List.append_assoc, flat_append]
            exact e2
      · rintro σ H2 ⟨cas, v2, rfl, s2, htf, hrs, hp2, hc2⟩
        refine ⟨cas, some (.ref t.a), v2, rfl, s2, hp2, ?_⟩
        rw [List.length_map, hrs.length, List.take_length] at hc2
        rw [take_more hx]
        unfold formsOf at hc2 ⊢
        rw [List.flatMap_append]
        simpa using hc2
    · rintro σ H1 ⟨cas, v1, v2, rfl, s1, hp1, hc1⟩
      rw [List.length_map, hax.length, List.take_length] at hc1
      refine ⟨_, rfl, d.st, D.a_Store, dx, _, _, rfl, s1 _ _ ha, T.c_Store, T.n_Store_unwanted, lk_Store_3_unwanted, ?_⟩
      refine ⟨_, rfl, d.st, D.a_Store, dx, _, _, rfl, s1 _ _ ha, T.c_Store, T.n_Store_wanted, lk_Store_3_wanted, ?_⟩
      have lus := hus.length
      have lws := hws.length
      have hn := hB.nev
      have hk := hB.kee
      refine ⟨_, _, _, _, rfl, rfl, s1 _ _ hlu, s1 _ _ hlw, ?_, fun q nq => ?_⟩
      · rw [List.length_map, List.length_map]
        exact Nat.le_trans (show _ ≤ 4 by omega) (by decide)
      have s2 := Same.new (o := .lst (us.map V.ref ++ ws.map V.ref)) nq
      have npq : p ≠ q := ne_of_none hp1 nq
      have hall : All2 (PairAt H) (us ++ ws) (b.never ++ b.keep) := All2.append hus hws
      have eq1 : us.map V.ref ++ ws.map V.ref = (us ++ ws).map V.ref := by rw [List.map_append]
      rw [eq1] at s2 ⊢
      refine ⟨q, rfl, ⟨_, SqL.of upd_same⟩, for_list (K := K) (a := q) (xs := (us ++ ws).map V.ref) (fun i σ H' => ∃ cas v3, σ = [some (.ref d.st), some (.ref p), v1, v2, v3] ∧ Same H H' ∧ H' q = some (.lst ((us ++ ws).map V.ref)) ∧ H' p = some (.lst (cas.map V.ref)) ∧
        Cons H' cas (flat (formsOf b.ladders ++ (b.never ++ b.keep).take i))) ⟨cas, none, rfl, s1.trans s2, upd_same, s2 _ _ hp1, by simpa using Cons.same hc1 s2⟩ (fun i σ H' _ ⟨_, _, _, _, z, _⟩ => SqL.of z) ?_ ?_⟩
      · rintro i y σ H2 hi ⟨cas, v3, rfl, s3, hq2, hp2, hc2⟩
        obtain ⟨r, hr', rfl⟩ := get_ref hi
        obtain ⟨a, ha', hra⟩ := All2.get hall hr'
        obtain ⟨c1, c2, hr0, hc1', hc2'⟩ := hra.same s3
        have hlen := hc2.length
        have hb1 := bform b.ladders (fun z hz => hz) hB.lad
        refine ⟨_, rfl, .inl ⟨rfl, _, SqL.of hp2⟩, _, rfl, p, r, _, _, rfl, rfl, hp2, hr0, ?_, ?_⟩
        · rw [List.length_map, hlen, flat_len2, List.length_append, List.length_take, List.length_append]
          exact Nat.le_trans (show _ ≤ 100 by show 2 * (_ + min i (b.never.length + b.keep.length)) + 2 ≤ 100; omega) (by decide)
        · obtain ⟨e1, e2⟩ := ext_step hp2 hc2 hc1' hc2'
          refine ⟨cas ++ [c1, c2], some (.ref r), rfl, Same.mut s3 np, ?_, e1, ?_⟩
          · rw [upd_ne npq.symm]
            exact hq2
          · rw [take_more ha', ← List.append_assoc, flat_append]
            exact e2
      · rintro σ H2 ⟨cas, v3, rfl, s3, hq2, hp2, hc2⟩
        rw [List.length_map, hall.length, List.take_length, ← all_eq] at hc2
        exact ⟨_, rfl, k H2 p s3 np ⟨cas, hp2, hc2⟩⟩
theorem ok_Store_check_room (T : Tx K mg D) : FnOk P w K mg base (L2.CX P w) 5 D.f_Store_check_room D.d_Store_check_room ["self", "present", "most", "pair"] (spRoom K D) := by
  refine T.F_Store_check_room.okX sc_Store_check_room (fun vs H Q E h => ?_) (fun cdv A outer s H vs Q E hr h => ?_)
  · obtain ⟨d, b, l, r, xs, m, a, rfl, _⟩ := h
    rfl
  · obtain ⟨d, b, l, r, xs, m, a, rfl, hS, hB, hl, hra, fa, k1, k2⟩ := h
    obtain ⟨dx, ha⟩ := hS.ob
    refine ⟨_, (pss_cons (ps_if (pt_cmpR op_ge (pe_len (by rfl) T.b_len (pv 1)) (pv 2) (nomark _))
      (pss_one (ps_raise rfl (takes_of rfl rfl rfl rfl) (pmk_own PySem.F.excBase_Exception T.x_NoRoom T.m_NoRoom T.k_NoRoom (raises_own T.s_NoRoom T.y_NoRoom) (by exact rfl))))
      (pss_nil))
      (pss_one (ps_if (pt_cmpR op_gt (pe_len (by rfl) T.b_len (pe_call (ok_atoms_of T) (hr.mono (by decide)) (by rfl) T.m_atoms_of T.F_atoms_of.kp T.b_atoms_of .nil pass0 (pa_cons (pe_op op_cat (pe_meth0 (pv 0) T.c_Store T.M_Store_all_concepts (ok_Store_all_concepts T) (hr.mono (by decide)) T.b_Store_all_concepts .nil pass0 ) (pe_callTy call_list_of (by rfl) T.b_list (by decide +kernel) (pa_cons (pv 3) pa_nil))) pa_nil))) (pe_globI rfl T.m_MOST_ATOMS) (nomark _))
      (pss_one (ps_raise rfl (takes_of rfl rfl rfl rfl) (pmk_own PySem.F.excBase_Exception T.x_NoRoom T.m_NoRoom T.k_NoRoom (raises_own T.s_NoRoom T.y_NoRoom) (by exact rfl))))
      (pss_nil)))), ?_⟩
    refine ⟨_, rfl, r_lenL hl ⟨_, rfl, _, _, rfl, rfl, _, rfl, ?_⟩⟩
    by_cases c1 : m ≤ xs.length
    · refine if_true_of (by simpa using c1) ?_
      exact k1 (.inl c1) H (Same.refl H)
    · refine if_false_of (by simpa using c1) ?_
      refine ⟨_, rfl, d.st, dx, _, rfl, ha, no_Store_3_all_concepts, d, b, rfl, hS, hB, fun H1 p s1 np ⟨as, hp, has⟩ => ?_⟩
      obtain ⟨b1, b2, hr0, hb1, hb2⟩ := hra.same s1
      refine ⟨_, rfl, r, _, rfl, .inr (SqT.of hr0), fun q nq => ?_⟩
      have s2 := Same.new (o := .lst [.ref b1, .ref b2]) nq
      have hal := has.length
      have hfl : (flat b.all).length ≤ 100 := by
        rw [flat_len2, all_eq, List.length_append, List.length_append]
        have h1 : (formsOf b.ladders).length ≤ b.ladders.length * 3 := flat_len (k := 3) fun x hx => by rw [List.length_map]; exact (hB.frm x hx).2
        have h2 := hB.lad
        have h3 := hB.nev
        have h4 := hB.kee
        omega
      refine ⟨p, q, _, _, rfl, rfl, s2 _ _ hp, upd_same, ?_, fun t nt => ?_⟩
      · rw [List.length_map, hal]
        exact Nat.le_trans (show _ ≤ 102 by show (flat b.all).length + 2 ≤ 102; omega) (by decide)
      have s3 := Same.new (o := .lst (as.map V.ref ++ [.ref b1, .ref b2])) nt
      have s13 := (s1.trans s2).trans s3
      have e1 : as.map V.ref ++ [.ref b1, .ref b2] = (as ++ [b1, b2]).map V.ref := by rw [List.map_append]; rfl
      refine ⟨t, flat b.all ++ [a.1, a.2], rfl, ⟨as ++ [b1, b2], by rw [upd_same, e1], All2.append (Cons.same has (s2.trans s3)) (.cons (s3 _ _ (s2 _ _ hb1)) (.cons (s3 _ _ (s2 _ _ hb2)) .nil))⟩, fun c hc => ?_, ?_, fun H4 u s4 nu ⟨us, hu, hus⟩ => ?_⟩
      · rcases List.mem_append.mp hc with hc | hc
        · obtain ⟨z, hz, hc⟩ := mem_flat.mp hc
          rcases hc with hc | hc
          · subst hc; exact (hB.fine z hz).1
          · subst hc; exact (hB.fine z hz).2
        · rcases List.mem_cons.mp hc with hc | hc
          · subst hc; exact fa.1
          · have := List.mem_singleton.mp hc
            subst this; exact fa.2
      · rw [List.length_append]
        show _ + 2 ≤ 1000
        omega
      · refine r_lenL (SqL.of hu) ⟨_, _, rfl, rfl, _, rfl, ?_⟩
        have hul : (us.map V.ref).length = (Oc.atomsOf (flat b.all ++ [a.1, a.2])).length := by rw [List.length_map, hus.length]
        by_cases c2 : muchB b a = true
        · refine if_true_of ?_ (k1 (.inr c2) H4 (s13.trans s4))
          unfold muchB at c2
          rw [hul]
          simp at c2 ⊢
          omega
        · refine if_false_of ?_ (k2 (fun z => z.elim c1 c2) H4 (s13.trans s4))
          unfold muchB at c2
          rw [hul]
          simp at c2 ⊢
          omega
end
end Wk
end
section
set_option Elab.async false
set_option maxRecDepth 100000
set_option maxHeartbeats 4000000
namespace Wk
open PySem PySem.Spec PyProof.Rows L2
open Oc (C Axiom)
open Oc09 (Ladder Book)
/-! ### books -/
theorem sub_len : ∀ (l m : List C), l.Nodup → (∀ x ∈ l, x ∈ m) → l.length ≤ m.length
  | [], m, _, _ => Nat.zero_le _
  | x :: l, m, hn, h => by
    obtain ⟨s, t, rfl⟩ := List.append_of_mem (h x (by simp))
    obtain ⟨h1, h2⟩ := List.nodup_cons.mp hn
    have := sub_len l (s ++ t) h2 fun y hy => by
      have := h y (by simp [hy])
      rw [List.mem_append, List.mem_cons] at this
      rw [List.mem_append]
      rcases this with z | z | z
      · exact .inl z
      · subst z; exact absurd hy h1
      · exact .inr z
    rw [List.length_append] at this
    rw [List.length_append, List.length_cons, List.length_cons]
    omega
theorem atoms_le {l m : List C} (h : ∀ c ∈ l, c ∈ m) : (Oc.atomsOf l).length ≤ (Oc.atomsOf m).length :=
  sub_len _ _ (atomsOf_nodup l) fun x hx => by
    obtain ⟨c, hc, hx⟩ := mem_atomsOf.mp hx
    exact mem_atomsOf.mpr ⟨c, h c hc, hx⟩
theorem two_some {l : List Nat} {a : Axiom} (h : Oc.two l = some a) : Fine a.1 ∧ Fine a.2 ∧ (enc a.1).length + (enc a.2).length = l.length := by
  rw [two_eq] at h
  cases e1 : rd l with
  | none => rw [e1] at h; cases h
  | some x =>
    simp only [e1] at h
    cases e2 : rd x.2 with
    | none => rw [e2] at h; cases h
    | some y =>
      simp only [e2] at h
      by_cases c : y.2 = []
      · rw [if_pos c] at h
        cases h
        obtain ⟨q1, f1⟩ := rd_some (c := x.1) (r := x.2) e1
        obtain ⟨q2, f2⟩ := rd_some (c := y.1) (r := y.2) e2
        refine ⟨f1, f2, ?_⟩
        rw [q1, List.length_append]
        rw [c, List.append_nil] at q2
        rw [q2]
      · rw [if_neg c] at h
        cases h
theorem two_fine {l : List Nat} {a : Axiom} (h : Oc.two l = some a) (hl : l.length ≤ 1000) : FineA a := by
  obtain ⟨f1, f2, e⟩ := two_some h
  exact ⟨⟨f1, by omega⟩, ⟨f2, by omega⟩⟩
/-- one more pair, wherever it goes -/
theorem Bk.more {b b' : Book} {a : Axiom} (h : Bk b) (fa : FineA a) (hm : muchB b a = false) (hall : ∀ z ∈ b'.all, z ∈ b.all ∨ z = a) (h1 : b'.ladders.length ≤ 3) (h2 : ∀ x ∈ b'.ladders, 1 ≤ x.forms.length ∧ x.forms.length ≤ 3)
    (h3 : b'.never.length ≤ 2) (h4 : b'.keep.length ≤ 2) (h5 : ∀ x ∈ b'.ladders, ∃ a r, x.forms = (0, a) :: r) : Bk b' := by
  refine ⟨fun z hz => ?_, h1, h2, h3, h4, ?_, h5⟩
  · rcases hall z hz with e | e
    · exact h.fine z e
    · subst e; exact fa
  · unfold muchB at hm
    have hm := of_decide_eq_false hm
    refine Nat.le_trans (atoms_le (m := flat b.all ++ [a.1, a.2]) fun c hc => ?_) (by omega)
    obtain ⟨z, hz, hc⟩ := mem_flat.mp hc
    rcases hall z hz with e | e
    · exact List.mem_append_left _ (mem_flat.mpr ⟨z, e, hc⟩)
    · subst e
      rcases hc with hc | hc <;> simp [hc]
/-! ### heaps -/
theorem PairAt.upd {H : Hp} {r c : Addr} {a : C × C} {xs : List V} {o : HO} (h : PairAt H r a) (hc : H c = some (.lst xs)) : PairAt (upd H c o) r a := by
  obtain ⟨p, q, h1, h2, h3⟩ := h
  unfold TupN at h2 h3
  refine ⟨p, q, ?_, ?_, ?_⟩
  · rw [upd_ne (ne_of h1 hc (by intro z; cases z))]; exact h1
  · unfold TupN; rw [upd_ne (ne_of h2 hc (by intro z; cases z))]; exact h2
  · unfold TupN; rw [upd_ne (ne_of h3 hc (by intro z; cases z))]; exact h3
theorem AxAt.upd {D : Dt} {H : Hp} {c : Addr} {t : Ax} {x : Ladder} {xs : List V} {o : HO} (h : AxAt D H t x) (hc : H c = some (.lst xs)) (n1 : t.f ≠ c) (n2 : t.p ≠ c) : AxAt D (upd H c o) t x := by
  obtain ⟨dx, rs, h1, h2, h3, h4⟩ := h
  refine ⟨dx, rs, ?_, ?_, h3.mono fun _ _ z => z.upd hc, ?_⟩
  · rw [upd_ne (ne_of h1 hc (by intro z; cases z))]; exact h1
  · rw [upd_ne n1]; exact h2
  · rw [upd_ne n2]; exact h4
theorem All2.and_mem {α β : Type} {R : α → β → Prop} : ∀ {l : List α} {m : List β}, All2 R l m → All2 (fun a b => R a b ∧ a ∈ l) l m
  | _, _, .nil => .nil
  | _, _, .cons h t => .cons ⟨h, by simp⟩ ((All2.and_mem t).mono fun _ _ z => ⟨z.1, by simp [z.2]⟩)
theorem All2.mono_at {α β : Type} {R S : α → β → Prop} : ∀ {l : List α} {m : List β}, All2 R l m → (∀ (j : Nat) (a : α) (b : β), l[j]? = some a → m[j]? = some b → R a b → S a b) → All2 S l m
  | _, _, .nil, _ => .nil
  | _, _, .cons h t, f => .cons (f 0 _ _ rfl rfl h) (All2.mono_at t fun j a b x y z => f (j + 1) a b (by simpa using x) (by simpa using y) z)
theorem All2.setAt {α β : Type} {R S : α → β → Prop} {y : β} : ∀ {l : List α} {m : List β} {i : Nat}, All2 R l m → (∀ (j : Nat) (a : α) (b : β), l[j]? = some a → m[j]? = some b → j ≠ i → R a b → S a b) → (∀ a, l[i]? = some a → S a y) → All2 S l (m.set i y)
  | _, _, _, .nil, _, _ => .nil
  | _, _, 0, .cons _ t, f, g => .cons (g _ rfl) (All2.mono_at t fun j a b x y z => f (j + 1) a b (by simpa using x) (by simpa using y) (by omega) z)
  | _, _, i + 1, .cons h t, f, g => .cons (f 0 _ _ rfl rfl (by omega) h) (All2.setAt t (fun j a b x y z => f (j + 1) a b (by simpa using x) (by simpa using y) (by omega)) fun a x => g a (by simpa using x))
theorem Sd.own_mem {d : Sd} {t : Ax} (h : t ∈ d.ax) : t.f ∈ d.own ∧ t.p ∈ d.own := by
  have : ∀ c, c = t.f ∨ c = t.p → c ∈ d.ax.flatMap fun t => [t.f, t.p] := fun c hc => List.mem_flatMap.mpr ⟨t, h, by simpa using hc⟩
  unfold Sd.own
  exact ⟨by simp only [List.mem_cons]; exact .inr (.inr (.inr (this _ (.inl rfl)))), by simp only [List.mem_cons]; exact .inr (.inr (.inr (this _ (.inr rfl))))⟩
structure Apart (d : Sd) : Prop where
  au : d.la ≠ d.lu
  aw : d.la ≠ d.lw
  uw : d.lu ≠ d.lw
  fa : ∀ t ∈ d.ax, t.f ≠ d.la ∧ t.p ≠ d.la
  fu : ∀ t ∈ d.ax, t.f ≠ d.lu ∧ t.p ≠ d.lu
  fw : ∀ t ∈ d.ax, t.f ≠ d.lw ∧ t.p ≠ d.lw
theorem apart {d : Sd} (h : d.own.Nodup) : Apart d := by
  unfold Sd.own at h
  obtain ⟨h1, h⟩ := List.nodup_cons.mp h
  obtain ⟨h2, h⟩ := List.nodup_cons.mp h
  obtain ⟨h3, h⟩ := List.nodup_cons.mp h
  simp only [List.mem_cons, not_or] at h1 h2
  have mem : ∀ t ∈ d.ax, ∀ c, c = t.f ∨ c = t.p → c ∈ d.ax.flatMap fun t => [t.f, t.p] := fun t ht c hc => List.mem_flatMap.mpr ⟨t, ht, by simpa using hc⟩
  exact ⟨h1.1, h1.2.1, h2.1, fun t ht => ⟨fun z => h1.2.2 (z ▸ mem t ht _ (.inl rfl)), fun z => h1.2.2 (z ▸ mem t ht _ (.inr rfl))⟩,
    fun t ht => ⟨fun z => h2.2 (z ▸ mem t ht _ (.inl rfl)), fun z => h2.2 (z ▸ mem t ht _ (.inr rfl))⟩, fun t ht => ⟨fun z => h3 (z ▸ mem t ht _ (.inl rfl)), fun z => h3 (z ▸ mem t ht _ (.inr rfl))⟩⟩
/-- two axioms have no list in common -/
theorem nd_at : ∀ (ax : List Ax), (ax.flatMap fun t => [t.f, t.p]).Nodup → ∀ (i j : Nat) (t u : Ax), ax[i]? = some t → ax[j]? = some u → i ≠ j → (t.f ≠ u.f ∧ t.f ≠ u.p) ∧ (t.p ≠ u.f ∧ t.p ≠ u.p)
  | [], _, i, j, t, u, h, _, _ => by simp at h
  | x :: ax, hn, i, j, t, u, hi, hj, ne => by
    rw [List.flatMap_cons] at hn
    obtain ⟨h1, h2, h3⟩ := List.nodup_append.mp hn
    have key : ∀ (y : Ax), y ∈ ax → (x.f ≠ y.f ∧ x.f ≠ y.p) ∧ (x.p ≠ y.f ∧ x.p ≠ y.p) := fun y hy => by
      have mem : ∀ c, c = y.f ∨ c = y.p → c ∈ ax.flatMap fun t => [t.f, t.p] := fun c hc => List.mem_flatMap.mpr ⟨y, hy, by simpa using hc⟩
      exact ⟨⟨h3 _ (by simp) _ (mem _ (.inl rfl)), h3 _ (by simp) _ (mem _ (.inr rfl))⟩, ⟨h3 _ (by simp) _ (mem _ (.inl rfl)), h3 _ (by simp) _ (mem _ (.inr rfl))⟩⟩
    cases i with
    | zero =>
      cases j with
      | zero => exact absurd rfl ne
      | succ j =>
        have e : x = t := by simpa using hi
        subst e
        exact key u (List.mem_of_getElem? (by simpa using hj))
    | succ i =>
      cases j with
      | zero =>
        have e : x = u := by simpa using hj
        subst e
        obtain ⟨⟨a, b⟩, ⟨c, d⟩⟩ := key t (List.mem_of_getElem? (by simpa using hi))
        exact ⟨⟨a.symm, c.symm⟩, ⟨b.symm, d.symm⟩⟩
      | succ j => exact nd_at ax h2 i j t u (by simpa using hi) (by simpa using hj) (by omega)
theorem nd_fp {d : Sd} (h : d.own.Nodup) {t : Ax} (ht : t ∈ d.ax) : t.f ≠ t.p := by
  unfold Sd.own at h
  have h := (List.nodup_cons.mp (List.nodup_cons.mp (List.nodup_cons.mp h).2).2).2
  obtain ⟨s, u, e⟩ := List.append_of_mem ht
  rw [e, List.flatMap_append, List.flatMap_cons] at h
  have h := (List.nodup_append.mp (List.nodup_append.mp h).2.1).1
  simpa using h
theorem StA.tracked {D : Dt} {H : Hp} {d : Sd} {b : Book} (h : StA D H d b) : ∀ c ∈ d.own, ∃ xs, H c = some (.lst xs) := by
  intro c hc
  unfold Sd.own at hc
  simp only [List.mem_cons, List.mem_flatMap] at hc
  obtain ⟨us, hu, _⟩ := h.hlu
  obtain ⟨ws, hw, _⟩ := h.hlw
  rcases hc with rfl | rfl | rfl | ⟨t, ht, hc⟩
  · exact ⟨_, h.hla⟩
  · exact ⟨_, hu⟩
  · exact ⟨_, hw⟩
  · obtain ⟨i, hi⟩ := List.mem_iff_getElem?.mp ht
    obtain ⟨x, _, dx, rs, h1, h2, h3, h4⟩ := All2.get h.hax hi
    simp at hc
    rcases hc with rfl | rfl
    · exact ⟨_, h2⟩
    · exact ⟨_, h4⟩
theorem StA.addW {D : Dt} {H : Hp} {d : Sd} {b : Book} {r : Addr} {a : Axiom} {ws : List Addr} (h : StA D H d b) (hw : H d.lw = some (.lst (ws.map V.ref))) (hr : PairAt H r a) :
    StA D (upd H d.lw (.lst (ws.map V.ref ++ [.ref r]))) d { b with keep := b.keep ++ [a] } := by
  obtain ⟨⟨dx, h1⟩, h2, h3, ⟨us, h4, h5⟩, ⟨ws', h6, h7⟩, h8⟩ := h
  have A := apart h8
  have ew : ws' = ws := by
    rw [h6] at hw
    injection hw with hw
    injection hw with hw
    exact (List.map_inj_right (fun _ _ z => by cases z; rfl)).mp hw
  subst ew
  refine ⟨⟨dx, ?_⟩, ?_, (All2.and_mem h3).mono fun t x ⟨z, ht⟩ => z.upd hw (A.fw t ht).1 (A.fw t ht).2, ⟨us, ?_, h5.mono fun _ _ z => z.upd hw⟩, ⟨ws' ++ [r], ?_, (h7.mono fun _ _ z => z.upd hw).snoc (hr.upd hw)⟩, h8⟩
  · rw [upd_ne (ne_of h1 hw (by intro z; cases z))]; exact h1
  · rw [upd_ne A.aw]; exact h2
  · rw [upd_ne A.uw]; exact h4
  · rw [upd_same, List.map_append]; rfl
theorem StA.addU {D : Dt} {H : Hp} {d : Sd} {b : Book} {r : Addr} {a : Axiom} {ws : List Addr} (h : StA D H d b) (hw : H d.lu = some (.lst (ws.map V.ref))) (hr : PairAt H r a) :
    StA D (upd H d.lu (.lst (ws.map V.ref ++ [.ref r]))) d { b with never := b.never ++ [a] } := by
  obtain ⟨⟨dx, h1⟩, h2, h3, ⟨ws', h6, h7⟩, ⟨us, h4, h5⟩, h8⟩ := h
  have A := apart h8
  have ew : ws' = ws := by
    rw [h6] at hw
    injection hw with hw
    injection hw with hw
    exact (List.map_inj_right (fun _ _ z => by cases z; rfl)).mp hw
  subst ew
  refine ⟨⟨dx, ?_⟩, ?_, (All2.and_mem h3).mono fun t x ⟨z, ht⟩ => z.upd hw (A.fu t ht).1 (A.fu t ht).2, ⟨ws' ++ [r], ?_, (h7.mono fun _ _ z => z.upd hw).snoc (hr.upd hw)⟩, ⟨us, ?_, h5.mono fun _ _ z => z.upd hw⟩, h8⟩
  · rw [upd_ne (ne_of h1 hw (by intro z; cases z))]; exact h1
  · rw [upd_ne A.au]; exact h2
  · rw [upd_same, List.map_append]; rfl
  · rw [upd_ne A.uw.symm]; exact h4
theorem step_keep (b : Book) (l : List Nat) : Oc09.step ⟨b⟩ (.keep l) = match Oc.two l with
    | none => (⟨b⟩, Oc09.ok (-1))
    | some a => if b.keep.length = Oc09.WISHES ∨ Oc09.much ⟨b⟩ a = true then (⟨b⟩, Oc09.ok (-7)) else (⟨{ b with keep := b.keep ++ [a] }⟩, Oc09.ok (b.keep.length : Nat)) := rfl
theorem step_never (b : Book) (l : List Nat) : Oc09.step ⟨b⟩ (.never l) = match Oc.two l with
    | none => (⟨b⟩, Oc09.ok (-1))
    | some a => if b.never.length = Oc09.WISHES ∨ Oc09.much ⟨b⟩ a = true then (⟨b⟩, Oc09.ok (-7)) else (⟨{ b with never := b.never ++ [a] }⟩, Oc09.ok (b.never.length : Nat)) := rfl
theorem step_line (b : Book) (w : Nat) (l : List Nat) : Oc09.step ⟨b⟩ (.line w l) = match Oc.two l with
    | none => (⟨b⟩, Oc09.ok (-1))
    | some a => if Oc09.isPrice w = false then (⟨b⟩, Oc09.ok (-1)) else if b.ladders.length = Oc09.AXIOMS ∨ Oc09.much ⟨b⟩ a = true then (⟨b⟩, Oc09.ok (-7)) else (⟨{ b with ladders := b.ladders ++ [⟨[(0, a)], w⟩] }⟩, Oc09.ok (b.ladders.length : Nat)) := rfl
theorem step_less (b : Book) (i w : Nat) (l : List Nat) : Oc09.step ⟨b⟩ (.less i w l) = match Oc.two l with
    | none => (⟨b⟩, Oc09.ok (-1))
    | some a => if Oc09.isPrice w = false then (⟨b⟩, Oc09.ok (-1)) else match b.ladders[i]? with
      | none => (⟨b⟩, Oc09.ok (-2))
      | some x => if x.forms.length = Oc09.FORMS ∨ Oc09.much ⟨b⟩ a = true then (⟨b⟩, Oc09.ok (-7)) else if Oc.under ((x.forms.getLast?.map fun f => [f.2]).getD []) a.1 a.2 = false then (⟨b⟩, Oc09.ok (-5)) else
        (⟨{ b with ladders := b.ladders.set i { x with forms := x.forms ++ [(w, a)] } }⟩, Oc09.ok (x.forms.length : Nat)) := rfl
/-- what a call that adds something comes to, as the specification's step tells it -/
structure Outc (D : Dt) (Q : VK) (E : XK) (H : Hp) (d : Sd) (r : Oc09.House × Oc09.Ans) : Prop where
  e1 : r.2 = Oc09.ok (-1) → ∀ H', Same H H' → E (.ref D.e_WrongNumbers) none H'
  e2 : r.2 = Oc09.ok (-2) → ∀ H', Same H H' → E (.ref D.e_NoSuchAxiom) none H'
  e5 : r.2 = Oc09.ok (-5) → ∀ H', Same H H' → E (.ref D.e_NotWeaker) none H'
  e7 : r.2 = Oc09.ok (-7) → ∀ H', Same H H' → E (.ref D.e_NoRoom) none H'
  ok : ∀ n : Nat, r.2 = Oc09.ok (n : Nat) → ∀ H' d', StA D H' d' r.1.book → Bk r.1.book → Kp d d' H H' → Q (.int (n : Nat)) H'
def spWish (K : PySem.W.Frag) (D : Dt) : Sp := fun vs H Q E => ∃ (kp : Bool) (d : Sd) (b : Book) (ln : Addr) (l : List Nat), vs = [.ref d.st, .ref (if kp then d.lw else d.lu), .ref ln] ∧ StA D H d b ∧ Bk b ∧ SqL K H ln (iv l) ∧ l.length ≤ 1000 ∧
  Outc D Q E H d (Oc09.step ⟨b⟩ (if kp then .keep l else .never l))
def spLine (K : PySem.W.Frag) (D : Dt) : Sp := fun vs H Q E => ∃ (d : Sd) (b : Book) (ln : Addr) (l : List Nat) (w : Nat), vs = [.ref d.st, .int w, .ref ln] ∧ StA D H d b ∧ Bk b ∧ SqL K H ln (iv l) ∧ l.length ≤ 1000 ∧
  Outc D Q E H d (Oc09.step ⟨b⟩ (.line w l))
def spLess (K : PySem.W.Frag) (D : Dt) : Sp := fun vs H Q E => ∃ (d : Sd) (b : Book) (ln : Addr) (l : List Nat) (i w : Nat), vs = [.ref d.st, .int i, .int w, .ref ln] ∧ StA D H d b ∧ Bk b ∧ SqL K H ln (iv l) ∧ l.length ≤ 1000 ∧
  Outc D Q E H d (Oc09.step ⟨b⟩ (.less i w l))
def spNever (K : PySem.W.Frag) (D : Dt) (kp : Bool) : Sp := fun vs H Q E => ∃ (d : Sd) (b : Book) (ln : Addr) (l : List Nat), vs = [.ref d.st, .ref ln] ∧ StA D H d b ∧ Bk b ∧ SqL K H ln (iv l) ∧ l.length ≤ 1000 ∧
  Outc D Q E H d (Oc09.step ⟨b⟩ (if kp then .keep l else .never l))
theorem Kp.of {d : Sd} {H H' : Hp} (h : ∀ b o, H b = some o → b ≠ d.st → b ∉ d.own → H' b = some o) : Kp d d H H' := ⟨rfl, h, fun _ h => .inl h⟩
section
variable {P : Program} {w : World} {K : PySem.W.Frag} {mg : Str → Option Value} {base : Heap} {D : Dt}
theorem ok_Store_wish (T : Tx K mg D) : FnOk P w K mg base (L2.CX P w) 6 D.f_Store_wish D.d_Store_wish ["self", "wishes", "numbers"] (spWish K D) := by
  refine T.F_Store_wish.okX sc_Store_wish (fun vs H Q E h => ?_) (fun cdv A outer s H vs Q E hr h => ?_)
  · obtain ⟨kp, d, b, ln, l, rfl, _⟩ := h
    rfl
  · obtain ⟨kp, d, b, ln, l, rfl, hS, hB, hl, hlen, O⟩ := h
    obtain ⟨dx, ha⟩ := hS.ob
    obtain ⟨us, hlu, hus⟩ := hS.hlu
    obtain ⟨ws, hlw, hws⟩ := hS.hlw
    refine ⟨_, (pss_cons (ps_set (i := 3) sc_Store_wish.nd rfl (.inl rfl) (pe_call (ok_two_concepts T) (hr.mono (by decide)) (by rfl) T.m_two_concepts T.F_two_concepts.kp T.b_two_concepts .nil (passes_call (takes_of rfl rfl rfl rfl) (fun _ _ _ _ z => z)) (pa_cons (pv 2) pa_nil)))
      (pss_cons (ps_expr (pe_meth (pv 0) T.c_Store T.M_Store_check_room (ok_Store_check_room T) (hr.mono (by decide)) T.b_Store_check_room .nil (passes_call (takes_of rfl rfl rfl rfl) (fun _ _ _ _ z => z)) (pa_cons (pv 1) (pa_cons (pe_globI rfl T.m_MOST_WISHES) (pa_cons (pv 3) pa_nil)))))
      (pss_cons (ps_expr (pe_bm PySem.F.plainAttrs_list PySem.F.slot_list_append PySem.F.type_list_append mt_append (pv 1) (pa_cons (pv 3) pa_nil)))
      (pss_one (ps_ret (pe_op op_sub (pe_len (by rfl) T.b_len (pv 1)) (pe_int))))))), ?_⟩
    refine ⟨_, rfl, ln, l, rfl, hl, fun e => ?_, fun a e H1 r s1 hra => ?_⟩
    · refine O.e1 ?_ H (Same.refl H)
      cases kp <;> simp [Oc09.step, e]
    · have hS1 := hS.same s1
      have fa := two_fine e hlen
      cases kp with
      | true =>
        refine ⟨_, rfl, d.st, dx, _, rfl, s1 _ _ ha, no_Store_3_check_room, _, rfl, _, rfl, ?_⟩
        refine ⟨d, b, d.lw, r, _, 2, a, rfl, hS1, hB, SqL.of (s1 _ _ hlw), hra, fa, fun c H2 s2 => ?_, fun c H2 s2 => ?_⟩
        · refine O.e7 ?_ H2 (s1.trans s2)
          rw [List.length_map, hws.length] at c
          have hk := hB.kee
          have c' : b.keep.length = Oc09.WISHES ∨ Oc09.much ⟨b⟩ a = true := c.elim (fun z => .inl (by show _ = 2; omega)) .inr
          show (Oc09.step ⟨b⟩ (.keep l)).2 = _
          rw [step_keep, e]
          show (if _ then _ else _ : Oc09.House × Oc09.Ans).2 = _
          rw [if_pos c']
        · rw [List.length_map, hws.length] at c
          have hlw2 := s2 _ _ (s1 _ _ hlw)
          have c' : ¬ (b.keep.length = Oc09.WISHES ∨ Oc09.much ⟨b⟩ a = true) := fun z => c (z.elim (fun z => .inl (by have : b.keep.length = 2 := z; omega)) .inr)
          have es : Oc09.step ⟨b⟩ (.keep l) = (⟨{ b with keep := b.keep ++ [a] }⟩, Oc09.ok (b.keep.length : Nat)) := by
            rw [step_keep, e]
            exact if_neg c'
          refine ⟨_, rfl, .inl ⟨rfl, _, SqL.of hlw2⟩, _, rfl, d.lw, _, _, rfl, rfl, hlw2, ?_, ?_⟩
          · have := hB.kee
            rw [List.length_map, hws.length]
            exact Nat.lt_of_le_of_lt this (by decide)
          · refine ⟨_, rfl, r_lenL (SqL.of upd_same) ⟨_, _, rfl, rfl, ?_⟩⟩
            have O' := O.ok b.keep.length (by rw [if_pos rfl, es]) (upd H2 d.lw (.lst (ws.map V.ref ++ [.ref r]))) d
            rw [if_pos rfl, es] at O'
            have el : (((ws.map V.ref ++ [V.ref r]).length : Nat) : Int) - 1 = (b.keep.length : Nat) := by
              rw [List.length_append, List.length_map, hws.length]
              simp
            show Q (.int ((((ws.map V.ref ++ [V.ref r]).length : Nat) : Int) - 1)) _
            rw [el]
            refine O' ((hS1.same s2).addW hlw2 (hra.same s2)) (hB.more fa (by cases z : muchB b a with | false => rfl | true => exact absurd (.inr z) c) (fun z hz => ?_) hB.lad hB.frm hB.nev ?_ hB.zer) (Kp.of fun c o hc n1 n2 => ?_)
            · rw [all_eq] at hz ⊢
              simp only [List.mem_append, List.mem_singleton] at hz ⊢
              rcases hz with z | z | z | z
              · exact .inl (.inl z)
              · exact .inl (.inr (.inl z))
              · exact .inl (.inr (.inr z))
              · exact .inr z
            · show (b.keep ++ [a]).length ≤ 2
              rw [List.length_append]
              have : ¬ 2 ≤ b.keep.length := fun z => c (.inl z)
              show b.keep.length + 1 ≤ 2
              omega
            · rw [upd_ne (fun z => n2 (by rw [z]; simp [Sd.own]))]
              exact s2 _ _ (s1 _ _ hc)
      | false =>
        refine ⟨_, rfl, d.st, dx, _, rfl, s1 _ _ ha, no_Store_3_check_room, _, rfl, _, rfl, ?_⟩
        refine ⟨d, b, d.lu, r, _, 2, a, rfl, hS1, hB, SqL.of (s1 _ _ hlu), hra, fa, fun c H2 s2 => ?_, fun c H2 s2 => ?_⟩
        · refine O.e7 ?_ H2 (s1.trans s2)
          rw [List.length_map, hus.length] at c
          have hk := hB.nev
          have c' : b.never.length = Oc09.WISHES ∨ Oc09.much ⟨b⟩ a = true := c.elim (fun z => .inl (by show _ = 2; omega)) .inr
          show (Oc09.step ⟨b⟩ (.never l)).2 = _
          rw [step_never, e]
          show (if _ then _ else _ : Oc09.House × Oc09.Ans).2 = _
          rw [if_pos c']
        · rw [List.length_map, hus.length] at c
          have hlu2 := s2 _ _ (s1 _ _ hlu)
          have c' : ¬ (b.never.length = Oc09.WISHES ∨ Oc09.much ⟨b⟩ a = true) := fun z => c (z.elim (fun z => .inl (by have : b.never.length = 2 := z; omega)) .inr)
          have es : Oc09.step ⟨b⟩ (.never l) = (⟨{ b with never := b.never ++ [a] }⟩, Oc09.ok (b.never.length : Nat)) := by
            rw [step_never, e]
            exact if_neg c'
          refine ⟨_, rfl, .inl ⟨rfl, _, SqL.of hlu2⟩, _, rfl, d.lu, _, _, rfl, rfl, hlu2, ?_, ?_⟩
          · have := hB.nev
            rw [List.length_map, hus.length]
            exact Nat.lt_of_le_of_lt this (by decide)
          · refine ⟨_, rfl, r_lenL (SqL.of upd_same) ⟨_, _, rfl, rfl, ?_⟩⟩
            have O' := O.ok b.never.length (by rw [if_neg Bool.false_ne_true, es]) (upd H2 d.lu (.lst (us.map V.ref ++ [.ref r]))) d
            rw [if_neg Bool.false_ne_true, es] at O'
            have el : (((us.map V.ref ++ [V.ref r]).length : Nat) : Int) - 1 = (b.never.length : Nat) := by
              rw [List.length_append, List.length_map, hus.length]
              simp
            show Q (.int ((((us.map V.ref ++ [V.ref r]).length : Nat) : Int) - 1)) _
            rw [el]
            refine O' ((hS1.same s2).addU hlu2 (hra.same s2)) (hB.more fa (by cases z : muchB b a with | false => rfl | true => exact absurd (.inr z) c) (fun z hz => ?_) hB.lad hB.frm ?_ hB.kee hB.zer) (Kp.of fun c o hc n1 n2 => ?_)
            · rw [all_eq] at hz ⊢
              simp only [List.mem_append, List.mem_singleton] at hz ⊢
              rcases hz with z | (z | z) | z
              · exact .inl (.inl z)
              · exact .inl (.inr (.inl z))
              · exact .inr z
              · exact .inl (.inr (.inr z))
            · show (b.never ++ [a]).length ≤ 2
              rw [List.length_append]
              have : ¬ 2 ≤ b.never.length := fun z => c (.inl z)
              show b.never.length + 1 ≤ 2
              omega
            · rw [upd_ne (fun z => n2 (by rw [z]; simp [Sd.own]))]
              exact s2 _ _ (s1 _ _ hc)
theorem ok_Store_never (T : Tx K mg D) : FnOk P w K mg base (L2.CX P w) 7 D.f_Store_never D.d_Store_never ["self", "numbers"] (spNever K D false) := by
  refine T.F_Store_never.okX sc_Store_never (fun vs H Q E h => ?_) (fun cdv A outer s H vs Q E hr h => ?_)
  · obtain ⟨d, b, ln, l, rfl, _⟩ := h
    rfl
  · obtain ⟨d, b, ln, l, rfl, hS, hB, hl, hlen, O⟩ := h
    obtain ⟨dx, ha⟩ := hS.ob
    refine ⟨_, (pss_one (ps_ret (pe_meth (pv 0) T.c_Store T.M_Store_wish (ok_Store_wish T) (hr.mono (by decide)) T.b_Store_wish .nil (passes_call (takes_of rfl rfl rfl rfl) (fun _ _ _ _ z => z)) (pa_cons (pe_fld (pv 0) rfl) (pa_cons (pv 1) pa_nil))))), ?_⟩
    refine ⟨_, rfl, d.st, dx, _, rfl, ha, no_Store_3_wish, _, rfl, d.st, D.a_Store, dx, _, _, rfl, ha, T.c_Store, T.n_Store_unwanted, lk_Store_3_unwanted, _, rfl, ?_⟩
    exact ⟨false, d, b, ln, l, rfl, hS, hB, hl, hlen, O⟩
theorem ok_Store_keep (T : Tx K mg D) : FnOk P w K mg base (L2.CX P w) 7 D.f_Store_keep D.d_Store_keep ["self", "numbers"] (spNever K D true) := by
  refine T.F_Store_keep.okX sc_Store_keep (fun vs H Q E h => ?_) (fun cdv A outer s H vs Q E hr h => ?_)
  · obtain ⟨d, b, ln, l, rfl, _⟩ := h
    rfl
  · obtain ⟨d, b, ln, l, rfl, hS, hB, hl, hlen, O⟩ := h
    obtain ⟨dx, ha⟩ := hS.ob
    refine ⟨_, (pss_one (ps_ret (pe_meth (pv 0) T.c_Store T.M_Store_wish (ok_Store_wish T) (hr.mono (by decide)) T.b_Store_wish .nil (passes_call (takes_of rfl rfl rfl rfl) (fun _ _ _ _ z => z)) (pa_cons (pe_fld (pv 0) rfl) (pa_cons (pv 1) pa_nil))))), ?_⟩
    refine ⟨_, rfl, d.st, dx, _, rfl, ha, no_Store_3_wish, _, rfl, d.st, D.a_Store, dx, _, _, rfl, ha, T.c_Store, T.n_Store_wanted, lk_Store_3_wanted, _, rfl, ?_⟩
    exact ⟨true, d, b, ln, l, rfl, hS, hB, hl, hlen, O⟩
end
end Wk
end
section
set_option Elab.async false
set_option maxRecDepth 100000
set_option maxHeartbeats 4000000
namespace Wk
open PySem PySem.Spec PyProof.Rows L2
open Oc (C Axiom)
open Oc09 (Ladder Book)
theorem StA.addA {D : Dt} {H : Hp} {d : Sd} {b : Book} {t : Ax} {x : Ladder} (h : StA D H d b) (ht : AxAt D H t x) (nf : t.f ∉ d.own) (np : t.p ∉ d.own) (nfp : t.f ≠ t.p) :
    StA D (upd H d.la (.lst ((d.ax.map fun t => V.ref t.a) ++ [.ref t.a]))) { d with ax := d.ax ++ [t] } { b with ladders := b.ladders ++ [x] } := by
  obtain ⟨⟨dx, h1⟩, h2, h3, ⟨us, h4, h5⟩, ⟨ws, h6, h7⟩, h8⟩ := h
  have A := apart h8
  have nl : ∀ c, c ∈ d.own → t.f ≠ c ∧ t.p ≠ c := fun c hc => ⟨fun z => nf (z ▸ hc), fun z => np (z ▸ hc)⟩
  have mla : d.la ∈ d.own := by simp [Sd.own]
  refine ⟨⟨dx, ?_⟩, ?_, ((All2.and_mem h3).mono fun t x ⟨z, ht⟩ => z.upd h2 (A.fa t ht).1 (A.fa t ht).2).snoc (ht.upd h2 (nl _ mla).1 (nl _ mla).2), ⟨us, ?_, h5.mono fun _ _ z => z.upd h2⟩, ⟨ws, ?_, h7.mono fun _ _ z => z.upd h2⟩, ?_⟩
  · show upd _ _ _ d.st = _
    rw [upd_ne (ne_of h1 h2 (by intro z; cases z))]; exact h1
  · show upd _ _ _ d.la = some (.lst ((d.ax ++ [t]).map fun t => V.ref t.a))
    rw [upd_same, List.map_append]; rfl
  · show upd _ _ _ d.lu = _
    rw [upd_ne A.au.symm]; exact h4
  · show upd _ _ _ d.lw = _
    rw [upd_ne A.aw.symm]; exact h6
  · have e : ({ d with ax := d.ax ++ [t] } : Sd).own = d.own ++ [t.f, t.p] := by
      unfold Sd.own
      simp
    rw [e, List.nodup_append]
    refine ⟨h8, by simpa using nfp, fun c hc y hy z => ?_⟩
    subst z
    simp at hy
    rcases hy with rfl | rfl
    · exact nf hc
    · exact np hc
theorem pricesOf_more (x : Ladder) (w : Nat) (a : Axiom) (h : 1 ≤ x.forms.length) : pricesOf { x with forms := x.forms ++ [(w, a)] } = (x.forms.map (·.1)).drop 1 ++ [w, x.last] := by
  unfold pricesOf
  show ((x.forms ++ [(w, a)]).map (·.1)).drop 1 ++ [x.last] = _
  rw [List.map_append, List.drop_append_of_le_length (by rw [List.length_map]; exact h), List.append_assoc]
  rfl
theorem StA.weak {D : Dt} {H : Hp} {d : Sd} {b : Book} {i : Nat} {t : Ax} {x : Ladder} {r : Addr} {rs : List Addr} {a : Axiom} {w : Nat} (h : StA D H d b) (hi : d.ax[i]? = some t) (hx : b.ladders[i]? = some x) (h1 : 1 ≤ x.forms.length)
    (hf : H t.f = some (.lst (rs.map V.ref))) (hp : H t.p = some (.lst (iv (pricesOf x)))) (hr : PairAt H r a) :
    StA D (upd (upd H t.f (.lst (rs.map V.ref ++ [.ref r]))) t.p (.lst (iv ((x.forms.map (·.1)).drop 1 ++ [w, x.last])))) d { b with ladders := b.ladders.set i { x with forms := x.forms ++ [(w, a)] } } := by
  obtain ⟨⟨dx, g1⟩, g2, g3, ⟨us, g4, g5⟩, ⟨ws, g6, g7⟩, g8⟩ := h
  have A := apart g8
  have htm : t ∈ d.ax := List.mem_of_getElem? hi
  have nfp := nd_fp g8 htm
  have hp1 : (upd H t.f (.lst (rs.map V.ref ++ [.ref r]))) t.p = some (.lst (iv (pricesOf x))) := by rw [upd_ne nfp.symm]; exact hp
  have hnd : (d.ax.flatMap fun t => [t.f, t.p]).Nodup := (List.nodup_cons.mp (List.nodup_cons.mp (List.nodup_cons.mp g8).2).2).2
  refine ⟨⟨dx, ?_⟩, ?_, ?_, ⟨us, ?_, g5.mono fun _ _ z => (z.upd hf).upd hp1⟩, ⟨ws, ?_, g7.mono fun _ _ z => (z.upd hf).upd hp1⟩, g8⟩
  · rw [upd_ne (ne_of g1 hp (by intro z; cases z)), upd_ne (ne_of g1 hf (by intro z; cases z))]; exact g1
  · rw [upd_ne (A.fa t htm).2.symm, upd_ne (A.fa t htm).1.symm]; exact g2
  · refine All2.setAt g3 (fun j u y hu hy ne z => ?_) fun u hu => ?_
    · obtain ⟨⟨n1, n2⟩, ⟨n3, n4⟩⟩ := nd_at d.ax hnd j i u t hu hi ne
      exact (z.upd hf n1 n3).upd hp1 n2 n4
    · rw [hi] at hu
      cases hu
      obtain ⟨y, hy, dt, rs', q1, q2, q3, q4⟩ := All2.get g3 hi
      rw [hx] at hy
      cases hy
      have ew : rs' = rs := by
        rw [hf] at q2
        injection q2 with q2
        injection q2 with q2
        exact ((List.map_inj_right (fun _ _ z => by cases z; rfl)).mp q2).symm
      subst ew
      refine ⟨dt, rs' ++ [r], ?_, ?_, ?_, ?_⟩
      · rw [upd_ne (ne_of q1 hp (by intro z; cases z)), upd_ne (ne_of q1 hf (by intro z; cases z))]; exact q1
      · rw [upd_ne nfp, upd_same, List.map_append]; rfl
      · have e : ({ x with forms := x.forms ++ [(w, a)] } : Ladder).forms.map (·.2) = x.forms.map (·.2) ++ [a] := by
          show (x.forms ++ [(w, a)]).map (·.2) = _
          rw [List.map_append]
          rfl
        rw [e]
        exact (q3.mono fun _ _ z => (z.upd hf).upd hp1).snoc ((hr.upd hf).upd hp1)
      · rw [upd_same, pricesOf_more x w a h1]
  · rw [upd_ne (A.fu t htm).2.symm, upd_ne (A.fu t htm).1.symm]; exact g4
  · rw [upd_ne (A.fw t htm).2.symm, upd_ne (A.fw t htm).1.symm]; exact g6
section
variable {P : Program} {w : World} {K : PySem.W.Frag} {mg : Str → Option Value} {base : Heap} {D : Dt}
theorem ok_Store_line (T : Tx K mg D) : FnOk P w K mg base (L2.CX P w) 6 D.f_Store_line D.d_Store_line ["self", "price", "numbers"] (spLine K D) := by
  refine T.F_Store_line.okX sc_Store_line (fun vs H Q E h => ?_) (fun cdv A outer s H vs Q E hr h => ?_)
  · obtain ⟨d, b, ln, l, w, rfl, _⟩ := h
    rfl
  · obtain ⟨d, b, ln, l, w, rfl, hS, hB, hl, hlen, O⟩ := h
    obtain ⟨dx, ha⟩ := hS.ob
    rw [step_line] at O
    refine ⟨_, (pss_cons (ps_set (i := 3) sc_Store_line.nd rfl (.inl rfl) (pe_call (ok_two_concepts T) (hr.mono (by decide)) (by rfl) T.m_two_concepts T.F_two_concepts.kp T.b_two_concepts .nil (passes_call (takes_of rfl rfl rfl rfl) (fun _ _ _ _ z => z)) (pa_cons (pv 2) pa_nil)))
      (pss_cons (ps_expr (pe_call (ok_check_price T) (hr.mono (by decide)) (by rfl) T.m_check_price T.F_check_price.kp T.b_check_price .nil (passes_call (takes_of rfl rfl rfl rfl) (fun _ _ _ _ z => z)) (pa_cons (pv 1) pa_nil)))
      (pss_cons (ps_expr (pe_meth (pv 0) T.c_Store T.M_Store_check_room (ok_Store_check_room T) (hr.mono (by decide)) T.b_Store_check_room .nil (passes_call (takes_of rfl rfl rfl rfl) (fun _ _ _ _ z => z)) (pa_cons (pe_fld (pv 0) rfl) (pa_cons (pe_globI rfl T.m_MOST_AXIOMS) (pa_cons (pv 3) pa_nil)))))
      (pss_cons (ps_expr (pe_bm PySem.F.plainAttrs_list PySem.F.slot_list_append PySem.F.type_list_append mt_append (pe_fld (pv 0) rfl) (pa_cons (pe_make T.M_Axiom (ok_Axiom_init T) (hr.mono (by decide)) (by rfl) T.m_Axiom T.b_Axiom_init .nil pass0 (pa_cons (pe_lst (pa_cons (pv 3) pa_nil)) (pa_cons (pe_lst (pa_cons (pv 1) pa_nil)) pa_nil))) pa_nil)))
      (pss_one (ps_ret (pe_op op_sub (pe_len (by rfl) T.b_len (pe_fld (pv 0) rfl)) (pe_int)))))))), ?_⟩
    refine ⟨_, rfl, ln, l, rfl, hl, fun e => ?_, fun a e H1 r s1 hra => ?_⟩
    · rw [e] at O
      exact O.e1 rfl H (Same.refl H)
    · rw [e] at O
      replace O : Outc D Q E H d (if Oc09.isPrice w = false then (⟨b⟩, Oc09.ok (-1)) else if b.ladders.length = Oc09.AXIOMS ∨ Oc09.much ⟨b⟩ a = true then (⟨b⟩, Oc09.ok (-7)) else (⟨{ b with ladders := b.ladders ++ [⟨[(0, a)], w⟩] }⟩, Oc09.ok (b.ladders.length : Nat))) := O
      have hS1 := hS.same s1
      have fa := two_fine e hlen
      refine ⟨_, rfl, w, rfl, fun c => ?_, fun c => ?_⟩
      · rw [if_pos c] at O
        exact O.e1 rfl H1 s1
      · rw [if_neg (by rw [c]; simp)] at O
        refine ⟨_, rfl, d.st, dx, _, rfl, s1 _ _ ha, no_Store_3_check_room, _, rfl, d.st, D.a_Store, dx, _, _, rfl, s1 _ _ ha, T.c_Store, T.n_Store_axioms, lk_Store_3_axioms, _, rfl, ?_⟩
        refine ⟨d, b, d.la, r, _, 3, a, rfl, hS1, hB, SqL.of (s1 _ _ hS.hla), hra, fa, fun c H2 s2 => ?_, fun c H2 s2 => ?_⟩
        · rw [List.length_map, hS.hax.length] at c
          have hk := hB.lad
          have c' : b.ladders.length = Oc09.AXIOMS ∨ Oc09.much ⟨b⟩ a = true := c.elim (fun z => .inl (by show _ = 3; omega)) .inr
          rw [if_pos c'] at O
          exact O.e7 rfl H2 (s1.trans s2)
        · rw [List.length_map, hS.hax.length] at c
          have c' : ¬ (b.ladders.length = Oc09.AXIOMS ∨ Oc09.much ⟨b⟩ a = true) := fun z => c (z.elim (fun z => .inl (by have : b.ladders.length = 3 := z; omega)) .inr)
          rw [if_neg c'] at O
          have hS2 := hS1.same s2
          obtain ⟨dx2, ha2⟩ := hS2.ob
          refine ⟨_, rfl, d.st, D.a_Store, dx2, _, _, rfl, ha2, T.c_Store, T.n_Store_axioms, lk_Store_3_axioms, .inl ⟨rfl, _, SqL.of hS2.hla⟩, ?_⟩
          refine ⟨_, rfl, by show 1 ≤ sizeLine; decide, fun f nf2 => ?_⟩
          have t1 := Same.new (o := .lst [.ref r]) nf2
          refine ⟨_, rfl, by show 1 ≤ sizeLine; decide, fun p np => ?_⟩
          have t2 := Same.new (o := .lst (iv [w])) np
          have np2 : H2 p = none := t1.free np
          have nfp : f ≠ p := fun z => by subst z; rw [upd_same] at np; cases np
          intro x xd nx nxd nex
          have sx : Same (upd (upd H2 f (.lst [.ref r])) p (.lst (iv [w]))) (upd (upd (upd (upd H2 f (.lst [.ref r])) p (.lst (iv [w]))) xd (.own x)) x (.ins D.a_Axiom xd [])) := fun b o e => by
            rw [upd_ne (ne_of_none e nx), upd_ne (ne_of_none e nxd)]
            exact e
          refine ⟨x, xd, _, _, rfl, upd_same, fun H3 hx keep fr => ⟨rfl, ?_⟩⟩
          have t3 : Same (upd (upd H2 f (.lst [.ref r])) p (.lst (iv [w]))) H3 := fun b o e => keep b o (sx b o e) (ne_of_none e nx)
          have s3 : Same H2 H3 := (t1.trans t2).trans t3
          have hf : H3 f = some (.lst [.ref r]) := t3 _ _ (by rw [upd_ne nfp, upd_same])
          have hp : H3 p = some (.lst (iv [w])) := t3 _ _ upd_same
          have hS3 := hS2.same s3
          have hax : AxAt D H3 ⟨x, f, p⟩ ⟨[(0, a)], w⟩ := ⟨xd, [r], hx, hf, .cons (hra.same (s2.trans s3)) .nil, hp⟩
          have no : ∀ c, H2 c = none → c ∉ d.own := fun c hc hm => by
            obtain ⟨xs, e⟩ := hS2.tracked c hm
            rw [hc] at e
            cases e
          have hS4 := hS3.addA hax (no f nf2) (no p np2) nfp
          have hla3 := hS3.hla
          obtain ⟨dx4, ha4⟩ := hS4.ob
          refine ⟨d.la, _, _, rfl, rfl, hla3, ?_, ?_⟩
          · have := hB.lad
            rw [List.length_map, hS.hax.length]
            exact Nat.lt_of_le_of_lt this (by decide)
          · refine ⟨_, rfl, d.st, D.a_Store, dx4, _, _, rfl, ha4, T.c_Store, T.n_Store_axioms, lk_Store_3_axioms, r_lenL (SqL.of upd_same) ⟨_, _, rfl, rfl, ?_⟩⟩
            have el : ((((d.ax.map fun t => V.ref t.a) ++ [V.ref x]).length : Nat) : Int) - 1 = (b.ladders.length : Nat) := by
              rw [List.length_append, List.length_map, hS.hax.length]
              simp
            show Q (.int (((((d.ax.map fun t => V.ref t.a) ++ [V.ref x]).length : Nat) : Int) - 1)) _
            rw [el]
            refine O.ok b.ladders.length rfl _ _ hS4 (hB.more fa (by cases z : muchB b a with | false => rfl | true => exact absurd (.inr z) c) (fun z hz => ?_) ?_ (fun y hy => ?_) hB.nev hB.kee (fun y hy => ?_)) ⟨rfl, fun c o hc n1 n2 => ?_, fun c hc => ?_⟩
            · have hz : z ∈ formsOf (b.ladders ++ [⟨[(0, a)], w⟩]) ++ (b.never ++ b.keep) := hz
              have ef : formsOf (b.ladders ++ [⟨[(0, a)], w⟩]) = formsOf b.ladders ++ [a] := by
                unfold formsOf
                rw [List.flatMap_append]
                rfl
              rw [ef] at hz
              rw [all_eq]
              simp only [List.mem_append, List.mem_singleton] at hz ⊢
              rcases hz with (z | z) | z
              · exact .inl (.inl z)
              · exact .inr z
              · exact .inl (.inr z)
            · show (b.ladders ++ [_]).length ≤ 3
              have : ¬ 3 ≤ b.ladders.length := fun z => c (.inl z)
              rw [List.length_append]
              show b.ladders.length + 1 ≤ 3
              omega
            · have hy : y ∈ b.ladders ++ [⟨[(0, a)], w⟩] := hy
              rcases List.mem_append.mp hy with hy | hy
              · exact hB.frm y hy
              · have := List.mem_singleton.mp hy
                subst this
                exact ⟨Nat.le_refl _, by show 1 ≤ 3; decide⟩
            · have hy : y ∈ b.ladders ++ [⟨[(0, a)], w⟩] := hy
              rcases List.mem_append.mp hy with hy | hy
              · exact hB.zer y hy
              · have := List.mem_singleton.mp hy
                subst this
                exact ⟨a, [], rfl⟩
            · rw [upd_ne (fun z => n2 (by rw [z]; simp [Sd.own]))]
              exact s3 _ _ (s2 _ _ (s1 _ _ hc))
            · have e : ({ d with ax := d.ax ++ [⟨x, f, p⟩] } : Sd).own = d.own ++ [f, p] := by
                unfold Sd.own
                simp
              rw [e] at hc
              rcases List.mem_append.mp hc with hc | hc
              · exact .inl hc
              · simp at hc
                rcases hc with rfl | rfl
                · exact .inr ((s1.trans s2).free nf2)
                · exact .inr ((s1.trans s2).free np2)
theorem ok_Store_less (T : Tx K mg D) : FnOk P w K mg base (L2.CX P w) 8 D.f_Store_less D.d_Store_less ["self", "index", "price", "numbers"] (spLess K D) := by
  refine T.F_Store_less.okX sc_Store_less (fun vs H Q E h => ?_) (fun cdv A outer s H vs Q E hr h => ?_)
  · obtain ⟨d, b, ln, l, i, w, rfl, _⟩ := h
    rfl
  · obtain ⟨d, b, ln, l, i, w, rfl, hS, hB, hl, hlen, O⟩ := h
    obtain ⟨dx, ha⟩ := hS.ob
    rw [step_less] at O
    refine ⟨_, (pss_cons (ps_set (i := 4) sc_Store_less.nd rfl (.inl rfl) (pe_call (ok_two_concepts T) (hr.mono (by decide)) (by rfl) T.m_two_concepts T.F_two_concepts.kp T.b_two_concepts .nil (passes_call (takes_of rfl rfl rfl rfl) (fun _ _ _ _ z => z)) (pa_cons (pv 3) pa_nil)))
      (pss_cons (ps_expr (pe_call (ok_check_price T) (hr.mono (by decide)) (by rfl) T.m_check_price T.F_check_price.kp T.b_check_price .nil (passes_call (takes_of rfl rfl rfl rfl) (fun _ _ _ _ z => z)) (pa_cons (pv 2) pa_nil)))
      (pss_cons (ps_if (pt_cmpR op_ge (pv 1) (pe_len (by rfl) T.b_len (pe_fld (pv 0) rfl)) (nomark _))
      (pss_one (ps_raise rfl (takes_of rfl rfl rfl rfl) (pmk_own PySem.F.excBase_Exception T.x_NoSuchAxiom T.m_NoSuchAxiom T.k_NoSuchAxiom (raises_own T.s_NoSuchAxiom T.y_NoSuchAxiom) (by exact rfl))))
      (pss_nil))
      (pss_cons (ps_set (i := 5) sc_Store_less.nd rfl (.inl rfl) (pe_ix ix_seq (pe_fld (pv 0) rfl) (pv 1) (fun _ _ => rfl)))
      (pss_cons (ps_expr (pe_meth (pv 0) T.c_Store T.M_Store_check_room (ok_Store_check_room T) (hr.mono (by decide)) T.b_Store_check_room .nil (passes_call (takes_of rfl rfl rfl rfl) (fun _ _ _ _ z => z)) (pa_cons (pe_fld (pv 5) rfl) (pa_cons (pe_globI rfl T.m_MOST_FORMS) (pa_cons (pv 4) pa_nil)))))
      (pss_cons (ps_if (pt_not (pt_val (pe_call (ok_is_subsumed T) (hr.mono (by decide)) (by rfl) T.m_is_subsumed T.F_is_subsumed.kp T.b_is_subsumed .nil pass0 (pa_cons (pv 4) (pa_cons (pe_lst (pa_cons (pe_ix ix_seq (pe_fld (pv 5) rfl) (pe_un un_neg (pe_int)) (fun _ _ => rfl)) pa_nil)) pa_nil)))))
      (pss_one (ps_raise rfl (takes_of rfl rfl rfl rfl) (pmk_own PySem.F.excBase_Exception T.x_NotWeaker T.m_NotWeaker T.k_NotWeaker (raises_own T.s_NotWeaker T.y_NotWeaker) (by exact rfl))))
      (pss_nil))
      (pss_cons (ps_expr (pe_meth (pv 5) T.c_Axiom T.M_Axiom_weaken (ok_Axiom_weaken T) (hr.mono (by decide)) T.b_Axiom_weaken .nil pass0 (pa_cons (pv 2) (pa_cons (pv 4) pa_nil))))
      (pss_one (ps_ret (pe_op op_sub (pe_len (by rfl) T.b_len (pe_fld (pv 5) rfl)) (pe_int))))))))))), ?_⟩
    refine ⟨_, rfl, ln, l, rfl, hl, fun e => ?_, fun a e H1 r s1 hra => ?_⟩
    · rw [e] at O
      exact O.e1 rfl H (Same.refl H)
    · rw [e] at O
      replace O : Outc D Q E H d (if Oc09.isPrice w = false then (⟨b⟩, Oc09.ok (-1)) else match b.ladders[i]? with
        | none => (⟨b⟩, Oc09.ok (-2))
        | some x => if x.forms.length = Oc09.FORMS ∨ Oc09.much ⟨b⟩ a = true then (⟨b⟩, Oc09.ok (-7)) else if Oc.under ((x.forms.getLast?.map fun f => [f.2]).getD []) a.1 a.2 = false then (⟨b⟩, Oc09.ok (-5)) else
          (⟨{ b with ladders := b.ladders.set i { x with forms := x.forms ++ [(w, a)] } }⟩, Oc09.ok (x.forms.length : Nat))) := O
      have hS1 := hS.same s1
      have fa := two_fine e hlen
      refine ⟨_, rfl, w, rfl, fun c => ?_, fun c => ?_⟩
      · rw [if_pos c] at O
        exact O.e1 rfl H1 s1
      · rw [if_neg (by rw [c]; simp)] at O
        refine ⟨_, rfl, _, rfl, d.st, D.a_Store, dx, _, _, rfl, s1 _ _ ha, T.c_Store, T.n_Store_axioms, lk_Store_3_axioms, r_lenL (SqL.of (s1 _ _ hS.hla)) ⟨_, _, rfl, rfl, _, rfl, ?_⟩⟩
        cases hx : b.ladders[i]? with
        | none =>
          rw [hx] at O
          have : b.ladders.length ≤ i := List.getElem?_eq_none_iff.mp hx
          refine if_true_of ?_ (O.e2 rfl H1 s1)
          rw [List.length_map, hS.hax.length]
          simpa using this
        | some x =>
          rw [hx] at O
          replace O : Outc D Q E H d (if x.forms.length = Oc09.FORMS ∨ Oc09.much ⟨b⟩ a = true then (⟨b⟩, Oc09.ok (-7)) else if Oc.under ((x.forms.getLast?.map fun f => [f.2]).getD []) a.1 a.2 = false then (⟨b⟩, Oc09.ok (-5)) else
            (⟨{ b with ladders := b.ladders.set i { x with forms := x.forms ++ [(w, a)] } }⟩, Oc09.ok (x.forms.length : Nat))) := O
          have lt : i < b.ladders.length := (List.getElem?_eq_some_iff.mp hx).1
          refine if_false_of (by rw [List.length_map, hS.hax.length]; simpa using lt) ?_
          obtain ⟨t, ht, htx⟩ := All2.get' hS.hax hx
          have hxm : x ∈ b.ladders := List.mem_of_getElem? hx
          obtain ⟨f1, f3⟩ := hB.frm x hxm
          obtain ⟨dt, rs, t1, t2, t3, t4⟩ := htx.same s1
          refine ⟨_, rfl, d.st, D.a_Store, dx, _, _, rfl, s1 _ _ ha, T.c_Store, T.n_Store_axioms, lk_Store_3_axioms, _, rfl, .inl ⟨d.la, _, (i : Int), .ref t.a, rfl, rfl, SqL.of (s1 _ _ hS.hla), atI_nat (by rw [List.getElem?_map, ht]; rfl), ?_⟩⟩
          refine ⟨_, rfl, d.st, dx, _, rfl, s1 _ _ ha, no_Store_3_check_room, _, rfl, t.a, D.a_Axiom, dt, _, _, rfl, t1, T.c_Axiom, T.n_Axiom_forms, lk_Axiom_2_forms, _, rfl, ?_⟩
          have hlr : rs.length = x.forms.length := by rw [t3.length, List.length_map]
          refine ⟨d, b, t.f, r, _, 3, a, rfl, hS1, hB, SqL.of t2, hra, fa, fun c H2 s2 => ?_, fun c H2 s2 => ?_⟩
          · rw [List.length_map, hlr] at c
            have c' : x.forms.length = Oc09.FORMS ∨ Oc09.much ⟨b⟩ a = true := c.elim (fun z => .inl (by show _ = 3; omega)) .inr
            rw [if_pos c'] at O
            exact O.e7 rfl H2 (s1.trans s2)
          · rw [List.length_map, hlr] at c
            have c' : ¬ (x.forms.length = Oc09.FORMS ∨ Oc09.much ⟨b⟩ a = true) := fun z => c (z.elim (fun z => .inl (by have : x.forms.length = 3 := z; omega)) .inr)
            rw [if_neg c'] at O
            have hm : muchB b a = false := by cases z : muchB b a with | false => rfl | true => exact absurd (.inr z) c
            -- the last form
            obtain ⟨fr, fl, ef⟩ : ∃ fr fl, x.forms = fr ++ [fl] := ⟨x.forms.dropLast, x.forms.getLast (by intro z; rw [z] at f1; cases f1), (List.dropLast_concat_getLast _).symm⟩
            have egl : (x.forms.getLast?.map fun f => [f.2]).getD [] = [fl.2] := by rw [ef]; simp
            rw [egl] at O
            obtain ⟨rr, rl, er⟩ : ∃ rr rl, rs = rr ++ [rl] := ⟨rs.dropLast, rs.getLast (by intro z; rw [z] at hlr; have : (0 : Nat) = x.forms.length := hlr; omega), (List.dropLast_concat_getLast _).symm⟩
            have hrl : PairAt H1 rl fl.2 := by
              have e1 : (x.forms.map (·.2))[rr.length]? = some fl.2 := by
                have : rr.length = fr.length := by
                  have h1 := congrArg List.length er
                  have h2 := congrArg List.length ef
                  rw [List.length_append] at h1 h2
                  simp at h1 h2
                  omega
                rw [ef, this, List.map_append, List.getElem?_append_right (by simp)]
                simp
              obtain ⟨z, hz, h⟩ := All2.get' t3 e1
              rw [er, List.getElem?_append_right (Nat.le_refl _)] at hz
              simp at hz
              subst hz
              exact h
            have flm : fl.2 ∈ b.all := by
              rw [all_eq]
              refine List.mem_append_left _ (List.mem_flatMap.mpr ⟨x, hxm, ?_⟩)
              rw [ef]
              simp
            have t12 := s2 _ _ t1
            have t22 := s2 _ _ t2
            refine ⟨_, rfl, _, rfl, t.a, D.a_Axiom, dt, _, _, rfl, t12, T.c_Axiom, T.n_Axiom_forms, lk_Axiom_2_forms, _, rfl, .inl ⟨t.f, _, -1, .ref rl, rfl, rfl, SqL.of t22, by rw [er, List.map_append]; exact atI_last _ _, ?_⟩⟩
            refine ⟨by show 1 ≤ sizeLine; decide, fun q nq => ?_⟩
            have s3 := Same.new (o := .lst [.ref rl]) nq
            refine ⟨r, q, [rl], a, [fl.2], rfl, hra.same (s2.trans s3), upd_same, .cons (hrl.same (s2.trans s3)) .nil, fa, fun z hz => ?_, by simp, ?_, fun H4 s4 => ?_⟩
            · have := List.mem_singleton.mp hz
              subst this
              exact hB.fine _ flm
            · have hm2 := of_decide_eq_false hm
              refine Nat.le_trans (atoms_le (m := flat b.all ++ [a.1, a.2]) fun c hc => ?_) (by omega)
              rcases List.mem_append.mp hc with hc | hc
              · exact List.mem_append_right _ hc
              · obtain ⟨z, hz, hc⟩ := mem_flat.mp hc
                have := List.mem_singleton.mp hz
                subst this
                exact List.mem_append_left _ (mem_flat.mpr ⟨_, flm, hc⟩)
            · refine ⟨_, rfl, ?_⟩
              have s24 := (s2.trans s3).trans s4
              cases cu : Oc.under [fl.2] a.1 a.2 with
              | false =>
                refine if_true_of (by simp) ?_
                rw [if_pos cu] at O
                exact O.e5 rfl H4 (s1.trans s24)
              | true =>
                refine if_false_of (by simp) ?_
                rw [if_neg (by rw [cu]; simp)] at O
                have hS4 := hS1.same s24
                have t14 := s24 _ _ t1
                have t24 := s24 _ _ t2
                have t44 := s24 _ _ t4
                have htm : t ∈ d.ax := List.mem_of_getElem? ht
                have nfp := nd_fp hS4.nd htm
                have hpl : ((x.forms.map (·.1)).drop 1).length ≤ 1000 := by
                  rw [List.length_drop, List.length_map]
                  omega
                refine ⟨_, rfl, t.a, dt, _, rfl, t14, no_Axiom_2_weaken, _, rfl, _, rfl, ?_⟩
                refine ⟨t, dt, r, w, _, _, x.last, rfl, t14, t24, t44, by rw [List.length_map]; omega, hpl, nfp, ?_⟩
                have hS5 := hS4.weak (a := a) (w := w) ht hx f1 t24 t44 (hra.same s24)
                obtain ⟨y, hy, _, _, q1, q2, _, _⟩ := All2.get hS5.hax ht
                refine ⟨_, rfl, t.a, D.a_Axiom, dt, _, _, rfl, (by rw [upd_ne (ne_of t14 t44 (by intro z; cases z)), upd_ne (ne_of t14 t24 (by intro z; cases z))]; exact t14), T.c_Axiom, T.n_Axiom_forms, lk_Axiom_2_forms, ?_⟩
                refine r_lenL (SqL.of (by rw [upd_ne nfp, upd_same])) ⟨_, _, rfl, rfl, ?_⟩
                have el : (((rs.map V.ref ++ [V.ref r]).length : Nat) : Int) - 1 = (x.forms.length : Nat) := by
                  rw [List.length_append, List.length_map, hlr]
                  simp
                show Q (.int ((((rs.map V.ref ++ [V.ref r]).length : Nat) : Int) - 1)) _
                rw [el]
                refine O.ok x.forms.length rfl _ _ hS5 (hB.more fa hm (fun z hz => ?_) ?_ (fun y hy => ?_) hB.nev hB.kee (fun y hy => ?_)) (Kp.of fun c o hc n1 n2 => ?_)
                · have hz : z ∈ formsOf (b.ladders.set i { x with forms := x.forms ++ [(w, a)] }) ++ (b.never ++ b.keep) := hz
                  rw [all_eq]
                  rcases List.mem_append.mp hz with hz | hz
                  · obtain ⟨y, hy, hz⟩ := List.mem_flatMap.mp hz
                    rcases List.mem_or_eq_of_mem_set hy with hy | hy
                    · exact .inl (List.mem_append_left _ (List.mem_flatMap.mpr ⟨y, hy, hz⟩))
                    · subst hy
                      have hz : z ∈ (x.forms ++ [(w, a)]).map (·.2) := hz
                      rw [List.map_append] at hz
                      rcases List.mem_append.mp hz with hz | hz
                      · exact .inl (List.mem_append_left _ (List.mem_flatMap.mpr ⟨x, hxm, hz⟩))
                      · exact .inr (by simpa using hz)
                  · exact .inl (List.mem_append_right _ hz)
                · show (b.ladders.set i _).length ≤ 3
                  rw [List.length_set]
                  exact hB.lad
                · rcases List.mem_or_eq_of_mem_set hy with hy | hy
                  · exact hB.frm y hy
                  · subst hy
                    show 1 ≤ (x.forms ++ [(w, a)]).length ∧ (x.forms ++ [(w, a)]).length ≤ 3
                    rw [List.length_append]
                    have : ¬ 3 ≤ x.forms.length := fun z => c (.inl z)
                    show 1 ≤ x.forms.length + 1 ∧ x.forms.length + 1 ≤ 3
                    omega
                · rcases List.mem_or_eq_of_mem_set hy with hy | hy
                  · exact hB.zer y hy
                  · subst hy
                    obtain ⟨a0, r0, e0⟩ := hB.zer x hxm
                    exact ⟨a0, r0 ++ [(w, a)], by show x.forms ++ [(w, a)] = _; rw [e0]; rfl⟩
                · obtain ⟨m1, m2⟩ := Sd.own_mem htm
                  rw [upd_ne (fun z => n2 (by rw [z]; exact m2)), upd_ne (fun z => n2 (by rw [z]; exact m1))]
                  exact s24 _ _ (s1 _ _ hc)
end
end Wk
end
section
set_option Elab.async false
set_option maxRecDepth 100000
set_option maxHeartbeats 4000000
namespace Wk
open Oc (C Axiom)
open Oc09 (Ladder Book)
theorem at_mem {x : Ladder} {k : Nat} {z : Axiom} (h : z ∈ x.at_ k) : z ∈ x.forms.map fun f => f.2 := by
  unfold Ladder.at_ at h
  cases e : x.forms[k]? with
  | none => rw [e] at h; cases h
  | some f =>
    rw [e] at h
    rw [List.mem_singleton.mp h]
    exact List.mem_map.mpr ⟨f, List.mem_of_getElem? e, rfl⟩
theorem there_mem {b : Book} {ks : List Nat} {z : Axiom} (h : z ∈ b.there ks) : z ∈ b.all := by
  unfold Book.there at h
  obtain ⟨y, hy, hz⟩ := List.mem_flatMap.mp h
  rw [all_eq]
  exact List.mem_append_left _ (List.mem_flatMap.mpr ⟨y.1, (List.of_mem_zip (a := y.1) (b := y.2) hy).1, at_mem hz⟩)
theorem for_all (b : Book) : Oc.atomsFor b.all [] = Oc.atomsOf (flat b.all) := by
  show Oc.atomsOf (flat b.all ++ []) = _
  rw [List.append_nil]
/-- what holds with a way, by whichever atoms -/
theorem under_book {b : Book} {ks : List Nat} {a : Axiom} (ha : a ∈ b.all) : b.under ks a = Oc.under (b.there ks) a.1 a.2 := by
  rw [under_any (cs := flat b.all) (fun c hc => ?_)]
  · show (!(Oc.types (Oc.atomsFor b.all []) (b.there ks)).any _) = _
    rw [for_all]
  · rcases hc with hc | hc | hc
    · exact mem_flat.mpr ⟨a, ha, .inl hc⟩
    · exact mem_flat.mpr ⟨a, ha, .inr hc⟩
    · obtain ⟨z, hz, hc⟩ := mem_flat.mp hc
      exact mem_flat.mpr ⟨z, there_mem hz, hc⟩
theorem good_book (b : Book) (ks : List Nat) : b.good ks = (b.never.all (fun a => !b.under ks a) && b.keep.all (b.under ks)) := rfl
theorem wish_mem {b : Book} {a : Axiom} (h : a ∈ b.never ++ b.keep) : a ∈ b.all := by
  rw [all_eq]
  exact List.mem_append_right _ h
end Wk
end
section
set_option Elab.async false
set_option maxRecDepth 100000
set_option maxHeartbeats 4000000
namespace Wk
open PySem PySem.Spec PyProof.Rows L2
open Oc (C Axiom)
open Oc09 (Ladder Book)
theorem op_neDK {X : Cx} {K : PySem.W.Frag} (hK : X.K = K) (hu : X.A.units + 64 < cLine) : OpR X (compareOp .NotEq) (rNeD K) := by
  subst hK
  exact op_neD hu
theorem Nums.len_eq {l : List Nat} : (iv l).length = l.length := iv_len l
/-- what stands at a and b stands still -/
def Std (a b : Addr) (H H' : Hp) : Prop := (∀ o, H a = some o → H' a = some o) ∧ ∀ o, H b = some o → H' b = some o
theorem Std.of {a b : Addr} {H H' : Hp} (s : Same H H') : Std a b H H' := ⟨fun o e => s _ _ e, fun o e => s _ _ e⟩
theorem sqL_at1 {K : PySem.W.Frag} {H H' : Hp} {a : Addr} {xs : List V} (h : SqL K H a xs) (s : ∀ o, H a = some o → H' a = some o) : SqL K H' a xs := by
  rcases h with (h | ⟨o, h⟩) | h
  · exact .inl (.inl (s _ h))
  · exact .inl (.inr ⟨o, s _ h⟩)
  · exact .inr h
theorem sqT_at1 {K : PySem.W.Frag} {H H' : Hp} {a : Addr} {xs : List V} (h : SqT K H a xs) (s : ∀ o, H a = some o → H' a = some o) : SqT K H' a xs := by
  rcases h with (h | ⟨o, h⟩) | h
  · exact .inl (.inl (s _ h))
  · exact .inl (.inr ⟨o, s _ h⟩)
  · exact .inr h
/-- zip of a list with numbers, whichever they stand in -/
theorem r_zipM {K : PySem.W.Frag} {H : Hp} {a b : Addr} {xs : List V} {ks : List Nat} {R : It → Hp → Prop} (ha : SqL K H a xs) (hb : Nums K H b ks)
    (h : ∀ J, Walk J (min xs.length ks.length) (Std a b H) (YPair (fun i => xs[i]?) (fun i => (iv ks)[i]?)) → R J H) :
    rZip K [.ref a, .ref b] H R := by
  unfold rZip
  refine ⟨a, b, xs, iv ks, rfl, ha, ?_⟩
  rcases hb with hb | hb
  · exact .inl ⟨hb, h _ ((walk_zip (by rw [iv_len])).mono (fun H' s => ⟨sqL_at1 ha s.1, sqL_at1 hb s.2⟩) fun _ _ _ _ _ _ y => y)⟩
  · exact .inr ⟨hb, h _ ((walk_zipM (by rw [iv_len])).mono (fun H' s => ⟨sqL_at1 ha s.1, sqT_at1 hb s.2⟩) fun _ _ _ _ _ _ y => y)⟩
/-- numbers in a list or a tuple that stands in the heap -/
def NumsT (H : Hp) (a : Addr) (l : List Nat) : Prop := H a = some (.lst (iv l)) ∨ H a = some (.tup (iv l))
theorem NumsT.nums {K : PySem.W.Frag} {H : Hp} {a : Addr} {l : List Nat} (h : NumsT H a l) : Nums K H a l := h.elim (fun h => .inl (SqL.of h)) fun h => .inr (SqT.of h)
theorem NumsT.same {H H' : Hp} {a : Addr} {l : List Nat} (h : NumsT H a l) (e : Same H H') : NumsT H' a l := h.elim (fun h => .inl (e _ _ h)) fun h => .inr (e _ _ h)
theorem NumsT.some {H : Hp} {a : Addr} {l : List Nat} (h : NumsT H a l) : ∃ o, H a = some o := h.elim (fun h => ⟨_, h⟩) fun h => ⟨_, h⟩
theorem get_iv {l : List Nat} {i : Nat} {y : V} (h : (iv l)[i]? = some y) : ∃ n : Nat, l[i]? = some n ∧ y = V.int (n : Nat) := by
  unfold iv at h
  rw [List.getElem?_map] at h
  cases e : l[i]? with
  | none => rw [e] at h; cases h
  | some n => rw [e] at h; exact ⟨n, rfl, (Option.some.inj h).symm⟩
theorem get_ax {ax : List Ax} {i : Nat} {y : V} (h : (ax.map fun t => V.ref t.a)[i]? = some y) : ∃ t, ax[i]? = some t ∧ y = .ref t.a := by
  rw [List.getElem?_map] at h
  cases e : ax[i]? with
  | none => rw [e] at h; cases h
  | some t => rw [e] at h; exact ⟨t, rfl, (Option.some.inj h).symm⟩
theorem zip_at {α β : Type} {l : List α} {m : List β} {i : Nat} {a : α} {b : β} (h1 : l[i]? = some a) (h2 : m[i]? = some b) : (l.zip m)[i]? = some (a, b) := by
  rw [List.getElem?_zip_eq_some]
  exact ⟨h1, h2⟩
/-- axioms at a list -/
structure Axs (D : Dt) (H : Hp) (la : Addr) (ax : List Ax) (ls : List Ladder) : Prop where
  l : H la = some (.lst (ax.map fun t => V.ref t.a))
  at_ : All2 (AxAt D H) ax ls
theorem Axs.same {D : Dt} {H H' : Hp} {la : Addr} {ax : List Ax} {ls : List Ladder} (h : Axs D H la ax ls) (e : Same H H') : Axs D H' la ax ls := ⟨e _ _ h.l, h.at_.mono fun _ _ z => z.same e⟩
theorem Axs.len {D : Dt} {H : Hp} {la : Addr} {ax : List Ax} {ls : List Ladder} (h : Axs D H la ax ls) : ax.length = ls.length := h.at_.length
/-- tuples of numbers at addresses -/
def WaysAt (H : Hp) : List Addr → List (List Nat) → Prop := All2 fun a w => TupN H a w
theorem WaysAt.same {H H' : Hp} {as : List Addr} {ws : List (List Nat)} (h : WaysAt H as ws) (e : Same H H') : WaysAt H' as ws := All2.mono (fun _ _ x => e _ _ x) h
def spAllWays (D : Dt) : Sp := fun vs H Q _ => ∃ (la : Addr) (ax : List Ax) (ls : List Ladder), vs = [.ref la] ∧ Axs D H la ax ls ∧ ls.length ≤ 3 ∧ (∀ x ∈ ls, x.forms.length ≤ 3) ∧
  ∀ H' p as, Same H H' → H p = none → H' p = some (.lst (as.map V.ref)) → WaysAt H' as (Oc09.ways (ls.map Ladder.levels)) → Q (.ref p) H'
def isWay (ls : List Ladder) (ks : List Nat) : Bool := decide (ks.length = ls.length) && (ls.zip ks).all fun x => decide (x.2 ≤ x.1.forms.length)
def spIsWay (D : Dt) : Sp := fun vs H Q _ => ∃ (la w : Addr) (ax : List Ax) (ls : List Ladder) (ks : List Nat), vs = [.ref la, .ref w] ∧ Axs D H la ax ls ∧ ls.length ≤ 3 ∧ NumsT H w ks ∧ ∀ H', Same H H' → Q (.bl (isWay ls ks)) H'
def priceOf (ls : List Ladder) (ks : List Nat) : Nat := ((ls.zip ks).map fun x => x.1.price x.2).sum
def spPriceOf (D : Dt) : Sp := fun vs H Q _ => ∃ (la w : Addr) (ax : List Ax) (ls : List Ladder) (ks : List Nat), vs = [.ref la, .ref w] ∧ Axs D H la ax ls ∧ ls.length ≤ 3 ∧ (∀ x ∈ ls, ∃ a r, x.forms = (0, a) :: r) ∧ NumsT H w ks ∧ IsWay ls ks ∧
  ∀ H', Same H H' → Q (.int (priceOf ls ks : Nat)) H'
def thereOf (ls : List Ladder) (ks : List Nat) : List Axiom := (ls.zip ks).flatMap fun x => x.1.at_ x.2
def spFormsAt (D : Dt) : Sp := fun vs H Q _ => ∃ (la w : Addr) (ax : List Ax) (ls : List Ladder) (ks : List Nat), vs = [.ref la, .ref w] ∧ Axs D H la ax ls ∧ ls.length ≤ 3 ∧ NumsT H w ks ∧
  ∀ H' p rs, Same H H' → H p = none → H' p = some (.lst (rs.map V.ref)) → All2 (PairAt H') rs (thereOf ls ks) → Q (.ref p) H'
def spNoHigher : Sp := fun vs H Q _ => ∃ (a b : Addr) (v w : List Nat), vs = [.ref a, .ref b] ∧ TupN H a v ∧ TupN H b w ∧ v.length ≤ 1000 ∧ w.length ≤ 1000 ∧ ∀ H', Same H H' → Q (.bl (Oc09.below v w)) H'
def leastOf (g : List (List Nat)) : List (List Nat) := g.filter fun k => !g.any fun m => m != k && Oc09.below m k
def spMinimal : Sp := fun vs H Q _ => ∃ (p : Addr) (as : List Addr) (ws : List (List Nat)), vs = [.ref p] ∧ H p = some (.lst (as.map V.ref)) ∧ WaysAt H as ws ∧ ws.length ≤ 1000 ∧ (∀ w ∈ ws, w.length ≤ 1000) ∧
  ∀ H' q ms, Same H H' → H q = none → H' q = some (.lst (ms.map V.ref)) → WaysAt H' ms (leastOf ws) → Q (.ref q) H'
section
variable {P : Program} {w : World} {K : PySem.W.Frag} {mg : Str → Option Value} {base : Heap} {D : Dt}
theorem at_len {x : Ladder} {k : Nat} : (x.at_ k).length ≤ 1 := by
  unfold Ladder.at_
  split <;> simp
theorem ok_is_way (T : Tx K mg D) : FnOk P w K mg base CX0 2 D.f_is_way D.d_is_way ["axioms", "levels"] (spIsWay D) := by
  refine T.F_is_way.ok sc_is_way (fun vs H Q E h => ?_) (fun cdv A outer s H vs Q E hr h => ?_)
  · obtain ⟨la, w, ax, ls, ks, rfl, _⟩ := h
    rfl
  · obtain ⟨la, w, ax, ls, ks, rfl, hA, h3, hw, k⟩ := h
    refine ⟨_, (pss_cons (ps_if (pt_cmpR op_ne (pe_len (by rfl) T.b_len (pv 1)) (pe_len (by rfl) T.b_len (pv 0)) (nomark _))
      (pss_one (ps_ret (pe_bl)))
      (pss_nil))
      (pss_one (ps_ret (pe_callB (cr_all rfl) (by rfl) T.b_all (by decide +kernel) (pa_cons (pe_lc (own := [("axiom", 2), ("level", 3)]) (g := gTup K 2 (gCons (gName 2) (gCons (gName 3) (gNil)))) (by rfl) sc_is_way.nd (pi_zipM (by rfl) T.b_zip (pa_cons (pv 0) (pa_cons (pv 1) pa_nil))) (blkOk_by (own := [("axiom", 2), ("level", 3)]) (N := N_is_way) (sc := defScope s_is_way) (by decide +kernel)) (fun _ _ _ _ _ => by exact pg_tup (by rfl) (pgs_cons (pg_name (i := 2) sc_is_way.nd rfl (Or.inl rfl)) (pgs_cons (pg_name (i := 3) sc_is_way.nd rfl (Or.inl rfl)) (pgs_nil)))) (fun _ _ _ _ _ => by exact pts_nil) (fun _ _ _ _ _ => by exact pe_cmpR op_le (pv 3) (pe_meth0 (pv 2) T.c_Axiom T.M_Axiom_removal (ok_Axiom_removal T) (hr.mono (by decide)) T.b_Axiom_removal .nil pass0 ) (nomark _))) pa_nil))))), ?_⟩
    refine ⟨_, rfl, r_len hw.nums ⟨_, rfl, r_lenL (SqL.of hA.l) ⟨rfl, _, rfl, ?_⟩⟩⟩
    by_cases c : ks.length = ls.length
    · refine if_false_of ?_ ?_
      · rw [List.length_map, hA.len]
        simp [c]
      · refine ⟨_, rfl, _, rfl, r_zipM (SqL.of hA.l) hw.nums fun J wk L nL => lc_it wk (fun i H' => Same H H' ∧ H' L = some (.lst ((((ls.zip ks).take i).map fun x => decide (x.2 ≤ x.1.forms.length)).map V.bl))) ⟨Same.new nL, upd_same⟩ (fun i H' _ z => Std.of z.1) ?_ ?_⟩
        · rintro i y H1 H2 lt ⟨s1, hL⟩ ⟨T', x1, y1, rfl, nT, rfl, ex, ey⟩
          obtain ⟨t, ht, rfl⟩ := get_ax ex
          obtain ⟨kn, hk, rfl⟩ := get_iv ey
          obtain ⟨x, hx, hxt⟩ := All2.get hA.at_ ht
          have s2 := Same.new (o := .tup [.ref t.a, .int (kn : Nat)]) nT
          obtain ⟨dx, rs, h1, h2, h3', h4⟩ := hxt.same (s1.trans s2)
          refine ⟨T', _, rfl, SqT.of upd_same, rfl, _, _, rfl, _, _, rfl, rfl, rfl, ?_⟩
          refine ⟨_, rfl, _, rfl, t.a, dx, _, rfl, h1, no_Axiom_2_removal, t.a, t.f, dx, _, _, rfl, h1, h2, _, _, rfl, rfl, ?_⟩
          refine ⟨_, s2 _ _ hL, ?_, Same.mut (s1.trans s2) nL, ?_⟩
          · rw [List.length_map, List.length_map, List.length_take, List.length_zip]
            exact Nat.lt_of_le_of_lt (show _ ≤ 3 by omega) (by decide)
          · have hl := h3'.length
            rw [List.length_map] at hl
            rw [upd_same, take_more (zip_at hx hk), List.map_append, List.map_append, List.length_map, hl]
            simp
        · rintro H1 ⟨s1, hL⟩
          refine ⟨L, _, rfl, SqL.of hL, ?_⟩
          have e : isWay ls ks = (((ls.zip ks).take (min (ax.map fun t => V.ref t.a).length ks.length)).map fun x => decide (x.2 ≤ x.1.forms.length)).all id := by
            rw [List.length_map, hA.len, List.take_of_length_le (by rw [List.length_zip]; exact Nat.le_refl _), List.all_map]
            unfold isWay
            rw [decide_eq_true c, Bool.true_and]
            rfl
          have k2 := k H1 s1
          rw [e] at k2
          exact k2
    · refine if_true_of ?_ ?_
      · rw [List.length_map, hA.len]
        simp
        omega
      · have e : isWay ls ks = false := by
          unfold isWay
          rw [decide_eq_false c]
          rfl
        have k2 := k H (Same.refl H)
        rw [e] at k2
        exact k2
theorem ok_price_of (T : Tx K mg D) : FnOk P w K mg base CX0 2 D.f_price_of D.d_price_of ["axioms", "way"] (spPriceOf D) := by
  refine T.F_price_of.ok sc_price_of (fun vs H Q E h => ?_) (fun cdv A outer s H vs Q E hr h => ?_)
  · obtain ⟨la, w, ax, ls, ks, rfl, _⟩ := h
    rfl
  · obtain ⟨la, w, ax, ls, ks, rfl, hA, h3, hz, hw, hway, k⟩ := h
    refine ⟨_, (pss_one (ps_ret (pe_callB (cr_sum rfl) (by rfl) T.b_sum (by decide +kernel) (pa_cons (pe_lc (own := [("axiom", 2), ("level", 3)]) (g := gTup K 2 (gCons (gName 2) (gCons (gName 3) (gNil)))) (by rfl) sc_price_of.nd (pi_zipM (by rfl) T.b_zip (pa_cons (pv 0) (pa_cons (pv 1) pa_nil))) (blkOk_by (own := [("axiom", 2), ("level", 3)]) (N := N_price_of) (sc := defScope s_price_of) (by decide +kernel)) (fun _ _ _ _ _ => by exact pg_tup (by rfl) (pgs_cons (pg_name (i := 2) sc_price_of.nd rfl (Or.inl rfl)) (pgs_cons (pg_name (i := 3) sc_price_of.nd rfl (Or.inl rfl)) (pgs_nil)))) (fun _ _ _ _ _ => by exact pts_nil) (fun _ _ _ _ _ => by exact pe_meth (pv 2) T.c_Axiom T.M_Axiom_price_to (ok_Axiom_price_to T) (hr.mono (by decide)) T.b_Axiom_price_to .nil pass0 (pa_cons (pv 3) pa_nil))) pa_nil)))), ?_⟩
    refine ⟨_, rfl, _, rfl, r_zipM (SqL.of hA.l) hw.nums fun J wk L nL => lc_it wk (fun i H' => Same H H' ∧ H' L = some (.lst ((((ls.zip ks).take i).map fun x => ((x.1.price x.2 : Nat) : Int)).map V.int))) ⟨Same.new nL, upd_same⟩ (fun i H' _ z => Std.of z.1) ?_ ?_⟩
    · rintro i y H1 H2 lt ⟨s1, hL⟩ ⟨T', x1, y1, rfl, nT, rfl, ex, ey⟩
      obtain ⟨t, ht, rfl⟩ := get_ax ex
      obtain ⟨kn, hk, rfl⟩ := get_iv ey
      obtain ⟨x, hx, hxt⟩ := All2.get hA.at_ ht
      have s2 := Same.new (o := .tup [.ref t.a, .int (kn : Nat)]) nT
      obtain ⟨dx, rs, h1, h2, h3', h4⟩ := hxt.same (s1.trans s2)
      refine ⟨T', _, rfl, SqT.of upd_same, rfl, _, _, rfl, _, _, rfl, rfl, rfl, ?_⟩
      refine ⟨_, rfl, t.a, dx, _, rfl, h1, no_Axiom_2_price_to, _, rfl, t.a, t.p, dx, _, _, kn, rfl, h1, h4, fun H3 s3 => ?_⟩
      have s23 := s2.trans s3
      refine ⟨_, s23 _ _ hL, ?_, Same.mut (s1.trans s23) nL, ?_⟩
      · rw [List.length_map, List.length_map, List.length_take, List.length_zip]
        exact Nat.lt_of_le_of_lt (show _ ≤ 3 by omega) (by decide)
      · obtain ⟨a0, r0, e0⟩ := hz x (List.mem_of_getElem? hx)
        have hle : kn ≤ x.forms.length := hway.2 (x, kn) (List.mem_of_getElem? (zip_at hx hk))
        rw [upd_same, take_more (zip_at hx hk), List.map_append, List.map_append, price_take e0 hle]
        rfl
    · rintro H1 ⟨s1, hL⟩
      refine ⟨L, _, rfl, SqL.of hL, ?_⟩
      have e : (((ls.zip ks).take (min (ax.map fun t => V.ref t.a).length ks.length)).map fun x => ((x.1.price x.2 : Nat) : Int)).sum = ((priceOf ls ks : Nat) : Int) := by
        rw [List.length_map, hA.len, List.take_of_length_le (by rw [List.length_zip]; exact Nat.le_refl _)]
        unfold priceOf
        rw [← sum_ints, List.map_map]
        rfl
      rw [e]
      exact k H1 s1
end
end Wk
end
section
set_option Elab.async false
set_option maxRecDepth 100000
set_option maxHeartbeats 4000000
namespace Wk
open PySem PySem.Spec PyProof.Rows L2
open Oc (C Axiom)
open Oc09 (Ladder Book)
theorem nums_free {K : PySem.W.Frag} {H : Hp} {a p : Addr} {l : List Nat} {o : HO} (h : Nums K H a l) (np : H p = none) : Nums K (upd H p o) a l := h.same (Same.new np)
theorem PairAt.keep {H H' : Hp} {r : Addr} {a : Axiom} (h : PairAt H r a) (s : ∀ b o, H b = some o → (∀ xs, o ≠ .lst xs) → H' b = some o) : PairAt H' r a := by
  obtain ⟨p, q, h1, h2, h3⟩ := h
  exact ⟨p, q, s _ _ h1 (fun _ z => by cases z), s _ _ h2 (fun _ z => by cases z), s _ _ h3 (fun _ z => by cases z)⟩
theorem upd_lst {H : Hp} {p : Addr} {xs : List V} {o : HO} (h : H p = some (.lst xs)) : ∀ b u, H b = some u → (∀ ys, u ≠ .lst ys) → (upd H p o) b = some u := fun b u e n => by
  rw [upd_ne (fun z => by rw [z, h] at e; exact n _ (Option.some.inj e).symm)]
  exact e
section
variable {P : Program} {w : World} {K : PySem.W.Frag} {mg : Str → Option Value} {base : Heap} {D : Dt}
theorem ok_is_nowhere_higher (T : Tx K mg D) : FnOk P w K mg base CX0 1 D.f_is_nowhere_higher D.d_is_nowhere_higher ["way", "other"] spNoHigher := by
  refine T.F_is_nowhere_higher.ok sc_is_nowhere_higher (fun vs H Q E h => ?_) (fun cdv A outer s H vs Q E hr h => ?_)
  · obtain ⟨a, b, v, w, rfl, _⟩ := h
    rfl
  · obtain ⟨a, b, v, w, rfl, ha, hb, hv, hw, k⟩ := h
    refine ⟨_, (pss_one (ps_ret (pe_callB (cr_all rfl) (by rfl) T.b_all (by decide +kernel) (pa_cons (pe_lc (own := [("level", 2), ("bound", 3)]) (g := gTup K 2 (gCons (gName 2) (gCons (gName 3) (gNil)))) (by rfl) sc_is_nowhere_higher.nd (RZ.pi_zipA (by rfl) T.b_zip (pa_cons (pv 0) (pa_cons (pv 1) pa_nil))) (blkOk_by (own := [("level", 2), ("bound", 3)]) (N := N_is_nowhere_higher) (sc := defScope s_is_nowhere_higher) (by decide +kernel)) (fun _ _ _ _ _ => by exact pg_tup (by rfl) (pgs_cons (pg_name (i := 2) sc_is_nowhere_higher.nd rfl (Or.inl rfl)) (pgs_cons (pg_name (i := 3) sc_is_nowhere_higher.nd rfl (Or.inl rfl)) (pgs_nil)))) (fun _ _ _ _ _ => by exact pts_nil) (fun _ _ _ _ _ => by exact pe_cmpR op_le (pv 2) (pv 3) (nomark _))) pa_nil)))), ?_⟩
    refine ⟨_, rfl, _, rfl, a, b, iv v, iv w, rfl, .inr ⟨SqT.of ha, SqT.of hb, fun L nL => lc_it (walk_zipT (xs := iv v) (ys := iv w) rfl) (fun i H' => Same H H' ∧ H' L = some (.lst ((((v.zip w).take i).map fun x => decide (x.1 ≤ x.2)).map V.bl))) ⟨Same.new nL, upd_same⟩ (fun i H' _ z => ⟨SqT.of (z.1 _ _ ha), SqT.of (z.1 _ _ hb)⟩) ?_ ?_⟩⟩
    · rintro i y H1 H2 lt ⟨s1, hL⟩ ⟨T', x1, y1, rfl, nT, rfl, ex, ey⟩
      obtain ⟨m, hm, rfl⟩ := get_iv ex
      obtain ⟨n, hn, rfl⟩ := get_iv ey
      have s2 := Same.new (o := .tup [.int (m : Nat), .int (n : Nat)]) nT
      refine ⟨T', _, rfl, SqT.of upd_same, rfl, _, _, rfl, _, _, rfl, rfl, rfl, ?_⟩
      refine ⟨_, rfl, _, rfl, _, _, rfl, rfl, ?_⟩
      refine ⟨_, s2 _ _ hL, ?_, Same.mut (s1.trans s2) nL, ?_⟩
      · rw [List.length_map, List.length_map, List.length_take, List.length_zip]
        exact Nat.lt_of_le_of_lt (show _ ≤ 1000 by omega) (by decide)
      · rw [upd_same, take_more (zip_at hm hn), List.map_append, List.map_append]
        simp
    · rintro H1 ⟨s1, hL⟩
      refine ⟨L, _, rfl, SqL.of hL, ?_⟩
      have e : Oc09.below v w = (((v.zip w).take (min (iv v).length (iv w).length)).map fun x => decide (x.1 ≤ x.2)).all id := by
        rw [iv_len, iv_len, List.take_of_length_le (by rw [List.length_zip]; exact Nat.le_refl _), List.all_map]
        rfl
      have k2 := k H1 s1
      rw [e] at k2
      exact k2
theorem ok_forms_at (T : Tx K mg D) : FnOk P w K mg base CX0 2 D.f_forms_at D.d_forms_at ["axioms", "way"] (spFormsAt D) := by
  refine T.F_forms_at.ok sc_forms_at (fun vs H Q E h => ?_) (fun cdv A outer s H vs Q E hr h => ?_)
  · obtain ⟨la, w, ax, ls, ks, rfl, _⟩ := h
    rfl
  · obtain ⟨la, w, ax, ls, ks, rfl, hA, h3, hw, k⟩ := h
    refine ⟨_, (pss_cons (ps_set (i := 2) sc_forms_at.nd rfl (.inl rfl) (pe_lst (pa_nil)))
      (pss_cons (ps_for PassesOwn.never rfl (pi_zipM (by rfl) T.b_zip (pa_cons (pv 0) (pa_cons (pv 1) pa_nil))) (pg_tup (by rfl) (pgs_cons (pg_name (i := 3) sc_forms_at.nd rfl (Or.inl rfl)) (pgs_cons (pg_name (i := 4) sc_forms_at.nd rfl (Or.inl rfl)) (pgs_nil))))
      (pss_one (ps_if (pt_cmpR op_lt (pv 4) (pe_meth0 (pv 3) T.c_Axiom T.M_Axiom_removal (ok_Axiom_removal T) (hr.mono (by decide)) T.b_Axiom_removal .nil pass0 ) (nomark _))
      (pss_one (ps_expr (pe_bm PySem.F.plainAttrs_list PySem.F.slot_list_append PySem.F.type_list_append mt_append (pv 2) (pa_cons (pe_ix ix_seq (pe_fld (pv 3) rfl) (pv 4) (fun _ _ => rfl)) pa_nil))))
      (pss_nil))))
      (pss_one (ps_ret (pv 2))))), ?_⟩
    refine ⟨by show 0 ≤ sizeLine; decide, fun p np => ?_⟩
    have s0 := Same.new (o := .lst []) np
    obtain ⟨ow, how⟩ := hw.some
    have still : ∀ H', Same H H' → Std la w (upd H p (.lst [])) H' := fun H' s => ⟨fun o e => by
      rw [upd_ne (ne_of_none hA.l np)] at e
      exact s _ _ e, fun o e => by
      rw [upd_ne (ne_of_none how np)] at e
      exact s _ _ e⟩
    refine ⟨_, rfl, _, rfl, r_zipM (SqL.of (s0 _ _ hA.l)) (hw.same s0).nums fun J wk => for_it wk (fun i σ H' => ∃ rs v1 v2, σ = [some (.ref la), some (.ref w), some (.ref p), v1, v2] ∧ Same H H' ∧ H' p = some (.lst (rs.map V.ref)) ∧ All2 (PairAt H') rs (((ls.zip ks).take i).flatMap fun x => x.1.at_ x.2)) ⟨[], none, none, rfl, s0, upd_same, .nil⟩ (fun i σ H' _ ⟨_, _, _, _, z, _⟩ => still H' z) ?_ ?_⟩
    · rintro i y σ H1 H2 lt ⟨rs, v1, v2, rfl, s1, hp, hrs⟩ ⟨T', x1, y1, rfl, nT, rfl, ex, ey⟩
      obtain ⟨t, ht, rfl⟩ := get_ax ex
      obtain ⟨kn, hk, rfl⟩ := get_iv ey
      obtain ⟨x, hx, hxt⟩ := All2.get hA.at_ ht
      have s2 := Same.new (o := .tup [.ref t.a, .int (kn : Nat)]) nT
      obtain ⟨dx, fs, h1, h2, h3', h4⟩ := hxt.same (s1.trans s2)
      have hfl := h3'.length
      rw [List.length_map] at hfl
      refine ⟨T', _, rfl, SqT.of upd_same, rfl, _, _, rfl, _, _, rfl, rfl, ?_⟩
      refine ⟨_, rfl, _, rfl, t.a, dx, _, rfl, h1, no_Axiom_2_removal, t.a, t.f, dx, _, _, rfl, h1, h2, _, _, rfl, rfl, _, rfl, ?_⟩
      rw [List.length_map, hfl]
      have more : ((ls.zip ks).take (i + 1)).flatMap (fun x => x.1.at_ x.2) = ((ls.zip ks).take i).flatMap (fun x => x.1.at_ x.2) ++ x.at_ kn := by
        rw [take_more (zip_at hx hk), List.flatMap_append]
        simp
      by_cases c : kn < x.forms.length
      · refine if_true_of (by simpa using c) ?_
        obtain ⟨f, hf⟩ : ∃ f, x.forms[kn]? = some f := ⟨_, List.getElem?_eq_getElem c⟩
        obtain ⟨r, hr', hra⟩ := All2.get' h3' (i := kn) (b := f.2) (by rw [List.getElem?_map, hf]; rfl)
        have eat : x.at_ kn = [f.2] := by
          unfold Ladder.at_
          rw [hf]
        have hp2 := s2 _ _ hp
        refine ⟨_, rfl, .inl ⟨rfl, _, SqL.of hp2⟩, _, rfl, t.a, D.a_Axiom, dx, _, _, rfl, h1, T.c_Axiom, T.n_Axiom_forms, lk_Axiom_2_forms, _, rfl, .inl ⟨t.f, _, (kn : Int), .ref r, rfl, rfl, SqL.of h2, atI_nat (by rw [List.getElem?_map, hr']; rfl), ?_⟩⟩
        refine ⟨p, _, _, rfl, rfl, hp2, ?_, ?_⟩
        · have := hrs.length
          have l2 : (((ls.zip ks).take i).flatMap fun x => x.1.at_ x.2).length ≤ ((ls.zip ks).take i).length * 1 := flat_len (k := 1) fun x _ => at_len
          have l3 : ((ls.zip ks).take i).length ≤ 3 := by rw [List.length_take, List.length_zip]; omega
          rw [List.length_map]
          exact Nat.lt_of_le_of_lt (show rs.length ≤ 3 by omega) (by decide)
        · refine ⟨rs ++ [r], some (.ref t.a), some (.int (kn : Nat)), rfl, Same.mut (s1.trans s2) np, ?_, ?_⟩
          · rw [upd_same, List.map_append]
            rfl
          · rw [more, eat]
            exact (hrs.mono fun _ _ z => (z.same s2).keep (upd_lst hp2)).snoc (hra.keep (upd_lst hp2))
      · refine if_false_of (by simpa using c) ?_
        have eat : x.at_ kn = [] := by
          unfold Ladder.at_
          rw [List.getElem?_eq_none (by omega)]
        refine ⟨rs, some (.ref t.a), some (.int (kn : Nat)), rfl, s1.trans s2, s2 _ _ hp, ?_⟩
        rw [more, eat, List.append_nil]
        exact hrs.mono fun _ _ z => z.same s2
    · rintro σ H1 ⟨rs, v1, v2, rfl, s1, hp, hrs⟩
      rw [List.length_map, hA.len, List.take_of_length_le (by rw [List.length_zip]; exact Nat.le_refl _)] at hrs
      exact ⟨_, rfl, k H1 p rs s1 np hp hrs⟩
end
end Wk
end
section
set_option Elab.async false
set_option maxRecDepth 100000
set_option maxHeartbeats 4000000
namespace Wk
open PySem PySem.Spec PyProof.Rows L2
open Oc (C Axiom)
open Oc09 (Ladder Book)
theorem WaysAt.keep {H H' : Hp} {as : List Addr} {ws : List (List Nat)} (h : WaysAt H as ws) (s : ∀ b o, H b = some o → (∀ xs, o ≠ .lst xs) → H' b = some o) : WaysAt H' as ws := All2.mono (fun _ _ x => s _ _ x (fun _ z => by cases z)) h
/-- the longer ways behind some ways of the list and some levels of the next one -/
def ext (n : Nat) (w : List Nat) : List (List Nat) := (List.range n).map fun k => w ++ [k]
theorem ext_len {n : Nat} {w : List Nat} : (ext n w).length = n := by simp [ext]
theorem levels_le {ls : List Ladder} (h : ∀ x ∈ ls, x.forms.length ≤ 3) : ∀ n ∈ ls.map Ladder.levels, n ≤ 4 := fun n hn => by
  obtain ⟨x, hx, rfl⟩ := List.mem_map.mp hn
  have := h x hx
  unfold Ladder.levels
  omega
section
variable {P : Program} {w : World} {K : PySem.W.Frag} {mg : Str → Option Value} {base : Heap} {D : Dt}
theorem ok_all_ways (T : Tx K mg D) : FnOk P w K mg base CX0 2 D.f_all_ways D.d_all_ways ["axioms"] (spAllWays D) := by
  refine T.F_all_ways.ok sc_all_ways (fun vs H Q E h => ?_) (fun cdv A outer s H vs Q E hr h => ?_)
  · obtain ⟨la, ax, ls, rfl, _⟩ := h
    rfl
  · obtain ⟨la, ax, ls, rfl, hA, h3, hf3, k⟩ := h
    refine ⟨_, (pss_cons (ps_set (i := 1) sc_all_ways.nd rfl (.inl rfl) (pe_lst (pa_cons (pe_tup (pa_nil)) pa_nil)))
      (pss_cons (ps_for PassesOwn.never rfl (pi_list (pv 0)) (pg_name (i := 2) sc_all_ways.nd rfl (Or.inl rfl))
      (pss_cons (ps_set (i := 3) sc_all_ways.nd rfl (.inl rfl) (pe_lst (pa_nil)))
      (pss_cons (ps_for PassesOwn.never rfl (pi_list (pv 1)) (pg_name (i := 4) sc_all_ways.nd rfl (Or.inl rfl))
      (pss_one (ps_for PassesOwn.never rfl (pi_range1 (by rfl) T.b_range (pa_cons (pe_op op_add (pe_meth0 (pv 2) T.c_Axiom T.M_Axiom_removal (ok_Axiom_removal T) (hr.mono (by decide)) T.b_Axiom_removal .nil pass0 ) (pe_int)) pa_nil)) (pg_name (i := 5) sc_all_ways.nd rfl (Or.inl rfl))
      (pss_one (ps_expr (pe_bm PySem.F.plainAttrs_list PySem.F.slot_list_append PySem.F.type_list_append mt_append (pv 3) (pa_cons (pe_op op_catA (pv 4) (pe_tup (pa_cons (pv 5) pa_nil))) pa_nil)))))))
      (pss_one (ps_set (i := 1) sc_all_ways.nd rfl (.inl rfl) (pv 3))))))
      (pss_one (ps_ret (pv 1))))), ?_⟩
    refine ⟨by show 0 ≤ sizeLine; decide, fun e0 ne0 => ⟨by show 1 ≤ sizeLine; decide, fun p0 np0 => ?_⟩⟩
    have s0 := Same.new (o := .tup []) ne0
    have s1 := Same.new (o := .lst [.ref e0]) np0
    have np0' : H p0 = none := s0.free np0
    refine ⟨_, rfl, la, rfl, ⟨_, SqL.of ((s0.trans s1) _ _ hA.l)⟩, for_list (K := K) (a := la) (xs := ax.map fun t => V.ref t.a)
      (fun i σ H' => ∃ p as v1 v2 v3 v4, σ = [some (.ref la), some (.ref p), v1, v2, v3, v4] ∧ Same H H' ∧ H p = none ∧ H' p = some (.lst (as.map V.ref)) ∧ WaysAt H' as (Oc09.ways ((ls.take i).map Ladder.levels)))
      ⟨p0, [e0], none, none, none, none, rfl, s0.trans s1, np0', upd_same, .cons (s1 _ _ upd_same) .nil⟩ (fun i σ H' _ ⟨_, _, _, _, _, _, _, z, _⟩ => SqL.of (z _ _ hA.l)) ?_ ?_⟩
    · rintro i y σ H1 hi ⟨p, as, v1, v2, v3, v4, rfl, s1, np, hp, hw⟩
      obtain ⟨t, ht, rfl⟩ := get_ax hi
      obtain ⟨x, hx, hxt⟩ := All2.get hA.at_ ht
      have hxm := List.mem_of_getElem? hx
      have hlen : (Oc09.ways ((ls.take i).map Ladder.levels)).length ≤ 64 := by
        refine Nat.le_trans (ways_len _ (levels_le fun z hz => hf3 z (List.mem_of_mem_take hz))) ?_
        rw [List.length_map, List.length_take]
        exact Nat.le_trans (Nat.pow_le_pow_right (by decide) (show _ ≤ 3 by omega)) (by decide)
      have hwl : ∀ v ∈ Oc09.ways ((ls.take i).map Ladder.levels), v.length ≤ 3 := fun v hv => by
        have := ((ways_mem _ v).mp hv).1
        rw [this, List.length_take]
        omega
      generalize eW : Oc09.ways ((ls.take i).map Ladder.levels) = W at *
      refine ⟨by show 0 ≤ sizeLine; decide, fun lg nlg => ?_⟩
      have s2 := Same.new (o := .lst []) nlg
      have nlg0 : H lg = none := s1.free nlg
      have npl : p ≠ lg := ne_of_none hp nlg
      refine ⟨_, rfl, p, rfl, ⟨_, SqL.of (s2 _ _ hp)⟩, for_list (K := K) (a := p) (xs := as.map V.ref)
        (fun j σ H' => ∃ bs v3 v4, σ = [some (.ref la), some (.ref p), some (.ref t.a), some (.ref lg), v3, v4] ∧ Same H1 H' ∧ H' lg = some (.lst (bs.map V.ref)) ∧ WaysAt H' bs ((W.take j).flatMap (ext x.levels)))
        ⟨[], v3, v4, rfl, s2, upd_same, .nil⟩ (fun j σ H' _ ⟨_, _, _, _, z, _⟩ => SqL.of (z _ _ hp)) ?_ ?_⟩
      · rintro j y σ H2 hj ⟨bs, v3, v4, rfl, s2, hlg, hbs⟩
        obtain ⟨wa, hwa, rfl⟩ := get_ref hj
        obtain ⟨wy, hwy, hwt⟩ := All2.get hw hwa
        obtain ⟨dx, fs, h1, h2, h3', h4⟩ := hxt.same (s1.trans s2)
        have hfl := h3'.length
        rw [List.length_map] at hfl
        have hb2 : ((W.take j).flatMap (ext x.levels)).length ≤ 64 * 4 := by
          refine Nat.le_trans (flat_len (k := 4) fun z hz => ?_) (Nat.mul_le_mul_right _ ?_)
          · rw [ext_len]
            have := hf3 x hxm
            unfold Ladder.levels
            omega
          · rw [List.length_take]
            omega
        refine ⟨_, rfl, t.a, dx, _, rfl, h1, no_Axiom_2_removal, t.a, t.f, dx, _, _, rfl, h1, h2, _, _, rfl, rfl, _, rfl, ?_⟩
        have hn : ((((fs.map V.ref).length : Nat) : Int) + 1) = ((x.levels : Nat) : Int) := by
          rw [List.length_map, hfl]
          unfold Ladder.levels
          simp
        have hx4 : x.levels ≤ 4 := by
          have := hf3 x hxm
          unfold Ladder.levels
          omega
        refine ⟨by rw [hn]; omega, by rw [hn]; omega, ?_⟩
        rw [hn, Int.toNat_natCast]
        refine for_range (lo := 0) (n := x.levels)
          (fun m σ H' => ∃ bs v4, σ = [some (.ref la), some (.ref p), some (.ref t.a), some (.ref lg), some (.ref wa), v4] ∧ Same H1 H' ∧ H' lg = some (.lst (bs.map V.ref)) ∧ WaysAt H' bs ((W.take j).flatMap (ext x.levels) ++ ext m wy))
          ⟨bs, v4, rfl, s2, hlg, by simpa [ext] using hbs⟩ ?_ ?_
        · rintro m σ H3 hm ⟨bs, v4, rfl, s3, hlg3, hbs3⟩
          rw [Int.zero_add]
          have hwt3 : TupN H3 wa wy := s3 _ _ hwt
          have hlb := hbs3.length
          have eext : ext (m + 1) wy = ext m wy ++ [wy ++ [m]] := by
            unfold ext
            rw [List.range_succ, List.map_append]
            rfl
          have fin : ∀ (q : Addr) (H4 : Hp), Same H3 H4 → TupN H4 q (wy ++ [m]) → (bs.map V.ref).length < sizeLine ∧
              ∃ bs' v4, ([some (V.ref la), some (V.ref p), some (V.ref t.a), some (V.ref lg), some (V.ref wa), some (V.int (m : Nat))] : L2.St) = [some (.ref la), some (.ref p), some (.ref t.a), some (.ref lg), some (.ref wa), v4] ∧ Same H1 (upd H4 lg (.lst (bs.map V.ref ++ [.ref q]))) ∧ (upd H4 lg (.lst (bs.map V.ref ++ [.ref q]))) lg = some (.lst (bs'.map V.ref)) ∧
                WaysAt (upd H4 lg (.lst (bs.map V.ref ++ [.ref q]))) bs' ((W.take j).flatMap (ext x.levels) ++ ext (m + 1) wy) := fun q H4 s4 hq => by
            have hlg4 := s4 _ _ hlg3
            refine ⟨?_, bs ++ [q], _, rfl, Same.mut (s3.trans s4) nlg, ?_, ?_⟩
            · rw [List.length_append, ext_len] at hlb
              rw [List.length_map]
              exact Nat.lt_of_le_of_lt (show bs.length ≤ 300 by omega) (by decide)
            · rw [upd_same, List.map_append]
              rfl
            · rw [eext, ← List.append_assoc]
              refine All2.snoc ((hbs3.same s4).keep (upd_lst hlg4)) ?_
              unfold TupN at hq ⊢
              exact upd_lst hlg4 _ _ hq (fun _ z => by cases z)
          refine ⟨_, rfl, .inl ⟨rfl, _, SqL.of hlg3⟩, _, rfl, _, rfl, by show 1 ≤ sizeLine; decide, fun q nq => ?_⟩
          have s4 := Same.new (o := .tup [.int (m : Nat)]) nq
          refine ⟨wa, q, iv wy, [.int (m : Nat)], rfl, rfl, SqT.of (s4 _ _ hwt3), SqT.of upd_same, ?_, fun e => ?_, (fun _ e => by cases e), fun _ _ q2 nq2 => ?_⟩
          · have := hwl wy (List.mem_of_getElem? hwy)
            rw [iv_len]
            exact Nat.le_trans (show wy.length + 1 ≤ 4 by omega) (by decide)
          · have ewy : wy = [] := List.length_eq_zero_iff.mp (by rw [← iv_len, e]; rfl)
            obtain ⟨a, b⟩ := fin q _ s4 (by unfold TupN; rw [upd_same, ewy]; rfl)
            exact ⟨lg, _, _, rfl, rfl, s4 _ _ hlg3, a, b⟩
          · have s5 := Same.new (o := .tup (iv wy ++ [.int (m : Nat)])) nq2
            obtain ⟨a, b⟩ := fin q2 _ (s4.trans s5) (by unfold TupN; rw [upd_same]; simp [iv])
            exact ⟨lg, _, _, rfl, rfl, s5 _ _ (s4 _ _ hlg3), a, b⟩
        · rintro σ H3 ⟨bs, v4, rfl, s3, hlg3, hbs3⟩
          refine ⟨bs, some (.ref wa), v4, rfl, s3, hlg3, ?_⟩
          rw [take_more hwy, List.flatMap_append]
          simpa using hbs3
      · rintro σ H2 ⟨bs, v3, v4, rfl, s2, hlg, hbs⟩
        refine ⟨_, rfl, lg, bs, some (.ref t.a), some (.ref lg), v3, v4, rfl, s1.trans s2, nlg0, hlg, ?_⟩
        have hl := hw.length
        rw [List.length_map, hl, List.take_length] at hbs
        rw [take_more hx, List.map_append]
        show WaysAt H2 bs (Oc09.ways ((ls.take i).map Ladder.levels ++ [x.levels]))
        rw [ways_snoc, eW]
        exact hbs
    · rintro σ H1 ⟨p, as, v1, v2, v3, v4, rfl, s1, np, hp, hw⟩
      rw [List.length_map, hA.len, List.take_length] at hw
      exact ⟨_, rfl, k H1 p as s1 np hp hw⟩
theorem ok_minimal_among (T : Tx K mg D) : FnOk P w K mg base CX0 2 D.f_minimal_among D.d_minimal_among ["ways"] spMinimal := by
  refine T.F_minimal_among.ok sc_minimal_among (fun vs H Q E h => ?_) (fun cdv A outer s H vs Q E hr h => ?_)
  · obtain ⟨p, as, ws, rfl, _⟩ := h
    rfl
  · obtain ⟨p, as, ws, rfl, hp, hws, hl, hwl, k⟩ := h
    refine ⟨_, (pss_cons (ps_set (i := 1) sc_minimal_among.nd rfl (.inl rfl) (pe_lst (pa_nil)))
      (pss_cons (ps_for PassesOwn.never rfl (pi_list (pv 0)) (pg_name (i := 2) sc_minimal_among.nd rfl (Or.inr rfl))
      (pss_one (ps_if (pt_not (pt_val (pe_callB (cr_any rfl) (by rfl) T.b_any (by decide +kernel) (pa_cons (pe_lc (own := [("other", 3)]) (g := gName 3) (by rfl) sc_minimal_among.nd (pi_list (pv 0)) (blkOk_by (own := [("other", 3)]) (N := N_minimal_among) (sc := defScope s_minimal_among) (by decide +kernel)) (fun _ _ _ _ _ => by exact pg_name (i := 3) sc_minimal_among.nd rfl (Or.inl rfl)) (fun _ _ _ _ _ => by exact pts_nil) (fun _ _ _ _ _ => by exact pe_and (pe_cmpR (op_neDK (K := K) rfl hr.units) (pv 3) (pv 2) (nomark _)) (pe_one (pe_call (ok_is_nowhere_higher T) (hr.mono (by decide)) (by rfl) T.m_is_nowhere_higher T.F_is_nowhere_higher.kp T.b_is_nowhere_higher .nil pass0 (pa_cons (pv 3) (pa_cons (pv 2) pa_nil)))))) pa_nil))))
      (pss_one (ps_expr (pe_bm PySem.F.plainAttrs_list PySem.F.slot_list_append PySem.F.type_list_append mt_append (pv 1) (pa_cons (pv 2) pa_nil))))
      (pss_nil))))
      (pss_one (ps_ret (pv 1))))), ?_⟩
    have lws := hws.length
    refine ⟨by show 0 ≤ sizeLine; decide, fun q nq => ?_⟩
    have s0 := Same.new (o := .lst []) nq
    refine ⟨_, rfl, p, rfl, ⟨_, SqL.of (s0 _ _ hp)⟩, for_list (K := K) (a := p) (xs := as.map V.ref)
      (fun i σ H' => ∃ ms v2, σ = [some (.ref p), some (.ref q), v2, none] ∧ Same H H' ∧ H' q = some (.lst (ms.map V.ref)) ∧ WaysAt H' ms ((ws.take i).filter fun k => !ws.any fun m => m != k && Oc09.below m k))
      ⟨[], none, rfl, s0, upd_same, .nil⟩ (fun i σ H' _ ⟨_, _, _, z, _⟩ => SqL.of (z _ _ hp)) ?_ ?_⟩
    · rintro i y σ H1 hi ⟨ms, v2, rfl, s1, hq, hms⟩
      obtain ⟨wa, hwa, rfl⟩ := get_ref hi
      obtain ⟨v, hv, hvt⟩ := All2.get hws hwa
      have hvl := hwl v (List.mem_of_getElem? hv)
      have e1 : (ws.take (i + 1)).filter (fun k => !ws.any fun m => m != k && Oc09.below m k) = (ws.take i).filter (fun k => !ws.any fun m => m != k && Oc09.below m k) ++ (if (!ws.any fun m => m != v && Oc09.below m v) = true then [v] else []) := by
        rw [take_more hv, List.filter_append]
        congr 1
        cases c : (!ws.any fun m => m != v && Oc09.below m v) <;> simp [c]
      refine ⟨_, rfl, p, rfl, ⟨_, SqL.of (s1 _ _ hp)⟩, fun L nL => lc_list (K := K) (a := p) (xs := as.map V.ref) (fun j H' => Same H1 H' ∧ H' L = some (.lst (((ws.take j).map fun m => m != v && Oc09.below m v).map V.bl))) ⟨Same.new nL, upd_same⟩ (fun j H' _ ⟨z, _⟩ => SqL.of (z _ _ (s1 _ _ hp))) ?_ ?_⟩
      · rintro j y H2 hj ⟨s2, hL⟩
        obtain ⟨ua, hua, rfl⟩ := get_ref hj
        obtain ⟨u, hu, hut⟩ := All2.get hws hua
        have s12 := s1.trans s2
        have fin : ∀ H3, Same H2 H3 → ∀ b, b = (u != v && Oc09.below u v) → ∃ acc, H3 L = some (.lst acc) ∧ acc.length < sizeLine ∧ (Same H1 (upd H3 L (.lst (acc ++ [.bl b]))) ∧ (upd H3 L (.lst (acc ++ [.bl b]))) L = some (.lst (((ws.take (j + 1)).map fun m => m != v && Oc09.below m v).map V.bl))) := fun H3 s3 b eb => by
          refine ⟨_, s3 _ _ hL, ?_, Same.mut (s2.trans s3) nL, ?_⟩
          · rw [List.length_map, List.length_map, List.length_take]
            exact Nat.lt_of_le_of_lt (show _ ≤ 1000 by omega) (by decide)
          · rw [upd_same, take_more hu, List.map_append, List.map_append, eb]
            rfl
        refine ⟨rfl, _, rfl, _, rfl, dt u, dt v, TupN.dp (s12 _ _ hut), TupN.dp (s12 _ _ hvt), dt_shaped _, dt_shaped _, _, rfl, ?_⟩
        rw [dt_eqv]
        by_cases c : u = v
        · refine if_false_of (by simp [c]) ?_
          exact fin H2 (Same.refl H2) _ (by simp [c])
        · refine if_true_of (by simp [c]) ?_
          refine ⟨_, rfl, _, rfl, ua, wa, u, v, rfl, s12 _ _ hut, s12 _ _ hvt, hwl u (List.mem_of_getElem? hu), hvl, fun H3 s3 => ?_⟩
          exact fin H3 s3 _ (by simp [c])
      · rintro H2 ⟨s2, hL⟩
        rw [List.length_map, lws, List.take_length] at hL
        refine ⟨L, _, rfl, SqL.of hL, _, rfl, ?_⟩
        have ea : ((ws.map fun m => m != v && Oc09.below m v).any id) = ws.any fun m => m != v && Oc09.below m v := by rw [List.any_map]; rfl
        rw [ea]
        have hq2 := s2 _ _ hq
        cases c : ws.any fun m => m != v && Oc09.below m v with
        | true =>
          refine if_false_of rfl ?_
          refine ⟨ms, some (.ref wa), rfl, s1.trans s2, hq2, ?_⟩
          rw [e1, c]
          simpa using hms.same s2
        | false =>
          refine if_true_of rfl ?_
          refine ⟨_, rfl, .inl ⟨rfl, _, SqL.of hq2⟩, _, rfl, q, _, _, rfl, rfl, hq2, ?_, ms ++ [wa], some (.ref wa), rfl, Same.mut (s1.trans s2) nq, ?_, ?_⟩
          · have l1 := hms.length
            have l2 := List.length_filter_le (fun k => !ws.any fun m => m != k && Oc09.below m k) (ws.take i)
            rw [List.length_take] at l2
            rw [List.length_map]
            exact Nat.lt_of_le_of_lt (show ms.length ≤ 1000 by omega) (by decide)
          · rw [upd_same, List.map_append]
            rfl
          · rw [e1, c]
            refine All2.snoc ((hms.same s2).keep (upd_lst hq2)) ?_
            exact upd_lst hq2 _ _ (s2 _ _ (s1 _ _ hvt)) (fun _ z => by cases z)
    · rintro σ H1 ⟨ms, v2, rfl, s1, hq, hms⟩
      rw [List.length_map, lws, List.take_length] at hms
      exact ⟨_, rfl, k H1 q ms s1 nq hq hms⟩
end
end Wk
end
section
set_option Elab.async false
set_option maxRecDepth 100000
set_option maxHeartbeats 4000000
namespace Wk
open PySem PySem.Spec PyProof.Rows L2
open Oc (C Axiom)
open Oc09 (Ladder Book)
/-! ### what holds with a way -/
def heldOf (b : Book) (ks : List Nat) : List Bool := (b.never ++ b.keep).map (b.under ks)
def satOf (n : Nat) (hs : List Bool) : Bool := !(hs.take n).any id && (hs.drop n).all id
theorem good_held (b : Book) (ks : List Nat) : satOf b.never.length (heldOf b ks) = b.good ks := by
  rw [good_book]
  unfold satOf heldOf
  rw [List.map_append, List.take_append_of_le_length (by rw [List.length_map]; exact Nat.le_refl _), List.take_of_length_le (by rw [List.length_map]; exact Nat.le_refl _),
    List.drop_append, List.drop_of_length_le (by rw [List.length_map]; exact Nat.le_refl _), List.length_map, Nat.sub_self, List.drop_zero, List.nil_append, List.all_map, List.any_map]
  congr 1
  induction b.never with
  | nil => rfl
  | cons a l ih => rw [List.any_cons, List.all_cons, ← ih]; simp
theorem under_at (b : Book) (ks : List Nat) (a : Axiom) : b.under ks a = uAt (Oc.atomsOf (flat b.all)) (b.there ks) a := by
  rw [← for_all]
  rfl
theorem StA.axs {D : Dt} {H : Hp} {d : Sd} {b : Book} (h : StA D H d b) : Axs D H d.la d.ax b.ladders := ⟨h.hla, h.hax⟩
theorem Bk.wish {b : Book} (h : Bk b) : (b.never ++ b.keep).length ≤ 4 := by
  have h1 := h.nev
  have h2 := h.kee
  rw [List.length_append]
  omega
theorem Bk.flat_le {b : Book} (hB : Bk b) : (flat b.all).length ≤ 100 := by
  rw [flat_len2, all_eq, List.length_append, List.length_append]
  have h1 : (formsOf b.ladders).length ≤ b.ladders.length * 3 := flat_len (k := 3) fun x hx => by rw [List.length_map]; exact (hB.frm x hx).2
  have h2 := hB.lad
  have h3 := hB.nev
  have h4 := hB.kee
  omega
theorem Bk.flat_fine {b : Book} (hB : Bk b) : ∀ c ∈ flat b.all, Fine c ∧ (enc c).length ≤ 1000 := fun c hc => by
  obtain ⟨z, hz, hc⟩ := mem_flat.mp hc
  rcases hc with hc | hc
  · subst hc; exact (hB.fine z hz).1
  · subst hc; exact (hB.fine z hz).2
theorem price_book (b : Book) (ks : List Nat) : priceOf b.ladders ks = b.price ks := (sum_eq _).symm
/-- which concepts have a group -/
def Okc (b : Book) (c : C) : Prop := ∃ d ∈ flat b.all, c ∈ subs d
theorem okc_of {b : Book} {a : Axiom} (h : a ∈ b.all) : Okc b a.1 ∧ Okc b a.2 := ⟨⟨a.1, mem_flat.mpr ⟨a, h, .inl rfl⟩, sub_self _⟩, ⟨a.2, mem_flat.mpr ⟨a, h, .inr rfl⟩, sub_self _⟩⟩
def spHeldWith (D : Dt) : Sp := fun vs H Q _ => ∃ (d : Sd) (b : Book) (w x : Addr) (ks : List Nat), vs = [.ref d.st, .ref w, .ref x] ∧ StA D H d b ∧ Bk b ∧ PatAt D H x (Oc.atomsOf (flat b.all)) (Okc b) ∧ NumsT H w ks ∧
  ∀ H' l, Same H H' → H l = none → H' l = some (.lst ((heldOf b ks).map V.bl)) → Q (.ref l) H'
def spSatBy (D : Dt) : Sp := fun vs H Q _ => ∃ (d : Sd) (b : Book) (l : Addr) (hs : List Bool), vs = [.ref d.st, .ref l] ∧ StA D H d b ∧ H l = some (.lst (hs.map V.bl)) ∧ ∀ H', Same H H' → Q (.bl (satOf b.never.length hs)) H'
def spSatg (D : Dt) : Sp := fun vs H Q _ => ∃ (d : Sd) (b : Book), vs = [.ref d.st] ∧ StA D H d b ∧ Bk b ∧
  ∀ H' p as, Same H H' → H p = none → H' p = some (.lst (as.map V.ref)) → WaysAt H' as (b.ways.filter b.good) → Q (.ref p) H'
def spPriced (D : Dt) : Sp := fun vs H Q _ => ∃ (d : Sd) (b : Book) (w : Addr) (ks : List Nat), vs = [.ref d.st, .ref w] ∧ StA D H d b ∧ Bk b ∧ NumsT H w ks ∧ IsWay b.ladders ks ∧
  ∀ H' p, Same H H' → H p = none → H' p = some (.lst (iv (b.price ks :: ks))) → Q (.ref p) H'
def spLeast (D : Dt) : Sp := fun vs H Q _ => ∃ (d : Sd) (b : Book), vs = [.ref d.st] ∧ StA D H d b ∧ Bk b ∧
  ∀ H' p, Same H H' → H p = none → H' p = some (.lst (iv (b.least.length :: b.least.flatMap fun k => b.price k :: k))) → Q (.ref p) H'
def spCheck (D : Dt) : Sp := fun vs H Q E => ∃ (d : Sd) (b : Book) (l : Addr) (ks : List Nat), vs = [.ref d.st, .ref l] ∧ StA D H d b ∧ Bk b ∧ H l = some (.lst (iv ks)) ∧
  (isWay b.ladders ks = false → ∀ H', Same H H' → E (.ref D.e_WrongNumbers) none H') ∧
  (isWay b.ladders ks = true → ∀ H' p, Same H H' → H p = none → H' p = some (.lst (iv (Oc09.flag (b.good ks) :: b.price ks :: (b.never ++ b.keep).map fun a => Oc09.flag (b.under ks a)))) → Q (.ref p) H')
theorem isWay_iff {ls : List Ladder} {ks : List Nat} : isWay ls ks = true ↔ IsWay ls ks := by
  unfold isWay IsWay
  rw [Bool.and_eq_true, decide_eq_true_eq, List.all_eq_true]
  simp
theorem cut_takeB (hs : List Bool) (k : Nat) : cutV (hs.map V.bl) none (some ((k : Nat) : Int)) = (hs.take k).map V.bl := by rw [cut_take, List.map_take]
theorem cut_dropB (hs : List Bool) (k : Nat) : cutV (hs.map V.bl) (some ((k : Nat) : Int)) none = (hs.drop k).map V.bl := by rw [cut_drop, List.map_drop]
theorem ways_le {b : Book} (hB : Bk b) : b.ways.length ≤ 64 := by
  refine Nat.le_trans (ways_len _ (levels_le fun z hz => (hB.frm z hz).2)) ?_
  rw [List.length_map]
  exact Nat.le_trans (Nat.pow_le_pow_right (by decide) hB.lad) (by decide)
theorem good_le {b : Book} (hB : Bk b) : (b.ways.filter b.good).length ≤ 64 := Nat.le_trans (List.length_filter_le _ _) (ways_le hB)
theorem good_way {b : Book} {v : List Nat} (h : v ∈ b.ways.filter b.good) : IsWay b.ladders v := (ways_mem _ v).mp (List.mem_filter.mp h).1
section
variable {P : Program} {w : World} {K : PySem.W.Frag} {mg : Str → Option Value} {base : Heap} {D : Dt}
theorem ok_Store_held_with (T : Tx K mg D) : FnOk P w K mg base CX0 5 D.f_Store_held_with D.d_Store_held_with ["self", "way", "patterns"] (spHeldWith D) := by
  refine T.F_Store_held_with.ok sc_Store_held_with (fun vs H Q E h => ?_) (fun cdv A outer s H vs Q E hr h => ?_)
  · obtain ⟨d, b, w, x, ks, rfl, _⟩ := h
    rfl
  · obtain ⟨d, b, w, x, ks, rfl, hS, hB, hP, hw, k⟩ := h
    obtain ⟨⟨dx, ha⟩, hla, hax, ⟨us, hlu, hus⟩, ⟨ws, hlw, hws⟩, hnd⟩ := id hS
    obtain ⟨dxp, ds, dl, ls, hx, hrest⟩ := id hP
    refine ⟨_, (pss_one (ps_ret (pe_meth (pv 2) T.c_Patterns T.M_Patterns_subsumptions (ok_Patterns_subsumptions T) (hr.mono (by decide)) T.b_Patterns_subsumptions .nil pass0 (pa_cons (pe_op op_cat (pe_fld (pv 0) rfl) (pe_fld (pv 0) rfl)) (pa_cons (pe_call (ok_forms_at T) (hr.mono (by decide)) (by rfl) T.m_forms_at T.F_forms_at.kp T.b_forms_at .nil pass0 (pa_cons (pe_fld (pv 0) rfl) (pa_cons (pv 1) pa_nil))) pa_nil))))), ?_⟩
    refine ⟨_, rfl, x, dxp, _, rfl, hx, no_Patterns_4_subsumptions, ?_⟩
    refine ⟨_, rfl, d.st, D.a_Store, dx, _, _, rfl, ha, T.c_Store, T.n_Store_unwanted, lk_Store_3_unwanted, ?_⟩
    refine ⟨_, rfl, d.st, D.a_Store, dx, _, _, rfl, ha, T.c_Store, T.n_Store_wanted, lk_Store_3_wanted, ?_⟩
    have hwl := hB.wish
    have l1 := hus.length
    have l2 := hws.length
    rw [List.length_append] at hwl
    refine ⟨_, _, _, _, rfl, rfl, hlu, hlw, ?_, fun q nq => ?_⟩
    · rw [List.length_map, List.length_map]
      exact Nat.le_trans (show _ ≤ 4 by omega) (by decide)
    have s1 := Same.new (o := .lst (us.map V.ref ++ ws.map V.ref)) nq
    refine ⟨_, rfl, d.st, D.a_Store, dx, _, _, rfl, s1 _ _ ha, T.c_Store, T.n_Store_axioms, lk_Store_3_axioms, _, rfl, d.la, w, d.ax, b.ladders, ks, rfl, hS.axs.same s1, hB.lad, hw.same s1, fun H2 p rs s2 np hp hrs => ?_⟩
    have s12 := s1.trans s2
    refine ⟨x, q, p, _, Okc b, us ++ ws, rs, b.never ++ b.keep, thereOf b.ladders ks, rfl, hP.same s12, hB.ats, ?_, All2.append (hus.mono fun _ _ z => z.same s12) (hws.mono fun _ _ z => z.same s12), fun a h => okc_of (wish_mem h), ?_, hp, hrs,
      fun a h => okc_of (there_mem h), fun H3 l s3 nl hl => ?_⟩
    · rw [s2 _ _ upd_same, List.map_append]
    · rw [List.length_append]
      omega
    · refine k H3 l (s12.trans s3) (s12.free nl) ?_
      rw [hl]
      exact congrArg (fun z : List Bool => some (HO.lst (z.map V.bl))) (List.map_congr_left fun a _ => (under_at b ks a).symm)
theorem ok_Store_satisfied_by (T : Tx K mg D) : FnOk P w K mg base CX0 1 D.f_Store_satisfied_by D.d_Store_satisfied_by ["self", "held"] (spSatBy D) := by
  refine T.F_Store_satisfied_by.ok sc_Store_satisfied_by (fun vs H Q E h => ?_) (fun cdv A outer s H vs Q E hr h => ?_)
  · obtain ⟨d, b, l, hs, rfl, _⟩ := h
    rfl
  · obtain ⟨d, b, l, hs, rfl, hS, hl, k⟩ := h
    obtain ⟨⟨dx, ha⟩, hla, hax, ⟨us, hlu, hus⟩, _, hnd⟩ := id hS
    refine ⟨_, (pss_cons (ps_set (i := 2) sc_Store_satisfied_by.nd rfl (.inl rfl) (pe_len (by rfl) T.b_len (pe_fld (pv 0) rfl)))
      (pss_one (ps_ret (pe_and (pe_not (pe_callB (cr_any rfl) (by rfl) T.b_any (by decide +kernel) (pa_cons (pe_slice sl_list (pv 1) po_none (po_some (pv 2))) pa_nil))) (pe_one (pe_callB (cr_all rfl) (by rfl) T.b_all (by decide +kernel) (pa_cons (pe_slice sl_list (pv 1) (po_some (pv 2)) po_none) pa_nil))))))), ?_⟩
    refine ⟨_, rfl, d.st, D.a_Store, dx, _, _, rfl, ha, T.c_Store, T.n_Store_unwanted, lk_Store_3_unwanted, r_lenL (SqL.of hlu) ?_⟩
    have ec : (((us.map V.ref).length : Nat) : Int) = (b.never.length : Nat) := by rw [List.length_map, hus.length]
    rw [ec]
    refine ⟨_, rfl, _, rfl, _, rfl, l, _, rfl, SqL.of hl, fun p np => ?_⟩
    have s1 := Same.new (o := .lst (cutV (hs.map V.bl) none (some ((b.never.length : Nat) : Int)))) np
    refine ⟨p, _, rfl, SqL.of (by rw [upd_same, cut_takeB]), _, rfl, _, rfl, ?_⟩
    unfold satOf at k
    cases c : (hs.take b.never.length).any id with
    | true =>
      refine if_false_of rfl ?_
      have k2 := k _ s1
      rw [c] at k2
      exact k2
    | false =>
      refine if_true_of rfl ?_
      refine ⟨_, rfl, _, rfl, _, rfl, l, _, rfl, SqL.of (s1 _ _ hl), fun q nq => ?_⟩
      refine ⟨q, _, rfl, SqL.of (by rw [upd_same, cut_dropB]), ?_⟩
      have k2 := k _ (s1.trans (Same.new (o := .lst (cutV (hs.map V.bl) (some ((b.never.length : Nat) : Int)) none)) nq))
      rw [c, Bool.not_false, Bool.true_and] at k2
      exact k2
end
end Wk
end
section
set_option Elab.async false
set_option maxRecDepth 100000
set_option maxHeartbeats 4000000
namespace Wk
open PySem PySem.Spec PyProof.Rows L2
open Oc (C Axiom)
open Oc09 (Ladder Book)
theorem int_flag (c : Bool) : (if c = true then (1 : Int) else 0) = ((Oc09.flag c : Nat) : Int) := by cases c <;> rfl
section
variable {P : Program} {w : World} {K : PySem.W.Frag} {mg : Str → Option Value} {base : Heap} {D : Dt}
theorem ok_Store_satisfying (T : Tx K mg D) : FnOk P w K mg base CX0 7 D.f_Store_satisfying D.d_Store_satisfying ["self"] (spSatg D) := by
  refine T.F_Store_satisfying.ok sc_Store_satisfying (fun vs H Q E h => ?_) (fun cdv A outer s H vs Q E hr h => ?_)
  · obtain ⟨d, b, rfl, _⟩ := h
    rfl
  · obtain ⟨d, b, rfl, hS, hB, k⟩ := h
    obtain ⟨dx, ha⟩ := hS.ob
    refine ⟨_, (pss_cons (ps_set (i := 1) sc_Store_satisfying.nd rfl (.inr rfl) (pe_make T.M_Patterns (ok_Patterns_init T) (hr.mono (by decide)) (by rfl) T.m_Patterns T.b_Patterns_init .nil pass0 (pa_cons (pe_meth0 (pv 0) T.c_Store T.M_Store_all_concepts (ok_Store_all_concepts T) (hr.mono (by decide)) T.b_Store_all_concepts .nil pass0 ) pa_nil)))
      (pss_one (ps_ret (pe_lc (own := [("way", 2)]) (g := gName 2) (by rfl) sc_Store_satisfying.nd (pi_list (pe_call (ok_all_ways T) (hr.mono (by decide)) (by rfl) T.m_all_ways T.F_all_ways.kp T.b_all_ways .nil pass0 (pa_cons (pe_fld (pv 0) rfl) pa_nil))) (blkOk_by (own := [("way", 2)]) (N := N_Store_satisfying) (sc := defScope s_Store_satisfying) (by decide +kernel)) (fun _ _ _ _ _ => by exact pg_name (i := 2) sc_Store_satisfying.nd rfl (Or.inl rfl)) (fun _ _ _ _ _ => by exact pts_one (pt_val (pe_meth (pv 0) T.c_Store T.M_Store_satisfied_by (ok_Store_satisfied_by T) (hr.mono (by decide)) T.b_Store_satisfied_by .nil pass0 (pa_cons (pe_meth (pv 0) T.c_Store T.M_Store_held_with (ok_Store_held_with T) (hr.mono (by decide)) T.b_Store_held_with .nil pass0 (pa_cons (pv 2) (pa_cons (pv 1) pa_nil))) pa_nil)))) (fun _ _ _ _ _ => by exact pv 2))))), ?_⟩
    refine ⟨_, rfl, d.st, dx, _, rfl, ha, no_Store_3_all_concepts, d, b, rfl, hS, hB, fun H1 p s1 np hp => ?_⟩
    intro x xd nx nxd nex
    have sx : Same H1 (upd (upd H1 xd (.own x)) x (.ins D.a_Patterns xd [])) := fun b o e => by
      rw [upd_ne (ne_of_none e nx), upd_ne (ne_of_none e nxd)]
      exact e
    refine ⟨x, p, xd, flat b.all, rfl, upd_same, hp.same sx, hB.flat_fine, by have := hB.flat_le; omega, hB.ats, fun H2 hP keep => ⟨rfl, ?_⟩⟩
    have s2 : Same H H2 := fun c o e => keep c o (sx _ _ (s1 _ _ e)) (ne_of_none (s1 _ _ e) nx)
    have hS2 := hS.same s2
    refine ⟨_, rfl, d.st, D.a_Store, dx, _, _, rfl, s2 _ _ ha, T.c_Store, T.n_Store_axioms, lk_Store_3_axioms, ?_⟩
    refine ⟨d.la, d.ax, b.ladders, rfl, hS2.axs, hB.lad, (fun z hz => (hB.frm z hz).2), fun H3 q as s3 nq hq hw => ?_⟩
    have s23 := s2.trans s3
    have hw : WaysAt H3 as b.ways := hw
    have lw := hw.length
    have l64 := ways_le hB
    refine ⟨q, rfl, ⟨_, SqL.of hq⟩, fun L nL => lc_list (K := K) (a := q) (xs := as.map V.ref) (fun i H' => Same H3 H' ∧ ∃ gs : List Addr, H' L = some (.lst (gs.map V.ref)) ∧ WaysAt H' gs ((b.ways.take i).filter b.good))
      ⟨Same.new nL, [], upd_same, .nil⟩ (fun i H' _ z => SqL.of (z.1 _ _ hq)) ?_ ?_⟩
    · rintro i y H4 hi ⟨s4, gs, hL, hgs⟩
      obtain ⟨wa, hwa, rfl⟩ := get_ref hi
      obtain ⟨v, hv, hvt⟩ := All2.get hw hwa
      have s24 := s23.trans s4
      have e1 : (b.ways.take (i + 1)).filter b.good = (b.ways.take i).filter b.good ++ (if b.good v = true then [v] else []) := by
        rw [take_more hv, List.filter_append]
        congr 1
        cases c : b.good v <;> simp [c]
      refine ⟨rfl, _, rfl, d.st, dx, _, rfl, s24 _ _ ha, no_Store_3_satisfied_by, ?_⟩
      refine ⟨_, rfl, d.st, dx, _, rfl, s24 _ _ ha, no_Store_3_held_with, _, rfl, _, rfl, ?_⟩
      refine ⟨d, b, wa, x, v, rfl, hS.same s24, hB, (hP.same s3).same s4, .inr (s4 _ _ hvt), fun H5 l s5 nl hl => ?_⟩
      refine ⟨d, b, l, heldOf b v, rfl, (hS.same s24).same s5, hl, fun H6 s6 => ?_⟩
      rw [good_held]
      have s46 := s5.trans s6
      refine ⟨_, rfl, ?_⟩
      have hL6 := s46 _ _ hL
      cases c : b.good v with
      | false =>
        refine if_false_of rfl ⟨s4.trans s46, gs, hL6, ?_⟩
        rw [e1, c]
        simpa using hgs.same s46
      | true =>
        refine if_true_of rfl ⟨_, rfl, _, hL6, ?_, Same.mut (s4.trans s46) nL, gs ++ [wa], ?_, ?_⟩
        · have l1 := hgs.length
          have l2 := List.length_filter_le b.good (b.ways.take i)
          rw [List.length_take] at l2
          rw [List.length_map]
          exact Nat.lt_of_le_of_lt (show gs.length ≤ 64 by omega) (by decide)
        · rw [upd_same, List.map_append]
          rfl
        · rw [e1, c]
          refine All2.snoc ((hgs.same s46).keep (upd_lst hL6)) ?_
          exact upd_lst hL6 _ _ (s46 _ _ (s4 _ _ hvt)) (fun _ z => by cases z)
    · rintro H4 ⟨s4, gs, hL, hgs⟩
      rw [List.length_map, lw, List.take_length] at hgs
      exact k H4 L gs (s23.trans s4) (s23.free nL) hL hgs
theorem ok_Store_priced (T : Tx K mg D) : FnOk P w K mg base CX0 3 D.f_Store_priced D.d_Store_priced ["self", "way"] (spPriced D) := by
  refine T.F_Store_priced.ok sc_Store_priced (fun vs H Q E h => ?_) (fun cdv A outer s H vs Q E hr h => ?_)
  · obtain ⟨d, b, w, ks, rfl, _⟩ := h
    rfl
  · obtain ⟨d, b, w, ks, rfl, hS, hB, hw, hway, k⟩ := h
    obtain ⟨dx, ha⟩ := hS.ob
    have hkl : ks.length ≤ 3 := by rw [hway.1]; exact hB.lad
    refine ⟨_, (pss_one (ps_ret (pe_op op_cat (pe_lst (pa_cons (pe_call (ok_price_of T) (hr.mono (by decide)) (by rfl) T.m_price_of T.F_price_of.kp T.b_price_of .nil pass0 (pa_cons (pe_fld (pv 0) rfl) (pa_cons (pv 1) pa_nil))) pa_nil)) (pe_callTy call_list_of (by rfl) T.b_list (by decide +kernel) (pa_cons (pv 1) pa_nil))))), ?_⟩
    refine ⟨_, rfl, d.st, D.a_Store, dx, _, _, rfl, ha, T.c_Store, T.n_Store_axioms, lk_Store_3_axioms, _, rfl, ?_⟩
    refine ⟨d.la, w, d.ax, b.ladders, ks, rfl, hS.axs, hB.lad, hB.zer, hw, hway, fun H1 s1 => ?_⟩
    rw [price_book]
    refine ⟨by show 1 ≤ sizeLine; decide, fun p np => ?_⟩
    have s2 := Same.new (o := .lst [.int (b.price ks : Nat)]) np
    have s12 := s1.trans s2
    have fin : ∀ l, (upd H1 p (.lst [.int (b.price ks : Nat)])) l = none → ∃ a b', ∃ xs ys : List V, V.ref p = .ref a ∧ V.ref l = .ref b' ∧ (upd (upd H1 p (.lst [.int (b.price ks : Nat)])) l (.lst (iv ks))) a = some (.lst xs) ∧ (upd (upd H1 p (.lst [.int (b.price ks : Nat)])) l (.lst (iv ks))) b' = some (.lst ys) ∧ xs.length + ys.length ≤ sizeLine ∧
        ∀ q, (upd (upd H1 p (.lst [.int (b.price ks : Nat)])) l (.lst (iv ks))) q = none → Q (.ref q) (upd (upd (upd H1 p (.lst [.int (b.price ks : Nat)])) l (.lst (iv ks))) q (.lst (xs ++ ys))) := fun l nl => by
      have s3 := Same.new (o := .lst (iv ks)) nl
      refine ⟨p, l, _, _, rfl, rfl, s3 _ _ upd_same, upd_same, ?_, fun q nq => ?_⟩
      · rw [iv_len]
        exact Nat.le_trans (show 1 + ks.length ≤ 4 by omega) (by decide)
      · have s4 := Same.new (o := .lst ([.int (b.price ks : Nat)] ++ iv ks)) nq
        refine k _ q ((s12.trans s3).trans s4) ((s12.trans s3).free nq) ?_
        rw [upd_same]
        rfl
    refine ⟨_, rfl, w, iv ks, rfl, ?_⟩
    rcases hw with hw | hw
    · exact ⟨.inl (SqL.of (s12 _ _ hw)), fin⟩
    · exact ⟨.inr (SqT.of (s12 _ _ hw)), fin⟩
theorem ok_Store_least (T : Tx K mg D) : FnOk P w K mg base CX0 8 D.f_Store_least D.d_Store_least ["self"] (spLeast D) := by
  refine T.F_Store_least.ok sc_Store_least (fun vs H Q E h => ?_) (fun cdv A outer s H vs Q E hr h => ?_)
  · obtain ⟨d, b, rfl, _⟩ := h
    rfl
  · obtain ⟨d, b, rfl, hS, hB, k⟩ := h
    obtain ⟨dx, ha⟩ := hS.ob
    refine ⟨_, (pss_cons (ps_set (i := 1) sc_Store_least.nd rfl (.inl rfl) (pe_call (ok_minimal_among T) (hr.mono (by decide)) (by rfl) T.m_minimal_among T.F_minimal_among.kp T.b_minimal_among .nil pass0 (pa_cons (pe_meth0 (pv 0) T.c_Store T.M_Store_satisfying (ok_Store_satisfying T) (hr.mono (by decide)) T.b_Store_satisfying .nil pass0 ) pa_nil)))
      (pss_cons (ps_set (i := 2) sc_Store_least.nd rfl (.inl rfl) (pe_lst (pa_cons (pe_len (by rfl) T.b_len (pv 1)) pa_nil)))
      (pss_cons (ps_for PassesOwn.never rfl (pi_list (pv 1)) (pg_name (i := 3) sc_Store_least.nd rfl (Or.inl rfl))
      (pss_one (ps_expr (pe_bm PySem.F.plainAttrs_list PySem.F.slot_list_extend PySem.F.type_list_extend mt_extend (pv 2) (pa_cons (pe_meth (pv 0) T.c_Store T.M_Store_priced (ok_Store_priced T) (hr.mono (by decide)) T.b_Store_priced .nil pass0 (pa_cons (pv 3) pa_nil)) pa_nil)))))
      (pss_one (ps_ret (pv 2)))))), ?_⟩
    have hin : ∀ v ∈ b.least, v ∈ b.ways.filter b.good := fun v hv => (List.mem_filter.mp hv).1
    have hll : b.least.length ≤ 64 := Nat.le_trans (List.length_filter_le _ _) (good_le hB)
    refine ⟨_, rfl, d.st, dx, _, rfl, ha, no_Store_3_satisfying, d, b, rfl, hS, hB, fun H1 p as s1 np hp hw => ?_⟩
    refine ⟨p, as, b.ways.filter b.good, rfl, hp, hw, by have := good_le hB; omega, fun v hv => ?_, fun H2 q ms s2 nq hq hm => ?_⟩
    · have h1 := (good_way hv).1
      have h2 := hB.lad
      omega
    · have hm : WaysAt H2 ms b.least := hm
      have lm := hm.length
      have s12 := s1.trans s2
      refine ⟨_, rfl, r_lenL (SqL.of hq) ⟨by show 1 ≤ sizeLine; decide, fun n nn => ?_⟩⟩
      rw [List.length_map, lm]
      have s3 := Same.new (o := .lst [.int (b.least.length : Nat)]) nn
      refine ⟨_, rfl, q, rfl, ⟨_, SqL.of (s3 _ _ hq)⟩, for_list (K := K) (a := q) (xs := ms.map V.ref)
        (fun i σ H' => ∃ v3, σ = [some (.ref d.st), some (.ref q), some (.ref n), v3] ∧ Same H2 H' ∧ H' n = some (.lst (iv (b.least.length :: (b.least.take i).flatMap fun k => b.price k :: k))))
        ⟨none, rfl, s3, upd_same⟩ (fun i σ H' _ ⟨_, _, z, _⟩ => SqL.of (z _ _ hq)) ?_ ?_⟩
      · rintro i y σ H3 hi ⟨v3, rfl, s3, hn⟩
        obtain ⟨wa, hwa, rfl⟩ := get_ref hi
        obtain ⟨v, hv, hvt⟩ := All2.get hm hwa
        have s13 := s12.trans s3
        have hvm := hin v (List.mem_of_getElem? hv)
        have hlv : v.length ≤ 3 := by rw [(good_way hvm).1]; exact hB.lad
        refine ⟨_, rfl, .inl ⟨rfl, _, SqL.of hn⟩, _, rfl, d.st, dx, _, rfl, s13 _ _ ha, no_Store_3_priced, _, rfl, ?_⟩
        refine ⟨d, b, wa, v, rfl, hS.same s13, hB, .inr (s3 _ _ hvt), good_way hvm, fun H4 l s4 nl hl => ?_⟩
        have hn4 := s4 _ _ hn
        refine ⟨n, l, _, _, rfl, rfl, hn4, hl, ?_, some (.ref wa), rfl, Same.mut (s3.trans s4) nn, ?_⟩
        · have hfl : ((b.least.take i).flatMap fun k => b.price k :: k).length ≤ 64 * 4 := by
            refine Nat.le_trans (flat_len (k := 4) fun z hz => ?_) (Nat.mul_le_mul_right _ ?_)
            · have h1 := (good_way (hin z (List.mem_of_mem_take hz))).1
              have h2 := hB.lad
              rw [List.length_cons]
              omega
            · rw [List.length_take]
              omega
          rw [iv_len, iv_len, List.length_cons, List.length_cons]
          exact Nat.le_trans (show _ ≤ 300 by omega) (by decide)
        · rw [upd_same, take_more hv, List.flatMap_append]
          simp [iv]
      · rintro σ H3 ⟨v3, rfl, s3, hn⟩
        rw [List.length_map, lm, List.take_length] at hn
        exact ⟨_, rfl, k H3 n (s12.trans s3) (s12.free nn) hn⟩
theorem ok_Store_check (T : Tx K mg D) : FnOk P w K mg base (L2.CX P w) 7 D.f_Store_check D.d_Store_check ["self", "levels"] (spCheck D) := by
  refine T.F_Store_check.okX sc_Store_check (fun vs H Q E h => ?_) (fun cdv A outer s H vs Q E hr h => ?_)
  · obtain ⟨d, b, l, ks, rfl, _⟩ := h
    rfl
  · obtain ⟨d, b, l, ks, rfl, hS, hB, hl, k1, k2⟩ := h
    obtain ⟨dx, ha⟩ := hS.ob
    refine ⟨_, (pss_cons (ps_if (pt_not (pt_val (pe_call (ok_is_way T) (hr.mono (by decide)) (by rfl) T.m_is_way T.F_is_way.kp T.b_is_way .nil pass0 (pa_cons (pe_fld (pv 0) rfl) (pa_cons (pv 1) pa_nil)))))
      (pss_one (ps_raise rfl (takes_of rfl rfl rfl rfl) (pmk_own PySem.F.excBase_Exception T.x_WrongNumbers T.m_WrongNumbers T.k_WrongNumbers (raises_own T.s_WrongNumbers T.y_WrongNumbers) (by exact rfl))))
      (pss_nil))
      (pss_cons (ps_set (i := 2) sc_Store_check.nd rfl (.inl rfl) (pe_meth (pv 0) T.c_Store T.M_Store_held_with (ok_Store_held_with T) (hr.mono (by decide)) T.b_Store_held_with .nil pass0 (pa_cons (pv 1) (pa_cons (pe_make T.M_Patterns (ok_Patterns_init T) (hr.mono (by decide)) (by rfl) T.m_Patterns T.b_Patterns_init .nil pass0 (pa_cons (pe_meth0 (pv 0) T.c_Store T.M_Store_all_concepts (ok_Store_all_concepts T) (hr.mono (by decide)) T.b_Store_all_concepts .nil pass0 ) pa_nil)) pa_nil))))
      (pss_one (ps_ret (pe_op op_cat (pe_lst (pa_cons (pe_callTy call_int1 (by rfl) T.b_int (by decide +kernel) (pa_cons (pe_meth (pv 0) T.c_Store T.M_Store_satisfied_by (ok_Store_satisfied_by T) (hr.mono (by decide)) T.b_Store_satisfied_by .nil pass0 (pa_cons (pv 2) pa_nil)) pa_nil)) (pa_cons (pe_call (ok_price_of T) (hr.mono (by decide)) (by rfl) T.m_price_of T.F_price_of.kp T.b_price_of .nil pass0 (pa_cons (pe_fld (pv 0) rfl) (pa_cons (pv 1) pa_nil))) pa_nil))) (pe_lc (own := [("holds", 3)]) (g := gName 3) (by rfl) sc_Store_check.nd (pi_list (pv 2)) (blkOk_by (own := [("holds", 3)]) (N := N_Store_check) (sc := defScope s_Store_check) (by decide +kernel)) (fun _ _ _ _ _ => by exact pg_name (i := 3) sc_Store_check.nd rfl (Or.inl rfl)) (fun _ _ _ _ _ => by exact pts_nil) (fun _ _ _ _ _ => by exact pe_callTy call_int1 (by rfl) T.b_int (by decide +kernel) (pa_cons (pv 3) pa_nil)))))))), ?_⟩
    refine ⟨_, rfl, d.st, D.a_Store, dx, _, _, rfl, ha, T.c_Store, T.n_Store_axioms, lk_Store_3_axioms, _, rfl, ?_⟩
    refine ⟨d.la, l, d.ax, b.ladders, ks, rfl, hS.axs, hB.lad, .inl hl, fun H1 s1 => ?_⟩
    refine ⟨_, rfl, ?_⟩
    cases c : isWay b.ladders ks with
    | false => exact if_true_of rfl (k1 c H1 s1)
    | true =>
      have hway := isWay_iff.mp c
      refine if_false_of rfl ?_
      have hS1 := hS.same s1
      refine ⟨_, rfl, d.st, dx, _, rfl, s1 _ _ ha, no_Store_3_held_with, _, rfl, ?_⟩
      refine ⟨_, rfl, d.st, dx, _, rfl, s1 _ _ ha, no_Store_3_all_concepts, d, b, rfl, hS1, hB, fun H2 p s2 np hp => ?_⟩
      intro x xd nx nxd nex
      have sx : Same H2 (upd (upd H2 xd (.own x)) x (.ins D.a_Patterns xd [])) := fun b o e => by
        rw [upd_ne (ne_of_none e nx), upd_ne (ne_of_none e nxd)]
        exact e
      refine ⟨x, p, xd, flat b.all, rfl, upd_same, hp.same sx, hB.flat_fine, by have := hB.flat_le; omega, hB.ats, fun H3 hP keep => ⟨rfl, ?_⟩⟩
      have s3 : Same H H3 := fun c o e => keep c o (sx _ _ (s2 _ _ (s1 _ _ e))) (ne_of_none (s2 _ _ (s1 _ _ e)) nx)
      refine ⟨d, b, l, x, ks, rfl, hS.same s3, hB, hP, .inl (s3 _ _ hl), fun H4 h s4 nh hh => ?_⟩
      have s14 := s3.trans s4
      -- [int(satisfied), price] + [int(holds) ..]
      refine ⟨_, rfl, d.st, dx, _, rfl, s14 _ _ ha, no_Store_3_satisfied_by, _, rfl, ?_⟩
      refine ⟨d, b, h, heldOf b ks, rfl, hS.same s14, hh, fun H5 s5 => ?_⟩
      rw [good_held]
      have s15 := s14.trans s5
      refine .inr ⟨_, rfl, ?_⟩
      refine ⟨_, rfl, d.st, D.a_Store, dx, _, _, rfl, s15 _ _ ha, T.c_Store, T.n_Store_axioms, lk_Store_3_axioms, _, rfl, ?_⟩
      refine ⟨d.la, l, d.ax, b.ladders, ks, rfl, (hS.same s15).axs, hB.lad, hB.zer, .inl (s15 _ _ hl), hway, fun H6 s6 => ?_⟩
      rw [price_book]
      refine ⟨by show 2 ≤ sizeLine; decide, fun r nr => ?_⟩
      have s16 := s15.trans s6
      have s7 := Same.new (o := .lst [.int (if b.good ks = true then 1 else 0), .int (b.price ks : Nat)]) nr
      have hh7 := s7 _ _ (s6 _ _ (s5 _ _ hh))
      refine ⟨_, rfl, h, rfl, ⟨_, SqL.of hh7⟩, fun L nL => lc_list (K := K) (a := h) (xs := (heldOf b ks).map V.bl) (fun i H' => Same (upd H6 r (.lst [.int (if b.good ks = true then 1 else 0), .int (b.price ks : Nat)])) H' ∧ H' L = some (.lst (iv ((((b.never ++ b.keep).take i).map fun a => Oc09.flag (b.under ks a))))))
        ⟨Same.new nL, upd_same⟩ (fun i H' _ z => SqL.of (z.1 _ _ hh7)) ?_ ?_⟩
      · rintro i y H7 hi ⟨s8, hL⟩
        rw [List.getElem?_map] at hi
        obtain ⟨a, hai, rfl⟩ : ∃ a, (b.never ++ b.keep)[i]? = some a ∧ y = .bl (b.under ks a) := by
          unfold heldOf at hi
          rw [List.getElem?_map] at hi
          cases e : (b.never ++ b.keep)[i]? with
          | none => rw [e] at hi; cases hi
          | some a => rw [e] at hi; exact ⟨a, rfl, (Option.some.inj hi).symm⟩
        refine ⟨rfl, _, rfl, .inr ⟨_, rfl, ?_⟩⟩
        refine ⟨_, hL, ?_, Same.mut s8 nL, ?_⟩
        · have := hB.wish
          rw [iv_len, List.length_map, List.length_take]
          exact Nat.lt_of_le_of_lt (show _ ≤ 4 by omega) (by decide)
        · rw [upd_same, take_more hai, List.map_append, int_flag]
          simp [iv]
      · rintro H7 ⟨s8, hL⟩
        have s18 := (s16.trans s7).trans s8
        have el : ((b.never ++ b.keep).take ((heldOf b ks).map V.bl).length) = b.never ++ b.keep := by
          unfold heldOf
          rw [List.length_map, List.length_map, List.take_length]
        rw [el] at hL
        refine ⟨r, L, _, _, rfl, rfl, s8 _ _ upd_same, hL, ?_, fun q nq => ?_⟩
        · have := hB.wish
          rw [iv_len, List.length_map]
          exact Nat.le_trans (show 2 + _ ≤ 6 by omega) (by decide)
        · refine k2 c _ q (s18.trans (Same.new nq)) (s18.free nq) ?_
          rw [upd_same, int_flag]
          rfl
end
end Wk
end
section
set_option Elab.async false
set_option maxRecDepth 100000
set_option maxHeartbeats 4000000
namespace Wk
open PySem PySem.Spec PyProof.Rows L2 LamX NdefX
open Oc (C Axiom)
open Oc09 (Ladder Book)
/-- the lambda's name -/
def qLam : Str := ("Store.repair" : Str) ++ ".<locals>." ++ "<lambda>"
/-- all but the lambda's table stands -/
structure Grow (D : Dt) (H H' : Hp) : Prop where
  ext : ExtN H H'
  back : ∀ c, H' c = none → H c = none
  tab : TabS H' D.tp qLam
theorem Grow.of {D : Dt} {H H' : Hp} (t : TabS H D.tp qLam) (s : Same H H') : Grow D H H' := ⟨ExtN.of s, fun _ z => s.free z, t.ext s⟩
theorem Grow.trans {D : Dt} {H H1 H2 : Hp} (a : Grow D H H1) (b : Grow D H1 H2) : Grow D H H2 := ⟨a.ext.trans b.ext, fun c z => a.back c (b.back c z), b.tab⟩
theorem Grow.same {D : Dt} {H H1 H2 : Hp} (a : Grow D H H1) (s : Same H1 H2) : Grow D H H2 := a.trans (.of a.tab s)
theorem Grow.at {D : Dt} {H H' : Hp} (g : Grow D H H') {b : Addr} {o : HO} (h : H b = some o) (n : ∀ ps, o ≠ .tbl ps) : H' b = some o := g.ext b o h n
theorem PairAt.ext {H H' : Hp} {r : Addr} {a : Axiom} (h : PairAt H r a) (e : ExtN H H') : PairAt H' r a := by
  obtain ⟨p, q, h1, h2, h3⟩ := h
  exact ⟨p, q, e _ _ h1 (fun _ z => by cases z), e _ _ h2 (fun _ z => by cases z), e _ _ h3 (fun _ z => by cases z)⟩
theorem AxAt.ext {D : Dt} {H H' : Hp} {t : Ax} {x : Ladder} (h : AxAt D H t x) (e : ExtN H H') : AxAt D H' t x := by
  obtain ⟨dx, rs, h1, h2, h3, h4⟩ := h
  exact ⟨dx, rs, e _ _ h1 (fun _ z => by cases z), e _ _ h2 (fun _ z => by cases z), h3.mono (fun _ _ z => z.ext e), e _ _ h4 (fun _ z => by cases z)⟩
theorem StA.ext {D : Dt} {H H' : Hp} {d : Sd} {b : Book} (h : StA D H d b) (e : ExtN H H') : StA D H' d b := by
  obtain ⟨⟨dx, h1⟩, h2, h3, ⟨us, h4, h5⟩, ⟨ws, h6, h7⟩, h8⟩ := h
  exact ⟨⟨dx, e _ _ h1 (fun _ z => by cases z)⟩, e _ _ h2 (fun _ z => by cases z), h3.mono (fun _ _ z => z.ext e), ⟨us, e _ _ h4 (fun _ z => by cases z), h5.mono fun _ _ z => z.ext e⟩, ⟨ws, e _ _ h6 (fun _ z => by cases z), h7.mono fun _ _ z => z.ext e⟩, h8⟩
def spRepair (D : Dt) : Sp := fun vs H Q E => ∃ (d : Sd) (b : Book), vs = [.ref d.st] ∧ StA D H d b ∧ Bk b ∧ TabS H D.tp qLam ∧ (b.mend = none → ∀ H', Same H H' → E (.ref D.e_NoRepair) none H') ∧
  (∀ w, b.mend = some w → ∀ H' a, Grow D H H' → TupN H' a w → Q (.ref a) H')
def spMend (D : Dt) : Sp := fun vs H Q E => ∃ (d : Sd) (b : Book), vs = [.ref d.st] ∧ StA D H d b ∧ Bk b ∧ TabS H D.tp qLam ∧ (b.mend = none → ∀ H', Same H H' → E (.ref D.e_NoRepair) none H') ∧
  (∀ w, b.mend = some w → ∀ H' p, Grow D H H' → H p = none → H' p = some (.lst (iv (b.price w :: w))) → Q (.ref p) H')
theorem fun_okXc {P : Program} {w : World} {K : PySem.W.Frag} {mg : Str → Option Value} {base : Heap} {x qual : Str} {st : Stmt} {f : Addr} {fd : FuncData} {N ps : List Str} {k : Nat} {sp : Sp} (F : Fun K x qual st f fd) (S : FnScope N ps (defScope st)) (len : ∀ vs H Q E, sp vs H Q E → vs.length = ps.length)
    (hbody : ∀ (A : Around) (outer : List Env) (s : Shared) (H : Hp) (vs : List V) (Q : VK) (E : XK), Room k (A.deeper (envOfC qual (defScope st) s.heap.objs.size f fd.code)) → sp vs H Q E →
      ∃ t, PSs (cxOf (L2.CX P w) P w K mg base N qual (defScope st) f fd.code A outer s H E) (defBody st) t ∧ t { nx := fun _ H' => Q .non H', rt := Q } (start N vs) H) : FnOk P w K mg base (L2.CX P w) (k + 1) f fd ps sp := by
  obtain ⟨oc, od, kV, doc, pm, an, cdv, ct, osl, rfl, lk, hcd⟩ := F.ex
  exact fn_of lk hcd S len fun A outer s H vs Q E hr hsp => hbody A outer s H vs Q E hr hsp
section
variable {P : Program} {w : World} {K : PySem.W.Frag} {mg : Str → Option Value} {base : Heap} {D : Dt}
theorem ok_Store_repair (T : Tx K mg D) (TB : TabB base mg D.cr D.tp) : FnOk P w K mg base (L2.CX P w) 8 D.f_Store_repair D.d_Store_repair ["self"] (spRepair D) := by
  refine fun_okXc T.F_Store_repair sc_Store_repair (fun vs H Q E h => ?_) (fun A outer s H vs Q E hr h => ?_)
  · obtain ⟨d, b, rfl, _⟩ := h
    rfl
  · obtain ⟨d, b, rfl, hS, hB, hT, k1, k2⟩ := h
    obtain ⟨dx, ha⟩ := hS.ob
    refine ⟨_, (pss_cons (ps_set (i := 1) sc_Store_repair.nd rfl (.inl rfl) (pe_meth0 (pv 0) T.c_Store T.M_Store_satisfying (ok_Store_satisfying T) (hr.mono (by decide)) T.b_Store_satisfying .nil pass0 ))
      (pss_cons (ps_if (pt_not (pt_truth (pv 1) (by intro _; rfl)))
      (pss_one (ps_raise rfl (takes_of rfl rfl rfl rfl) (pmk_own PySem.F.excBase_Exception T.x_NoRepair T.m_NoRepair T.k_NoRepair (raises_own T.s_NoRepair T.y_NoRepair) (by exact rfl))))
      (pss_nil))
      (pss_one (ps_ret (pe_minlam (c := D.cr) (P := D.tp) (q := qLam) (k := 2) (Nl := ["way", "self"]) (fr := ["self"]) (y := "way") (js := [0]) rfl (by rfl) T.b_min rfl TB T.h_cr (hr.mono (by decide)) (pv 1) rfl (nscope_by (by decide +kernel)) (ndef_free (sc := defScope s_Store_repair) (fr := ["self"]) (by decide +kernel)) (ndef_fr (sc := defScope s_Store_repair) (by decide +kernel)) rfl (fun _ _ _ _ _ => rfl) (fun f c' cl A outer s H hr2 => by exact pe_call (ok_price_of T) (hr2.mono (by decide)) (by rfl) T.m_price_of T.F_price_of.kp T.b_price_of .nil pass0 (pa_cons (pe_fldK (K := K) rfl (pv 1) (by rfl)) (pa_cons (pv 0) pa_nil)))))))), ?_⟩
    refine ⟨_, rfl, d.st, dx, _, rfl, ha, no_Store_3_satisfying, d, b, rfl, hS, hB, fun H1 p as s1 np hp hw => ?_⟩
    have lw := hw.length
    refine ⟨_, rfl, _, .inl ⟨_, SqL.of hp, rfl⟩, ?_⟩
    cases eg : b.ways.filter b.good with
    | nil =>
      rw [eg] at lw
      have ea : as = [] := List.length_eq_zero_iff.mp lw
      subst ea
      exact if_true_of rfl (k1 (mend_nil eg) H1 s1)
    | cons g0 gl =>
      have epos : 0 < as.length := by rw [lw, eg]; simp
      have ene : (as.map V.ref).isEmpty = false := by
        cases as with
        | nil => simp at epos
        | cons a l => rfl
      refine if_false_of (by rw [ene]; rfl) ?_
      refine ⟨_, rfl, p, as, rfl, SqL.of hp, epos, hT.ext s1, fun H2 e2 n2 T2 => ?_⟩
      have hS2 := (hS.same s1).ext e2
      have ha2 : H2 d.st = some (.ins D.a_Store dx (fl_Store_3 (.ref d.la) (.ref d.lu) (.ref d.lw))) := e2 _ _ (s1 _ _ ha) (fun _ z => by cases z)
      have hw2 : WaysAt H2 as (b.ways.filter b.good) := All2.mono (fun a v z => e2 _ _ z (fun _ z => by cases z)) hw
      refine ⟨fun i => ((b.price ((b.ways.filter b.good).getD i []) : Nat) : Int), fun i a H3 hi s3 => ?_, fun i a H3 hi hle s3 => ?_⟩
      · obtain ⟨v, hv, hvt⟩ := All2.get hw2 hi
        have ev : (b.ways.filter b.good).getD i [] = v := by rw [List.getD_eq_getElem?_getD, hv]; rfl
        refine ⟨_, rfl, d.st, D.a_Store, dx, _, _, rfl, s3 _ _ ha2, T.c_Store, T.n_Store_axioms, lk_Store_3_axioms, _, rfl, ?_⟩
        refine ⟨d.la, a, d.ax, b.ladders, v, rfl, (hS2.same s3).axs, hB.lad, hB.zer, .inr (s3 _ _ hvt), good_way (List.mem_of_getElem? hv), fun H4 s4 => ⟨?_, s4⟩⟩
        rw [price_book]
        show _ = V.int ((b.price ((b.ways.filter b.good).getD i []) : Nat) : Int)
        rw [ev]
      · obtain ⟨v, hv, hvt⟩ := All2.get hw2 hi
        refine k2 v (mend_at hv fun j u hj => ?_) H3 a ⟨(ExtN.of s1).trans (e2.trans (ExtN.of s3)), fun c z => s1.free (n2 c (s3.free z)), T2.ext s3⟩ (s3 _ _ hvt)
        have ev : (b.ways.filter b.good).getD i [] = v := by rw [List.getD_eq_getElem?_getD, hv]; rfl
        have eu : (b.ways.filter b.good).getD j [] = u := by rw [List.getD_eq_getElem?_getD, hj]; rfl
        have lj : j < as.length := by rw [lw]; exact (List.getElem?_eq_some_iff.mp hj).1
        have h9 : ((b.price ((b.ways.filter b.good).getD i []) : Nat) : Int) ≤ ((b.price ((b.ways.filter b.good).getD j []) : Nat) : Int) ∧ (j < i → ((b.price ((b.ways.filter b.good).getD i []) : Nat) : Int) < ((b.price ((b.ways.filter b.good).getD j []) : Nat) : Int)) := hle.2 j lj
        rw [ev, eu] at h9
        omega
theorem ok_Store_mend (T : Tx K mg D) (TB : TabB base mg D.cr D.tp) : FnOk P w K mg base (L2.CX P w) 9 D.f_Store_mend D.d_Store_mend ["self"] (spMend D) := by
  refine T.F_Store_mend.okX sc_Store_mend (fun vs H Q E h => ?_) (fun cdv A outer s H vs Q E hr h => ?_)
  · obtain ⟨d, b, rfl, _⟩ := h
    rfl
  · obtain ⟨d, b, rfl, hS, hB, hT, k1, k2⟩ := h
    obtain ⟨dx, ha⟩ := hS.ob
    refine ⟨_, (pss_one (ps_ret (pe_meth (pv 0) T.c_Store T.M_Store_priced (ok_Store_priced T) (hr.mono (by decide)) T.b_Store_priced .nil pass0 (pa_cons (pe_meth0 (pv 0) T.c_Store T.M_Store_repair (ok_Store_repair T TB) (hr.mono (by decide)) T.b_Store_repair .nil (passes_call (takes_of rfl rfl rfl rfl) (fun _ _ _ _ z => z)) ) pa_nil)))), ?_⟩
    refine ⟨_, rfl, d.st, dx, _, rfl, ha, no_Store_3_priced, ?_⟩
    refine ⟨_, rfl, d.st, dx, _, rfl, ha, no_Store_3_repair, d, b, rfl, hS, hB, hT, k1, fun v ev H1 a g1 hv => ?_⟩
    refine ⟨d, b, a, v, rfl, hS.ext g1.ext, hB, .inr hv, good_way (mend_mem ev), fun H2 p s2 np hp => ?_⟩
    exact k2 v ev H2 p (g1.same s2) (g1.back _ np) hp
end
end Wk
end
section
set_option Elab.async false
set_option maxRecDepth 100000
set_option maxHeartbeats 4000000
namespace Wk
open PySem PySem.Spec PyProof.Rows L2 LamX NdefX
open Oc (C Axiom)
open Oc09 (Ladder Book)
/-- an axiom's new object: what is left of the forms and prices -/
def WkdAt (D : Dt) (H : Hp) (t : Ax) (y : Ladder × Nat) : Prop := ∃ dx rs, H t.a = some (.ins D.a_Axiom dx (fl_Axiom_2 (.ref t.f) (.ref t.p))) ∧ H t.f = some (.lst (rs.map V.ref)) ∧ All2 (PairAt H) rs ((y.1.forms.map (·.2)).drop y.2) ∧ H t.p = some (.lst (iv ((pricesOf y.1).drop y.2)))
theorem WkdAt.same {D : Dt} {H H' : Hp} {t : Ax} {y : Ladder × Nat} (h : WkdAt D H t y) (e : Same H H') : WkdAt D H' t y := by
  obtain ⟨dx, rs, h1, h2, h3, h4⟩ := h
  exact ⟨dx, rs, e _ _ h1, e _ _ h2, h3.mono (fun _ _ z => z.same e), e _ _ h4⟩
/-- a new list is longer, what is at other lists stands -/
theorem WkdAt.upd {D : Dt} {H : Hp} {t : Ax} {y : Ladder × Nat} {L : Addr} {xs : List V} {o : HO} (h : WkdAt D H t y) (hL : H L = some (.lst xs)) (n1 : t.f ≠ L) (n2 : t.p ≠ L) : WkdAt D (L2.upd H L o) t y := by
  obtain ⟨dx, rs, h1, h2, h3, h4⟩ := h
  refine ⟨dx, rs, upd_lst hL _ _ h1 (fun _ z => by cases z), ?_, h3.mono fun _ _ z => z.keep (upd_lst hL), ?_⟩
  · rw [upd_ne n1]; exact h2
  · rw [upd_ne n2]; exact h4
theorem WkdAt.ax {D : Dt} {H : Hp} {t : Ax} {x : Ladder} {k : Nat} (h : WkdAt D H t (x, k)) (lt : k < x.forms.length) : AxAt D H t (cutL x k) := by
  obtain ⟨dx, rs, h1, h2, h3, h4⟩ := h
  refine ⟨dx, rs, h1, h2, ?_, ?_⟩
  · rw [cut_forms]; exact h3
  · rw [cut_prices lt]; exact h4
/-- all else stands but tables; what is owned anew was free -/
def KpG (d d' : Sd) (H H' : Hp) : Prop := d'.st = d.st ∧ (∀ b o, H b = some o → b ≠ d.st → b ∉ d.own → (∀ ps, o ≠ .tbl ps) → H' b = some o) ∧ ∀ c ∈ d'.own, c ∈ d.own ∨ H c = none
def doneBook (b : Book) (w : List Nat) : Book := { b with ladders := left b.ladders w }
def spDone (D : Dt) : Sp := fun vs H Q E => ∃ (d : Sd) (b : Book), vs = [.ref d.st] ∧ StA D H d b ∧ Bk b ∧ TabS H D.tp qLam ∧ (b.mend = none → ∀ H', Same H H' → E (.ref D.e_NoRepair) none H') ∧
  (∀ w, b.mend = some w → ∀ H' p d', StA D H' d' (doneBook b w) → Bk (doneBook b w) → KpG d d' H H' → TabS H' D.tp qLam → H p = none → p ∉ d'.own → H' p = some (.lst (iv [b.price w, (left b.ladders w).length])) → Q (.ref p) H')
theorem tab_ins {H : Hp} {P a : Addr} {q : Str} {C e : Addr} {fs : List (Str × V)} {o : HO} (t : TabS H P q) (h : H a = some (.ins C e fs)) : TabS (upd H a o) P q := by
  obtain ⟨ps, h1, h2, h3⟩ := t
  refine ⟨ps, by rw [upd_ne (ne_of h1 h (by intro z; cases z))]; exact h1, h2, fun pos cv hc => ?_⟩
  obtain ⟨c, e1, e2⟩ := h3 pos cv hc
  exact ⟨c, e1, by rw [upd_ne (ne_of e2 h (by intro z; unfold CodeO at z; cases z))]; exact e2⟩
theorem sub_flat {α β : Type} (f : α → List β) {l m : List α} (h : l.Sublist m) : (l.flatMap f).Sublist (m.flatMap f) := by
  induction h with
  | slnil => exact List.Sublist.refl _
  | cons a _ ih => rw [List.flatMap_cons]; exact ih.trans (List.sublist_append_right _ _)
  | cons_cons a _ ih => rw [List.flatMap_cons, List.flatMap_cons]; exact (List.Sublist.refl _).append ih
theorem ne_store {H : Hp} {a s C C' e e' : Addr} {x y u v w : V} (h : H a = some (.ins C e (fl_Axiom_2 x y))) (h' : H s = some (.ins C' e' (fl_Store_3 u v w))) : a ≠ s := fun z => by
  rw [z, h'] at h
  injection h with h
  injection h with h1 h2 h3
  have h4 := congrArg (fun l => List.lookup ("axioms" : Str) l) h3
  have n4 : (fl_Axiom_2 x y).lookup ("axioms" : Str) = none := (lk_past (by decide +kernel)).trans ((lk_past (by decide +kernel)).trans rfl)
  rw [n4, lk_Store_3_axioms] at h4
  cases h4
def lf (l : List (Ladder × Nat)) : List Ladder := l.filterMap fun x => if x.1.forms.length ≤ x.2 then none else some (cutL x.1 x.2)
theorem left_all {ls : List Ladder} {ks : List Nat} {z : Axiom} (h : z ∈ formsOf (left ls ks)) : z ∈ formsOf ls := by
  unfold formsOf at h ⊢
  obtain ⟨y, hy, hz⟩ := List.mem_flatMap.mp h
  unfold left at hy
  obtain ⟨⟨x, k⟩, hx, e⟩ := List.mem_filterMap.mp hy
  by_cases c : x.forms.length ≤ k
  · rw [if_pos c] at e; cases e
  · rw [if_neg c] at e
    cases e
    have hz : z ∈ (cutL x k).forms.map (·.2) := hz
    rw [cut_forms] at hz
    exact List.mem_flatMap.mpr ⟨x, (List.of_mem_zip (a := x) (b := k) hx).1, List.mem_of_mem_drop hz⟩
theorem left_mem {ls : List Ladder} {ks : List Nat} {y : Ladder} (h : y ∈ left ls ks) : ∃ x k, x ∈ ls ∧ k < x.forms.length ∧ y = cutL x k := by
  unfold left at h
  obtain ⟨⟨x, k⟩, hx, e⟩ := List.mem_filterMap.mp h
  by_cases c : x.forms.length ≤ k
  · rw [if_pos c] at e; cases e
  · rw [if_neg c] at e
    cases e
    exact ⟨x, k, (List.of_mem_zip (a := x) (b := k) hx).1, by show k < x.forms.length; have : ¬ x.forms.length ≤ k := c; omega, rfl⟩
theorem bk_done {b : Book} (h : Bk b) (w : List Nat) : Bk (doneBook b w) := by
  have sub : ∀ z ∈ (doneBook b w).all, z ∈ b.all := fun z hz => by
    rw [all_eq] at hz ⊢
    rcases List.mem_append.mp hz with hz | hz
    · exact List.mem_append_left _ (left_all hz)
    · exact List.mem_append_right _ hz
  refine ⟨fun a ha => h.fine a (sub a ha), ?_, fun y hy => ?_, h.nev, h.kee, ?_, fun y hy => ?_⟩
  · show (left b.ladders w).length ≤ 3
    have h1 := List.length_filterMap_le (fun x : Ladder × Nat => if x.1.forms.length ≤ x.2 then none else some (cutL x.1 x.2)) (b.ladders.zip w)
    rw [List.length_zip] at h1
    have := h.lad
    unfold left
    omega
  · obtain ⟨x, k, hx, lt, rfl⟩ := left_mem hy
    have := h.frm x hx
    rw [cut_len]
    omega
  · refine Nat.le_trans (atoms_le (m := flat b.all) fun c hc => ?_) h.ats
    obtain ⟨z, hz, hc⟩ := mem_flat.mp hc
    exact mem_flat.mpr ⟨z, sub z hz, hc⟩
  · obtain ⟨x, k, hx, lt, rfl⟩ := left_mem hy
    exact cut_zero lt
section
variable {P : Program} {w : World} {K : PySem.W.Frag} {mg : Str → Option Value} {base : Heap} {D : Dt}
theorem ok_Store_done (T : Tx K mg D) (TB : TabB base mg D.cr D.tp) : FnOk P w K mg base (L2.CX P w) 9 D.f_Store_done D.d_Store_done ["self"] (spDone D) := by
  refine T.F_Store_done.okX sc_Store_done (fun vs H Q E h => ?_) (fun cdv A outer s H vs Q E hr h => ?_)
  · obtain ⟨d, b, rfl, _⟩ := h
    rfl
  · obtain ⟨d, b, rfl, hS, hB, hT, k1, k2⟩ := h
    obtain ⟨dx, ha⟩ := hS.ob
    refine ⟨_, (pss_cons (ps_set (i := 1) sc_Store_done.nd rfl (.inl rfl) (pe_meth0 (pv 0) T.c_Store T.M_Store_repair (ok_Store_repair T TB) (hr.mono (by decide)) T.b_Store_repair .nil (passes_call (takes_of rfl rfl rfl rfl) (fun _ _ _ _ z => z)) ))
      (pss_cons (ps_set (i := 2) sc_Store_done.nd rfl (.inl rfl) (pe_call (ok_price_of T) (hr.mono (by decide)) (by rfl) T.m_price_of T.F_price_of.kp T.b_price_of .nil pass0 (pa_cons (pe_fld (pv 0) rfl) (pa_cons (pv 1) pa_nil))))
      (pss_cons (ps_setLc (i := 3) (own := [("axiom", 4), ("level", 5)]) (g := gTup K 2 (gCons (gName 4) (gCons (gName 5) (gNil)))) (by rfl) sc_Store_done.nd rfl rfl (sw_true rfl rfl rfl (by decide +kernel)) (pi_zipM (by rfl) T.b_zip (pa_cons (pe_fld (pv 0) rfl) (pa_cons (pv 1) pa_nil))) (blkOk_by (own := [("axiom", 4), ("level", 5)]) (N := N_Store_done) (sc := defScope s_Store_done) (by decide +kernel)) (fun _ _ _ _ _ => by exact pg_tup (by rfl) (pgs_cons (pg_name (i := 4) sc_Store_done.nd rfl (Or.inl rfl)) (pgs_cons (pg_name (i := 5) sc_Store_done.nd rfl (Or.inl rfl)) (pgs_nil)))) (fun _ _ _ _ _ => by exact pts_nil) (fun _ _ _ _ _ => by exact pe_meth (pv 4) T.c_Axiom T.M_Axiom_weakened_to (ok_Axiom_weakened_to T) (hr.mono (by decide)) T.b_Axiom_weakened_to .nil pass0 (pa_cons (pv 5) pa_nil)))
      (pss_cons (ps_fld (pv 0) (pe_lc (own := [("axiom", 4)]) (g := gName 4) (by rfl) sc_Store_done.nd (pi_list (pv 3)) (blkOk_by (own := [("axiom", 4)]) (N := N_Store_done) (sc := defScope s_Store_done) (by decide +kernel)) (fun _ _ _ _ _ => by exact pg_name (i := 4) sc_Store_done.nd rfl (Or.inl rfl)) (fun _ _ _ _ _ => by exact pts_one (pt_cmpR op_gt (pe_meth0 (pv 4) T.c_Axiom T.M_Axiom_removal (ok_Axiom_removal T) (hr.mono (by decide)) T.b_Axiom_removal .nil pass0 ) (pe_int) (nomark _))) (fun _ _ _ _ _ => by exact pv 4)) rfl)
      (pss_one (ps_ret (pe_lst (pa_cons (pv 2) (pa_cons (pe_len (by rfl) T.b_len (pe_fld (pv 0) rfl)) pa_nil))))))))), ?_⟩
    refine ⟨_, rfl, d.st, dx, _, rfl, ha, no_Store_3_repair, d, b, rfl, hS, hB, hT, k1, fun ks ew H1 a g1 hv => ?_⟩
    have hway := good_way (mend_mem ew)
    have hS1 := hS.ext g1.ext
    have ha1 : H1 d.st = some (.ins D.a_Store dx (fl_Store_3 (.ref d.la) (.ref d.lu) (.ref d.lw))) := g1.at ha (fun _ z => by cases z)
    refine ⟨_, rfl, d.st, D.a_Store, dx, _, _, rfl, ha1, T.c_Store, T.n_Store_axioms, lk_Store_3_axioms, _, rfl, ?_⟩
    refine ⟨d.la, a, d.ax, b.ladders, ks, rfl, hS1.axs, hB.lad, hB.zer, .inr hv, hway, fun H2 s2 => ?_⟩
    rw [price_book]
    have hS2 := hS1.same s2
    have ha2 := s2 _ _ ha1
    have hw2 : NumsT H2 a ks := .inr (s2 _ _ hv)
    have g2 := g1.same s2
    have lad := hB.lad
    refine ⟨_, rfl, d.st, D.a_Store, dx, _, _, rfl, ha2, T.c_Store, T.n_Store_axioms, lk_Store_3_axioms, _, rfl, ?_⟩
    refine r_zipM (SqL.of hS2.hla) hw2.nums fun J wk L nL => lc_it wk (fun i H' => Same H2 H' ∧ ∃ us : List Ax, H' L = some (.lst (us.map fun t => V.ref t.a)) ∧ All2 (WkdAt D H') us ((b.ladders.zip ks).take i) ∧ (us.flatMap fun t => [t.f, t.p]).Nodup ∧ ∀ t ∈ us, H2 t.f = none ∧ H2 t.p = none ∧ t.f ≠ L ∧ t.p ≠ L)
      ⟨Same.new nL, [], upd_same, .nil, .nil, fun t h => by cases h⟩ (fun i H' _ z => Std.of z.1) ?_ ?_
    · rintro i y H3 H4 lt ⟨s3, us, hL, hus, hnd, hfr⟩ ⟨T', x1, y1, rfl, nT, rfl, ex, ey⟩
      obtain ⟨t, ht, rfl⟩ := get_ax ex
      obtain ⟨kn, hk, rfl⟩ := get_iv ey
      obtain ⟨x, hx, hxt⟩ := All2.get hS2.hax ht
      have s4 := Same.new (o := .tup [.ref t.a, .int (kn : Nat)]) nT
      obtain ⟨dy, rs, h1, h2, h3', h4⟩ := hxt.same (s3.trans s4)
      refine ⟨T', _, rfl, SqT.of upd_same, rfl, _, _, rfl, _, _, rfl, rfl, rfl, ?_⟩
      refine ⟨_, rfl, t.a, dy, _, rfl, h1, no_Axiom_2_weakened_to, _, rfl, t, dy, _, _, kn, rfl, h1, h2, h4, fun H5 u du s5 nuf nup nfp hua huf hup => ?_⟩
      have s45 := s4.trans s5
      have hL5 := s45 _ _ hL
      have ufL : u.f ≠ L := fun z => by rw [z, s4 _ _ hL] at nuf; cases nuf
      have upL : u.p ≠ L := fun z => by rw [z, s4 _ _ hL] at nup; cases nup
      have keep : ∀ v ∈ us, u.f ≠ v.f ∧ u.f ≠ v.p ∧ u.p ≠ v.f ∧ u.p ≠ v.p := fun v hv => by
        obtain ⟨m, hm⟩ := List.mem_iff_getElem?.mp hv
        obtain ⟨z, _, dz, rz, z1, z2, z3, z4⟩ := All2.get hus hm
        have z2 := s4 _ _ z2
        have z4 := s4 _ _ z4
        refine ⟨fun e => ?_, fun e => ?_, fun e => ?_, fun e => ?_⟩
        · rw [e, z2] at nuf; cases nuf
        · rw [e, z4] at nuf; cases nuf
        · rw [e, z2] at nup; cases nup
        · rw [e, z4] at nup; cases nup
      have lus := hus.length
      refine ⟨_, hL5, ?_, Same.mut (s3.trans s45) nL, us ++ [u], ?_, ?_, ?_, fun v hv => ?_⟩
      · rw [List.length_take, List.length_zip] at lus
        rw [List.length_map]
        exact Nat.lt_of_le_of_lt (show us.length ≤ 3 by omega) (by decide)
      · rw [upd_same, List.map_append]
        rfl
      · rw [take_more (zip_at hx hk)]
        refine All2.snoc ((All2.and_mem hus).mono fun v y ⟨z, hv⟩ => (z.same s45).upd hL5 (hfr v hv).2.2.1 (hfr v hv).2.2.2) ?_
        refine WkdAt.upd ⟨du, rs.drop kn, hua, ?_, (h3'.drop kn).mono fun _ _ z => z.same s5, ?_⟩ hL5 ufL upL
        · rw [huf, List.map_drop]
        · rw [hup, iv_drop]
      · rw [List.flatMap_append, List.nodup_append]
        refine ⟨hnd, by simpa using nfp, fun c hc c' hc' e => ?_⟩
        obtain ⟨v, hv, hc⟩ := List.mem_flatMap.mp hc
        obtain ⟨q1, q2, q3, q4⟩ := keep v hv
        simp at hc hc'
        rcases hc with rfl | rfl <;> rcases hc' with rfl | rfl
        · exact q1 e.symm
        · exact q3 e.symm
        · exact q2 e.symm
        · exact q4 e.symm
      · rcases List.mem_append.mp hv with hv | hv
        · exact hfr v hv
        · have := List.mem_singleton.mp hv
          subst this
          exact ⟨s3.free (s4.free nuf), s3.free (s4.free nup), ufL, upL⟩
    · rintro H3 ⟨s3, us, hL, hus, hnd, hfr⟩
      rw [List.length_map, hS2.axs.len, List.take_of_length_le (by rw [List.length_zip]; exact Nat.le_refl _)] at hus
      have lus := hus.length
      rw [List.length_zip] at lus
      have s23 := s2.trans s3
      have pick : ∀ (x : Ladder) (k i : Nat), b.ladders[i]? = some x → ks[i]? = some k → lf ((b.ladders.zip ks).take (i + 1)) = lf ((b.ladders.zip ks).take i) ++ (if x.forms.length ≤ k then [] else [cutL x k]) := fun x k i hx hk => by
        unfold lf
        rw [take_more (zip_at hx hk), List.filterMap_append]
        congr 1
        by_cases c : x.forms.length ≤ k <;> simp [c]
      refine ⟨_, rfl, L, rfl, ⟨_, SqL.of hL⟩, fun L2 nL2 => lc_list (K := K) (a := L) (xs := us.map fun t => V.ref t.a) (fun i H' => Same H3 H' ∧ ∃ vs : List Ax, H' L2 = some (.lst (vs.map fun t => V.ref t.a)) ∧ All2 (AxAt D H') vs (lf ((b.ladders.zip ks).take i)) ∧ vs.Sublist (us.take i))
        ⟨Same.new nL2, [], upd_same, .nil, List.Sublist.refl _⟩ (fun i H' _ z => SqL.of (z.1 _ _ hL)) ?_ ?_⟩
      · rintro i y H4 hi ⟨s4, vs, hL2, hvs, sub⟩
        obtain ⟨t, ht, rfl⟩ := get_ax hi
        obtain ⟨⟨x, kn⟩, hxk, hxt⟩ := All2.get hus ht
        obtain ⟨hx, hk⟩ := List.getElem?_zip_eq_some.mp hxk
        obtain ⟨dy, rs, h1, h2, h3', h4⟩ := id (hxt.same s4)
        have hfl := h3'.length
        rw [List.length_drop, List.length_map] at hfl
        have htm := List.mem_of_getElem? ht
        obtain ⟨_, _, tf1, tp1⟩ := hfr t htm
        refine ⟨rfl, _, rfl, t.a, dy, _, rfl, h1, no_Axiom_2_removal, t.a, t.f, dy, _, _, rfl, h1, h2, _, _, rfl, rfl, _, rfl, ?_⟩
        rw [List.length_map, hfl]
        by_cases c : x.forms.length ≤ kn
        · refine if_false_of (by simp only [decide_eq_false_iff_not]; show ¬ ((0 : Int) < ((x.forms.length - kn : Nat) : Int)); omega) ⟨s4, vs, hL2, ?_, ?_⟩
          · rw [pick x kn i hx hk, if_pos c, List.append_nil]
            exact hvs
          · rw [take_more ht]
            exact sub.trans (List.sublist_append_left _ _)
        · refine if_true_of (by simp only [decide_eq_true_eq]; show ((0 : Int) < ((x.forms.length - kn : Nat) : Int)); omega) ?_
          have axk : AxAt D H4 t (cutL x kn) := (hxt.same s4).ax (by omega)
          have kf : ∀ v ∈ us, v.f ≠ L2 ∧ v.p ≠ L2 := fun v hv => by
            obtain ⟨m, hm⟩ := List.mem_iff_getElem?.mp hv
            obtain ⟨z, _, dz, rz, z1, z2, z3, z4⟩ := All2.get hus hm
            exact ⟨ne_of_none z2 nL2, ne_of_none z4 nL2⟩
          have lvs := sub.length_le
          rw [List.length_take] at lvs
          refine ⟨_, rfl, _, hL2, ?_, Same.mut s4 nL2, vs ++ [t], ?_, ?_, ?_⟩
          · rw [List.length_map]
            exact Nat.lt_of_le_of_lt (show vs.length ≤ 3 by omega) (by decide)
          · rw [upd_same, List.map_append]
            rfl
          · rw [pick x kn i hx hk, if_neg c]
            refine All2.snoc ((All2.and_mem hvs).mono fun v y ⟨z, hv⟩ => ?_) (axk.upd hL2 (kf t htm).1 (kf t htm).2)
            have hv' := kf v (List.mem_of_mem_take (sub.subset hv))
            exact z.upd hL2 hv'.1 hv'.2
          · rw [take_more ht]
            exact sub.append (List.Sublist.refl _)
      · rintro H4 ⟨s4, vs, hL2, hvs, sub⟩
        have el : us.length = (us.map fun t => V.ref t.a).length := by rw [List.length_map]
        rw [← el] at hvs sub
        rw [List.take_length] at sub
        rw [List.take_of_length_le (by rw [List.length_zip]; omega)] at hvs
        have hvs : All2 (AxAt D H4) vs (left b.ladders ks) := hvs
        have s24 := s3.trans s4
        have ha4 := s24 _ _ ha2
        refine ⟨_, rfl, d.st, D.a_Store, dx, _, rfl, ha4, T.c_Store, T.n_Store_axioms, (by show 3 < 1000; decide), ?_⟩
        rw [pt_Store_3_axioms]
        have ha5 : (upd H4 d.st (.ins D.a_Store dx (fl_Store_3 (.ref L2) (.ref d.lu) (.ref d.lw)))) d.st = some (.ins D.a_Store dx (fl_Store_3 (.ref L2) (.ref d.lu) (.ref d.lw))) := upd_same
        have up5 : ∀ {c : Addr} {o : HO}, H4 c = some o → (∀ C e fs, o ≠ .ins C e fs) → (upd H4 d.st (.ins D.a_Store dx (fl_Store_3 (.ref L2) (.ref d.lu) (.ref d.lw)))) c = some o := fun {c o} e n => by
          rw [upd_ne (fun z => by rw [z, ha4] at e; exact n _ _ _ (Option.some.inj e).symm)]
          exact e
        have hL25 := up5 hL2 (fun _ _ _ z => by cases z)
        refine ⟨_, rfl, _, rfl, d.st, D.a_Store, dx, _, _, rfl, ha5, T.c_Store, T.n_Store_axioms, lk_Store_3_axioms, r_lenL (SqL.of hL25) ⟨by show 2 ≤ sizeLine; decide, fun p np => ?_⟩⟩
        have lvs := hvs.length
        rw [List.length_map, lvs]
        have s6 := Same.new (o := .lst (iv [b.price ks, (left b.ladders ks).length])) np
        have np4 : H4 p = none := by
          have n : p ≠ d.st := fun z => by rw [z, ha5] at np; cases np
          rw [upd_ne n] at np
          exact np
        have back : ∀ c, H2 c = none → H c = none := g2.back
        have vfree : ∀ t ∈ vs, H2 t.f = none ∧ H2 t.p = none := fun t ht => ⟨(hfr t (sub.subset ht)).1, (hfr t (sub.subset ht)).2.1⟩
        have tr4 : ∀ t ∈ vs, (∃ xs, H4 t.f = some (.lst xs)) ∧ ∃ xs, H4 t.p = some (.lst xs) := fun t ht => by
          obtain ⟨m, hm⟩ := List.mem_iff_getElem?.mp ht
          obtain ⟨z, _, dz, rz, z1, z2, z3, z4⟩ := All2.get hvs hm
          exact ⟨⟨_, z2⟩, ⟨_, z4⟩⟩
        have A := apart hS2.nd
        obtain ⟨us2, hlu, hus2⟩ := hS2.hlu
        obtain ⟨ws2, hlw, hws2⟩ := hS2.hlw
        have nL22 : H2 L2 = none := s3.free nL2
        have own' : ∀ c, c ∈ (⟨d.st, L2, d.lu, d.lw, vs⟩ : Sd).own → (c = d.lu ∨ c = d.lw) ∨ (H2 c = none ∧ ∃ xs, H4 c = some (.lst xs)) := fun c hc => by
          unfold Sd.own at hc
          simp only [List.mem_cons, List.mem_flatMap] at hc
          rcases hc with rfl | rfl | rfl | ⟨t, ht, hc⟩
          · exact .inr ⟨nL22, _, hL2⟩
          · exact .inl (.inl rfl)
          · exact .inl (.inr rfl)
          · simp at hc
            rcases hc with rfl | rfl
            · exact .inr ⟨(vfree t ht).1, (tr4 t ht).1⟩
            · exact .inr ⟨(vfree t ht).2, (tr4 t ht).2⟩
        have hlu4 := s24 _ _ hlu
        have hlw4 := s24 _ _ hlw
        have own4 : ∀ c, c ∈ (⟨d.st, L2, d.lu, d.lw, vs⟩ : Sd).own → ∃ xs, H4 c = some (.lst xs) := fun c hc => by
          rcases own' c hc with (rfl | rfl) | ⟨_, h⟩
          · exact ⟨_, hlu4⟩
          · exact ⟨_, hlw4⟩
          · exact h
        have pr : ∀ {r : Addr} {z : Axiom}, PairAt H2 r z → PairAt (upd H4 d.st (.ins D.a_Store dx (fl_Store_3 (.ref L2) (.ref d.lu) (.ref d.lw)))) r z := fun {r z} h => by
          obtain ⟨q1, q2, e1, e2, e3⟩ := h
          exact ⟨q1, q2, up5 (s24 _ _ e1) (fun _ _ _ z => by cases z), up5 (s24 _ _ e2) (fun _ _ _ z => by cases z), up5 (s24 _ _ e3) (fun _ _ _ z => by cases z)⟩
        have hS5 : StA D (upd H4 d.st (.ins D.a_Store dx (fl_Store_3 (.ref L2) (.ref d.lu) (.ref d.lw)))) ⟨d.st, L2, d.lu, d.lw, vs⟩ (doneBook b ks) := by
          refine ⟨⟨dx, ha5⟩, hL25, ?_, ⟨us2, up5 hlu4 (fun _ _ _ z => by cases z), hus2.mono fun _ _ z => pr z⟩, ⟨ws2, up5 hlw4 (fun _ _ _ z => by cases z), hws2.mono fun _ _ z => pr z⟩, ?_⟩
          · refine hvs.mono fun t y ⟨dz, rz, z1, z2, z3, z4⟩ => ⟨dz, rz, ?_, up5 z2 (fun _ _ _ z => by cases z), z3.mono fun r z ⟨q1, q2, e1, e2, e3⟩ => ?_, up5 z4 (fun _ _ _ z => by cases z)⟩
            · rw [upd_ne (ne_store z1 ha4)]
              exact z1
            · exact ⟨q1, q2, up5 e1 (fun _ _ _ z => by cases z), up5 e2 (fun _ _ _ z => by cases z), up5 e3 (fun _ _ _ z => by cases z)⟩
          · show (L2 :: d.lu :: d.lw :: vs.flatMap fun t => [t.f, t.p]).Nodup
            have nv : ∀ c, (∃ o, H2 c = some o) → c ∉ vs.flatMap fun t => [t.f, t.p] := fun c ⟨o, ho⟩ hc => by
              obtain ⟨t, ht, hc⟩ := List.mem_flatMap.mp hc
              simp at hc
              rcases hc with rfl | rfl
              · rw [(vfree t ht).1] at ho; cases ho
              · rw [(vfree t ht).2] at ho; cases ho
            have nL2v : L2 ∉ vs.flatMap fun t => [t.f, t.p] := fun hc => by
              obtain ⟨t, ht, hc⟩ := List.mem_flatMap.mp hc
              obtain ⟨m, hm⟩ := List.mem_iff_getElem?.mp (sub.subset ht)
              obtain ⟨z, _, dz, rz, z1, z2, z3, z4⟩ := All2.get hus hm
              simp at hc
              rcases hc with rfl | rfl
              · rw [nL2] at z2; cases z2
              · rw [nL2] at z4; cases z4
            refine List.nodup_cons.mpr ⟨?_, List.nodup_cons.mpr ⟨?_, List.nodup_cons.mpr ⟨nv _ ⟨_, hlw⟩, ?_⟩⟩⟩
            · simp only [List.mem_cons, not_or]
              exact ⟨(ne_of_none hlu nL22).symm, (ne_of_none hlw nL22).symm, nL2v⟩
            · simp only [List.mem_cons, not_or]
              exact ⟨A.uw, nv _ ⟨_, hlu⟩⟩
            · exact (sub_flat _ sub).nodup hnd
        refine k2 ks ew _ p ⟨d.st, L2, d.lu, d.lw, vs⟩ (hS5.same s6) (bk_done hB ks) ⟨rfl, fun c o hc n1 n2 n3 => ?_, fun c hc => ?_⟩ ((tab_ins (g2.tab.ext s24) ha4).ext s6) (back p (s24.free np4)) (fun hc => ?_) upd_same
        · refine s6 _ _ ?_
          rw [upd_ne n1]
          exact s24 _ _ (s2 _ _ (g1.at hc n3))
        · rcases own' c hc with (rfl | rfl) | ⟨h, _⟩
          · exact .inl (by simp [Sd.own])
          · exact .inl (by simp [Sd.own])
          · exact .inr (back c h)
        · obtain ⟨xs, e⟩ := own4 p hc
          rw [np4] at e
          cases e
end
end Wk
end
section
set_option Elab.async false
set_option maxRecDepth 100000
set_option maxHeartbeats 4000000
namespace Wk
open PySem PySem.Spec PyProof.Rows L2 LamX NdefX
open Oc (C Axiom)
open Oc09 (Ladder Book)
def RdAt (D : Dt) (H : Hp) (rd ca : Addr) (pl : Nat) : Prop := ∃ dx, H rd = some (.ins D.a_Reader dx (fl_Reader_2 (.ref ca) (.int (pl : Nat))))
def spReaderI (D : Dt) : Sp := fun vs H Q _ => ∃ (rd dx ca : Addr), vs = [.ref rd, .ref ca] ∧ H rd = some (.ins D.a_Reader dx []) ∧ ∀ H', RdAt D H' rd ca 0 → (∀ b o, H b = some o → b ≠ rd → H' b = some o) → Q .non H'
def spAtEnd (K : PySem.W.Frag) (D : Dt) : Sp := fun vs H Q _ => ∃ (rd ca : Addr) (pl : Nat) (ns : List Int), vs = [.ref rd] ∧ RdAt D H rd ca pl ∧ SqL K H ca (ns.map V.int) ∧ Q (.bl (decide (ns.length ≤ pl))) H
/-- only the reader has moved -/
def Mv (D : Dt) (rd ca : Addr) (pl : Nat) (H H' : Hp) : Prop := RdAt D H' rd ca pl ∧ ∀ b o, H b = some o → b ≠ rd → H' b = some o
def spTakeN (K : PySem.W.Frag) (D : Dt) : Sp := fun vs H Q _ => ∃ (rd ca : Addr) (pl : Nat) (ns : List Int) (z : Int), vs = [.ref rd] ∧ RdAt D H rd ca pl ∧ SqL K H ca (ns.map V.int) ∧ ns[pl]? = some z ∧ ∀ H', Mv D rd ca (pl + 1) H H' → (∀ b, H b = none → H' b = none) → Q (.int z) H'
def spTakeL (K : PySem.W.Frag) (D : Dt) : Sp := fun vs H Q _ => ∃ (rd ca : Addr) (pl : Nat) (ns : List Int) (n : Int) (r : List Int), vs = [.ref rd] ∧ RdAt D H rd ca pl ∧ SqL K H ca (ns.map V.int) ∧ ns.drop pl = n :: r ∧ 0 ≤ n ∧ n.toNat ≤ r.length ∧
  ∀ H' q, Mv D rd ca (pl + 1 + n.toNat) H H' → H q = none → H' q = some (.lst ((r.take n.toNat).map V.int)) → Q (.ref q) H'
theorem iget {ns : List Int} {i : Nat} {z : Int} (h : ns[i]? = some z) : (ns.map V.int)[i]? = some (V.int z) := by rw [List.getElem?_map, h]; rfl
/-- the list of calls, where it stands: what is bad is never it -/
def Cal (K : PySem.W.Frag) (H : Hp) (ca : Addr) (ns : List Int) (bad : Addr → Prop) : Prop := (Rd H ca (.lst (ns.map V.int)) ∧ ¬ bad ca) ∨
  ∃ (o : Obj) (its : Array Value) (n : Nat), K.lookup ca = some o ∧ o.cls = .type "list" ∧ o.dict = none ∧ o.data = .seq its n ∧ its.size ≤ sizeLine ∧ Vals (ns.map V.int) its.toList
theorem Cal.sq {K : PySem.W.Frag} {H : Hp} {ca : Addr} {ns : List Int} {bad : Addr → Prop} (h : Cal K H ca ns bad) : SqL K H ca (ns.map V.int) := by
  rcases h with h | h
  · exact .inl h.1
  · exact .inr h
theorem Cal.keep {K : PySem.W.Frag} {H H' : Hp} {ca : Addr} {ns : List Int} {bad bad' : Addr → Prop} (h : Cal K H ca ns bad) (k : ∀ b o, H b = some o → ¬ bad b → H' b = some o) (f : ∀ c, bad' c → bad c ∨ H c = none) : Cal K H' ca ns bad' := by
  rcases h with ⟨h, nb⟩ | h
  · refine .inl ⟨?_, fun z => ?_⟩
    · rcases h with h | ⟨o, h⟩
      · exact .inl (k _ _ h nb)
      · exact .inr ⟨o, k _ _ h nb⟩
    · rcases f _ z with z | z
      · exact nb z
      · rcases h with h | ⟨o, h⟩
        · rw [z] at h; cases h
        · rw [z] at h; cases h
  · exact .inr h
def Bad (d : Sd) (rd : Addr) (c : Addr) : Prop := c = rd ∨ c = d.st ∨ c ∈ d.own
/-- what a call finds -/
structure Pre (K : PySem.W.Frag) (D : Dt) (H : Hp) (d : Sd) (b : Book) (rd ca : Addr) (pl : Nat) (ns : List Int) (c : List (List Int)) (t : List Int) : Prop where
  st : StA D H d b
  bk : Bk b
  tab : TabS H D.tp qLam
  hrd : RdAt D H rd ca pl
  ne : rd ≠ d.st
  cal : Cal K H ca ns (Bad d rd)
  at_ : CallAt (ns.drop pl) c t
  ask : Oc09Neutral.asked1 c = true
/-- what a call leaves -/
structure Fin (D : Dt) (H : Hp) (d : Sd) (rd ca : Addr) (ns t : List Int) (b' : Book) (H' : Hp) (d' : Sd) : Prop where
  st : StA D H' d' b'
  bk : Bk b'
  ds : d'.st = d.st
  tab : TabS H' D.tp qLam
  hrd : ∃ pl', RdAt D H' rd ca pl' ∧ ns.drop pl' = t
  kp : ∀ b o, H b = some o → ¬ Bad d rd b → (∀ ps, o ≠ .tbl ps) → H' b = some o
  own : ∀ c ∈ d'.own, c ∈ d.own ∨ H c = none
/-- what may stand at a new list's place -/
def Fr (H : Hp) (d : Sd) (rd q : Addr) : Prop := ∀ o, H q = some o → Bad d rd q ∨ ∃ ps, o = .tbl ps
def spResultOf (K : PySem.W.Frag) (D : Dt) : Sp := fun vs H Q E => ∃ (d : Sd) (b : Book) (rd ca : Addr) (pl : Nat) (ns : List Int) (c : List (List Int)) (t : List Int), vs = [.ref d.st, .ref rd] ∧ Pre K D H d b rd ca pl ns c t ∧
  (∀ H' q d', Fin D H d rd ca ns t (Oc09Neutral.step ⟨b⟩ c).1.book H' d' → Fr H d rd q → H' q = some (.lst ((Oc09Neutral.step ⟨b⟩ c).2.map V.int)) → Q (.ref q) H') ∧
  ∀ H' d', Fin D H d rd ca ns t (Oc09Neutral.step ⟨b⟩ c).1.book H' d' → (∀ a, H' a = none → H a = none) →
    ((Oc09Neutral.step ⟨b⟩ c).2 = [-1] → E (.ref D.e_WrongNumbers) none H') ∧ ((Oc09Neutral.step ⟨b⟩ c).2 = [-2] → E (.ref D.e_NoSuchAxiom) none H') ∧ ((Oc09Neutral.step ⟨b⟩ c).2 = [-5] → E (.ref D.e_NotWeaker) none H') ∧
    ((Oc09Neutral.step ⟨b⟩ c).2 = [-6] → E (.ref D.e_NoRepair) none H') ∧ ((Oc09Neutral.step ⟨b⟩ c).2 = [-7] → E (.ref D.e_NoRoom) none H')
def spAnswerOf (K : PySem.W.Frag) (D : Dt) : Sp := fun vs H Q _ => ∃ (d : Sd) (b : Book) (rd ca : Addr) (pl : Nat) (ns : List Int) (c : List (List Int)) (t : List Int), vs = [.ref d.st, .ref rd] ∧ Pre K D H d b rd ca pl ns c t ∧
  ∀ H' q d', Fin D H d rd ca ns t (Oc09Neutral.step ⟨b⟩ c).1.book H' d' → Fr H d rd q → H' q = some (.lst ((Oc09Neutral.step ⟨b⟩ c).2.map V.int)) → Q (.ref q) H'
theorem Mv.trans {D : Dt} {rd ca : Addr} {p1 p2 : Nat} {H H1 H2 : Hp} (a : Mv D rd ca p1 H H1) (b : Mv D rd ca p2 H1 H2) : Mv D rd ca p2 H H2 := ⟨b.1, fun c o e n => b.2 c o (a.2 c o e n) n⟩
theorem Mv.back {D : Dt} {rd ca : Addr} {p : Nat} {H H1 : Hp} (a : Mv D rd ca p H H1) : ∀ c, H1 c = none → H c = none := fun c hc => by
  by_cases n : c = rd
  · obtain ⟨⟨dx, h⟩, _⟩ := a
    rw [n, h] at hc
    cases hc
  · cases e : H c with
    | none => rfl
    | some o => rw [a.2 c o e n] at hc; cases hc
theorem ne_reader {H : Hp} {a s C C' e e' : Addr} {x y u v : V} (h : H a = some (.ins C e (fl_Axiom_2 x y))) (h' : H s = some (.ins C' e' (fl_Reader_2 u v))) : a ≠ s := fun z => by
  rw [z, h'] at h
  injection h with h
  injection h with h1 h2 h3
  have h4 := congrArg (fun l => List.lookup ("calls" : Str) l) h3
  have n4 : (fl_Axiom_2 x y).lookup ("calls" : Str) = none := (lk_past (by decide +kernel)).trans ((lk_past (by decide +kernel)).trans rfl)
  rw [n4, lk_Reader_2_calls] at h4
  cases h4
/-- but for an object that is not its own the store stands -/
theorem StA.but {D : Dt} {H H' : Hp} {d : Sd} {b : Book} {rd C' e' : Addr} {u v : V} (h : StA D H d b) (hr : H rd = some (.ins C' e' (fl_Reader_2 u v))) (ne : rd ≠ d.st) (k : ∀ c o, H c = some o → c ≠ rd → H' c = some o) : StA D H' d b := by
  obtain ⟨⟨dx, h1⟩, h2, h3, ⟨us, h4, h5⟩, ⟨ws, h6, h7⟩, h8⟩ := h
  have kl : ∀ {c : Addr} {o : HO}, H c = some o → (∀ C e fs, o ≠ .ins C e fs) → H' c = some o := fun {c o} e n => k _ _ e fun z => by rw [z, hr] at e; exact n _ _ _ (Option.some.inj e).symm
  have kpr : ∀ {r : Addr} {a : C × C}, PairAt H r a → PairAt H' r a := fun {r a} ⟨p, q, q1, q2, q3⟩ => ⟨p, q, kl q1 (fun _ _ _ z => by cases z), kl q2 (fun _ _ _ z => by cases z), kl q3 (fun _ _ _ z => by cases z)⟩
  refine ⟨⟨dx, k _ _ h1 ne.symm⟩, kl h2 (fun _ _ _ z => by cases z), h3.mono fun t x ⟨dy, rs, q1, q2, q3, q4⟩ => ⟨dy, rs, k _ _ q1 (ne_reader q1 hr), kl q2 (fun _ _ _ z => by cases z), q3.mono fun _ _ z => kpr z, kl q4 (fun _ _ _ z => by cases z)⟩,
    ⟨us, kl h4 (fun _ _ _ z => by cases z), h5.mono fun _ _ z => kpr z⟩, ⟨ws, kl h6 (fun _ _ _ z => by cases z), h7.mono fun _ _ z => kpr z⟩, h8⟩
theorem tab_but {H H' : Hp} {P : Addr} {q : Str} (t : TabS H P q) (k : ∀ c o, H c = some o → (∀ C e fs, o ≠ .ins C e fs) → (∀ xs, o ≠ .lst xs) → H' c = some o) : TabS H' P q := by
  obtain ⟨ps, h1, h2, h3⟩ := t
  refine ⟨ps, k _ _ h1 (fun _ _ _ z => by cases z) (fun _ z => by cases z), h2, fun pos cv hc => ?_⟩
  obtain ⟨c, e1, e2⟩ := h3 pos cv hc
  exact ⟨c, e1, k _ _ e2 (fun _ _ _ z => by unfold CodeO at z; cases z) (fun _ z => by unfold CodeO at z; cases z)⟩
theorem Mv.tab {D : Dt} {rd ca : Addr} {p p0 : Nat} {H H1 : Hp} {P : Addr} {q : Str} (a : Mv D rd ca p H H1) (r : RdAt D H rd ca p0) (t : TabS H P q) : TabS H1 P q := by
  obtain ⟨dx, hr⟩ := r
  exact tab_but t fun c o e n1 _ => a.2 c o e fun z => by rw [z, hr] at e; exact n1 _ _ _ (Option.some.inj e).symm
theorem Mv.sta {D : Dt} {rd ca : Addr} {p p0 : Nat} {H H1 : Hp} {d : Sd} {b : Book} (a : Mv D rd ca p H H1) (r : RdAt D H rd ca p0) (ne : rd ≠ d.st) (t : StA D H d b) : StA D H1 d b := by
  obtain ⟨dx, hr⟩ := r
  exact t.but hr ne a.2
theorem Mv.seq {K : PySem.W.Frag} {D : Dt} {rd ca c : Addr} {p p0 : Nat} {H H1 : Hp} {xs : List V} (a : Mv D rd ca p H H1) (r : RdAt D H rd ca p0) (t : SqL K H c xs) : SqL K H1 c xs := by
  obtain ⟨dx, hr⟩ := r
  rcases t with (h | ⟨o, h⟩) | h
  · exact .inl (.inl (a.2 _ _ h fun z => by rw [z, hr] at h; cases h))
  · exact .inl (.inr ⟨o, a.2 _ _ h fun z => by rw [z, hr] at h; cases h⟩)
  · exact .inr h
theorem Kp.g {d d' : Sd} {H H' : Hp} (h : Kp d d' H H') : KpG d d' H H' := ⟨h.1, fun b o e n1 n2 _ => h.2.1 b o e n1 n2, h.2.2⟩
theorem Kp.tab {D : Dt} {d d' : Sd} {b : Book} {H H' : Hp} {P : Addr} {q : Str} (h : Kp d d' H H') (s : StA D H d b) (t : TabS H P q) : TabS H' P q := by
  obtain ⟨dx, hs⟩ := s.ob
  refine tab_but t fun c o e n1 n2 => h.2.1 c o e (fun z => ?_) (fun z => ?_)
  · rw [z, hs] at e; exact n1 _ _ _ (Option.some.inj e).symm
  · obtain ⟨xs, hx⟩ := s.tracked c z
    rw [hx] at e; exact n2 _ (Option.some.inj e).symm
theorem KpG.same {d : Sd} {H H' : Hp} (s : Same H H') : KpG d d H H' := ⟨rfl, fun b o e _ _ _ => s b o e, fun _ h => .inl h⟩
theorem KpG.grow {D : Dt} {d : Sd} {H H' : Hp} (s : Grow D H H') : KpG d d H H' := ⟨rfl, fun b o e _ _ n => s.at e n, fun _ h => .inl h⟩
theorem Fin.of {D : Dt} {H H1 H' : Hp} {d d' : Sd} {b b' : Book} {rd ca : Addr} {p0 p : Nat} {ns t : List Int} (r : RdAt D H rd ca p0) (mv : Mv D rd ca p H H1) (ne : rd ≠ d.st) (s1 : StA D H1 d b) (st : StA D H' d' b') (bk : Bk b')
    (kp : KpG d d' H1 H') (tab : TabS H' D.tp qLam) (ht : ns.drop p = t) : Fin D H d rd ca ns t b' H' d' := by
  obtain ⟨dx, hr⟩ := mv.1
  refine ⟨st, bk, kp.1, tab, ⟨p, ⟨dx, kp.2.1 _ _ hr ne (fun z => ?_) (fun _ z => by cases z)⟩, ht⟩, fun c o e n1 n2 => kp.2.1 _ _ (mv.2 _ _ e fun z => n1 (.inl z)) (fun z => n1 (.inr (.inl z))) (fun z => n1 (.inr (.inr z))) n2, fun c hc => ?_⟩
  · obtain ⟨xs, hx⟩ := s1.tracked rd z
    rw [hx] at hr
    cases hr
  · rcases kp.2.2 c hc with h | h
    · exact .inl h
    · exact .inr (mv.back c h)
theorem Fin.new {D : Dt} {H H' : Hp} {d d' : Sd} {b' : Book} {rd ca : Addr} {ns t : List Int} {q : Addr} {o : HO} (h : Fin D H d rd ca ns t b' H' d') (nq : H' q = none) : Fin D H d rd ca ns t b' (upd H' q o) d' := by
  have s := Same.new (o := o) nq
  obtain ⟨pl, ⟨dx, hr⟩, ht⟩ := h.hrd
  exact ⟨h.st.same s, h.bk, h.ds, h.tab.ext s, ⟨pl, ⟨dx, s _ _ hr⟩, ht⟩, fun b o e n1 n2 => s _ _ (h.kp b o e n1 n2), h.own⟩
theorem Fin.fresh {D : Dt} {H H' : Hp} {d d' : Sd} {b' : Book} {rd ca : Addr} {ns t : List Int} {q : Addr} (h : Fin D H d rd ca ns t b' H' d') (nq : H' q = none) : Fr H d rd q := fun o e => by
  by_cases n1 : Bad d rd q
  · exact .inl n1
  · cases o with
    | tbl ps => exact .inr ⟨ps, rfl⟩
    | _ => rw [h.kp q _ e n1 (fun ps z => by cases z)] at nq; cases nq
theorem Fr.none {H : Hp} {d : Sd} {rd q : Addr} (h : H q = none) : Fr H d rd q := fun o e => by rw [h] at e; cases e
/-! ### steps -/
theorem step_of {b : Book} {c : List (List Int)} {x : Oc09.Call} (h : Oc09Neutral.callOf c = some x) : Oc09Neutral.step ⟨b⟩ c = ((Oc09.step ⟨b⟩ x).1, Oc09Neutral.out (Oc09.step ⟨b⟩ x).2) := by
  unfold Oc09Neutral.step
  rw [h]
theorem ok_neg {n : Nat} {v : Int} (h : (⟨(n : Int), l⟩ : Oc09.Ans) = Oc09.ok v) (hv : v < 0) : False := by
  have := congrArg Oc09.Ans.v h
  have : (n : Int) = v := this
  omega
theorem step_neg {b : Book} {x : Oc09.Call} {v : Int} (h : (Oc09.step ⟨b⟩ x).2 = Oc09.ok v) (hv : v < 0) : (Oc09.step ⟨b⟩ x).1.book = b := by
  cases x with
  | begins => exact (ok_neg (n := 0) (l := []) h hv).elim
  | line w l =>
    rw [step_line] at h ⊢
    cases e : Oc.two l with
    | none => rfl
    | some a =>
      simp only [e] at h ⊢
      by_cases c : Oc09.isPrice w = false
      · rw [if_pos c]
      · rw [if_neg c] at h ⊢
        by_cases c : b.ladders.length = Oc09.AXIOMS ∨ Oc09.much ⟨b⟩ a = true
        · rw [if_pos c]
        · rw [if_neg c] at h
          exact (ok_neg h hv).elim
  | less i w l =>
    rw [step_less] at h ⊢
    cases e : Oc.two l with
    | none => rfl
    | some a =>
      simp only [e] at h ⊢
      by_cases c : Oc09.isPrice w = false
      · rw [if_pos c]
      · rw [if_neg c] at h ⊢
        cases hx : b.ladders[i]? with
        | none => rfl
        | some x =>
          simp only [hx] at h ⊢
          by_cases c : x.forms.length = Oc09.FORMS ∨ Oc09.much ⟨b⟩ a = true
          · rw [if_pos c]
          · rw [if_neg c] at h ⊢
            by_cases c : Oc.under ((x.forms.getLast?.map fun f => [f.2]).getD []) a.1 a.2 = false
            · rw [if_pos c]
            · rw [if_neg c] at h
              exact (ok_neg h hv).elim
  | never l =>
    rw [step_never] at h ⊢
    cases e : Oc.two l with
    | none => rfl
    | some a =>
      simp only [e] at h ⊢
      by_cases c : b.never.length = Oc09.WISHES ∨ Oc09.much ⟨b⟩ a = true
      · rw [if_pos c]
      · rw [if_neg c] at h
        exact (ok_neg h hv).elim
  | keep l =>
    rw [step_keep] at h ⊢
    cases e : Oc.two l with
    | none => rfl
    | some a =>
      simp only [e] at h ⊢
      by_cases c : b.keep.length = Oc09.WISHES ∨ Oc09.much ⟨b⟩ a = true
      · rw [if_pos c]
      · rw [if_neg c] at h
        exact (ok_neg h hv).elim
  | mend => rfl
  | least => rfl
  | check ks =>
    show (if _ then _ else _ : Oc09.House × Oc09.Ans).1.book = b
    split <;> rfl
  | done =>
    have e : Oc09.step ⟨b⟩ .done = match b.mend with
      | none => (⟨b⟩, Oc09.ok (-6))
      | some k => (⟨doneBook b k⟩, ⟨(b.price k : Nat), [(left b.ladders k).length]⟩) := rfl
    rw [e] at h ⊢
    cases em : b.mend with
    | none => rfl
    | some k =>
      simp only [em] at h
      exact (ok_neg h hv).elim
theorem iv_nats {l : List Int} (h : ∀ x ∈ l, 0 ≤ x) : l.map V.int = iv (Oc09Neutral.nats l) := by
  unfold iv Oc09Neutral.nats
  rw [List.map_map]
  refine List.map_congr_left fun x hx => ?_
  have := h x hx
  show V.int x = V.int ((x.toNat : Nat) : Int)
  rw [Int.toNat_of_nonneg this]
theorem out_iv (n : Nat) (l : List Nat) : (Oc09Neutral.out ⟨(n : Nat), l⟩).map V.int = iv (n :: l) := by
  unfold Oc09Neutral.out iv
  rw [List.map_cons, List.map_map, List.map_cons]
  rfl
theorem row_facts {l : List Int} (h : Oc09Neutral.row32 l 30 = true) : l.length ≤ 30 ∧ ∀ x ∈ l, 0 ≤ x := by
  unfold Oc09Neutral.row32 at h
  rw [Bool.and_eq_true, decide_eq_true_eq, List.all_eq_true] at h
  refine ⟨h.1, fun x hx => ?_⟩
  have := h.2 x hx
  unfold Oc09Neutral.whole32 at this
  rw [Bool.and_eq_true, decide_eq_true_eq, decide_eq_true_eq] at this
  exact this.1
theorem whole_facts {x : Int} (h : Oc09Neutral.whole32 x = true) : ((x.toNat : Nat) : Int) = x := by
  unfold Oc09Neutral.whole32 at h
  rw [Bool.and_eq_true, decide_eq_true_eq, decide_eq_true_eq] at h
  exact Int.toNat_of_nonneg h.1
/-- the calls that add something: their outcome, from the reader's place on -/
theorem outc_of {K : PySem.W.Frag} {D : Dt} {H H1 : Hp} {d : Sd} {b : Book} {rd ca : Addr} {pl p : Nat} {ns t : List Int} {c : List (List Int)} {x : Oc09.Call} {Q Q' : VK} {E : XK} (hc : Oc09Neutral.callOf c = some x) (P : Pre K D H d b rd ca pl ns c t)
    (mv : Mv D rd ca p H H1) (ht : ns.drop p = t) (hQ : ∀ (n : Int) H', (∀ q, H' q = none → Q (.ref q) (upd H' q (.lst [.int n]))) → Q' (.int n) H')
    (k1 : ∀ H' q d', Fin D H d rd ca ns t (Oc09Neutral.step ⟨b⟩ c).1.book H' d' → Fr H d rd q → H' q = some (.lst ((Oc09Neutral.step ⟨b⟩ c).2.map V.int)) → Q (.ref q) H')
    (k2 : ∀ H' d', Fin D H d rd ca ns t (Oc09Neutral.step ⟨b⟩ c).1.book H' d' → (∀ a, H' a = none → H a = none) →
      ((Oc09Neutral.step ⟨b⟩ c).2 = [-1] → E (.ref D.e_WrongNumbers) none H') ∧ ((Oc09Neutral.step ⟨b⟩ c).2 = [-2] → E (.ref D.e_NoSuchAxiom) none H') ∧ ((Oc09Neutral.step ⟨b⟩ c).2 = [-5] → E (.ref D.e_NotWeaker) none H') ∧
      ((Oc09Neutral.step ⟨b⟩ c).2 = [-6] → E (.ref D.e_NoRepair) none H') ∧ ((Oc09Neutral.step ⟨b⟩ c).2 = [-7] → E (.ref D.e_NoRoom) none H')) :
    Outc D Q' E H1 d (Oc09.step ⟨b⟩ x) := by
  have hs := step_of (b := b) hc
  have s1 := mv.sta P.hrd P.ne P.st
  have t1 := mv.tab P.hrd P.tab
  have ref : ∀ {v : Int}, v < 0 → (Oc09.step ⟨b⟩ x).2 = Oc09.ok v → (Oc09Neutral.step ⟨b⟩ c).2 = [v] ∧ ∀ H', Same H1 H' → Fin D H d rd ca ns t (Oc09Neutral.step ⟨b⟩ c).1.book H' d ∧ ∀ a, H' a = none → H a = none := fun {v} hv e => by
    refine ⟨by rw [hs, e]; rfl, fun H' s => ⟨?_, fun a z => mv.back a (s.free z)⟩⟩
    rw [hs]
    show Fin D H d rd ca ns t (Oc09.step ⟨b⟩ x).1.book H' d
    rw [step_neg e hv]
    exact Fin.of P.hrd mv P.ne s1 (s1.same s) P.bk (KpG.same s) (t1.ext s) ht
  refine ⟨fun e H' s => ?_, fun e H' s => ?_, fun e H' s => ?_, fun e H' s => ?_, fun n e H' d' st bk kp => ?_⟩
  · obtain ⟨e1, f⟩ := ref (by decide) e
    exact (k2 H' d (f H' s).1 (f H' s).2).1 e1
  · obtain ⟨e1, f⟩ := ref (by decide) e
    exact (k2 H' d (f H' s).1 (f H' s).2).2.1 e1
  · obtain ⟨e1, f⟩ := ref (by decide) e
    exact (k2 H' d (f H' s).1 (f H' s).2).2.2.1 e1
  · obtain ⟨e1, f⟩ := ref (by decide) e
    exact (k2 H' d (f H' s).1 (f H' s).2).2.2.2.2 e1
  · refine hQ _ _ fun q nq => ?_
    have F : Fin D H d rd ca ns t (Oc09Neutral.step ⟨b⟩ c).1.book H' d' := by
      rw [hs]
      exact Fin.of P.hrd mv P.ne s1 st bk kp.g (kp.tab s1 t1) ht
    refine k1 _ q d' (F.new nq) (F.fresh nq) ?_
    rw [upd_same, hs, e]
    rfl
theorem played_cons {s : Oc09.House} {c : List (List Int)} {r : List (List (List Int))} : PyFlat.told (PyFlat.played Oc09Neutral.step s (c :: r)) = ((Oc09Neutral.step s c).2.length : Int) :: ((Oc09Neutral.step s c).2 ++ PyFlat.told (PyFlat.played Oc09Neutral.step (Oc09Neutral.step s c).1 r)) := rfl
theorem bk_init : Bk ⟨[], [], []⟩ := ⟨(fun a h => by cases h), (by decide), (fun x h => by cases h), (by decide), (by decide), (by decide), (fun x h => by cases h)⟩
theorem pos_at {ns : List Int} {p : Nat} {a : Int} {r : List Int} (h : ns.drop p = a :: r) : ns[p]? = some a ∧ ns.drop (p + 1) = r := by
  constructor
  · have := congrArg (fun l => l[0]?) h
    simpa using this
  · rw [← List.drop_drop, h]
    rfl
section
variable {P : Program} {w : World} {K : PySem.W.Frag} {mg : Str → Option Value} {base : Heap} {D : Dt}
theorem ok_Reader_init (T : Tx K mg D) : FnOk P w K mg base CX0 1 D.f_Reader_init D.d_Reader_init ["self", "calls"] (spReaderI D) := by
  refine T.F_Reader_init.ok sc_Reader_init (fun vs H Q E h => ?_) (fun cdv A outer s H vs Q E hr h => ?_)
  · obtain ⟨rd, dx, ca, rfl, _⟩ := h
    rfl
  · obtain ⟨rd, dx, ca, rfl, hp, k⟩ := h
    refine ⟨_, (pss_cons (ps_fld (pv 0) (pv 1) rfl)
      (pss_one (ps_fld (pv 0) (pe_int) rfl))), ?_⟩
    refine ⟨_, rfl, _, rfl, rd, D.a_Reader, dx, [], rfl, hp, T.c_Reader, T.n_Reader_calls, (by show 0 < 1000; decide), ?_⟩
    refine ⟨_, rfl, rd, D.a_Reader, dx, _, rfl, upd_same, T.c_Reader, T.n_Reader_place, (by show 1 < 1000; decide), ?_⟩
    rw [nx_Reader_0, nx_Reader_1]
    refine k _ ⟨dx, upd_same⟩ fun b o e hb => ?_
    rw [upd_ne hb, upd_ne hb]
    exact e
theorem ok_Reader_at_end (T : Tx K mg D) : FnOk P w K mg base CX0 1 D.f_Reader_at_end D.d_Reader_at_end ["self"] (spAtEnd K D) := by
  refine T.F_Reader_at_end.ok sc_Reader_at_end (fun vs H Q E h => ?_) (fun cdv A outer s H vs Q E hr h => ?_)
  · obtain ⟨rd, ca, pl, ns, rfl, _⟩ := h
    rfl
  · obtain ⟨rd, ca, pl, ns, rfl, ⟨dx, hp⟩, hc, k⟩ := h
    refine ⟨_, (pss_one (ps_ret (pe_cmpR op_ge (pe_fld (pv 0) rfl) (pe_len (by rfl) T.b_len (pe_fld (pv 0) rfl)) (nomark _)))), ?_⟩
    refine ⟨_, rfl, rd, D.a_Reader, dx, _, _, rfl, hp, T.c_Reader, T.n_Reader_place, lk_Reader_2_place, ?_⟩
    refine ⟨_, rfl, rd, D.a_Reader, dx, _, _, rfl, hp, T.c_Reader, T.n_Reader_calls, lk_Reader_2_calls, r_lenL hc ⟨_, _, rfl, rfl, ?_⟩⟩
    have e : decide (ns.length ≤ pl) = decide ((((ns.map V.int).length : Nat) : Int) ≤ (pl : Nat)) := by
      rw [List.length_map]
      simp
    rw [e] at k
    exact k
theorem ok_Reader_take_number (T : Tx K mg D) : FnOk P w K mg base CX0 1 D.f_Reader_take_number D.d_Reader_take_number ["self"] (spTakeN K D) := by
  refine T.F_Reader_take_number.ok sc_Reader_take_number (fun vs H Q E h => ?_) (fun cdv A outer s H vs Q E hr h => ?_)
  · obtain ⟨rd, ca, pl, ns, z, rfl, _⟩ := h
    rfl
  · obtain ⟨rd, ca, pl, ns, z, rfl, ⟨dx, hp⟩, hc, hz, k⟩ := h
    refine ⟨_, (pss_cons (ps_set (i := 1) sc_Reader_take_number.nd rfl (.inl rfl) (pe_ix ix_seq (pe_fld (pv 0) rfl) (pe_fld (pv 0) rfl) (fun _ _ => rfl)))
      (pss_cons (ps_fldaug (pv 0) (pe_int) in_add)
      (pss_one (ps_ret (pv 1))))), ?_⟩
    refine ⟨_, rfl, rd, D.a_Reader, dx, _, _, rfl, hp, T.c_Reader, T.n_Reader_calls, lk_Reader_2_calls, ?_⟩
    refine ⟨_, rfl, rd, D.a_Reader, dx, _, _, rfl, hp, T.c_Reader, T.n_Reader_place, lk_Reader_2_place, .inl ⟨ca, _, _, _, rfl, rfl, hc, atI_nat (iget hz), ?_⟩⟩
    refine ⟨_, rfl, rd, D.a_Reader, dx, _, _, rfl, hp, T.c_Reader, T.n_Reader_place, lk_Reader_2_place, _, _, rfl, rfl, dx, _, hp, (by show 2 < 1000; decide), ?_⟩
    rw [pt_Reader_2_place]
    refine ⟨_, rfl, k _ ⟨⟨dx, upd_same⟩, fun b o e hb => ?_⟩ fun b hb => ?_⟩
    · rw [upd_ne hb]
      exact e
    · rw [upd_ne (fun z => by rw [z, hp] at hb; cases hb)]
      exact hb
theorem ok_Reader_take_list (T : Tx K mg D) : FnOk P w K mg base CX0 2 D.f_Reader_take_list D.d_Reader_take_list ["self"] (spTakeL K D) := by
  refine T.F_Reader_take_list.ok sc_Reader_take_list (fun vs H Q E h => ?_) (fun cdv A outer s H vs Q E hr h => ?_)
  · obtain ⟨rd, ca, pl, ns, n, r, rfl, _⟩ := h
    rfl
  · obtain ⟨rd, ca, pl, ns, n, r, rfl, hR, hc, hd, h0, h1, k⟩ := h
    obtain ⟨dx, hp⟩ := id hR
    have hz : ns[pl]? = some n := by
      have := congrArg (fun l => l[0]?) hd
      simpa using this
    have hd2 : ns.drop (pl + 1) = r := by
      rw [← List.drop_drop, hd]
      rfl
    have hlen : pl + 1 + n.toNat ≤ ns.length := by
      have := congrArg List.length hd
      rw [List.length_drop, List.length_cons] at this
      omega
    refine ⟨_, (pss_cons (ps_set (i := 1) sc_Reader_take_list.nd rfl (.inl rfl) (pe_meth0 (pv 0) T.c_Reader T.M_Reader_take_number (ok_Reader_take_number T) (hr.mono (by decide)) T.b_Reader_take_number .nil pass0 ))
      (pss_cons (ps_set (i := 2) sc_Reader_take_list.nd rfl (.inl rfl) (pe_slice sl_list (pe_fld (pv 0) rfl) (po_some (pe_fld (pv 0) rfl)) (po_some (pe_op op_add (pe_fld (pv 0) rfl) (pv 1)))))
      (pss_cons (ps_fldaug (pv 0) (pv 1) in_add)
      (pss_one (ps_ret (pv 2)))))), ?_⟩
    refine ⟨_, rfl, rd, dx, _, rfl, hp, no_Reader_2_take_number, rd, ca, pl, ns, n, rfl, hR, hc, hz, fun H1 mv fr => ?_⟩
    obtain ⟨⟨dx1, hp1⟩, kp⟩ := mv
    have hc1 : SqL K H1 ca (ns.map V.int) := by
      rcases hc with (h | ⟨o, h⟩) | h
      · exact .inl (.inl (kp _ _ h fun z => by rw [z, hp] at h; cases h))
      · exact .inl (.inr ⟨o, kp _ _ h fun z => by rw [z, hp] at h; cases h⟩)
      · exact .inr h
    refine ⟨_, rfl, rd, D.a_Reader, dx1, _, _, rfl, hp1, T.c_Reader, T.n_Reader_calls, lk_Reader_2_calls, ?_⟩
    refine ⟨_, rfl, rd, D.a_Reader, dx1, _, _, rfl, hp1, T.c_Reader, T.n_Reader_place, lk_Reader_2_place, _, rfl, ?_⟩
    refine ⟨_, rfl, rd, D.a_Reader, dx1, _, _, rfl, hp1, T.c_Reader, T.n_Reader_place, lk_Reader_2_place, _, rfl, _, _, rfl, rfl, _, rfl, ?_⟩
    refine ⟨ca, _, rfl, hc1, fun q nq => ?_⟩
    have s2 := Same.new (o := .lst (cutV (ns.map V.int) (some ((pl + 1 : Nat) : Int)) (some (((pl + 1 : Nat) : Int) + n)))) nq
    have hp2 := s2 _ _ hp1
    refine ⟨_, rfl, rd, D.a_Reader, dx1, _, _, rfl, hp2, T.c_Reader, T.n_Reader_place, lk_Reader_2_place, _, rfl, _, _, rfl, rfl, dx1, _, hp2, (by show 2 < 1000; decide), ?_⟩
    rw [pt_Reader_2_place]
    have nqr : q ≠ rd := fun z => by rw [z, hp1] at nq; cases nq
    have nq0 : H q = none := by
      cases e : H q with
      | none => rfl
      | some o => rw [kp _ _ e nqr] at nq; cases nq
    have en : ((pl + 1 : Nat) : Int) + n = ((pl + 1 + n.toNat : Nat) : Int) := by omega
    refine ⟨_, rfl, k _ q ⟨⟨dx1, ?_⟩, fun b o e hb => ?_⟩ nq0 ?_⟩
    · rw [upd_same, ← en]
    · rw [upd_ne hb]
      exact s2 _ _ (kp _ _ e hb)
    · rw [upd_ne nqr, upd_same, en]
      unfold cutV
      rw [HT.sIx_nat, HT.sIx_nat, List.length_map, Nat.min_eq_left hlen, Nat.min_eq_left (by omega), ← List.map_drop, ← List.map_take, hd2]
      congr 4
      omega
end
end Wk
end
section
set_option Elab.async false
set_option maxRecDepth 100000
set_option maxHeartbeats 4000000
set_option linter.unusedVariables false
namespace Wk
open PySem PySem.Spec PyProof.Rows L2 LamX NdefX
open Oc (C Axiom)
open Oc09 (Ladder Book)
def spAns (K : PySem.W.Frag) (tp : Addr) : Sp := fun vs H Q _ => ∃ (a : Addr) (ns : List Int), vs = [.ref a] ∧ H tp = some (.tbl #[]) ∧ SqL K H a (ns.map V.int) ∧ ns.length ≤ 2100 ∧ (∀ x ∈ ns, 0 ≤ x ∧ x ≤ 4294967295) ∧ PyOc09.answers_asked ns = true ∧
  ∀ (H' : Hp) (p : Addr), H' p = some (.lst ((PyOc09.answers ns).map V.int)) → Q (.ref p) H'
theorem step_check (b : Book) (ks : List Nat) : Oc09.step ⟨b⟩ (.check ks) = if isWay b.ladders ks = true then (⟨b⟩, ⟨(Oc09.flag (b.good ks) : Nat), [b.price ks] ++ ((b.never ++ b.keep).map fun a => Oc09.flag (b.under ks a))⟩) else (⟨b⟩, Oc09.ok (-1)) := by
  show (if ks.length ≠ b.ladders.length ∨ ((b.ladders.zip ks).any fun x => decide (x.1.levels ≤ x.2)) = true then (⟨b⟩, Oc09.ok (-1)) else (⟨b⟩, ⟨(Oc09.flag (b.good ks) : Nat), [b.price ks] ++ ((b.never ++ b.keep).map fun a => Oc09.flag (b.under ks a))⟩) : Oc09.House × Oc09.Ans) = _
  have e : (ks.length ≠ b.ladders.length ∨ ((b.ladders.zip ks).any fun x => decide (x.1.levels ≤ x.2)) = true) ↔ ¬ isWay b.ladders ks = true := by
    rw [isWay_iff]
    unfold IsWay Ladder.levels
    rw [List.any_eq_true]
    constructor
    · rintro (h | ⟨x, hx, h⟩) ⟨z1, z2⟩
      · exact h z1
      · have := z2 x hx
        have h := of_decide_eq_true h
        omega
    · intro h
      by_cases c : ks.length = b.ladders.length
      · refine .inr (Classical.byContradiction fun n => h ⟨c, fun x hx => ?_⟩)
        by_cases q : x.2 ≤ x.1.forms.length
        · exact q
        · exact absurd ⟨x, hx, decide_eq_true (by omega)⟩ n
      · exact .inl c
  by_cases c : isWay b.ladders ks = true
  · rw [if_pos c, if_neg (fun z => e.mp z c)]
  · rw [if_neg c, if_pos (e.mpr c)]
section
variable {P : Program} {w : World} {K : PySem.W.Frag} {mg : Str → Option Value} {base : Heap} {D : Dt}
theorem ok_result_of (T : Tx K mg D) (TB : TabB base mg D.cr D.tp) : FnOk P w K mg base (L2.CX P w) 10 D.f_result_of D.d_result_of ["store", "reader"] (spResultOf K D) := by
  refine T.F_result_of.okX sc_result_of (fun vs H Q E h => ?_) (fun cdv A outer s H vs Q E hr h => ?_)
  · obtain ⟨d, b, rd, ca, pl, ns, c, t, rfl, _⟩ := h
    rfl
  · obtain ⟨d, b, rd, ca, pl, ns, c, t, rfl, hP, k1, k2⟩ := h
    obtain ⟨dx, ha⟩ := hP.st.ob
    obtain ⟨dr, hrd⟩ := id hP.hrd
    refine ⟨_, (pss_cons (ps_set (i := 2) sc_result_of.nd rfl (.inl rfl) (pe_meth0 (pv 1) T.c_Reader T.M_Reader_take_number (ok_Reader_take_number T) (hr.mono (by decide)) T.b_Reader_take_number .nil pass0 ))
      (pss_cons (ps_if (pt_cmpR op_eq (pv 2) (pe_globI rfl T.m_BEGINS) (nomark _))
      (pss_one (ps_ret (pe_lst (pa_cons (pe_meth0 (pv 0) T.c_Store T.M_Store_begins (ok_Store_begins T) (hr.mono (by decide)) T.b_Store_begins .nil pass0 ) pa_nil))))
      (pss_nil))
      (pss_cons (ps_if (pt_cmpR op_eq (pv 2) (pe_globI rfl T.m_LINE) (nomark _))
      (pss_cons (ps_set (i := 3) sc_result_of.nd rfl (.inl rfl) (pe_meth0 (pv 1) T.c_Reader T.M_Reader_take_number (ok_Reader_take_number T) (hr.mono (by decide)) T.b_Reader_take_number .nil pass0 ))
      (pss_one (ps_ret (pe_lst (pa_cons (pe_meth (pv 0) T.c_Store T.M_Store_line (ok_Store_line T) (hr.mono (by decide)) T.b_Store_line .nil (passes_call (takes_of rfl rfl rfl rfl) (fun _ _ _ _ z => z)) (pa_cons (pv 3) (pa_cons (pe_meth0 (pv 1) T.c_Reader T.M_Reader_take_list (ok_Reader_take_list T) (hr.mono (by decide)) T.b_Reader_take_list .nil pass0 ) pa_nil))) pa_nil)))))
      (pss_nil))
      (pss_cons (ps_if (pt_cmpR op_eq (pv 2) (pe_globI rfl T.m_LESS) (nomark _))
      (pss_cons (ps_set (i := 4) sc_result_of.nd rfl (.inl rfl) (pe_meth0 (pv 1) T.c_Reader T.M_Reader_take_number (ok_Reader_take_number T) (hr.mono (by decide)) T.b_Reader_take_number .nil pass0 ))
      (pss_cons (ps_set (i := 3) sc_result_of.nd rfl (.inl rfl) (pe_meth0 (pv 1) T.c_Reader T.M_Reader_take_number (ok_Reader_take_number T) (hr.mono (by decide)) T.b_Reader_take_number .nil pass0 ))
      (pss_one (ps_ret (pe_lst (pa_cons (pe_meth (pv 0) T.c_Store T.M_Store_less (ok_Store_less T) (hr.mono (by decide)) T.b_Store_less .nil (passes_call (takes_of rfl rfl rfl rfl) (fun _ _ _ _ z => z)) (pa_cons (pv 4) (pa_cons (pv 3) (pa_cons (pe_meth0 (pv 1) T.c_Reader T.M_Reader_take_list (ok_Reader_take_list T) (hr.mono (by decide)) T.b_Reader_take_list .nil pass0 ) pa_nil)))) pa_nil))))))
      (pss_nil))
      (pss_cons (ps_if (pt_cmpR op_eq (pv 2) (pe_globI rfl T.m_NEVER) (nomark _))
      (pss_one (ps_ret (pe_lst (pa_cons (pe_meth (pv 0) T.c_Store T.M_Store_never (ok_Store_never T) (hr.mono (by decide)) T.b_Store_never .nil (passes_call (takes_of rfl rfl rfl rfl) (fun _ _ _ _ z => z)) (pa_cons (pe_meth0 (pv 1) T.c_Reader T.M_Reader_take_list (ok_Reader_take_list T) (hr.mono (by decide)) T.b_Reader_take_list .nil pass0 ) pa_nil)) pa_nil))))
      (pss_nil))
      (pss_cons (ps_if (pt_cmpR op_eq (pv 2) (pe_globI rfl T.m_KEEP) (nomark _))
      (pss_one (ps_ret (pe_lst (pa_cons (pe_meth (pv 0) T.c_Store T.M_Store_keep (ok_Store_keep T) (hr.mono (by decide)) T.b_Store_keep .nil (passes_call (takes_of rfl rfl rfl rfl) (fun _ _ _ _ z => z)) (pa_cons (pe_meth0 (pv 1) T.c_Reader T.M_Reader_take_list (ok_Reader_take_list T) (hr.mono (by decide)) T.b_Reader_take_list .nil pass0 ) pa_nil)) pa_nil))))
      (pss_nil))
      (pss_cons (ps_if (pt_cmpR op_eq (pv 2) (pe_globI rfl T.m_MEND) (nomark _))
      (pss_one (ps_ret (pe_meth0 (pv 0) T.c_Store T.M_Store_mend (ok_Store_mend T TB) (hr.mono (by decide)) T.b_Store_mend .nil (passes_call (takes_of rfl rfl rfl rfl) (fun _ _ _ _ z => z)) )))
      (pss_nil))
      (pss_cons (ps_if (pt_cmpR op_eq (pv 2) (pe_globI rfl T.m_LEAST) (nomark _))
      (pss_one (ps_ret (pe_meth0 (pv 0) T.c_Store T.M_Store_least (ok_Store_least T) (hr.mono (by decide)) T.b_Store_least .nil pass0 )))
      (pss_nil))
      (pss_cons (ps_if (pt_cmpR op_eq (pv 2) (pe_globI rfl T.m_CHECK) (nomark _))
      (pss_one (ps_ret (pe_meth (pv 0) T.c_Store T.M_Store_check (ok_Store_check T) (hr.mono (by decide)) T.b_Store_check .nil (passes_call (takes_of rfl rfl rfl rfl) (fun _ _ _ _ z => z)) (pa_cons (pe_meth0 (pv 1) T.c_Reader T.M_Reader_take_list (ok_Reader_take_list T) (hr.mono (by decide)) T.b_Reader_take_list .nil pass0 ) pa_nil))))
      (pss_nil))
      (pss_cons (ps_if (pt_cmpR op_eq (pv 2) (pe_globI rfl T.m_DONE) (nomark _))
      (pss_one (ps_ret (pe_meth0 (pv 0) T.c_Store T.M_Store_done (ok_Store_done T TB) (hr.mono (by decide)) T.b_Store_done .nil (passes_call (takes_of rfl rfl rfl rfl) (fun _ _ _ _ z => z)) )))
      (pss_nil))
      (pss_one (ps_never)))))))))))), ?_⟩
    have lst : ∀ {n : Int} {r : List Int} {H' : Hp} {q : Addr}, Oc09Neutral.row32 (r.take n.toNat) 30 = true → H' q = some (.lst ((r.take n.toNat).map V.int)) → SqL K H' q (iv (Oc09Neutral.nats (r.take n.toNat))) ∧ H' q = some (.lst (iv (Oc09Neutral.nats (r.take n.toNat)))) ∧ (Oc09Neutral.nats (r.take n.toNat)).length ≤ 1000 := fun {n r H' q} h6 hq => by
      have e : H' q = some (.lst (iv (Oc09Neutral.nats (r.take n.toNat)))) := by rw [hq, iv_nats (row_facts h6).2]
      refine ⟨SqL.of e, e, ?_⟩
      unfold Oc09Neutral.nats
      have := (row_facts h6).1
      rw [List.length_map]
      omega
    have hat := hP.at_
    have hask := hP.ask
    generalize hg : ns.drop pl = l at hat
    cases hat with
    | bare hp =>
      rename_i p
      refine ⟨_, rfl, rd, dr, _, rfl, hrd, no_Reader_2_take_number, rd, ca, pl, ns, p, rfl, hP.hrd, hP.cal.sq, (pos_at hg).1, fun H1 m1 f1 => ?_⟩
      have hd1 := (pos_at hg).2
      have hS1 := m1.sta hP.hrd hP.ne hP.st
      have hT1 := m1.tab hP.hrd hP.tab
      obtain ⟨dx1, ha1⟩ := hS1.ob
      obtain ⟨dr1, hrd1⟩ := m1.1
      rcases hp with rfl | rfl | rfl | rfl
      · refine ⟨_, rfl, rfl, _, rfl, if_true_of rfl ?_⟩
        refine ⟨_, rfl, d.st, dx1, _, rfl, ha1, no_Store_3_begins, d, b, rfl, hS1, fun H' d' st kp => ⟨by show 1 ≤ sizeLine; decide, fun q nq => ?_⟩⟩
        have F : Fin D H d rd ca ns t (Oc09Neutral.step ⟨b⟩ [[0]]).1.book H' d' := Fin.of hP.hrd m1 hP.ne hS1 st bk_init kp.g (kp.tab hS1 hT1) hd1
        exact k1 _ q d' (F.new nq) (F.fresh nq) upd_same
      · iterate 5 refine ⟨_, rfl, rfl, _, rfl, if_false_of rfl ?_⟩
        refine ⟨_, rfl, rfl, _, rfl, if_true_of rfl ?_⟩
        have es : Oc09Neutral.step ⟨b⟩ [[5]] = (⟨b⟩, Oc09Neutral.out (match b.mend with
          | none => Oc09.ok (-6)
          | some k => ⟨(b.price k : Nat), k⟩)) := rfl
        rw [es] at k1 k2
        refine ⟨_, rfl, d.st, dx1, _, rfl, ha1, no_Store_3_mend, d, b, rfl, hS1, hP.bk, hT1, fun e H' s => ?_, fun k e H' p g np hp => ?_⟩
        · exact (k2 H' d (Fin.of hP.hrd m1 hP.ne hS1 (hS1.same s) hP.bk (KpG.same s) (hT1.ext s) hd1) fun a z => m1.back a (s.free z)).2.2.2.1 (by rw [e]; rfl)
        · refine k1 H' p d (Fin.of hP.hrd m1 hP.ne hS1 (hS1.ext g.ext) hP.bk (KpG.grow g) g.tab hd1) (Fr.none (m1.back p np)) ?_
          rw [e]
          show _ = some (HO.lst ((Oc09Neutral.out ⟨(b.price k : Nat), k⟩).map V.int))
          rw [out_iv]
          exact hp
      · iterate 6 refine ⟨_, rfl, rfl, _, rfl, if_false_of rfl ?_⟩
        refine ⟨_, rfl, rfl, _, rfl, if_true_of rfl ?_⟩
        have es : Oc09Neutral.step ⟨b⟩ [[6]] = (⟨b⟩, Oc09Neutral.out ⟨(b.least.length : Nat), b.least.flatMap fun k => b.price k :: k⟩) := rfl
        rw [es] at k1 k2
        refine ⟨_, rfl, d.st, dx1, _, rfl, ha1, no_Store_3_least, d, b, rfl, hS1, hP.bk, fun H' p s np hp => ?_⟩
        refine k1 H' p d (Fin.of hP.hrd m1 hP.ne hS1 (hS1.same s) hP.bk (KpG.same s) (hT1.ext s) hd1) (Fr.none (m1.back p np)) ?_
        rw [out_iv]
        exact hp
      · iterate 8 refine ⟨_, rfl, rfl, _, rfl, if_false_of rfl ?_⟩
        refine ⟨_, rfl, rfl, _, rfl, if_true_of rfl ?_⟩
        have es0 : Oc09.step ⟨b⟩ .done = match b.mend with
          | none => (⟨b⟩, Oc09.ok (-6))
          | some k => (⟨doneBook b k⟩, ⟨(b.price k : Nat), [(left b.ladders k).length]⟩) := rfl
        have es : Oc09Neutral.step ⟨b⟩ [[8]] = ((Oc09.step ⟨b⟩ .done).1, Oc09Neutral.out (Oc09.step ⟨b⟩ .done).2) := rfl
        rw [es, es0] at k1 k2
        refine ⟨_, rfl, d.st, dx1, _, rfl, ha1, no_Store_3_done, d, b, rfl, hS1, hP.bk, hT1, fun e H' s => ?_, fun k e H' p d' st bk kp tab np _ hp => ?_⟩
        · rw [e] at k2
          exact (k2 H' d (Fin.of hP.hrd m1 hP.ne hS1 (hS1.same s) hP.bk (KpG.same s) (hT1.ext s) hd1) fun a z => m1.back a (s.free z)).2.2.2.1 rfl
        · rw [e] at k1
          refine k1 H' p d' (Fin.of hP.hrd m1 hP.ne hS1 st bk kp tab hd1) (Fr.none (m1.back p np)) ?_
          show _ = some (HO.lst ((Oc09Neutral.out ⟨(b.price k : Nat), [(left b.ladders k).length]⟩).map V.int))
          rw [out_iv]
          exact hp
    | line h0 h1 =>
      rename_i w n r
      refine ⟨_, rfl, rd, dr, _, rfl, hrd, no_Reader_2_take_number, rd, ca, pl, ns, 1, rfl, hP.hrd, hP.cal.sq, (pos_at hg).1, fun H1 m1 f1 => ?_⟩
      have hd1 := (pos_at hg).2
      have hS1 := m1.sta hP.hrd hP.ne hP.st
      obtain ⟨dr1, hrd1⟩ := id m1.1
      have hc1 := m1.seq hP.hrd hP.cal.sq
      refine ⟨_, rfl, rfl, _, rfl, if_false_of rfl ?_⟩
      refine ⟨_, rfl, rfl, _, rfl, if_true_of rfl ?_⟩
      refine ⟨_, rfl, rd, dr1, _, rfl, hrd1, no_Reader_2_take_number, rd, ca, pl + 1, ns, w, rfl, m1.1, hc1, (pos_at hd1).1, fun H2 m2 f2 => ?_⟩
      have hd2 := (pos_at hd1).2
      have hS2 := m2.sta m1.1 hP.ne hS1
      obtain ⟨dx2, ha2⟩ := hS2.ob
      obtain ⟨dr2, hrd2⟩ := id m2.1
      have hc2 := m2.seq m1.1 hc1
      refine ⟨_, rfl, d.st, dx2, _, rfl, ha2, no_Store_3_line, _, rfl, _, rfl, rd, dr2, _, rfl, hrd2, no_Reader_2_take_list, rd, ca, pl + 1 + 1, ns, n, r, rfl, m2.1, hc2, hd2, h0, h1, fun H3 q m3 nq hq => ?_⟩
      rw [Oc09Neutral.asked1, Bool.and_eq_true] at hask
      obtain ⟨l1, l2, l3⟩ := lst hask.2 hq
      have m13 := (m1.trans m2).trans m3
      have hS3 := m3.sta m2.1 hP.ne hS2
      refine ⟨d, b, q, _, w.toNat, by rw [whole_facts hask.1]; rfl, hS3, hP.bk, l1, l3, ?_⟩
      exact outc_of rfl hP m13 (by rw [← List.drop_drop, (pos_at hd2).2]) (fun z H' k => ⟨by show 1 ≤ sizeLine; decide, fun q nq => k q nq⟩) k1 k2
    | less h0 h1 =>
      rename_i i w n r
      refine ⟨_, rfl, rd, dr, _, rfl, hrd, no_Reader_2_take_number, rd, ca, pl, ns, 2, rfl, hP.hrd, hP.cal.sq, (pos_at hg).1, fun H1 m1 f1 => ?_⟩
      have hd1 := (pos_at hg).2
      have hS1 := m1.sta hP.hrd hP.ne hP.st
      obtain ⟨dr1, hrd1⟩ := id m1.1
      have hc1 := m1.seq hP.hrd hP.cal.sq
      iterate 2 refine ⟨_, rfl, rfl, _, rfl, if_false_of rfl ?_⟩
      refine ⟨_, rfl, rfl, _, rfl, if_true_of rfl ?_⟩
      refine ⟨_, rfl, rd, dr1, _, rfl, hrd1, no_Reader_2_take_number, rd, ca, pl + 1, ns, i, rfl, m1.1, hc1, (pos_at hd1).1, fun H2 m2 f2 => ?_⟩
      have hd2 := (pos_at hd1).2
      have hS2 := m2.sta m1.1 hP.ne hS1
      obtain ⟨dr2, hrd2⟩ := id m2.1
      have hc2 := m2.seq m1.1 hc1
      refine ⟨_, rfl, rd, dr2, _, rfl, hrd2, no_Reader_2_take_number, rd, ca, pl + 1 + 1, ns, w, rfl, m2.1, hc2, (pos_at hd2).1, fun H3 m3 f3 => ?_⟩
      have hd3 := (pos_at hd2).2
      have hS3 := m3.sta m2.1 hP.ne hS2
      obtain ⟨dx3, ha3⟩ := hS3.ob
      obtain ⟨dr3, hrd3⟩ := id m3.1
      have hc3 := m3.seq m2.1 hc2
      refine ⟨_, rfl, d.st, dx3, _, rfl, ha3, no_Store_3_less, _, rfl, _, rfl, _, rfl, rd, dr3, _, rfl, hrd3, no_Reader_2_take_list, rd, ca, pl + 1 + 1 + 1, ns, n, r, rfl, m3.1, hc3, hd3, h0, h1, fun H4 q m4 nq hq => ?_⟩
      rw [Oc09Neutral.asked1, Bool.and_eq_true, Bool.and_eq_true] at hask
      obtain ⟨l1, l2, l3⟩ := lst hask.2.2 hq
      have m14 := ((m1.trans m2).trans m3).trans m4
      have hS4 := m4.sta m3.1 hP.ne hS3
      refine ⟨d, b, q, _, i.toNat, w.toNat, by rw [whole_facts hask.1, whole_facts hask.2.1]; rfl, hS4, hP.bk, l1, l3, ?_⟩
      exact outc_of rfl hP m14 (by rw [← List.drop_drop, (pos_at hd3).2]) (fun z H' k => ⟨by show 1 ≤ sizeLine; decide, fun q nq => k q nq⟩) k1 k2
    | one hp h0 h1 =>
      rename_i p n r
      refine ⟨_, rfl, rd, dr, _, rfl, hrd, no_Reader_2_take_number, rd, ca, pl, ns, p, rfl, hP.hrd, hP.cal.sq, (pos_at hg).1, fun H1 m1 f1 => ?_⟩
      have hd1 := (pos_at hg).2
      have hS1 := m1.sta hP.hrd hP.ne hP.st
      have hT1 := m1.tab hP.hrd hP.tab
      obtain ⟨dx1, ha1⟩ := hS1.ob
      obtain ⟨dr1, hrd1⟩ := id m1.1
      have hc1 := m1.seq hP.hrd hP.cal.sq
      have hd2 : ns.drop (pl + 1 + 1 + n.toNat) = r.drop n.toNat := by rw [← List.drop_drop, (pos_at hd1).2]
      rcases hp with rfl | rfl | rfl
      · iterate 3 refine ⟨_, rfl, rfl, _, rfl, if_false_of rfl ?_⟩
        refine ⟨_, rfl, rfl, _, rfl, if_true_of rfl ?_⟩
        refine ⟨_, rfl, d.st, dx1, _, rfl, ha1, no_Store_3_never, _, rfl, rd, dr1, _, rfl, hrd1, no_Reader_2_take_list, rd, ca, pl + 1, ns, n, r, rfl, m1.1, hc1, hd1, h0, h1, fun H2 q m2 nq hq => ?_⟩
        obtain ⟨l1, l2, l3⟩ := lst hask hq
        refine ⟨d, b, q, _, rfl, m2.sta m1.1 hP.ne hS1, hP.bk, l1, l3, ?_⟩
        exact outc_of rfl hP (m1.trans m2) hd2 (fun z H' k => ⟨by show 1 ≤ sizeLine; decide, fun q nq => k q nq⟩) k1 k2
      · iterate 4 refine ⟨_, rfl, rfl, _, rfl, if_false_of rfl ?_⟩
        refine ⟨_, rfl, rfl, _, rfl, if_true_of rfl ?_⟩
        refine ⟨_, rfl, d.st, dx1, _, rfl, ha1, no_Store_3_keep, _, rfl, rd, dr1, _, rfl, hrd1, no_Reader_2_take_list, rd, ca, pl + 1, ns, n, r, rfl, m1.1, hc1, hd1, h0, h1, fun H2 q m2 nq hq => ?_⟩
        obtain ⟨l1, l2, l3⟩ := lst hask hq
        refine ⟨d, b, q, _, rfl, m2.sta m1.1 hP.ne hS1, hP.bk, l1, l3, ?_⟩
        exact outc_of rfl hP (m1.trans m2) hd2 (fun z H' k => ⟨by show 1 ≤ sizeLine; decide, fun q nq => k q nq⟩) k1 k2
      · iterate 7 refine ⟨_, rfl, rfl, _, rfl, if_false_of rfl ?_⟩
        refine ⟨_, rfl, rfl, _, rfl, if_true_of rfl ?_⟩
        refine ⟨_, rfl, d.st, dx1, _, rfl, ha1, no_Store_3_check, _, rfl, rd, dr1, _, rfl, hrd1, no_Reader_2_take_list, rd, ca, pl + 1, ns, n, r, rfl, m1.1, hc1, hd1, h0, h1, fun H2 q m2 nq hq => ?_⟩
        obtain ⟨l1, l2, l3⟩ := lst hask hq
        have hS2 := m2.sta m1.1 hP.ne hS1
        have hT2 := m2.tab m1.1 hT1
        have m12 := m1.trans m2
        have es : Oc09Neutral.step ⟨b⟩ [[7], r.take n.toNat] = ((Oc09.step ⟨b⟩ (.check (Oc09Neutral.nats (r.take n.toNat)))).1, Oc09Neutral.out (Oc09.step ⟨b⟩ (.check (Oc09Neutral.nats (r.take n.toNat)))).2) := rfl
        rw [es, step_check] at k1 k2
        refine ⟨d, b, q, _, rfl, hS2, hP.bk, l2, fun e H' s => ?_, fun e H' p s np hp => ?_⟩
        · rw [if_neg (by rw [e]; simp)] at k2
          exact (k2 H' d (Fin.of hP.hrd m12 hP.ne hS2 (hS2.same s) hP.bk (KpG.same s) (hT2.ext s) hd2) fun a z => m12.back a (s.free z)).1 rfl
        · rw [if_pos e] at k1
          refine k1 H' p d (Fin.of hP.hrd m12 hP.ne hS2 (hS2.same s) hP.bk (KpG.same s) (hT2.ext s) hd2) (Fr.none (m12.back p np)) ?_
          rw [out_iv]
          exact hp
theorem ok_answer_of (T : Tx K mg D) (TB : TabB base mg D.cr D.tp) : FnOk P w K mg base CX0 11 D.f_answer_of D.d_answer_of ["store", "reader"] (spAnswerOf K D) := by
  refine T.F_answer_of.ok sc_answer_of (fun vs H Q E h => ?_) (fun cdv A outer s H vs Q E hr h => ?_)
  · obtain ⟨d, b, rd, ca, pl, ns, c, t, rfl, _⟩ := h
    rfl
  · obtain ⟨d, b, rd, ca, pl, ns, c, t, rfl, hP, k⟩ := h
    refine ⟨_, (pss_one (ps_try_many (Wout := fun _ _ _ _ => False) rfl rfl takes_none5 (fun W pn xe tk _ =>
      (pss_one (ps_ret (pe_callS (ok_result_of T TB) (hr.mono (by decide)) (by rfl) T.m_result_of T.F_result_of.kp T.b_result_of (fun σ => passAt tk σ) (pa_cons (pv 0) (pa_cons (pv 1) pa_nil))))))
      (.cons ⟨rfl, by decide, .inl T.m_WrongNumbers⟩ (fun _ _ _ _ _ _ _ =>
      (pss_one (ps_ret (pe_lst (pa_cons (pe_un un_neg (pe_int)) pa_nil))))) (.cons ⟨rfl, by decide, .inl T.m_NoSuchAxiom⟩ (fun _ _ _ _ _ _ _ =>
      (pss_one (ps_ret (pe_lst (pa_cons (pe_un un_neg (pe_int)) pa_nil))))) (.cons ⟨rfl, by decide, .inl T.m_NotWeaker⟩ (fun _ _ _ _ _ _ _ =>
      (pss_one (ps_ret (pe_lst (pa_cons (pe_un un_neg (pe_int)) pa_nil))))) (.cons ⟨rfl, by decide, .inl T.m_NoRepair⟩ (fun _ _ _ _ _ _ _ =>
      (pss_one (ps_ret (pe_lst (pa_cons (pe_un un_neg (pe_int)) pa_nil))))) (.cons ⟨rfl, by decide, .inl T.m_NoRoom⟩ (fun _ _ _ _ _ _ _ =>
      (pss_one (ps_ret (pe_lst (pa_cons (pe_un un_neg (pe_int)) pa_nil))))) .nil))))))), ?_⟩
    have neg : ∀ {v : Int} {H' : Hp} {d' : Sd}, Fin D H d rd ca ns t (Oc09Neutral.step ⟨b⟩ c).1.book H' d' → (Oc09Neutral.step ⟨b⟩ c).2 = [v] → ∀ q, H' q = none → Q (.ref q) (upd H' q (.lst [.int v])) := fun {v H' d'} F e q nq =>
      k _ q d' (F.new nq) (F.fresh nq) (by rw [upd_same, e]; rfl)
    refine ⟨_, rfl, _, rfl, d, b, rd, ca, pl, ns, c, t, rfl, hP, k, fun H' d' F bk => ⟨fun e => ?_, fun e => ?_, fun e => ?_, fun e => ?_, fun e => ?_⟩⟩
    · refine ⟨true, T.z_WrongNumbers_WrongNumbers, fun _ a na => ⟨_, rfl, by show 1 ≤ sizeLine; decide, fun q nq => neg F e q nq⟩, fun z => by cases z⟩
    · refine ⟨false, T.z_NoSuchAxiom_WrongNumbers, fun z => (by cases z), fun _ => ⟨true, T.z_NoSuchAxiom_NoSuchAxiom, fun _ a na => ⟨_, rfl, by show 1 ≤ sizeLine; decide, fun q nq => neg F e q nq⟩, fun z => by cases z⟩⟩
    · refine ⟨false, T.z_NotWeaker_WrongNumbers, fun z => (by cases z), fun _ => ⟨false, T.z_NotWeaker_NoSuchAxiom, fun z => (by cases z), fun _ => ⟨true, T.z_NotWeaker_NotWeaker, fun _ a na => ⟨_, rfl, by show 1 ≤ sizeLine; decide, fun q nq => neg F e q nq⟩, fun z => by cases z⟩⟩⟩
    · refine ⟨false, T.z_NoRepair_WrongNumbers, fun z => (by cases z), fun _ => ⟨false, T.z_NoRepair_NoSuchAxiom, fun z => (by cases z), fun _ => ⟨false, T.z_NoRepair_NotWeaker, fun z => (by cases z), fun _ => ⟨true, T.z_NoRepair_NoRepair, fun _ a na => ⟨_, rfl, by show 1 ≤ sizeLine; decide, fun q nq => neg F e q nq⟩, fun z => by cases z⟩⟩⟩⟩
    · refine ⟨false, T.z_NoRoom_WrongNumbers, fun z => (by cases z), fun _ => ⟨false, T.z_NoRoom_NoSuchAxiom, fun z => (by cases z), fun _ => ⟨false, T.z_NoRoom_NotWeaker, fun z => (by cases z), fun _ => ⟨false, T.z_NoRoom_NoRepair, fun z => (by cases z), fun _ => ⟨true, T.z_NoRoom_NoRoom, fun _ a na => ⟨_, rfl, by show 1 ≤ sizeLine; decide, fun q nq => neg F e q nq⟩, fun z => by cases z⟩⟩⟩⟩⟩
theorem ok_answers (T : Tx K mg D) (TB : TabB base mg D.cr D.tp) : FnOk P w K mg base CX0 12 D.f_answers D.d_answers ["calls"] (spAns K D.tp) := by
  refine T.F_answers.ok sc_answers (fun vs H Q E h => ?_) (fun cdv A outer s H vs Q E hr h => ?_)
  · obtain ⟨a, ns, rfl, _⟩ := h
    rfl
  · obtain ⟨ca, ns, rfl, htp, hca, hl, hb, hask, k⟩ := h
    obtain ⟨raw, hraw, hr60, hall, hlen, heq⟩ := asked_facts hask
    refine ⟨_, (pss_cons (ps_set (i := 1) sc_answers.nd rfl (.inl rfl) (pe_make0 T.M_Store (ok_Store_init T) (hr.mono (by decide)) (by rfl) T.m_Store T.b_Store_init .nil pass0 ))
      (pss_cons (ps_set (i := 2) sc_answers.nd rfl (.inl rfl) (pe_make T.M_Reader (ok_Reader_init T) (hr.mono (by decide)) (by rfl) T.m_Reader T.b_Reader_init .nil pass0 (pa_cons (pv 0) pa_nil)))
      (pss_cons (ps_set (i := 3) sc_answers.nd rfl (.inl rfl) (pe_lst (pa_nil)))
      (pss_cons (ps_while PassesOwn.never (pt_not (pt_val (pe_meth0 (pv 2) T.c_Reader T.M_Reader_at_end (ok_Reader_at_end T) (hr.mono (by decide)) T.b_Reader_at_end .nil pass0 )))
      (pss_cons (ps_set (i := 4) sc_answers.nd rfl (.inl rfl) (pe_call (ok_answer_of T TB) (hr.mono (by decide)) (by rfl) T.m_answer_of T.F_answer_of.kp T.b_answer_of .nil pass0 (pa_cons (pv 1) (pa_cons (pv 2) pa_nil))))
      (pss_cons (ps_expr (pe_bm PySem.F.plainAttrs_list PySem.F.slot_list_append PySem.F.type_list_append mt_append (pv 3) (pa_cons (pe_len (by rfl) T.b_len (pv 4)) pa_nil)))
      (pss_one (ps_expr (pe_bm PySem.F.plainAttrs_list PySem.F.slot_list_extend PySem.F.type_list_extend mt_extend (pv 3) (pa_cons (pv 4) pa_nil)))))))
      (pss_one (ps_ret (pv 3))))))), ?_⟩
    -- store = Store()
    intro st sx nst nsx nex
    have s0 : Same H (upd (upd H sx (.own st)) st (.ins D.a_Store sx [])) := fun b o e => by
      rw [upd_ne (ne_of_none e nst), upd_ne (ne_of_none e nsx)]
      exact e
    refine ⟨st, sx, rfl, upd_same, fun H1 d hdst hS fresh keep => ⟨rfl, ?_⟩⟩
    have s1 : Same H H1 := fun b o e => keep b o (s0 b o e) (ne_of_none e nst)
    have fr1 : ∀ c ∈ d.own, H c = none := fun c hc => s0.free (fresh c hc)
    obtain ⟨dxs, hst⟩ := hS.ob
    rw [hdst] at hst
    -- reader = Reader(calls)
    refine ⟨_, rfl, fun rd rx nrd nrx nex2 => ?_⟩
    have s2 : Same H1 (upd (upd H1 rx (.own rd)) rd (.ins D.a_Reader rx [])) := fun b o e => by
      rw [upd_ne (ne_of_none e nrd), upd_ne (ne_of_none e nrx)]
      exact e
    refine ⟨rd, rx, ca, rfl, upd_same, fun H2 hR keep2 => ⟨rfl, ?_⟩⟩
    have s3 : Same H1 H2 := fun b o e => keep2 b o (s2 b o e) (ne_of_none e nrd)
    have nsr : st ≠ rd := ne_of_none hst nrd
    have nrd0 : H rd = none := s1.free nrd
    -- told = []
    refine ⟨by show 0 ≤ sizeLine; decide, fun tl ntl => ?_⟩
    have s4 := Same.new (o := .lst []) ntl
    have s04 : Same H (upd H2 tl (.lst [])) := (s1.trans s3).trans s4
    have ntl0 : H tl = none := (s1.trans s3).free ntl
    have hS4 := (hS.same s3).same s4
    obtain ⟨dxr, hrd⟩ := hR
    have hR4 : RdAt D (upd H2 tl (.lst [])) rd ca 0 := ⟨dxr, s4 _ _ hrd⟩
    have hst4 := s4 _ _ (s3 _ _ hst)
    refine ⟨fun m σ H' => ∃ (d : Sd) (b : Book) (pl f : Nat) (raw : List (List (List Int))) (out : List Int) (v : Option V), σ = [some (.ref ca), some (.ref st), some (.ref rd), some (.ref tl), v] ∧ (∀ b o, H b = some o → (∀ ps, o ≠ .tbl ps) → H' b = some o) ∧ TabS H' D.tp qLam ∧ StA D H' d b ∧ d.st = st ∧ (∀ c ∈ d.own, (∀ o, H c = some o → ∃ ps, o = .tbl ps) ∧ c ≠ tl) ∧
      H' tl = some (.lst (out.map V.int)) ∧ RdAt D H' rd ca pl ∧ Bk b ∧ PyFlat.calls PyOc09.shape f (ns.drop pl) = some raw ∧ (raw.map PyOc09.whole).all Oc09Neutral.asked1 = true ∧ out ++ PyFlat.told (PyFlat.played Oc09Neutral.step ⟨b⟩ (raw.map PyOc09.whole)) = PyOc09.answers ns ∧ m = raw.length,
      ⟨_, d, ⟨[], [], []⟩, 0, ns.length, raw, [], none, rfl, fun b o e _ => s04 b o e, TabS.nil (s04 _ _ htp), hS4, hdst, fun c hc => ⟨fun o e => (by rw [fr1 c hc] at e; cases e), fun z => ?_⟩, upd_same, hR4, bk_init, hraw, hall, heq.symm, rfl⟩, ?_⟩
    · subst z
      obtain ⟨xs, e⟩ := hS.tracked _ hc
      rw [s3 _ _ e] at ntl
      cases ntl
    · rintro m σ H5 ⟨d, b, pl, f, raw, out, v, rfl, s5, hT5, hS5, hd5, hfr, htl, hR5, hB, hraw, hall, heq, rfl⟩
      obtain ⟨dr5, hrd5⟩ := id hR5
      obtain ⟨ds5, hst5⟩ := hS5.ob
      have hca5 : SqL K H5 ca (ns.map V.int) := by
        rcases hca with (h | ⟨o, h⟩) | h
        · exact .inl (.inl (s5 _ _ h fun _ z => by cases z))
        · exact .inl (.inr ⟨o, s5 _ _ h fun _ z => by cases z⟩)
        · exact .inr h
      refine ⟨_, rfl, rd, dr5, _, rfl, hrd5, no_Reader_2_at_end, rd, ca, pl, ns, rfl, hR5, hca5, ?_⟩
      refine ⟨_, rfl, ?_⟩
      rcases calls_split hraw with ⟨hnil, rfl⟩ | ⟨c, t, raw', f', hc, rfl, hraw'⟩
      · have hle : ns.length ≤ pl := List.drop_eq_nil_iff.mp hnil
        refine if_false_of (by simp [hle]) ?_
        refine ⟨_, rfl, k H5 tl ?_⟩
        have h2 : out ++ [] = PyOc09.answers ns := heq
        rw [List.append_nil] at h2
        rw [← h2]
        exact htl
      · have hlt : ¬ ns.length ≤ pl := fun z => by
          rw [List.drop_eq_nil_iff.mpr z] at hc
          cases hc
        refine if_true_of (by simp; omega) ?_
        refine wN ?_
        rw [List.map_cons, whole_at hc] at hall heq
        rw [List.all_cons, Bool.and_eq_true] at hall
        have cal : Cal K H5 ca ns (Bad d rd) := by
          rcases hca with h | h
          · refine .inl ⟨?_, fun z => ?_⟩
            · rcases h with h | ⟨o, h⟩
              · exact .inl (s5 _ _ h fun _ z => by cases z)
              · exact .inr ⟨o, s5 _ _ h fun _ z => by cases z⟩
            · have tr : ∃ o, H ca = some o ∧ ∀ ps, o ≠ .tbl ps := by
                rcases h with h | ⟨o, h⟩
                · exact ⟨_, h, fun _ z => by cases z⟩
                · exact ⟨_, h, fun _ z => by cases z⟩
              obtain ⟨o, ho, hno⟩ := tr
              rcases z with z | z | z
              · rw [z, nrd0] at ho; cases ho
              · rw [z, hd5, nst] at ho; cases ho
              · obtain ⟨ps, e⟩ := (hfr ca z).1 o ho; exact hno ps e
          · exact .inr h
        refine ⟨_, rfl, _, rfl, d, b, rd, ca, pl, ns, c, t, by rw [hd5]; rfl, ⟨hS5, hB, hT5, hR5, by rw [hd5]; exact nsr.symm, cal, hc, hall.1⟩, ?_⟩
        intro H6 q d' F nq hq
        obtain ⟨hS6, hB6, hd6, hT6, ⟨pl', hR6, ht⟩, keep6, hown⟩ := F
        have ntb : ¬ Bad d rd tl := fun z => by
          rcases z with z | z | z
          · rw [z, hrd5] at htl; cases htl
          · rw [z, hst5] at htl; cases htl
          · exact (hfr tl z).2 rfl
        have htl6 := keep6 _ _ htl ntb (fun _ z => by cases z)
        have nqt : q ≠ tl := fun z => by
          rcases nq _ (by rw [z]; exact htl) with y | ⟨ps, y⟩
          · exact ntb (z ▸ y)
          · cases y
        have s6 : ∀ b o, H b = some o → (∀ ps, o ≠ .tbl ps) → H6 b = some o := fun b o e n => keep6 b o (s5 b o e n) (fun z => by
          rcases z with z | z | z
          · rw [z, nrd0] at e; cases e
          · rw [z, hd5, nst] at e; cases e
          · obtain ⟨ps, y⟩ := (hfr b z).1 o e; exact n ps y) n
        rw [played_cons] at heq
        have lall := congrArg List.length heq
        rw [List.length_append, List.length_cons, List.length_append] at lall
        have big : (10000000 : Nat) < sizeLine := by decide
        refine ⟨_, rfl, .inl ⟨rfl, _, SqL.of htl6⟩, _, rfl, r_lenL (SqL.of hq) ?_⟩
        refine ⟨tl, _, _, rfl, rfl, htl6, by rw [List.length_map]; omega, ?_⟩
        have hq7 : (upd H6 tl (.lst (out.map V.int ++ [.int ((((Oc09Neutral.step ⟨b⟩ c).2.map V.int).length : Nat) : Int)]))) q = some (.lst ((Oc09Neutral.step ⟨b⟩ c).2.map V.int)) := by rw [upd_ne nqt]; exact hq
        refine ⟨_, rfl, .inl ⟨rfl, _, SqL.of upd_same⟩, _, rfl, tl, q, _, _, rfl, rfl, upd_same, hq7, ?_, ?_⟩
        · rw [List.length_append, List.length_map, List.length_map]
          show out.length + 1 + (Oc09Neutral.step ⟨b⟩ c).2.length ≤ sizeLine
          omega
        · have nown : ∀ z ∈ d'.own, (∀ o, H z = some o → ∃ ps, o = .tbl ps) ∧ z ≠ tl := fun z hz => by
            rcases hown z hz with h | h
            · exact hfr z h
            · refine ⟨fun o e => ?_, fun y => by rw [y, htl] at h; cases h⟩
              cases o with
              | tbl ps => exact ⟨ps, rfl⟩
              | _ => rw [s5 z _ e (fun ps y => by cases y)] at h; cases h
          have kp : ∀ {o : HO} z u, H6 z = some u → z ≠ tl → (upd H6 tl o) z = some u := fun z u e n => by rw [upd_ne n]; exact e
          have lift : ∀ {o : HO}, StA D (upd H6 tl o) d' (Oc09Neutral.step ⟨b⟩ c).1.book := by
            intro o
            obtain ⟨⟨dx, g1⟩, g2, g3, ⟨us, g4, g5⟩, ⟨ws, g6, g7⟩, g8⟩ := hS6
            have mla : d'.la ∈ d'.own := by simp [Sd.own]
            have mlu : d'.lu ∈ d'.own := by simp [Sd.own]
            have mlw : d'.lw ∈ d'.own := by simp [Sd.own]
            refine ⟨⟨dx, kp _ _ g1 (fun z => by rw [z, htl6] at g1; cases g1)⟩, kp _ _ g2 (nown _ mla).2, (All2.and_mem g3).mono fun t x ⟨z, ht⟩ => z.upd htl6 (nown _ (Sd.own_mem ht).1).2 (nown _ (Sd.own_mem ht).2).2,
              ⟨us, kp _ _ g4 (nown _ mlu).2, g5.mono fun _ _ z => z.upd htl6⟩, ⟨ws, kp _ _ g6 (nown _ mlw).2, g7.mono fun _ _ z => z.upd htl6⟩, g8⟩
          have lift2 : ∀ {o o' : HO}, upd (upd H6 tl o) tl o' = upd H6 tl o' := by
            intro o o'
            funext z
            by_cases y : z = tl
            · subst y; rw [upd_same, upd_same]
            · rw [upd_ne y, upd_ne y, upd_ne y]
          rw [lift2]
          obtain ⟨dr6, hrd6⟩ := hR6
          refine ⟨raw'.length, by simp, d', _, pl', f', raw', out ++ [((Oc09Neutral.step ⟨b⟩ c).2.length : Int)] ++ (Oc09Neutral.step ⟨b⟩ c).2, some (.ref q), rfl, fun b o e n => (by rw [upd_ne (fun z => by rw [z, ntl0] at e; cases e)]; exact s6 b o e n), tab_but hT6 (fun c o e n1 n2 => (by rw [upd_ne (fun z => by rw [z, htl6] at e; exact n2 _ (Option.some.inj e).symm)]; exact e)), lift, hd6.trans hd5, nown, ?_, ⟨dr6, kp _ _ hrd6 (fun z => by rw [z, htl6] at hrd6; cases hrd6)⟩, hB6, by rw [ht]; exact hraw', hall.2, ?_, rfl⟩
          · rw [upd_same, List.map_append, List.map_append, List.length_map]
            rfl
          · rw [← heq]
            simp
end
end Wk
end
section
set_option Elab.async false
set_option linter.unusedVariables false
set_option maxRecDepth 100000
set_option maxHeartbeats 4000000
namespace Wk
open PySem PySem.Spec PyProof.Rows L2 LamX NdefX
open PySem.W (Codec)
theorem exm_at {K : PySem.W.Frag} {E S : Addr} {b : Bool} (h1 : PySem.W.subIn K (.ref S) (.type "BaseException") = some true) (h2 : PySem.W.isClsIn K S = true) (h3 : PySem.W.typeIn K (.ref S) = some (.type "type")) (h4 : PySem.W.subIn K (.ref E) (.ref S) = some b) :
    PySem.W.exmOne K (.ref E) (.ref S) = some b := by
  have e1 : (PySem.W.subIn K (.ref S) (.type "BaseException") == some true) = true := by rw [h1] <;> rfl
  have e2 : ((PySem.W.clsIn K S).isSome && PySem.W.typeIn K (.ref S) == some (.type "type")) = true := by
    have h2' : (PySem.W.clsIn K S).isSome = true := h2
    rw [h2', h3] <;> rfl
  show (if (PySem.W.subIn K (.ref S) (.type "BaseException") == some true) = true then (if ((PySem.W.clsIn K S).isSome && PySem.W.typeIn K (.ref S) == some (.type "type")) = true then PySem.W.subIn K (.ref E) (.ref S) else none) else none) = some b
  rw [if_pos e1, if_pos e2]
  exact h4
theorem all_mk {K : PySem.W.Frag} {h : Heap} {mg : Str → Option Value} {fa cr tp : Addr} (X : K.In h) (G : h.Ns mainGlobals mg) (hfa : mg "answers" = some (.ref fa))
    {a_Axiom : Addr} {a_Link : Addr} {a_Patterns : Addr} {a_Store : Addr} {a_Reader : Addr} {e_WrongNumbers : Addr} {e_NoSuchAxiom : Addr} {e_NotWeaker : Addr} {e_NoRepair : Addr} {e_NoRoom : Addr} {e_UnknownCall : Addr} {f_Axiom_init : Addr} {oc_Axiom_init kV_Axiom_init dc_Axiom_init pm_Axiom_init cd_Axiom_init ct_Axiom_init : Value} {od_Axiom_init an_Axiom_init : Option Addr} {sl_Axiom_init : Array (Option Value)} {f_Axiom_weaken : Addr} {oc_Axiom_weaken kV_Axiom_weaken dc_Axiom_weaken pm_Axiom_weaken cd_Axiom_weaken ct_Axiom_weaken : Value} {od_Axiom_weaken an_Axiom_weaken : Option Addr} {sl_Axiom_weaken : Array (Option Value)} {f_Axiom_removal : Addr} {oc_Axiom_removal kV_Axiom_removal dc_Axiom_removal pm_Axiom_removal cd_Axiom_removal ct_Axiom_removal : Value} {od_Axiom_removal an_Axiom_removal : Option Addr} {sl_Axiom_removal : Array (Option Value)} {f_Axiom_price_to : Addr} {oc_Axiom_price_to kV_Axiom_price_to dc_Axiom_price_to pm_Axiom_price_to cd_Axiom_price_to ct_Axiom_price_to : Value} {od_Axiom_price_to an_Axiom_price_to : Option Addr} {sl_Axiom_price_to : Array (Option Value)} {f_Axiom_weakened_to : Addr} {oc_Axiom_weakened_to kV_Axiom_weakened_to dc_Axiom_weakened_to pm_Axiom_weakened_to cd_Axiom_weakened_to ct_Axiom_weakened_to : Value} {od_Axiom_weakened_to an_Axiom_weakened_to : Option Addr} {sl_Axiom_weakened_to : Array (Option Value)} {f_head_length : Addr} {oc_head_length kV_head_length dc_head_length pm_head_length cd_head_length ct_head_length : Value} {od_head_length an_head_length : Option Addr} {sl_head_length : Array (Option Value)} {f_end_of : Addr} {oc_end_of kV_end_of dc_end_of pm_end_of cd_end_of ct_end_of : Value} {od_end_of an_end_of : Option Addr} {sl_end_of : Array (Option Value)} {f_two_concepts : Addr} {oc_two_concepts kV_two_concepts dc_two_concepts pm_two_concepts cd_two_concepts ct_two_concepts : Value} {od_two_concepts an_two_concepts : Option Addr} {sl_two_concepts : Array (Option Value)} {f_followers_of : Addr} {oc_followers_of kV_followers_of dc_followers_of pm_followers_of cd_followers_of ct_followers_of : Value} {od_followers_of an_followers_of : Option Addr} {sl_followers_of : Array (Option Value)} {f_parts_of : Addr} {oc_parts_of kV_parts_of dc_parts_of pm_parts_of cd_parts_of ct_parts_of : Value} {od_parts_of an_parts_of : Option Addr} {sl_parts_of : Array (Option Value)} {f_atoms_of : Addr} {oc_atoms_of kV_atoms_of dc_atoms_of pm_atoms_of cd_atoms_of ct_atoms_of : Value} {od_atoms_of an_atoms_of : Option Addr} {sl_atoms_of : Array (Option Value)} {f_Link_init : Addr} {oc_Link_init kV_Link_init dc_Link_init pm_Link_init cd_Link_init ct_Link_init : Value} {od_Link_init an_Link_init : Option Addr} {sl_Link_init : Array (Option Value)} {f_Patterns_init : Addr} {oc_Patterns_init kV_Patterns_init dc_Patterns_init pm_Patterns_init cd_Patterns_init ct_Patterns_init : Value} {od_Patterns_init an_Patterns_init : Option Addr} {sl_Patterns_init : Array (Option Value)} {f_Patterns_joined : Addr} {oc_Patterns_joined kV_Patterns_joined dc_Patterns_joined pm_Patterns_joined cd_Patterns_joined ct_Patterns_joined : Value} {od_Patterns_joined an_Patterns_joined : Option Addr} {sl_Patterns_joined : Array (Option Value)} {f_Patterns_link_of : Addr} {oc_Patterns_link_of kV_Patterns_link_of dc_Patterns_link_of pm_Patterns_link_of cd_Patterns_link_of ct_Patterns_link_of : Value} {od_Patterns_link_of an_Patterns_link_of : Option Addr} {sl_Patterns_link_of : Array (Option Value)} {f_Patterns_relatable : Addr} {oc_Patterns_relatable kV_Patterns_relatable dc_Patterns_relatable pm_Patterns_relatable cd_Patterns_relatable ct_Patterns_relatable : Value} {od_Patterns_relatable an_Patterns_relatable : Option Addr} {sl_Patterns_relatable : Array (Option Value)} {f_Patterns_can_occur : Addr} {oc_Patterns_can_occur kV_Patterns_can_occur dc_Patterns_can_occur pm_Patterns_can_occur cd_Patterns_can_occur ct_Patterns_can_occur : Value} {od_Patterns_can_occur an_Patterns_can_occur : Option Addr} {sl_Patterns_can_occur : Array (Option Value)} {f_Patterns_occurring : Addr} {oc_Patterns_occurring kV_Patterns_occurring dc_Patterns_occurring pm_Patterns_occurring cd_Patterns_occurring ct_Patterns_occurring : Value} {od_Patterns_occurring an_Patterns_occurring : Option Addr} {sl_Patterns_occurring : Array (Option Value)} {f_Patterns_against : Addr} {oc_Patterns_against kV_Patterns_against dc_Patterns_against pm_Patterns_against cd_Patterns_against ct_Patterns_against : Value} {od_Patterns_against an_Patterns_against : Option Addr} {sl_Patterns_against : Array (Option Value)} {f_Patterns_subsumptions : Addr} {oc_Patterns_subsumptions kV_Patterns_subsumptions dc_Patterns_subsumptions pm_Patterns_subsumptions cd_Patterns_subsumptions ct_Patterns_subsumptions : Value} {od_Patterns_subsumptions an_Patterns_subsumptions : Option Addr} {sl_Patterns_subsumptions : Array (Option Value)} {f_is_subsumed : Addr} {oc_is_subsumed kV_is_subsumed dc_is_subsumed pm_is_subsumed cd_is_subsumed ct_is_subsumed : Value} {od_is_subsumed an_is_subsumed : Option Addr} {sl_is_subsumed : Array (Option Value)} {f_all_ways : Addr} {oc_all_ways kV_all_ways dc_all_ways pm_all_ways cd_all_ways ct_all_ways : Value} {od_all_ways an_all_ways : Option Addr} {sl_all_ways : Array (Option Value)} {f_is_way : Addr} {oc_is_way kV_is_way dc_is_way pm_is_way cd_is_way ct_is_way : Value} {od_is_way an_is_way : Option Addr} {sl_is_way : Array (Option Value)} {f_price_of : Addr} {oc_price_of kV_price_of dc_price_of pm_price_of cd_price_of ct_price_of : Value} {od_price_of an_price_of : Option Addr} {sl_price_of : Array (Option Value)} {f_forms_at : Addr} {oc_forms_at kV_forms_at dc_forms_at pm_forms_at cd_forms_at ct_forms_at : Value} {od_forms_at an_forms_at : Option Addr} {sl_forms_at : Array (Option Value)} {f_is_nowhere_higher : Addr} {oc_is_nowhere_higher kV_is_nowhere_higher dc_is_nowhere_higher pm_is_nowhere_higher cd_is_nowhere_higher ct_is_nowhere_higher : Value} {od_is_nowhere_higher an_is_nowhere_higher : Option Addr} {sl_is_nowhere_higher : Array (Option Value)} {f_minimal_among : Addr} {oc_minimal_among kV_minimal_among dc_minimal_among pm_minimal_among cd_minimal_among ct_minimal_among : Value} {od_minimal_among an_minimal_among : Option Addr} {sl_minimal_among : Array (Option Value)} {f_Store_init : Addr} {oc_Store_init kV_Store_init dc_Store_init pm_Store_init cd_Store_init ct_Store_init : Value} {od_Store_init an_Store_init : Option Addr} {sl_Store_init : Array (Option Value)} {f_Store_begins : Addr} {oc_Store_begins kV_Store_begins dc_Store_begins pm_Store_begins cd_Store_begins ct_Store_begins : Value} {od_Store_begins an_Store_begins : Option Addr} {sl_Store_begins : Array (Option Value)} {f_Store_line : Addr} {oc_Store_line kV_Store_line dc_Store_line pm_Store_line cd_Store_line ct_Store_line : Value} {od_Store_line an_Store_line : Option Addr} {sl_Store_line : Array (Option Value)} {f_Store_less : Addr} {oc_Store_less kV_Store_less dc_Store_less pm_Store_less cd_Store_less ct_Store_less : Value} {od_Store_less an_Store_less : Option Addr} {sl_Store_less : Array (Option Value)} {f_Store_never : Addr} {oc_Store_never kV_Store_never dc_Store_never pm_Store_never cd_Store_never ct_Store_never : Value} {od_Store_never an_Store_never : Option Addr} {sl_Store_never : Array (Option Value)} {f_Store_keep : Addr} {oc_Store_keep kV_Store_keep dc_Store_keep pm_Store_keep cd_Store_keep ct_Store_keep : Value} {od_Store_keep an_Store_keep : Option Addr} {sl_Store_keep : Array (Option Value)} {f_Store_wish : Addr} {oc_Store_wish kV_Store_wish dc_Store_wish pm_Store_wish cd_Store_wish ct_Store_wish : Value} {od_Store_wish an_Store_wish : Option Addr} {sl_Store_wish : Array (Option Value)} {f_Store_mend : Addr} {oc_Store_mend kV_Store_mend dc_Store_mend pm_Store_mend cd_Store_mend ct_Store_mend : Value} {od_Store_mend an_Store_mend : Option Addr} {sl_Store_mend : Array (Option Value)} {f_Store_least : Addr} {oc_Store_least kV_Store_least dc_Store_least pm_Store_least cd_Store_least ct_Store_least : Value} {od_Store_least an_Store_least : Option Addr} {sl_Store_least : Array (Option Value)} {f_Store_check : Addr} {oc_Store_check kV_Store_check dc_Store_check pm_Store_check cd_Store_check ct_Store_check : Value} {od_Store_check an_Store_check : Option Addr} {sl_Store_check : Array (Option Value)} {f_Store_done : Addr} {oc_Store_done kV_Store_done dc_Store_done pm_Store_done cd_Store_done ct_Store_done : Value} {od_Store_done an_Store_done : Option Addr} {sl_Store_done : Array (Option Value)} {f_Store_priced : Addr} {oc_Store_priced kV_Store_priced dc_Store_priced pm_Store_priced cd_Store_priced ct_Store_priced : Value} {od_Store_priced an_Store_priced : Option Addr} {sl_Store_priced : Array (Option Value)} {f_Store_repair : Addr} {oc_Store_repair kV_Store_repair dc_Store_repair pm_Store_repair cd_Store_repair ct_Store_repair : Value} {od_Store_repair an_Store_repair : Option Addr} {sl_Store_repair : Array (Option Value)} {f_Store_satisfying : Addr} {oc_Store_satisfying kV_Store_satisfying dc_Store_satisfying pm_Store_satisfying cd_Store_satisfying ct_Store_satisfying : Value} {od_Store_satisfying an_Store_satisfying : Option Addr} {sl_Store_satisfying : Array (Option Value)} {f_Store_held_with : Addr} {oc_Store_held_with kV_Store_held_with dc_Store_held_with pm_Store_held_with cd_Store_held_with ct_Store_held_with : Value} {od_Store_held_with an_Store_held_with : Option Addr} {sl_Store_held_with : Array (Option Value)} {f_Store_satisfied_by : Addr} {oc_Store_satisfied_by kV_Store_satisfied_by dc_Store_satisfied_by pm_Store_satisfied_by cd_Store_satisfied_by ct_Store_satisfied_by : Value} {od_Store_satisfied_by an_Store_satisfied_by : Option Addr} {sl_Store_satisfied_by : Array (Option Value)} {f_Store_check_room : Addr} {oc_Store_check_room kV_Store_check_room dc_Store_check_room pm_Store_check_room cd_Store_check_room ct_Store_check_room : Value} {od_Store_check_room an_Store_check_room : Option Addr} {sl_Store_check_room : Array (Option Value)} {f_Store_all_concepts : Addr} {oc_Store_all_concepts kV_Store_all_concepts dc_Store_all_concepts pm_Store_all_concepts cd_Store_all_concepts ct_Store_all_concepts : Value} {od_Store_all_concepts an_Store_all_concepts : Option Addr} {sl_Store_all_concepts : Array (Option Value)} {f_check_price : Addr} {oc_check_price kV_check_price dc_check_price pm_check_price cd_check_price ct_check_price : Value} {od_check_price an_check_price : Option Addr} {sl_check_price : Array (Option Value)} {f_Reader_init : Addr} {oc_Reader_init kV_Reader_init dc_Reader_init pm_Reader_init cd_Reader_init ct_Reader_init : Value} {od_Reader_init an_Reader_init : Option Addr} {sl_Reader_init : Array (Option Value)} {f_Reader_at_end : Addr} {oc_Reader_at_end kV_Reader_at_end dc_Reader_at_end pm_Reader_at_end cd_Reader_at_end ct_Reader_at_end : Value} {od_Reader_at_end an_Reader_at_end : Option Addr} {sl_Reader_at_end : Array (Option Value)} {f_Reader_take_number : Addr} {oc_Reader_take_number kV_Reader_take_number dc_Reader_take_number pm_Reader_take_number cd_Reader_take_number ct_Reader_take_number : Value} {od_Reader_take_number an_Reader_take_number : Option Addr} {sl_Reader_take_number : Array (Option Value)} {f_Reader_take_list : Addr} {oc_Reader_take_list kV_Reader_take_list dc_Reader_take_list pm_Reader_take_list cd_Reader_take_list ct_Reader_take_list : Value} {od_Reader_take_list an_Reader_take_list : Option Addr} {sl_Reader_take_list : Array (Option Value)} {f_answers : Addr} {oc_answers kV_answers dc_answers pm_answers cd_answers ct_answers : Value} {od_answers an_answers : Option Addr} {sl_answers : Array (Option Value)} {f_answer_of : Addr} {oc_answer_of kV_answer_of dc_answer_of pm_answer_of cd_answer_of ct_answer_of : Value} {od_answer_of an_answer_of : Option Addr} {sl_answer_of : Array (Option Value)} {f_result_of : Addr} {oc_result_of kV_result_of dc_result_of pm_result_of cd_result_of ct_result_of : Value} {od_result_of an_result_of : Option Addr} {sl_result_of : Array (Option Value)} {tk_EVERYTHING : _} {tk_NOTHING : _} {tk_NAME : _} {tk_BOTH : _} {tk_EITHER : _} {tk_SOME : _} {t_ATOM_SIGNS : Addr} {ot_ATOM_SIGNS : Option Addr} {its_ATOM_SIGNS : Array Value} {nn_ATOM_SIGNS : Nat} {slt_ATOM_SIGNS : Array (Option Value)} {t_CHOICES : Addr} {ot_CHOICES : Option Addr} {its_CHOICES : Array Value} {nn_CHOICES : Nat} {slt_CHOICES : Array (Option Value)} {t_FOLLOWERS : Addr} {ot_FOLLOWERS : Option Addr} {its_FOLLOWERS : Array Value} {nn_FOLLOWERS : Nat} {slt_FOLLOWERS : Array (Option Value)} {tk_MOST_AXIOMS : _} {tk_MOST_FORMS : _} {tk_MOST_WISHES : _} {tk_MOST_ATOMS : _} {tk_HIGHEST_PRICE : _} {tk_BEGINS : _} {tk_LINE : _} {tk_LESS : _} {tk_NEVER : _} {tk_KEEP : _} {tk_MEND : _} {tk_LEAST : _} {tk_CHECK : _} {tk_DONE : _}
    (hc_Axiom : PySem.W.nsIn K mainGlobals "Axiom" = some (some (.ref a_Axiom)))
    (hc_Link : PySem.W.nsIn K mainGlobals "Link" = some (some (.ref a_Link)))
    (hc_Patterns : PySem.W.nsIn K mainGlobals "Patterns" = some (some (.ref a_Patterns)))
    (hc_Store : PySem.W.nsIn K mainGlobals "Store" = some (some (.ref a_Store)))
    (hc_Reader : PySem.W.nsIn K mainGlobals "Reader" = some (some (.ref a_Reader)))
    (he_WrongNumbers : PySem.W.nsIn K mainGlobals "WrongNumbers" = some (some (.ref e_WrongNumbers)))
    (he_NoSuchAxiom : PySem.W.nsIn K mainGlobals "NoSuchAxiom" = some (some (.ref e_NoSuchAxiom)))
    (he_NotWeaker : PySem.W.nsIn K mainGlobals "NotWeaker" = some (some (.ref e_NotWeaker)))
    (he_NoRepair : PySem.W.nsIn K mainGlobals "NoRepair" = some (some (.ref e_NoRepair)))
    (he_NoRoom : PySem.W.nsIn K mainGlobals "NoRoom" = some (some (.ref e_NoRoom)))
    (he_UnknownCall : PySem.W.nsIn K mainGlobals "UnknownCall" = some (some (.ref e_UnknownCall)))
    (a_m_Axiom_init : PySem.W.findIn K (.ref a_Axiom) "__init__" = some (some (.ref f_Axiom_init)))
    (i_Axiom_init : PySem.W.isFn K (.ref f_Axiom_init) = true)
    (l_Axiom_init : K.lookup f_Axiom_init = some ⟨oc_Axiom_init, od_Axiom_init, .func (PySem.W.fnOf "__init__" "Axiom.__init__" (defArgs s_Axiom_init) (defBody s_Axiom_init) (defScope s_Axiom_init) .none kV_Axiom_init dc_Axiom_init pm_Axiom_init an_Axiom_init cd_Axiom_init ct_Axiom_init), sl_Axiom_init⟩)
    (c_d_Axiom_init : PySem.W.codeIn K cd_Axiom_init "Axiom.__init__" = true)
    (k_p_Axiom_init : PySem.W.keepIn K (.ref f_Axiom_init) = true)
    (a_m_Axiom_weaken : PySem.W.findIn K (.ref a_Axiom) "weaken" = some (some (.ref f_Axiom_weaken)))
    (i_Axiom_weaken : PySem.W.isFn K (.ref f_Axiom_weaken) = true)
    (l_Axiom_weaken : K.lookup f_Axiom_weaken = some ⟨oc_Axiom_weaken, od_Axiom_weaken, .func (PySem.W.fnOf "weaken" "Axiom.weaken" (defArgs s_Axiom_weaken) (defBody s_Axiom_weaken) (defScope s_Axiom_weaken) .none kV_Axiom_weaken dc_Axiom_weaken pm_Axiom_weaken an_Axiom_weaken cd_Axiom_weaken ct_Axiom_weaken), sl_Axiom_weaken⟩)
    (c_d_Axiom_weaken : PySem.W.codeIn K cd_Axiom_weaken "Axiom.weaken" = true)
    (k_p_Axiom_weaken : PySem.W.keepIn K (.ref f_Axiom_weaken) = true)
    (a_m_Axiom_removal : PySem.W.findIn K (.ref a_Axiom) "removal" = some (some (.ref f_Axiom_removal)))
    (i_Axiom_removal : PySem.W.isFn K (.ref f_Axiom_removal) = true)
    (l_Axiom_removal : K.lookup f_Axiom_removal = some ⟨oc_Axiom_removal, od_Axiom_removal, .func (PySem.W.fnOf "removal" "Axiom.removal" (defArgs s_Axiom_removal) (defBody s_Axiom_removal) (defScope s_Axiom_removal) .none kV_Axiom_removal dc_Axiom_removal pm_Axiom_removal an_Axiom_removal cd_Axiom_removal ct_Axiom_removal), sl_Axiom_removal⟩)
    (c_d_Axiom_removal : PySem.W.codeIn K cd_Axiom_removal "Axiom.removal" = true)
    (k_p_Axiom_removal : PySem.W.keepIn K (.ref f_Axiom_removal) = true)
    (a_m_Axiom_price_to : PySem.W.findIn K (.ref a_Axiom) "price_to" = some (some (.ref f_Axiom_price_to)))
    (i_Axiom_price_to : PySem.W.isFn K (.ref f_Axiom_price_to) = true)
    (l_Axiom_price_to : K.lookup f_Axiom_price_to = some ⟨oc_Axiom_price_to, od_Axiom_price_to, .func (PySem.W.fnOf "price_to" "Axiom.price_to" (defArgs s_Axiom_price_to) (defBody s_Axiom_price_to) (defScope s_Axiom_price_to) .none kV_Axiom_price_to dc_Axiom_price_to pm_Axiom_price_to an_Axiom_price_to cd_Axiom_price_to ct_Axiom_price_to), sl_Axiom_price_to⟩)
    (c_d_Axiom_price_to : PySem.W.codeIn K cd_Axiom_price_to "Axiom.price_to" = true)
    (k_p_Axiom_price_to : PySem.W.keepIn K (.ref f_Axiom_price_to) = true)
    (a_m_Axiom_weakened_to : PySem.W.findIn K (.ref a_Axiom) "weakened_to" = some (some (.ref f_Axiom_weakened_to)))
    (i_Axiom_weakened_to : PySem.W.isFn K (.ref f_Axiom_weakened_to) = true)
    (l_Axiom_weakened_to : K.lookup f_Axiom_weakened_to = some ⟨oc_Axiom_weakened_to, od_Axiom_weakened_to, .func (PySem.W.fnOf "weakened_to" "Axiom.weakened_to" (defArgs s_Axiom_weakened_to) (defBody s_Axiom_weakened_to) (defScope s_Axiom_weakened_to) .none kV_Axiom_weakened_to dc_Axiom_weakened_to pm_Axiom_weakened_to an_Axiom_weakened_to cd_Axiom_weakened_to ct_Axiom_weakened_to), sl_Axiom_weakened_to⟩)
    (c_d_Axiom_weakened_to : PySem.W.codeIn K cd_Axiom_weakened_to "Axiom.weakened_to" = true)
    (k_p_Axiom_weakened_to : PySem.W.keepIn K (.ref f_Axiom_weakened_to) = true)
    (a_m_head_length : PySem.W.nsIn K mainGlobals "head_length" = some (some (.ref f_head_length)))
    (l_head_length : K.lookup f_head_length = some ⟨oc_head_length, od_head_length, .func (PySem.W.fnOf "head_length" "head_length" (defArgs s_head_length) (defBody s_head_length) (defScope s_head_length) .none kV_head_length dc_head_length pm_head_length an_head_length cd_head_length ct_head_length), sl_head_length⟩)
    (c_d_head_length : PySem.W.codeIn K cd_head_length "head_length" = true)
    (k_p_head_length : PySem.W.keepIn K (.ref f_head_length) = true)
    (a_m_end_of : PySem.W.nsIn K mainGlobals "end_of" = some (some (.ref f_end_of)))
    (l_end_of : K.lookup f_end_of = some ⟨oc_end_of, od_end_of, .func (PySem.W.fnOf "end_of" "end_of" (defArgs s_end_of) (defBody s_end_of) (defScope s_end_of) .none kV_end_of dc_end_of pm_end_of an_end_of cd_end_of ct_end_of), sl_end_of⟩)
    (c_d_end_of : PySem.W.codeIn K cd_end_of "end_of" = true)
    (k_p_end_of : PySem.W.keepIn K (.ref f_end_of) = true)
    (a_m_two_concepts : PySem.W.nsIn K mainGlobals "two_concepts" = some (some (.ref f_two_concepts)))
    (l_two_concepts : K.lookup f_two_concepts = some ⟨oc_two_concepts, od_two_concepts, .func (PySem.W.fnOf "two_concepts" "two_concepts" (defArgs s_two_concepts) (defBody s_two_concepts) (defScope s_two_concepts) .none kV_two_concepts dc_two_concepts pm_two_concepts an_two_concepts cd_two_concepts ct_two_concepts), sl_two_concepts⟩)
    (c_d_two_concepts : PySem.W.codeIn K cd_two_concepts "two_concepts" = true)
    (k_p_two_concepts : PySem.W.keepIn K (.ref f_two_concepts) = true)
    (a_m_followers_of : PySem.W.nsIn K mainGlobals "followers_of" = some (some (.ref f_followers_of)))
    (l_followers_of : K.lookup f_followers_of = some ⟨oc_followers_of, od_followers_of, .func (PySem.W.fnOf "followers_of" "followers_of" (defArgs s_followers_of) (defBody s_followers_of) (defScope s_followers_of) .none kV_followers_of dc_followers_of pm_followers_of an_followers_of cd_followers_of ct_followers_of), sl_followers_of⟩)
    (c_d_followers_of : PySem.W.codeIn K cd_followers_of "followers_of" = true)
    (k_p_followers_of : PySem.W.keepIn K (.ref f_followers_of) = true)
    (a_m_parts_of : PySem.W.nsIn K mainGlobals "parts_of" = some (some (.ref f_parts_of)))
    (l_parts_of : K.lookup f_parts_of = some ⟨oc_parts_of, od_parts_of, .func (PySem.W.fnOf "parts_of" "parts_of" (defArgs s_parts_of) (defBody s_parts_of) (defScope s_parts_of) .none kV_parts_of dc_parts_of pm_parts_of an_parts_of cd_parts_of ct_parts_of), sl_parts_of⟩)
    (c_d_parts_of : PySem.W.codeIn K cd_parts_of "parts_of" = true)
    (k_p_parts_of : PySem.W.keepIn K (.ref f_parts_of) = true)
    (a_m_atoms_of : PySem.W.nsIn K mainGlobals "atoms_of" = some (some (.ref f_atoms_of)))
    (l_atoms_of : K.lookup f_atoms_of = some ⟨oc_atoms_of, od_atoms_of, .func (PySem.W.fnOf "atoms_of" "atoms_of" (defArgs s_atoms_of) (defBody s_atoms_of) (defScope s_atoms_of) .none kV_atoms_of dc_atoms_of pm_atoms_of an_atoms_of cd_atoms_of ct_atoms_of), sl_atoms_of⟩)
    (c_d_atoms_of : PySem.W.codeIn K cd_atoms_of "atoms_of" = true)
    (k_p_atoms_of : PySem.W.keepIn K (.ref f_atoms_of) = true)
    (a_m_Link_init : PySem.W.findIn K (.ref a_Link) "__init__" = some (some (.ref f_Link_init)))
    (i_Link_init : PySem.W.isFn K (.ref f_Link_init) = true)
    (l_Link_init : K.lookup f_Link_init = some ⟨oc_Link_init, od_Link_init, .func (PySem.W.fnOf "__init__" "Link.__init__" (defArgs s_Link_init) (defBody s_Link_init) (defScope s_Link_init) .none kV_Link_init dc_Link_init pm_Link_init an_Link_init cd_Link_init ct_Link_init), sl_Link_init⟩)
    (c_d_Link_init : PySem.W.codeIn K cd_Link_init "Link.__init__" = true)
    (k_p_Link_init : PySem.W.keepIn K (.ref f_Link_init) = true)
    (a_m_Patterns_init : PySem.W.findIn K (.ref a_Patterns) "__init__" = some (some (.ref f_Patterns_init)))
    (i_Patterns_init : PySem.W.isFn K (.ref f_Patterns_init) = true)
    (l_Patterns_init : K.lookup f_Patterns_init = some ⟨oc_Patterns_init, od_Patterns_init, .func (PySem.W.fnOf "__init__" "Patterns.__init__" (defArgs s_Patterns_init) (defBody s_Patterns_init) (defScope s_Patterns_init) .none kV_Patterns_init dc_Patterns_init pm_Patterns_init an_Patterns_init cd_Patterns_init ct_Patterns_init), sl_Patterns_init⟩)
    (c_d_Patterns_init : PySem.W.codeIn K cd_Patterns_init "Patterns.__init__" = true)
    (k_p_Patterns_init : PySem.W.keepIn K (.ref f_Patterns_init) = true)
    (a_m_Patterns_joined : PySem.W.findIn K (.ref a_Patterns) "joined" = some (some (.ref f_Patterns_joined)))
    (i_Patterns_joined : PySem.W.isFn K (.ref f_Patterns_joined) = true)
    (l_Patterns_joined : K.lookup f_Patterns_joined = some ⟨oc_Patterns_joined, od_Patterns_joined, .func (PySem.W.fnOf "joined" "Patterns.joined" (defArgs s_Patterns_joined) (defBody s_Patterns_joined) (defScope s_Patterns_joined) .none kV_Patterns_joined dc_Patterns_joined pm_Patterns_joined an_Patterns_joined cd_Patterns_joined ct_Patterns_joined), sl_Patterns_joined⟩)
    (c_d_Patterns_joined : PySem.W.codeIn K cd_Patterns_joined "Patterns.joined" = true)
    (k_p_Patterns_joined : PySem.W.keepIn K (.ref f_Patterns_joined) = true)
    (a_m_Patterns_link_of : PySem.W.findIn K (.ref a_Patterns) "link_of" = some (some (.ref f_Patterns_link_of)))
    (i_Patterns_link_of : PySem.W.isFn K (.ref f_Patterns_link_of) = true)
    (l_Patterns_link_of : K.lookup f_Patterns_link_of = some ⟨oc_Patterns_link_of, od_Patterns_link_of, .func (PySem.W.fnOf "link_of" "Patterns.link_of" (defArgs s_Patterns_link_of) (defBody s_Patterns_link_of) (defScope s_Patterns_link_of) .none kV_Patterns_link_of dc_Patterns_link_of pm_Patterns_link_of an_Patterns_link_of cd_Patterns_link_of ct_Patterns_link_of), sl_Patterns_link_of⟩)
    (c_d_Patterns_link_of : PySem.W.codeIn K cd_Patterns_link_of "Patterns.link_of" = true)
    (k_p_Patterns_link_of : PySem.W.keepIn K (.ref f_Patterns_link_of) = true)
    (a_m_Patterns_relatable : PySem.W.findIn K (.ref a_Patterns) "relatable" = some (some (.ref f_Patterns_relatable)))
    (i_Patterns_relatable : PySem.W.isFn K (.ref f_Patterns_relatable) = true)
    (l_Patterns_relatable : K.lookup f_Patterns_relatable = some ⟨oc_Patterns_relatable, od_Patterns_relatable, .func (PySem.W.fnOf "relatable" "Patterns.relatable" (defArgs s_Patterns_relatable) (defBody s_Patterns_relatable) (defScope s_Patterns_relatable) .none kV_Patterns_relatable dc_Patterns_relatable pm_Patterns_relatable an_Patterns_relatable cd_Patterns_relatable ct_Patterns_relatable), sl_Patterns_relatable⟩)
    (c_d_Patterns_relatable : PySem.W.codeIn K cd_Patterns_relatable "Patterns.relatable" = true)
    (k_p_Patterns_relatable : PySem.W.keepIn K (.ref f_Patterns_relatable) = true)
    (a_m_Patterns_can_occur : PySem.W.findIn K (.ref a_Patterns) "can_occur" = some (some (.ref f_Patterns_can_occur)))
    (i_Patterns_can_occur : PySem.W.isFn K (.ref f_Patterns_can_occur) = true)
    (l_Patterns_can_occur : K.lookup f_Patterns_can_occur = some ⟨oc_Patterns_can_occur, od_Patterns_can_occur, .func (PySem.W.fnOf "can_occur" "Patterns.can_occur" (defArgs s_Patterns_can_occur) (defBody s_Patterns_can_occur) (defScope s_Patterns_can_occur) .none kV_Patterns_can_occur dc_Patterns_can_occur pm_Patterns_can_occur an_Patterns_can_occur cd_Patterns_can_occur ct_Patterns_can_occur), sl_Patterns_can_occur⟩)
    (c_d_Patterns_can_occur : PySem.W.codeIn K cd_Patterns_can_occur "Patterns.can_occur" = true)
    (k_p_Patterns_can_occur : PySem.W.keepIn K (.ref f_Patterns_can_occur) = true)
    (a_m_Patterns_occurring : PySem.W.findIn K (.ref a_Patterns) "occurring" = some (some (.ref f_Patterns_occurring)))
    (i_Patterns_occurring : PySem.W.isFn K (.ref f_Patterns_occurring) = true)
    (l_Patterns_occurring : K.lookup f_Patterns_occurring = some ⟨oc_Patterns_occurring, od_Patterns_occurring, .func (PySem.W.fnOf "occurring" "Patterns.occurring" (defArgs s_Patterns_occurring) (defBody s_Patterns_occurring) (defScope s_Patterns_occurring) .none kV_Patterns_occurring dc_Patterns_occurring pm_Patterns_occurring an_Patterns_occurring cd_Patterns_occurring ct_Patterns_occurring), sl_Patterns_occurring⟩)
    (c_d_Patterns_occurring : PySem.W.codeIn K cd_Patterns_occurring "Patterns.occurring" = true)
    (k_p_Patterns_occurring : PySem.W.keepIn K (.ref f_Patterns_occurring) = true)
    (a_m_Patterns_against : PySem.W.findIn K (.ref a_Patterns) "against" = some (some (.ref f_Patterns_against)))
    (i_Patterns_against : PySem.W.isFn K (.ref f_Patterns_against) = true)
    (l_Patterns_against : K.lookup f_Patterns_against = some ⟨oc_Patterns_against, od_Patterns_against, .func (PySem.W.fnOf "against" "Patterns.against" (defArgs s_Patterns_against) (defBody s_Patterns_against) (defScope s_Patterns_against) .none kV_Patterns_against dc_Patterns_against pm_Patterns_against an_Patterns_against cd_Patterns_against ct_Patterns_against), sl_Patterns_against⟩)
    (c_d_Patterns_against : PySem.W.codeIn K cd_Patterns_against "Patterns.against" = true)
    (k_p_Patterns_against : PySem.W.keepIn K (.ref f_Patterns_against) = true)
    (a_m_Patterns_subsumptions : PySem.W.findIn K (.ref a_Patterns) "subsumptions" = some (some (.ref f_Patterns_subsumptions)))
    (i_Patterns_subsumptions : PySem.W.isFn K (.ref f_Patterns_subsumptions) = true)
    (l_Patterns_subsumptions : K.lookup f_Patterns_subsumptions = some ⟨oc_Patterns_subsumptions, od_Patterns_subsumptions, .func (PySem.W.fnOf "subsumptions" "Patterns.subsumptions" (defArgs s_Patterns_subsumptions) (defBody s_Patterns_subsumptions) (defScope s_Patterns_subsumptions) .none kV_Patterns_subsumptions dc_Patterns_subsumptions pm_Patterns_subsumptions an_Patterns_subsumptions cd_Patterns_subsumptions ct_Patterns_subsumptions), sl_Patterns_subsumptions⟩)
    (c_d_Patterns_subsumptions : PySem.W.codeIn K cd_Patterns_subsumptions "Patterns.subsumptions" = true)
    (k_p_Patterns_subsumptions : PySem.W.keepIn K (.ref f_Patterns_subsumptions) = true)
    (a_m_is_subsumed : PySem.W.nsIn K mainGlobals "is_subsumed" = some (some (.ref f_is_subsumed)))
    (l_is_subsumed : K.lookup f_is_subsumed = some ⟨oc_is_subsumed, od_is_subsumed, .func (PySem.W.fnOf "is_subsumed" "is_subsumed" (defArgs s_is_subsumed) (defBody s_is_subsumed) (defScope s_is_subsumed) .none kV_is_subsumed dc_is_subsumed pm_is_subsumed an_is_subsumed cd_is_subsumed ct_is_subsumed), sl_is_subsumed⟩)
    (c_d_is_subsumed : PySem.W.codeIn K cd_is_subsumed "is_subsumed" = true)
    (k_p_is_subsumed : PySem.W.keepIn K (.ref f_is_subsumed) = true)
    (a_m_all_ways : PySem.W.nsIn K mainGlobals "all_ways" = some (some (.ref f_all_ways)))
    (l_all_ways : K.lookup f_all_ways = some ⟨oc_all_ways, od_all_ways, .func (PySem.W.fnOf "all_ways" "all_ways" (defArgs s_all_ways) (defBody s_all_ways) (defScope s_all_ways) .none kV_all_ways dc_all_ways pm_all_ways an_all_ways cd_all_ways ct_all_ways), sl_all_ways⟩)
    (c_d_all_ways : PySem.W.codeIn K cd_all_ways "all_ways" = true)
    (k_p_all_ways : PySem.W.keepIn K (.ref f_all_ways) = true)
    (a_m_is_way : PySem.W.nsIn K mainGlobals "is_way" = some (some (.ref f_is_way)))
    (l_is_way : K.lookup f_is_way = some ⟨oc_is_way, od_is_way, .func (PySem.W.fnOf "is_way" "is_way" (defArgs s_is_way) (defBody s_is_way) (defScope s_is_way) .none kV_is_way dc_is_way pm_is_way an_is_way cd_is_way ct_is_way), sl_is_way⟩)
    (c_d_is_way : PySem.W.codeIn K cd_is_way "is_way" = true)
    (k_p_is_way : PySem.W.keepIn K (.ref f_is_way) = true)
    (a_m_price_of : PySem.W.nsIn K mainGlobals "price_of" = some (some (.ref f_price_of)))
    (l_price_of : K.lookup f_price_of = some ⟨oc_price_of, od_price_of, .func (PySem.W.fnOf "price_of" "price_of" (defArgs s_price_of) (defBody s_price_of) (defScope s_price_of) .none kV_price_of dc_price_of pm_price_of an_price_of cd_price_of ct_price_of), sl_price_of⟩)
    (c_d_price_of : PySem.W.codeIn K cd_price_of "price_of" = true)
    (k_p_price_of : PySem.W.keepIn K (.ref f_price_of) = true)
    (a_m_forms_at : PySem.W.nsIn K mainGlobals "forms_at" = some (some (.ref f_forms_at)))
    (l_forms_at : K.lookup f_forms_at = some ⟨oc_forms_at, od_forms_at, .func (PySem.W.fnOf "forms_at" "forms_at" (defArgs s_forms_at) (defBody s_forms_at) (defScope s_forms_at) .none kV_forms_at dc_forms_at pm_forms_at an_forms_at cd_forms_at ct_forms_at), sl_forms_at⟩)
    (c_d_forms_at : PySem.W.codeIn K cd_forms_at "forms_at" = true)
    (k_p_forms_at : PySem.W.keepIn K (.ref f_forms_at) = true)
    (a_m_is_nowhere_higher : PySem.W.nsIn K mainGlobals "is_nowhere_higher" = some (some (.ref f_is_nowhere_higher)))
    (l_is_nowhere_higher : K.lookup f_is_nowhere_higher = some ⟨oc_is_nowhere_higher, od_is_nowhere_higher, .func (PySem.W.fnOf "is_nowhere_higher" "is_nowhere_higher" (defArgs s_is_nowhere_higher) (defBody s_is_nowhere_higher) (defScope s_is_nowhere_higher) .none kV_is_nowhere_higher dc_is_nowhere_higher pm_is_nowhere_higher an_is_nowhere_higher cd_is_nowhere_higher ct_is_nowhere_higher), sl_is_nowhere_higher⟩)
    (c_d_is_nowhere_higher : PySem.W.codeIn K cd_is_nowhere_higher "is_nowhere_higher" = true)
    (k_p_is_nowhere_higher : PySem.W.keepIn K (.ref f_is_nowhere_higher) = true)
    (a_m_minimal_among : PySem.W.nsIn K mainGlobals "minimal_among" = some (some (.ref f_minimal_among)))
    (l_minimal_among : K.lookup f_minimal_among = some ⟨oc_minimal_among, od_minimal_among, .func (PySem.W.fnOf "minimal_among" "minimal_among" (defArgs s_minimal_among) (defBody s_minimal_among) (defScope s_minimal_among) .none kV_minimal_among dc_minimal_among pm_minimal_among an_minimal_among cd_minimal_among ct_minimal_among), sl_minimal_among⟩)
    (c_d_minimal_among : PySem.W.codeIn K cd_minimal_among "minimal_among" = true)
    (k_p_minimal_among : PySem.W.keepIn K (.ref f_minimal_among) = true)
    (a_m_Store_init : PySem.W.findIn K (.ref a_Store) "__init__" = some (some (.ref f_Store_init)))
    (i_Store_init : PySem.W.isFn K (.ref f_Store_init) = true)
    (l_Store_init : K.lookup f_Store_init = some ⟨oc_Store_init, od_Store_init, .func (PySem.W.fnOf "__init__" "Store.__init__" (defArgs s_Store_init) (defBody s_Store_init) (defScope s_Store_init) .none kV_Store_init dc_Store_init pm_Store_init an_Store_init cd_Store_init ct_Store_init), sl_Store_init⟩)
    (c_d_Store_init : PySem.W.codeIn K cd_Store_init "Store.__init__" = true)
    (k_p_Store_init : PySem.W.keepIn K (.ref f_Store_init) = true)
    (a_m_Store_begins : PySem.W.findIn K (.ref a_Store) "begins" = some (some (.ref f_Store_begins)))
    (i_Store_begins : PySem.W.isFn K (.ref f_Store_begins) = true)
    (l_Store_begins : K.lookup f_Store_begins = some ⟨oc_Store_begins, od_Store_begins, .func (PySem.W.fnOf "begins" "Store.begins" (defArgs s_Store_begins) (defBody s_Store_begins) (defScope s_Store_begins) .none kV_Store_begins dc_Store_begins pm_Store_begins an_Store_begins cd_Store_begins ct_Store_begins), sl_Store_begins⟩)
    (c_d_Store_begins : PySem.W.codeIn K cd_Store_begins "Store.begins" = true)
    (k_p_Store_begins : PySem.W.keepIn K (.ref f_Store_begins) = true)
    (a_m_Store_line : PySem.W.findIn K (.ref a_Store) "line" = some (some (.ref f_Store_line)))
    (i_Store_line : PySem.W.isFn K (.ref f_Store_line) = true)
    (l_Store_line : K.lookup f_Store_line = some ⟨oc_Store_line, od_Store_line, .func (PySem.W.fnOf "line" "Store.line" (defArgs s_Store_line) (defBody s_Store_line) (defScope s_Store_line) .none kV_Store_line dc_Store_line pm_Store_line an_Store_line cd_Store_line ct_Store_line), sl_Store_line⟩)
    (c_d_Store_line : PySem.W.codeIn K cd_Store_line "Store.line" = true)
    (k_p_Store_line : PySem.W.keepIn K (.ref f_Store_line) = true)
    (a_m_Store_less : PySem.W.findIn K (.ref a_Store) "less" = some (some (.ref f_Store_less)))
    (i_Store_less : PySem.W.isFn K (.ref f_Store_less) = true)
    (l_Store_less : K.lookup f_Store_less = some ⟨oc_Store_less, od_Store_less, .func (PySem.W.fnOf "less" "Store.less" (defArgs s_Store_less) (defBody s_Store_less) (defScope s_Store_less) .none kV_Store_less dc_Store_less pm_Store_less an_Store_less cd_Store_less ct_Store_less), sl_Store_less⟩)
    (c_d_Store_less : PySem.W.codeIn K cd_Store_less "Store.less" = true)
    (k_p_Store_less : PySem.W.keepIn K (.ref f_Store_less) = true)
    (a_m_Store_never : PySem.W.findIn K (.ref a_Store) "never" = some (some (.ref f_Store_never)))
    (i_Store_never : PySem.W.isFn K (.ref f_Store_never) = true)
    (l_Store_never : K.lookup f_Store_never = some ⟨oc_Store_never, od_Store_never, .func (PySem.W.fnOf "never" "Store.never" (defArgs s_Store_never) (defBody s_Store_never) (defScope s_Store_never) .none kV_Store_never dc_Store_never pm_Store_never an_Store_never cd_Store_never ct_Store_never), sl_Store_never⟩)
    (c_d_Store_never : PySem.W.codeIn K cd_Store_never "Store.never" = true)
    (k_p_Store_never : PySem.W.keepIn K (.ref f_Store_never) = true)
    (a_m_Store_keep : PySem.W.findIn K (.ref a_Store) "keep" = some (some (.ref f_Store_keep)))
    (i_Store_keep : PySem.W.isFn K (.ref f_Store_keep) = true)
    (l_Store_keep : K.lookup f_Store_keep = some ⟨oc_Store_keep, od_Store_keep, .func (PySem.W.fnOf "keep" "Store.keep" (defArgs s_Store_keep) (defBody s_Store_keep) (defScope s_Store_keep) .none kV_Store_keep dc_Store_keep pm_Store_keep an_Store_keep cd_Store_keep ct_Store_keep), sl_Store_keep⟩)
    (c_d_Store_keep : PySem.W.codeIn K cd_Store_keep "Store.keep" = true)
    (k_p_Store_keep : PySem.W.keepIn K (.ref f_Store_keep) = true)
    (a_m_Store_wish : PySem.W.findIn K (.ref a_Store) "wish" = some (some (.ref f_Store_wish)))
    (i_Store_wish : PySem.W.isFn K (.ref f_Store_wish) = true)
    (l_Store_wish : K.lookup f_Store_wish = some ⟨oc_Store_wish, od_Store_wish, .func (PySem.W.fnOf "wish" "Store.wish" (defArgs s_Store_wish) (defBody s_Store_wish) (defScope s_Store_wish) .none kV_Store_wish dc_Store_wish pm_Store_wish an_Store_wish cd_Store_wish ct_Store_wish), sl_Store_wish⟩)
    (c_d_Store_wish : PySem.W.codeIn K cd_Store_wish "Store.wish" = true)
    (k_p_Store_wish : PySem.W.keepIn K (.ref f_Store_wish) = true)
    (a_m_Store_mend : PySem.W.findIn K (.ref a_Store) "mend" = some (some (.ref f_Store_mend)))
    (i_Store_mend : PySem.W.isFn K (.ref f_Store_mend) = true)
    (l_Store_mend : K.lookup f_Store_mend = some ⟨oc_Store_mend, od_Store_mend, .func (PySem.W.fnOf "mend" "Store.mend" (defArgs s_Store_mend) (defBody s_Store_mend) (defScope s_Store_mend) .none kV_Store_mend dc_Store_mend pm_Store_mend an_Store_mend cd_Store_mend ct_Store_mend), sl_Store_mend⟩)
    (c_d_Store_mend : PySem.W.codeIn K cd_Store_mend "Store.mend" = true)
    (k_p_Store_mend : PySem.W.keepIn K (.ref f_Store_mend) = true)
    (a_m_Store_least : PySem.W.findIn K (.ref a_Store) "least" = some (some (.ref f_Store_least)))
    (i_Store_least : PySem.W.isFn K (.ref f_Store_least) = true)
    (l_Store_least : K.lookup f_Store_least = some ⟨oc_Store_least, od_Store_least, .func (PySem.W.fnOf "least" "Store.least" (defArgs s_Store_least) (defBody s_Store_least) (defScope s_Store_least) .none kV_Store_least dc_Store_least pm_Store_least an_Store_least cd_Store_least ct_Store_least), sl_Store_least⟩)
    (c_d_Store_least : PySem.W.codeIn K cd_Store_least "Store.least" = true)
    (k_p_Store_least : PySem.W.keepIn K (.ref f_Store_least) = true)
    (a_m_Store_check : PySem.W.findIn K (.ref a_Store) "check" = some (some (.ref f_Store_check)))
    (i_Store_check : PySem.W.isFn K (.ref f_Store_check) = true)
    (l_Store_check : K.lookup f_Store_check = some ⟨oc_Store_check, od_Store_check, .func (PySem.W.fnOf "check" "Store.check" (defArgs s_Store_check) (defBody s_Store_check) (defScope s_Store_check) .none kV_Store_check dc_Store_check pm_Store_check an_Store_check cd_Store_check ct_Store_check), sl_Store_check⟩)
    (c_d_Store_check : PySem.W.codeIn K cd_Store_check "Store.check" = true)
    (k_p_Store_check : PySem.W.keepIn K (.ref f_Store_check) = true)
    (a_m_Store_done : PySem.W.findIn K (.ref a_Store) "done" = some (some (.ref f_Store_done)))
    (i_Store_done : PySem.W.isFn K (.ref f_Store_done) = true)
    (l_Store_done : K.lookup f_Store_done = some ⟨oc_Store_done, od_Store_done, .func (PySem.W.fnOf "done" "Store.done" (defArgs s_Store_done) (defBody s_Store_done) (defScope s_Store_done) .none kV_Store_done dc_Store_done pm_Store_done an_Store_done cd_Store_done ct_Store_done), sl_Store_done⟩)
    (c_d_Store_done : PySem.W.codeIn K cd_Store_done "Store.done" = true)
    (k_p_Store_done : PySem.W.keepIn K (.ref f_Store_done) = true)
    (a_m_Store_priced : PySem.W.findIn K (.ref a_Store) "priced" = some (some (.ref f_Store_priced)))
    (i_Store_priced : PySem.W.isFn K (.ref f_Store_priced) = true)
    (l_Store_priced : K.lookup f_Store_priced = some ⟨oc_Store_priced, od_Store_priced, .func (PySem.W.fnOf "priced" "Store.priced" (defArgs s_Store_priced) (defBody s_Store_priced) (defScope s_Store_priced) .none kV_Store_priced dc_Store_priced pm_Store_priced an_Store_priced cd_Store_priced ct_Store_priced), sl_Store_priced⟩)
    (c_d_Store_priced : PySem.W.codeIn K cd_Store_priced "Store.priced" = true)
    (k_p_Store_priced : PySem.W.keepIn K (.ref f_Store_priced) = true)
    (a_m_Store_repair : PySem.W.findIn K (.ref a_Store) "repair" = some (some (.ref f_Store_repair)))
    (i_Store_repair : PySem.W.isFn K (.ref f_Store_repair) = true)
    (l_Store_repair : K.lookup f_Store_repair = some ⟨oc_Store_repair, od_Store_repair, .func (PySem.W.fnOf "repair" "Store.repair" (defArgs s_Store_repair) (defBody s_Store_repair) (defScope s_Store_repair) .none kV_Store_repair dc_Store_repair pm_Store_repair an_Store_repair cd_Store_repair ct_Store_repair), sl_Store_repair⟩)
    (c_d_Store_repair : PySem.W.codeIn K cd_Store_repair "Store.repair" = true)
    (k_p_Store_repair : PySem.W.keepIn K (.ref f_Store_repair) = true)
    (a_m_Store_satisfying : PySem.W.findIn K (.ref a_Store) "satisfying" = some (some (.ref f_Store_satisfying)))
    (i_Store_satisfying : PySem.W.isFn K (.ref f_Store_satisfying) = true)
    (l_Store_satisfying : K.lookup f_Store_satisfying = some ⟨oc_Store_satisfying, od_Store_satisfying, .func (PySem.W.fnOf "satisfying" "Store.satisfying" (defArgs s_Store_satisfying) (defBody s_Store_satisfying) (defScope s_Store_satisfying) .none kV_Store_satisfying dc_Store_satisfying pm_Store_satisfying an_Store_satisfying cd_Store_satisfying ct_Store_satisfying), sl_Store_satisfying⟩)
    (c_d_Store_satisfying : PySem.W.codeIn K cd_Store_satisfying "Store.satisfying" = true)
    (k_p_Store_satisfying : PySem.W.keepIn K (.ref f_Store_satisfying) = true)
    (a_m_Store_held_with : PySem.W.findIn K (.ref a_Store) "held_with" = some (some (.ref f_Store_held_with)))
    (i_Store_held_with : PySem.W.isFn K (.ref f_Store_held_with) = true)
    (l_Store_held_with : K.lookup f_Store_held_with = some ⟨oc_Store_held_with, od_Store_held_with, .func (PySem.W.fnOf "held_with" "Store.held_with" (defArgs s_Store_held_with) (defBody s_Store_held_with) (defScope s_Store_held_with) .none kV_Store_held_with dc_Store_held_with pm_Store_held_with an_Store_held_with cd_Store_held_with ct_Store_held_with), sl_Store_held_with⟩)
    (c_d_Store_held_with : PySem.W.codeIn K cd_Store_held_with "Store.held_with" = true)
    (k_p_Store_held_with : PySem.W.keepIn K (.ref f_Store_held_with) = true)
    (a_m_Store_satisfied_by : PySem.W.findIn K (.ref a_Store) "satisfied_by" = some (some (.ref f_Store_satisfied_by)))
    (i_Store_satisfied_by : PySem.W.isFn K (.ref f_Store_satisfied_by) = true)
    (l_Store_satisfied_by : K.lookup f_Store_satisfied_by = some ⟨oc_Store_satisfied_by, od_Store_satisfied_by, .func (PySem.W.fnOf "satisfied_by" "Store.satisfied_by" (defArgs s_Store_satisfied_by) (defBody s_Store_satisfied_by) (defScope s_Store_satisfied_by) .none kV_Store_satisfied_by dc_Store_satisfied_by pm_Store_satisfied_by an_Store_satisfied_by cd_Store_satisfied_by ct_Store_satisfied_by), sl_Store_satisfied_by⟩)
    (c_d_Store_satisfied_by : PySem.W.codeIn K cd_Store_satisfied_by "Store.satisfied_by" = true)
    (k_p_Store_satisfied_by : PySem.W.keepIn K (.ref f_Store_satisfied_by) = true)
    (a_m_Store_check_room : PySem.W.findIn K (.ref a_Store) "check_room" = some (some (.ref f_Store_check_room)))
    (i_Store_check_room : PySem.W.isFn K (.ref f_Store_check_room) = true)
    (l_Store_check_room : K.lookup f_Store_check_room = some ⟨oc_Store_check_room, od_Store_check_room, .func (PySem.W.fnOf "check_room" "Store.check_room" (defArgs s_Store_check_room) (defBody s_Store_check_room) (defScope s_Store_check_room) .none kV_Store_check_room dc_Store_check_room pm_Store_check_room an_Store_check_room cd_Store_check_room ct_Store_check_room), sl_Store_check_room⟩)
    (c_d_Store_check_room : PySem.W.codeIn K cd_Store_check_room "Store.check_room" = true)
    (k_p_Store_check_room : PySem.W.keepIn K (.ref f_Store_check_room) = true)
    (a_m_Store_all_concepts : PySem.W.findIn K (.ref a_Store) "all_concepts" = some (some (.ref f_Store_all_concepts)))
    (i_Store_all_concepts : PySem.W.isFn K (.ref f_Store_all_concepts) = true)
    (l_Store_all_concepts : K.lookup f_Store_all_concepts = some ⟨oc_Store_all_concepts, od_Store_all_concepts, .func (PySem.W.fnOf "all_concepts" "Store.all_concepts" (defArgs s_Store_all_concepts) (defBody s_Store_all_concepts) (defScope s_Store_all_concepts) .none kV_Store_all_concepts dc_Store_all_concepts pm_Store_all_concepts an_Store_all_concepts cd_Store_all_concepts ct_Store_all_concepts), sl_Store_all_concepts⟩)
    (c_d_Store_all_concepts : PySem.W.codeIn K cd_Store_all_concepts "Store.all_concepts" = true)
    (k_p_Store_all_concepts : PySem.W.keepIn K (.ref f_Store_all_concepts) = true)
    (a_m_check_price : PySem.W.nsIn K mainGlobals "check_price" = some (some (.ref f_check_price)))
    (l_check_price : K.lookup f_check_price = some ⟨oc_check_price, od_check_price, .func (PySem.W.fnOf "check_price" "check_price" (defArgs s_check_price) (defBody s_check_price) (defScope s_check_price) .none kV_check_price dc_check_price pm_check_price an_check_price cd_check_price ct_check_price), sl_check_price⟩)
    (c_d_check_price : PySem.W.codeIn K cd_check_price "check_price" = true)
    (k_p_check_price : PySem.W.keepIn K (.ref f_check_price) = true)
    (a_m_Reader_init : PySem.W.findIn K (.ref a_Reader) "__init__" = some (some (.ref f_Reader_init)))
    (i_Reader_init : PySem.W.isFn K (.ref f_Reader_init) = true)
    (l_Reader_init : K.lookup f_Reader_init = some ⟨oc_Reader_init, od_Reader_init, .func (PySem.W.fnOf "__init__" "Reader.__init__" (defArgs s_Reader_init) (defBody s_Reader_init) (defScope s_Reader_init) .none kV_Reader_init dc_Reader_init pm_Reader_init an_Reader_init cd_Reader_init ct_Reader_init), sl_Reader_init⟩)
    (c_d_Reader_init : PySem.W.codeIn K cd_Reader_init "Reader.__init__" = true)
    (k_p_Reader_init : PySem.W.keepIn K (.ref f_Reader_init) = true)
    (a_m_Reader_at_end : PySem.W.findIn K (.ref a_Reader) "at_end" = some (some (.ref f_Reader_at_end)))
    (i_Reader_at_end : PySem.W.isFn K (.ref f_Reader_at_end) = true)
    (l_Reader_at_end : K.lookup f_Reader_at_end = some ⟨oc_Reader_at_end, od_Reader_at_end, .func (PySem.W.fnOf "at_end" "Reader.at_end" (defArgs s_Reader_at_end) (defBody s_Reader_at_end) (defScope s_Reader_at_end) .none kV_Reader_at_end dc_Reader_at_end pm_Reader_at_end an_Reader_at_end cd_Reader_at_end ct_Reader_at_end), sl_Reader_at_end⟩)
    (c_d_Reader_at_end : PySem.W.codeIn K cd_Reader_at_end "Reader.at_end" = true)
    (k_p_Reader_at_end : PySem.W.keepIn K (.ref f_Reader_at_end) = true)
    (a_m_Reader_take_number : PySem.W.findIn K (.ref a_Reader) "take_number" = some (some (.ref f_Reader_take_number)))
    (i_Reader_take_number : PySem.W.isFn K (.ref f_Reader_take_number) = true)
    (l_Reader_take_number : K.lookup f_Reader_take_number = some ⟨oc_Reader_take_number, od_Reader_take_number, .func (PySem.W.fnOf "take_number" "Reader.take_number" (defArgs s_Reader_take_number) (defBody s_Reader_take_number) (defScope s_Reader_take_number) .none kV_Reader_take_number dc_Reader_take_number pm_Reader_take_number an_Reader_take_number cd_Reader_take_number ct_Reader_take_number), sl_Reader_take_number⟩)
    (c_d_Reader_take_number : PySem.W.codeIn K cd_Reader_take_number "Reader.take_number" = true)
    (k_p_Reader_take_number : PySem.W.keepIn K (.ref f_Reader_take_number) = true)
    (a_m_Reader_take_list : PySem.W.findIn K (.ref a_Reader) "take_list" = some (some (.ref f_Reader_take_list)))
    (i_Reader_take_list : PySem.W.isFn K (.ref f_Reader_take_list) = true)
    (l_Reader_take_list : K.lookup f_Reader_take_list = some ⟨oc_Reader_take_list, od_Reader_take_list, .func (PySem.W.fnOf "take_list" "Reader.take_list" (defArgs s_Reader_take_list) (defBody s_Reader_take_list) (defScope s_Reader_take_list) .none kV_Reader_take_list dc_Reader_take_list pm_Reader_take_list an_Reader_take_list cd_Reader_take_list ct_Reader_take_list), sl_Reader_take_list⟩)
    (c_d_Reader_take_list : PySem.W.codeIn K cd_Reader_take_list "Reader.take_list" = true)
    (k_p_Reader_take_list : PySem.W.keepIn K (.ref f_Reader_take_list) = true)
    (a_m_answers : PySem.W.nsIn K mainGlobals "answers" = some (some (.ref f_answers)))
    (l_answers : K.lookup f_answers = some ⟨oc_answers, od_answers, .func (PySem.W.fnOf "answers" "answers" (defArgs s_answers) (defBody s_answers) (defScope s_answers) .none kV_answers dc_answers pm_answers an_answers cd_answers ct_answers), sl_answers⟩)
    (c_d_answers : PySem.W.codeIn K cd_answers "answers" = true)
    (k_p_answers : PySem.W.keepIn K (.ref f_answers) = true)
    (a_m_answer_of : PySem.W.nsIn K mainGlobals "answer_of" = some (some (.ref f_answer_of)))
    (l_answer_of : K.lookup f_answer_of = some ⟨oc_answer_of, od_answer_of, .func (PySem.W.fnOf "answer_of" "answer_of" (defArgs s_answer_of) (defBody s_answer_of) (defScope s_answer_of) .none kV_answer_of dc_answer_of pm_answer_of an_answer_of cd_answer_of ct_answer_of), sl_answer_of⟩)
    (c_d_answer_of : PySem.W.codeIn K cd_answer_of "answer_of" = true)
    (k_p_answer_of : PySem.W.keepIn K (.ref f_answer_of) = true)
    (a_m_result_of : PySem.W.nsIn K mainGlobals "result_of" = some (some (.ref f_result_of)))
    (l_result_of : K.lookup f_result_of = some ⟨oc_result_of, od_result_of, .func (PySem.W.fnOf "result_of" "result_of" (defArgs s_result_of) (defBody s_result_of) (defScope s_result_of) .none kV_result_of dc_result_of pm_result_of an_result_of cd_result_of ct_result_of), sl_result_of⟩)
    (c_d_result_of : PySem.W.codeIn K cd_result_of "result_of" = true)
    (k_p_result_of : PySem.W.keepIn K (.ref f_result_of) = true)
    (pg_Axiom : PySem.W.plainGet K a_Axiom Str.empty = true)
    (hd_Axiom : PySem.W.hasDictIn K a_Axiom = true)
    (po_Axiom : PySem.W.plainOver K a_Axiom = true)
    (sa_Axiom : PySem.W.findIn K (.ref a_Axiom) "__setattr__" = some (some (.builtin "object.__setattr__")))
    (mk_Axiom : PySem.W.makesIn K a_Axiom = true)
    (kc_Axiom : PySem.W.keepIn K (.ref a_Axiom) = true)
    (n_Axiom_forms : PySem.W.findIn K (.ref a_Axiom) "forms" = some none)
    (n_Axiom_prices : PySem.W.findIn K (.ref a_Axiom) "prices" = some none)
    (pg_Link : PySem.W.plainGet K a_Link Str.empty = true)
    (hd_Link : PySem.W.hasDictIn K a_Link = true)
    (po_Link : PySem.W.plainOver K a_Link = true)
    (sa_Link : PySem.W.findIn K (.ref a_Link) "__setattr__" = some (some (.builtin "object.__setattr__")))
    (mk_Link : PySem.W.makesIn K a_Link = true)
    (kc_Link : PySem.W.keepIn K (.ref a_Link) = true)
    (n_Link_role : PySem.W.findIn K (.ref a_Link) "role" = some none)
    (n_Link_needy : PySem.W.findIn K (.ref a_Link) "needy" = some none)
    (n_Link_goal : PySem.W.findIn K (.ref a_Link) "goal" = some none)
    (pg_Patterns : PySem.W.plainGet K a_Patterns Str.empty = true)
    (hd_Patterns : PySem.W.hasDictIn K a_Patterns = true)
    (po_Patterns : PySem.W.plainOver K a_Patterns = true)
    (sa_Patterns : PySem.W.findIn K (.ref a_Patterns) "__setattr__" = some (some (.builtin "object.__setattr__")))
    (mk_Patterns : PySem.W.makesIn K a_Patterns = true)
    (kc_Patterns : PySem.W.keepIn K (.ref a_Patterns) = true)
    (n_Patterns_total : PySem.W.findIn K (.ref a_Patterns) "total" = some none)
    (n_Patterns_whole : PySem.W.findIn K (.ref a_Patterns) "whole" = some none)
    (n_Patterns_groups : PySem.W.findIn K (.ref a_Patterns) "groups" = some none)
    (n_Patterns_links : PySem.W.findIn K (.ref a_Patterns) "links" = some none)
    (pg_Store : PySem.W.plainGet K a_Store Str.empty = true)
    (hd_Store : PySem.W.hasDictIn K a_Store = true)
    (po_Store : PySem.W.plainOver K a_Store = true)
    (sa_Store : PySem.W.findIn K (.ref a_Store) "__setattr__" = some (some (.builtin "object.__setattr__")))
    (mk_Store : PySem.W.makesIn K a_Store = true)
    (kc_Store : PySem.W.keepIn K (.ref a_Store) = true)
    (n_Store_axioms : PySem.W.findIn K (.ref a_Store) "axioms" = some none)
    (n_Store_unwanted : PySem.W.findIn K (.ref a_Store) "unwanted" = some none)
    (n_Store_wanted : PySem.W.findIn K (.ref a_Store) "wanted" = some none)
    (pg_Reader : PySem.W.plainGet K a_Reader Str.empty = true)
    (hd_Reader : PySem.W.hasDictIn K a_Reader = true)
    (po_Reader : PySem.W.plainOver K a_Reader = true)
    (sa_Reader : PySem.W.findIn K (.ref a_Reader) "__setattr__" = some (some (.builtin "object.__setattr__")))
    (mk_Reader : PySem.W.makesIn K a_Reader = true)
    (kc_Reader : PySem.W.keepIn K (.ref a_Reader) = true)
    (n_Reader_calls : PySem.W.findIn K (.ref a_Reader) "calls" = some none)
    (n_Reader_place : PySem.W.findIn K (.ref a_Reader) "place" = some none)
    (x_WrongNumbers : PySem.W.excIn K e_WrongNumbers [.type "Exception", .type "BaseException", .type "object"] "Exception.__new__" = true)
    (k_WrongNumbers : PySem.W.keepIn K (.ref e_WrongNumbers) = true)
    (s_WrongNumbers : PySem.W.subIn K (.ref e_WrongNumbers) (.type "BaseException") = some true)
    (y_WrongNumbers : PySem.W.typeIn K (.ref e_WrongNumbers) = some (.type "type"))
    (j_WrongNumbers : PySem.W.isClsIn K e_WrongNumbers = true)
    (x_NoSuchAxiom : PySem.W.excIn K e_NoSuchAxiom [.type "Exception", .type "BaseException", .type "object"] "Exception.__new__" = true)
    (k_NoSuchAxiom : PySem.W.keepIn K (.ref e_NoSuchAxiom) = true)
    (s_NoSuchAxiom : PySem.W.subIn K (.ref e_NoSuchAxiom) (.type "BaseException") = some true)
    (y_NoSuchAxiom : PySem.W.typeIn K (.ref e_NoSuchAxiom) = some (.type "type"))
    (j_NoSuchAxiom : PySem.W.isClsIn K e_NoSuchAxiom = true)
    (x_NotWeaker : PySem.W.excIn K e_NotWeaker [.type "Exception", .type "BaseException", .type "object"] "Exception.__new__" = true)
    (k_NotWeaker : PySem.W.keepIn K (.ref e_NotWeaker) = true)
    (s_NotWeaker : PySem.W.subIn K (.ref e_NotWeaker) (.type "BaseException") = some true)
    (y_NotWeaker : PySem.W.typeIn K (.ref e_NotWeaker) = some (.type "type"))
    (j_NotWeaker : PySem.W.isClsIn K e_NotWeaker = true)
    (x_NoRepair : PySem.W.excIn K e_NoRepair [.type "Exception", .type "BaseException", .type "object"] "Exception.__new__" = true)
    (k_NoRepair : PySem.W.keepIn K (.ref e_NoRepair) = true)
    (s_NoRepair : PySem.W.subIn K (.ref e_NoRepair) (.type "BaseException") = some true)
    (y_NoRepair : PySem.W.typeIn K (.ref e_NoRepair) = some (.type "type"))
    (j_NoRepair : PySem.W.isClsIn K e_NoRepair = true)
    (x_NoRoom : PySem.W.excIn K e_NoRoom [.type "Exception", .type "BaseException", .type "object"] "Exception.__new__" = true)
    (k_NoRoom : PySem.W.keepIn K (.ref e_NoRoom) = true)
    (s_NoRoom : PySem.W.subIn K (.ref e_NoRoom) (.type "BaseException") = some true)
    (y_NoRoom : PySem.W.typeIn K (.ref e_NoRoom) = some (.type "type"))
    (j_NoRoom : PySem.W.isClsIn K e_NoRoom = true)
    (x_UnknownCall : PySem.W.excIn K e_UnknownCall [.type "Exception", .type "BaseException", .type "object"] "Exception.__new__" = true)
    (k_UnknownCall : PySem.W.keepIn K (.ref e_UnknownCall) = true)
    (s_UnknownCall : PySem.W.subIn K (.ref e_UnknownCall) (.type "BaseException") = some true)
    (y_UnknownCall : PySem.W.typeIn K (.ref e_UnknownCall) = some (.type "type"))
    (j_UnknownCall : PySem.W.isClsIn K e_UnknownCall = true)
    (u_WrongNumbers_WrongNumbers : PySem.W.subIn K (.ref e_WrongNumbers) (.ref e_WrongNumbers) = some true)
    (u_WrongNumbers_NoSuchAxiom : PySem.W.subIn K (.ref e_WrongNumbers) (.ref e_NoSuchAxiom) = some false)
    (u_WrongNumbers_NotWeaker : PySem.W.subIn K (.ref e_WrongNumbers) (.ref e_NotWeaker) = some false)
    (u_WrongNumbers_NoRepair : PySem.W.subIn K (.ref e_WrongNumbers) (.ref e_NoRepair) = some false)
    (u_WrongNumbers_NoRoom : PySem.W.subIn K (.ref e_WrongNumbers) (.ref e_NoRoom) = some false)
    (u_WrongNumbers_UnknownCall : PySem.W.subIn K (.ref e_WrongNumbers) (.ref e_UnknownCall) = some false)
    (u_NoSuchAxiom_WrongNumbers : PySem.W.subIn K (.ref e_NoSuchAxiom) (.ref e_WrongNumbers) = some false)
    (u_NoSuchAxiom_NoSuchAxiom : PySem.W.subIn K (.ref e_NoSuchAxiom) (.ref e_NoSuchAxiom) = some true)
    (u_NoSuchAxiom_NotWeaker : PySem.W.subIn K (.ref e_NoSuchAxiom) (.ref e_NotWeaker) = some false)
    (u_NoSuchAxiom_NoRepair : PySem.W.subIn K (.ref e_NoSuchAxiom) (.ref e_NoRepair) = some false)
    (u_NoSuchAxiom_NoRoom : PySem.W.subIn K (.ref e_NoSuchAxiom) (.ref e_NoRoom) = some false)
    (u_NoSuchAxiom_UnknownCall : PySem.W.subIn K (.ref e_NoSuchAxiom) (.ref e_UnknownCall) = some false)
    (u_NotWeaker_WrongNumbers : PySem.W.subIn K (.ref e_NotWeaker) (.ref e_WrongNumbers) = some false)
    (u_NotWeaker_NoSuchAxiom : PySem.W.subIn K (.ref e_NotWeaker) (.ref e_NoSuchAxiom) = some false)
    (u_NotWeaker_NotWeaker : PySem.W.subIn K (.ref e_NotWeaker) (.ref e_NotWeaker) = some true)
    (u_NotWeaker_NoRepair : PySem.W.subIn K (.ref e_NotWeaker) (.ref e_NoRepair) = some false)
    (u_NotWeaker_NoRoom : PySem.W.subIn K (.ref e_NotWeaker) (.ref e_NoRoom) = some false)
    (u_NotWeaker_UnknownCall : PySem.W.subIn K (.ref e_NotWeaker) (.ref e_UnknownCall) = some false)
    (u_NoRepair_WrongNumbers : PySem.W.subIn K (.ref e_NoRepair) (.ref e_WrongNumbers) = some false)
    (u_NoRepair_NoSuchAxiom : PySem.W.subIn K (.ref e_NoRepair) (.ref e_NoSuchAxiom) = some false)
    (u_NoRepair_NotWeaker : PySem.W.subIn K (.ref e_NoRepair) (.ref e_NotWeaker) = some false)
    (u_NoRepair_NoRepair : PySem.W.subIn K (.ref e_NoRepair) (.ref e_NoRepair) = some true)
    (u_NoRepair_NoRoom : PySem.W.subIn K (.ref e_NoRepair) (.ref e_NoRoom) = some false)
    (u_NoRepair_UnknownCall : PySem.W.subIn K (.ref e_NoRepair) (.ref e_UnknownCall) = some false)
    (u_NoRoom_WrongNumbers : PySem.W.subIn K (.ref e_NoRoom) (.ref e_WrongNumbers) = some false)
    (u_NoRoom_NoSuchAxiom : PySem.W.subIn K (.ref e_NoRoom) (.ref e_NoSuchAxiom) = some false)
    (u_NoRoom_NotWeaker : PySem.W.subIn K (.ref e_NoRoom) (.ref e_NotWeaker) = some false)
    (u_NoRoom_NoRepair : PySem.W.subIn K (.ref e_NoRoom) (.ref e_NoRepair) = some false)
    (u_NoRoom_NoRoom : PySem.W.subIn K (.ref e_NoRoom) (.ref e_NoRoom) = some true)
    (u_NoRoom_UnknownCall : PySem.W.subIn K (.ref e_NoRoom) (.ref e_UnknownCall) = some false)
    (u_UnknownCall_WrongNumbers : PySem.W.subIn K (.ref e_UnknownCall) (.ref e_WrongNumbers) = some false)
    (u_UnknownCall_NoSuchAxiom : PySem.W.subIn K (.ref e_UnknownCall) (.ref e_NoSuchAxiom) = some false)
    (u_UnknownCall_NotWeaker : PySem.W.subIn K (.ref e_UnknownCall) (.ref e_NotWeaker) = some false)
    (u_UnknownCall_NoRepair : PySem.W.subIn K (.ref e_UnknownCall) (.ref e_NoRepair) = some false)
    (u_UnknownCall_NoRoom : PySem.W.subIn K (.ref e_UnknownCall) (.ref e_NoRoom) = some false)
    (u_UnknownCall_UnknownCall : PySem.W.subIn K (.ref e_UnknownCall) (.ref e_UnknownCall) = some true)
    (g_EVERYTHING : PySem.W.nsIn K mainGlobals "EVERYTHING" = some (some (.int 0 tk_EVERYTHING)))
    (g_NOTHING : PySem.W.nsIn K mainGlobals "NOTHING" = some (some (.int 1 tk_NOTHING)))
    (g_NAME : PySem.W.nsIn K mainGlobals "NAME" = some (some (.int 2 tk_NAME)))
    (g_BOTH : PySem.W.nsIn K mainGlobals "BOTH" = some (some (.int 3 tk_BOTH)))
    (g_EITHER : PySem.W.nsIn K mainGlobals "EITHER" = some (some (.int 4 tk_EITHER)))
    (g_SOME : PySem.W.nsIn K mainGlobals "SOME" = some (some (.int 6 tk_SOME)))
    (g_ATOM_SIGNS : PySem.W.nsIn K mainGlobals "ATOM_SIGNS" = some (some (.ref t_ATOM_SIGNS)))
    (lt_ATOM_SIGNS : K.lookup t_ATOM_SIGNS = some ⟨.type "tuple", ot_ATOM_SIGNS, .seq its_ATOM_SIGNS nn_ATOM_SIGNS, slt_ATOM_SIGNS⟩)
    (sz_ATOM_SIGNS : its_ATOM_SIGNS.size ≤ sizeLine)
    (vs_ATOM_SIGNS : Vals (iv [2, 6, 7]) its_ATOM_SIGNS.toList)
    (g_CHOICES : PySem.W.nsIn K mainGlobals "CHOICES" = some (some (.ref t_CHOICES)))
    (lt_CHOICES : K.lookup t_CHOICES = some ⟨.type "tuple", ot_CHOICES, .seq its_CHOICES nn_CHOICES, slt_CHOICES⟩)
    (sz_CHOICES : its_CHOICES.size ≤ sizeLine)
    (vs_CHOICES : Vals (iv [0, 0, 4, 0, 0, 0, 2, 2]) its_CHOICES.toList)
    (g_FOLLOWERS : PySem.W.nsIn K mainGlobals "FOLLOWERS" = some (some (.ref t_FOLLOWERS)))
    (lt_FOLLOWERS : K.lookup t_FOLLOWERS = some ⟨.type "tuple", ot_FOLLOWERS, .seq its_FOLLOWERS nn_FOLLOWERS, slt_FOLLOWERS⟩)
    (sz_FOLLOWERS : its_FOLLOWERS.size ≤ sizeLine)
    (vs_FOLLOWERS : Vals (iv [0, 0, 0, 2, 2, 1, 1, 1]) its_FOLLOWERS.toList)
    (g_MOST_AXIOMS : PySem.W.nsIn K mainGlobals "MOST_AXIOMS" = some (some (.int 3 tk_MOST_AXIOMS)))
    (g_MOST_FORMS : PySem.W.nsIn K mainGlobals "MOST_FORMS" = some (some (.int 3 tk_MOST_FORMS)))
    (g_MOST_WISHES : PySem.W.nsIn K mainGlobals "MOST_WISHES" = some (some (.int 2 tk_MOST_WISHES)))
    (g_MOST_ATOMS : PySem.W.nsIn K mainGlobals "MOST_ATOMS" = some (some (.int 5 tk_MOST_ATOMS)))
    (g_HIGHEST_PRICE : PySem.W.nsIn K mainGlobals "HIGHEST_PRICE" = some (some (.int 1000 tk_HIGHEST_PRICE)))
    (g_BEGINS : PySem.W.nsIn K mainGlobals "BEGINS" = some (some (.int 0 tk_BEGINS)))
    (g_LINE : PySem.W.nsIn K mainGlobals "LINE" = some (some (.int 1 tk_LINE)))
    (g_LESS : PySem.W.nsIn K mainGlobals "LESS" = some (some (.int 2 tk_LESS)))
    (g_NEVER : PySem.W.nsIn K mainGlobals "NEVER" = some (some (.int 3 tk_NEVER)))
    (g_KEEP : PySem.W.nsIn K mainGlobals "KEEP" = some (some (.int 4 tk_KEEP)))
    (g_MEND : PySem.W.nsIn K mainGlobals "MEND" = some (some (.int 5 tk_MEND)))
    (g_LEAST : PySem.W.nsIn K mainGlobals "LEAST" = some (some (.int 6 tk_LEAST)))
    (g_CHECK : PySem.W.nsIn K mainGlobals "CHECK" = some (some (.int 7 tk_CHECK)))
    (g_DONE : PySem.W.nsIn K mainGlobals "DONE" = some (some (.int 8 tk_DONE)))
    (b_all : PySem.W.nsIn K mainGlobals "all" = some none)
    (b_any : PySem.W.nsIn K mainGlobals "any" = some none)
    (b_enumerate : PySem.W.nsIn K mainGlobals "enumerate" = some none)
    (b_int : PySem.W.nsIn K mainGlobals "int" = some none)
    (b_len : PySem.W.nsIn K mainGlobals "len" = some none)
    (b_list : PySem.W.nsIn K mainGlobals "list" = some none)
    (b_min : PySem.W.nsIn K mainGlobals "min" = some none)
    (b_range : PySem.W.nsIn K mainGlobals "range" = some none)
    (b_reversed : PySem.W.nsIn K mainGlobals "reversed" = some none)
    (b_sum : PySem.W.nsIn K mainGlobals "sum" = some none)
    (b_tuple : PySem.W.nsIn K mainGlobals "tuple" = some none)
    (b_zip : PySem.W.nsIn K mainGlobals "zip" = some none)
    (zcr : cd_Store_repair = .ref cr)
    : ∃ D : Dt, Tx K mg D ∧ D.f_answers = fa ∧ D.cr = cr ∧ D.tp = tp ∧ ∀ (s : Shared) (us : List Value), us.length = (["calls"] : List Str).length → BindsTo s D.d_answers ⟨us, []⟩ ((["calls"] : List Str).zip us) := by
  have e := hfa.symm.trans (PySem.W.mg_of X G a_m_answers)
  cases e
  let D : Dt := { f_Axiom_init := f_Axiom_init, d_Axiom_init := PySem.W.fnOf "__init__" "Axiom.__init__" (defArgs s_Axiom_init) (defBody s_Axiom_init) (defScope s_Axiom_init) .none kV_Axiom_init dc_Axiom_init pm_Axiom_init an_Axiom_init cd_Axiom_init ct_Axiom_init, f_Axiom_weaken := f_Axiom_weaken, d_Axiom_weaken := PySem.W.fnOf "weaken" "Axiom.weaken" (defArgs s_Axiom_weaken) (defBody s_Axiom_weaken) (defScope s_Axiom_weaken) .none kV_Axiom_weaken dc_Axiom_weaken pm_Axiom_weaken an_Axiom_weaken cd_Axiom_weaken ct_Axiom_weaken, f_Axiom_removal := f_Axiom_removal, d_Axiom_removal := PySem.W.fnOf "removal" "Axiom.removal" (defArgs s_Axiom_removal) (defBody s_Axiom_removal) (defScope s_Axiom_removal) .none kV_Axiom_removal dc_Axiom_removal pm_Axiom_removal an_Axiom_removal cd_Axiom_removal ct_Axiom_removal, f_Axiom_price_to := f_Axiom_price_to, d_Axiom_price_to := PySem.W.fnOf "price_to" "Axiom.price_to" (defArgs s_Axiom_price_to) (defBody s_Axiom_price_to) (defScope s_Axiom_price_to) .none kV_Axiom_price_to dc_Axiom_price_to pm_Axiom_price_to an_Axiom_price_to cd_Axiom_price_to ct_Axiom_price_to, f_Axiom_weakened_to := f_Axiom_weakened_to, d_Axiom_weakened_to := PySem.W.fnOf "weakened_to" "Axiom.weakened_to" (defArgs s_Axiom_weakened_to) (defBody s_Axiom_weakened_to) (defScope s_Axiom_weakened_to) .none kV_Axiom_weakened_to dc_Axiom_weakened_to pm_Axiom_weakened_to an_Axiom_weakened_to cd_Axiom_weakened_to ct_Axiom_weakened_to, f_head_length := f_head_length, d_head_length := PySem.W.fnOf "head_length" "head_length" (defArgs s_head_length) (defBody s_head_length) (defScope s_head_length) .none kV_head_length dc_head_length pm_head_length an_head_length cd_head_length ct_head_length, f_end_of := f_end_of, d_end_of := PySem.W.fnOf "end_of" "end_of" (defArgs s_end_of) (defBody s_end_of) (defScope s_end_of) .none kV_end_of dc_end_of pm_end_of an_end_of cd_end_of ct_end_of, f_two_concepts := f_two_concepts, d_two_concepts := PySem.W.fnOf "two_concepts" "two_concepts" (defArgs s_two_concepts) (defBody s_two_concepts) (defScope s_two_concepts) .none kV_two_concepts dc_two_concepts pm_two_concepts an_two_concepts cd_two_concepts ct_two_concepts, f_followers_of := f_followers_of, d_followers_of := PySem.W.fnOf "followers_of" "followers_of" (defArgs s_followers_of) (defBody s_followers_of) (defScope s_followers_of) .none kV_followers_of dc_followers_of pm_followers_of an_followers_of cd_followers_of ct_followers_of, f_parts_of := f_parts_of, d_parts_of := PySem.W.fnOf "parts_of" "parts_of" (defArgs s_parts_of) (defBody s_parts_of) (defScope s_parts_of) .none kV_parts_of dc_parts_of pm_parts_of an_parts_of cd_parts_of ct_parts_of, f_atoms_of := f_atoms_of, d_atoms_of := PySem.W.fnOf "atoms_of" "atoms_of" (defArgs s_atoms_of) (defBody s_atoms_of) (defScope s_atoms_of) .none kV_atoms_of dc_atoms_of pm_atoms_of an_atoms_of cd_atoms_of ct_atoms_of, f_Link_init := f_Link_init, d_Link_init := PySem.W.fnOf "__init__" "Link.__init__" (defArgs s_Link_init) (defBody s_Link_init) (defScope s_Link_init) .none kV_Link_init dc_Link_init pm_Link_init an_Link_init cd_Link_init ct_Link_init, f_Patterns_init := f_Patterns_init, d_Patterns_init := PySem.W.fnOf "__init__" "Patterns.__init__" (defArgs s_Patterns_init) (defBody s_Patterns_init) (defScope s_Patterns_init) .none kV_Patterns_init dc_Patterns_init pm_Patterns_init an_Patterns_init cd_Patterns_init ct_Patterns_init, f_Patterns_joined := f_Patterns_joined, d_Patterns_joined := PySem.W.fnOf "joined" "Patterns.joined" (defArgs s_Patterns_joined) (defBody s_Patterns_joined) (defScope s_Patterns_joined) .none kV_Patterns_joined dc_Patterns_joined pm_Patterns_joined an_Patterns_joined cd_Patterns_joined ct_Patterns_joined, f_Patterns_link_of := f_Patterns_link_of, d_Patterns_link_of := PySem.W.fnOf "link_of" "Patterns.link_of" (defArgs s_Patterns_link_of) (defBody s_Patterns_link_of) (defScope s_Patterns_link_of) .none kV_Patterns_link_of dc_Patterns_link_of pm_Patterns_link_of an_Patterns_link_of cd_Patterns_link_of ct_Patterns_link_of, f_Patterns_relatable := f_Patterns_relatable, d_Patterns_relatable := PySem.W.fnOf "relatable" "Patterns.relatable" (defArgs s_Patterns_relatable) (defBody s_Patterns_relatable) (defScope s_Patterns_relatable) .none kV_Patterns_relatable dc_Patterns_relatable pm_Patterns_relatable an_Patterns_relatable cd_Patterns_relatable ct_Patterns_relatable, f_Patterns_can_occur := f_Patterns_can_occur, d_Patterns_can_occur := PySem.W.fnOf "can_occur" "Patterns.can_occur" (defArgs s_Patterns_can_occur) (defBody s_Patterns_can_occur) (defScope s_Patterns_can_occur) .none kV_Patterns_can_occur dc_Patterns_can_occur pm_Patterns_can_occur an_Patterns_can_occur cd_Patterns_can_occur ct_Patterns_can_occur, f_Patterns_occurring := f_Patterns_occurring, d_Patterns_occurring := PySem.W.fnOf "occurring" "Patterns.occurring" (defArgs s_Patterns_occurring) (defBody s_Patterns_occurring) (defScope s_Patterns_occurring) .none kV_Patterns_occurring dc_Patterns_occurring pm_Patterns_occurring an_Patterns_occurring cd_Patterns_occurring ct_Patterns_occurring, f_Patterns_against := f_Patterns_against, d_Patterns_against := PySem.W.fnOf "against" "Patterns.against" (defArgs s_Patterns_against) (defBody s_Patterns_against) (defScope s_Patterns_against) .none kV_Patterns_against dc_Patterns_against pm_Patterns_against an_Patterns_against cd_Patterns_against ct_Patterns_against, f_Patterns_subsumptions := f_Patterns_subsumptions, d_Patterns_subsumptions := PySem.W.fnOf "subsumptions" "Patterns.subsumptions" (defArgs s_Patterns_subsumptions) (defBody s_Patterns_subsumptions) (defScope s_Patterns_subsumptions) .none kV_Patterns_subsumptions dc_Patterns_subsumptions pm_Patterns_subsumptions an_Patterns_subsumptions cd_Patterns_subsumptions ct_Patterns_subsumptions, f_is_subsumed := f_is_subsumed, d_is_subsumed := PySem.W.fnOf "is_subsumed" "is_subsumed" (defArgs s_is_subsumed) (defBody s_is_subsumed) (defScope s_is_subsumed) .none kV_is_subsumed dc_is_subsumed pm_is_subsumed an_is_subsumed cd_is_subsumed ct_is_subsumed, f_all_ways := f_all_ways, d_all_ways := PySem.W.fnOf "all_ways" "all_ways" (defArgs s_all_ways) (defBody s_all_ways) (defScope s_all_ways) .none kV_all_ways dc_all_ways pm_all_ways an_all_ways cd_all_ways ct_all_ways, f_is_way := f_is_way, d_is_way := PySem.W.fnOf "is_way" "is_way" (defArgs s_is_way) (defBody s_is_way) (defScope s_is_way) .none kV_is_way dc_is_way pm_is_way an_is_way cd_is_way ct_is_way, f_price_of := f_price_of, d_price_of := PySem.W.fnOf "price_of" "price_of" (defArgs s_price_of) (defBody s_price_of) (defScope s_price_of) .none kV_price_of dc_price_of pm_price_of an_price_of cd_price_of ct_price_of, f_forms_at := f_forms_at, d_forms_at := PySem.W.fnOf "forms_at" "forms_at" (defArgs s_forms_at) (defBody s_forms_at) (defScope s_forms_at) .none kV_forms_at dc_forms_at pm_forms_at an_forms_at cd_forms_at ct_forms_at, f_is_nowhere_higher := f_is_nowhere_higher, d_is_nowhere_higher := PySem.W.fnOf "is_nowhere_higher" "is_nowhere_higher" (defArgs s_is_nowhere_higher) (defBody s_is_nowhere_higher) (defScope s_is_nowhere_higher) .none kV_is_nowhere_higher dc_is_nowhere_higher pm_is_nowhere_higher an_is_nowhere_higher cd_is_nowhere_higher ct_is_nowhere_higher, f_minimal_among := f_minimal_among, d_minimal_among := PySem.W.fnOf "minimal_among" "minimal_among" (defArgs s_minimal_among) (defBody s_minimal_among) (defScope s_minimal_among) .none kV_minimal_among dc_minimal_among pm_minimal_among an_minimal_among cd_minimal_among ct_minimal_among, f_Store_init := f_Store_init, d_Store_init := PySem.W.fnOf "__init__" "Store.__init__" (defArgs s_Store_init) (defBody s_Store_init) (defScope s_Store_init) .none kV_Store_init dc_Store_init pm_Store_init an_Store_init cd_Store_init ct_Store_init, f_Store_begins := f_Store_begins, d_Store_begins := PySem.W.fnOf "begins" "Store.begins" (defArgs s_Store_begins) (defBody s_Store_begins) (defScope s_Store_begins) .none kV_Store_begins dc_Store_begins pm_Store_begins an_Store_begins cd_Store_begins ct_Store_begins, f_Store_line := f_Store_line, d_Store_line := PySem.W.fnOf "line" "Store.line" (defArgs s_Store_line) (defBody s_Store_line) (defScope s_Store_line) .none kV_Store_line dc_Store_line pm_Store_line an_Store_line cd_Store_line ct_Store_line, f_Store_less := f_Store_less, d_Store_less := PySem.W.fnOf "less" "Store.less" (defArgs s_Store_less) (defBody s_Store_less) (defScope s_Store_less) .none kV_Store_less dc_Store_less pm_Store_less an_Store_less cd_Store_less ct_Store_less, f_Store_never := f_Store_never, d_Store_never := PySem.W.fnOf "never" "Store.never" (defArgs s_Store_never) (defBody s_Store_never) (defScope s_Store_never) .none kV_Store_never dc_Store_never pm_Store_never an_Store_never cd_Store_never ct_Store_never, f_Store_keep := f_Store_keep, d_Store_keep := PySem.W.fnOf "keep" "Store.keep" (defArgs s_Store_keep) (defBody s_Store_keep) (defScope s_Store_keep) .none kV_Store_keep dc_Store_keep pm_Store_keep an_Store_keep cd_Store_keep ct_Store_keep, f_Store_wish := f_Store_wish, d_Store_wish := PySem.W.fnOf "wish" "Store.wish" (defArgs s_Store_wish) (defBody s_Store_wish) (defScope s_Store_wish) .none kV_Store_wish dc_Store_wish pm_Store_wish an_Store_wish cd_Store_wish ct_Store_wish, f_Store_mend := f_Store_mend, d_Store_mend := PySem.W.fnOf "mend" "Store.mend" (defArgs s_Store_mend) (defBody s_Store_mend) (defScope s_Store_mend) .none kV_Store_mend dc_Store_mend pm_Store_mend an_Store_mend cd_Store_mend ct_Store_mend, f_Store_least := f_Store_least, d_Store_least := PySem.W.fnOf "least" "Store.least" (defArgs s_Store_least) (defBody s_Store_least) (defScope s_Store_least) .none kV_Store_least dc_Store_least pm_Store_least an_Store_least cd_Store_least ct_Store_least, f_Store_check := f_Store_check, d_Store_check := PySem.W.fnOf "check" "Store.check" (defArgs s_Store_check) (defBody s_Store_check) (defScope s_Store_check) .none kV_Store_check dc_Store_check pm_Store_check an_Store_check cd_Store_check ct_Store_check, f_Store_done := f_Store_done, d_Store_done := PySem.W.fnOf "done" "Store.done" (defArgs s_Store_done) (defBody s_Store_done) (defScope s_Store_done) .none kV_Store_done dc_Store_done pm_Store_done an_Store_done cd_Store_done ct_Store_done, f_Store_priced := f_Store_priced, d_Store_priced := PySem.W.fnOf "priced" "Store.priced" (defArgs s_Store_priced) (defBody s_Store_priced) (defScope s_Store_priced) .none kV_Store_priced dc_Store_priced pm_Store_priced an_Store_priced cd_Store_priced ct_Store_priced, f_Store_repair := f_Store_repair, d_Store_repair := PySem.W.fnOf "repair" "Store.repair" (defArgs s_Store_repair) (defBody s_Store_repair) (defScope s_Store_repair) .none kV_Store_repair dc_Store_repair pm_Store_repair an_Store_repair cd_Store_repair ct_Store_repair, f_Store_satisfying := f_Store_satisfying, d_Store_satisfying := PySem.W.fnOf "satisfying" "Store.satisfying" (defArgs s_Store_satisfying) (defBody s_Store_satisfying) (defScope s_Store_satisfying) .none kV_Store_satisfying dc_Store_satisfying pm_Store_satisfying an_Store_satisfying cd_Store_satisfying ct_Store_satisfying, f_Store_held_with := f_Store_held_with, d_Store_held_with := PySem.W.fnOf "held_with" "Store.held_with" (defArgs s_Store_held_with) (defBody s_Store_held_with) (defScope s_Store_held_with) .none kV_Store_held_with dc_Store_held_with pm_Store_held_with an_Store_held_with cd_Store_held_with ct_Store_held_with, f_Store_satisfied_by := f_Store_satisfied_by, d_Store_satisfied_by := PySem.W.fnOf "satisfied_by" "Store.satisfied_by" (defArgs s_Store_satisfied_by) (defBody s_Store_satisfied_by) (defScope s_Store_satisfied_by) .none kV_Store_satisfied_by dc_Store_satisfied_by pm_Store_satisfied_by an_Store_satisfied_by cd_Store_satisfied_by ct_Store_satisfied_by, f_Store_check_room := f_Store_check_room, d_Store_check_room := PySem.W.fnOf "check_room" "Store.check_room" (defArgs s_Store_check_room) (defBody s_Store_check_room) (defScope s_Store_check_room) .none kV_Store_check_room dc_Store_check_room pm_Store_check_room an_Store_check_room cd_Store_check_room ct_Store_check_room, f_Store_all_concepts := f_Store_all_concepts, d_Store_all_concepts := PySem.W.fnOf "all_concepts" "Store.all_concepts" (defArgs s_Store_all_concepts) (defBody s_Store_all_concepts) (defScope s_Store_all_concepts) .none kV_Store_all_concepts dc_Store_all_concepts pm_Store_all_concepts an_Store_all_concepts cd_Store_all_concepts ct_Store_all_concepts, f_check_price := f_check_price, d_check_price := PySem.W.fnOf "check_price" "check_price" (defArgs s_check_price) (defBody s_check_price) (defScope s_check_price) .none kV_check_price dc_check_price pm_check_price an_check_price cd_check_price ct_check_price, f_Reader_init := f_Reader_init, d_Reader_init := PySem.W.fnOf "__init__" "Reader.__init__" (defArgs s_Reader_init) (defBody s_Reader_init) (defScope s_Reader_init) .none kV_Reader_init dc_Reader_init pm_Reader_init an_Reader_init cd_Reader_init ct_Reader_init, f_Reader_at_end := f_Reader_at_end, d_Reader_at_end := PySem.W.fnOf "at_end" "Reader.at_end" (defArgs s_Reader_at_end) (defBody s_Reader_at_end) (defScope s_Reader_at_end) .none kV_Reader_at_end dc_Reader_at_end pm_Reader_at_end an_Reader_at_end cd_Reader_at_end ct_Reader_at_end, f_Reader_take_number := f_Reader_take_number, d_Reader_take_number := PySem.W.fnOf "take_number" "Reader.take_number" (defArgs s_Reader_take_number) (defBody s_Reader_take_number) (defScope s_Reader_take_number) .none kV_Reader_take_number dc_Reader_take_number pm_Reader_take_number an_Reader_take_number cd_Reader_take_number ct_Reader_take_number, f_Reader_take_list := f_Reader_take_list, d_Reader_take_list := PySem.W.fnOf "take_list" "Reader.take_list" (defArgs s_Reader_take_list) (defBody s_Reader_take_list) (defScope s_Reader_take_list) .none kV_Reader_take_list dc_Reader_take_list pm_Reader_take_list an_Reader_take_list cd_Reader_take_list ct_Reader_take_list, f_answers := fa, d_answers := PySem.W.fnOf "answers" "answers" (defArgs s_answers) (defBody s_answers) (defScope s_answers) .none kV_answers dc_answers pm_answers an_answers cd_answers ct_answers, f_answer_of := f_answer_of, d_answer_of := PySem.W.fnOf "answer_of" "answer_of" (defArgs s_answer_of) (defBody s_answer_of) (defScope s_answer_of) .none kV_answer_of dc_answer_of pm_answer_of an_answer_of cd_answer_of ct_answer_of, f_result_of := f_result_of, d_result_of := PySem.W.fnOf "result_of" "result_of" (defArgs s_result_of) (defBody s_result_of) (defScope s_result_of) .none kV_result_of dc_result_of pm_result_of an_result_of cd_result_of ct_result_of, a_Axiom := a_Axiom, a_Link := a_Link, a_Patterns := a_Patterns, a_Store := a_Store, a_Reader := a_Reader, e_WrongNumbers := e_WrongNumbers, e_NoSuchAxiom := e_NoSuchAxiom, e_NotWeaker := e_NotWeaker, e_NoRepair := e_NoRepair, e_NoRoom := e_NoRoom, e_UnknownCall := e_UnknownCall, t_ATOM_SIGNS := t_ATOM_SIGNS, t_CHOICES := t_CHOICES, t_FOLLOWERS := t_FOLLOWERS, cr := cr, tp := tp }
  have F_Axiom_init : Fun K "__init__" "Axiom.__init__" s_Axiom_init D.f_Axiom_init D.d_Axiom_init := fun_mk (st := s_Axiom_init) l_Axiom_init c_d_Axiom_init k_p_Axiom_init
  have B_Axiom_init : Binds K D.d_Axiom_init ["self", "forms", "prices"] [] := F_Axiom_init.binds (ps := ["self", "forms", "prices"]) fun _ _ _ _ _ _ us hl => match us, hl with | [_, _, _], _ => rfl
  have F_Axiom_weaken : Fun K "weaken" "Axiom.weaken" s_Axiom_weaken D.f_Axiom_weaken D.d_Axiom_weaken := fun_mk (st := s_Axiom_weaken) l_Axiom_weaken c_d_Axiom_weaken k_p_Axiom_weaken
  have B_Axiom_weaken : Binds K D.d_Axiom_weaken ["self", "price", "form"] [] := F_Axiom_weaken.binds (ps := ["self", "price", "form"]) fun _ _ _ _ _ _ us hl => match us, hl with | [_, _, _], _ => rfl
  have F_Axiom_removal : Fun K "removal" "Axiom.removal" s_Axiom_removal D.f_Axiom_removal D.d_Axiom_removal := fun_mk (st := s_Axiom_removal) l_Axiom_removal c_d_Axiom_removal k_p_Axiom_removal
  have B_Axiom_removal : Binds K D.d_Axiom_removal ["self"] [] := F_Axiom_removal.binds (ps := ["self"]) fun _ _ _ _ _ _ us hl => match us, hl with | [_], _ => rfl
  have F_Axiom_price_to : Fun K "price_to" "Axiom.price_to" s_Axiom_price_to D.f_Axiom_price_to D.d_Axiom_price_to := fun_mk (st := s_Axiom_price_to) l_Axiom_price_to c_d_Axiom_price_to k_p_Axiom_price_to
  have B_Axiom_price_to : Binds K D.d_Axiom_price_to ["self", "level"] [] := F_Axiom_price_to.binds (ps := ["self", "level"]) fun _ _ _ _ _ _ us hl => match us, hl with | [_, _], _ => rfl
  have F_Axiom_weakened_to : Fun K "weakened_to" "Axiom.weakened_to" s_Axiom_weakened_to D.f_Axiom_weakened_to D.d_Axiom_weakened_to := fun_mk (st := s_Axiom_weakened_to) l_Axiom_weakened_to c_d_Axiom_weakened_to k_p_Axiom_weakened_to
  have B_Axiom_weakened_to : Binds K D.d_Axiom_weakened_to ["self", "level"] [] := F_Axiom_weakened_to.binds (ps := ["self", "level"]) fun _ _ _ _ _ _ us hl => match us, hl with | [_, _], _ => rfl
  have F_head_length : Fun K "head_length" "head_length" s_head_length D.f_head_length D.d_head_length := fun_mk (st := s_head_length) l_head_length c_d_head_length k_p_head_length
  have B_head_length : Binds K D.d_head_length ["numbers", "place"] [] := F_head_length.binds (ps := ["numbers", "place"]) fun _ _ _ _ _ _ us hl => match us, hl with | [_, _], _ => rfl
  have F_end_of : Fun K "end_of" "end_of" s_end_of D.f_end_of D.d_end_of := fun_mk (st := s_end_of) l_end_of c_d_end_of k_p_end_of
  have B_end_of : Binds K D.d_end_of ["numbers", "start"] [] := F_end_of.binds (ps := ["numbers", "start"]) fun _ _ _ _ _ _ us hl => match us, hl with | [_, _], _ => rfl
  have F_two_concepts : Fun K "two_concepts" "two_concepts" s_two_concepts D.f_two_concepts D.d_two_concepts := fun_mk (st := s_two_concepts) l_two_concepts c_d_two_concepts k_p_two_concepts
  have B_two_concepts : Binds K D.d_two_concepts ["numbers"] [] := F_two_concepts.binds (ps := ["numbers"]) fun _ _ _ _ _ _ us hl => match us, hl with | [_], _ => rfl
  have F_followers_of : Fun K "followers_of" "followers_of" s_followers_of D.f_followers_of D.d_followers_of := fun_mk (st := s_followers_of) l_followers_of c_d_followers_of k_p_followers_of
  have B_followers_of : Binds K D.d_followers_of ["concept"] [] := F_followers_of.binds (ps := ["concept"]) fun _ _ _ _ _ _ us hl => match us, hl with | [_], _ => rfl
  have F_parts_of : Fun K "parts_of" "parts_of" s_parts_of D.f_parts_of D.d_parts_of := fun_mk (st := s_parts_of) l_parts_of c_d_parts_of k_p_parts_of
  have B_parts_of : Binds K D.d_parts_of ["concept"] [] := F_parts_of.binds (ps := ["concept"]) fun _ _ _ _ _ _ us hl => match us, hl with | [_], _ => rfl
  have F_atoms_of : Fun K "atoms_of" "atoms_of" s_atoms_of D.f_atoms_of D.d_atoms_of := fun_mk (st := s_atoms_of) l_atoms_of c_d_atoms_of k_p_atoms_of
  have B_atoms_of : Binds K D.d_atoms_of ["concepts"] [] := F_atoms_of.binds (ps := ["concepts"]) fun _ _ _ _ _ _ us hl => match us, hl with | [_], _ => rfl
  have F_Link_init : Fun K "__init__" "Link.__init__" s_Link_init D.f_Link_init D.d_Link_init := fun_mk (st := s_Link_init) l_Link_init c_d_Link_init k_p_Link_init
  have B_Link_init : Binds K D.d_Link_init ["self", "role", "needy", "goal"] [] := F_Link_init.binds (ps := ["self", "role", "needy", "goal"]) fun _ _ _ _ _ _ us hl => match us, hl with | [_, _, _, _], _ => rfl
  have F_Patterns_init : Fun K "__init__" "Patterns.__init__" s_Patterns_init D.f_Patterns_init D.d_Patterns_init := fun_mk (st := s_Patterns_init) l_Patterns_init c_d_Patterns_init k_p_Patterns_init
  have B_Patterns_init : Binds K D.d_Patterns_init ["self", "concepts"] [] := F_Patterns_init.binds (ps := ["self", "concepts"]) fun _ _ _ _ _ _ us hl => match us, hl with | [_, _], _ => rfl
  have F_Patterns_joined : Fun K "joined" "Patterns.joined" s_Patterns_joined D.f_Patterns_joined D.d_Patterns_joined := fun_mk (st := s_Patterns_joined) l_Patterns_joined c_d_Patterns_joined k_p_Patterns_joined
  have B_Patterns_joined : Binds K D.d_Patterns_joined ["self", "concept"] [] := F_Patterns_joined.binds (ps := ["self", "concept"]) fun _ _ _ _ _ _ us hl => match us, hl with | [_, _], _ => rfl
  have F_Patterns_link_of : Fun K "link_of" "Patterns.link_of" s_Patterns_link_of D.f_Patterns_link_of D.d_Patterns_link_of := fun_mk (st := s_Patterns_link_of) l_Patterns_link_of c_d_Patterns_link_of k_p_Patterns_link_of
  have B_Patterns_link_of : Binds K D.d_Patterns_link_of ["self", "atom"] [] := F_Patterns_link_of.binds (ps := ["self", "atom"]) fun _ _ _ _ _ _ us hl => match us, hl with | [_, _], _ => rfl
  have F_Patterns_relatable : Fun K "relatable" "Patterns.relatable" s_Patterns_relatable D.f_Patterns_relatable D.d_Patterns_relatable := fun_mk (st := s_Patterns_relatable) l_Patterns_relatable c_d_Patterns_relatable k_p_Patterns_relatable
  have B_Patterns_relatable : Binds K D.d_Patterns_relatable ["self", "pattern", "role", "group"] [] := F_Patterns_relatable.binds (ps := ["self", "pattern", "role", "group"]) fun _ _ _ _ _ _ us hl => match us, hl with | [_, _, _, _], _ => rfl
  have F_Patterns_can_occur : Fun K "can_occur" "Patterns.can_occur" s_Patterns_can_occur D.f_Patterns_can_occur D.d_Patterns_can_occur := fun_mk (st := s_Patterns_can_occur) l_Patterns_can_occur c_d_Patterns_can_occur k_p_Patterns_can_occur
  have B_Patterns_can_occur : Binds K D.d_Patterns_can_occur ["self", "pattern", "group"] [] := F_Patterns_can_occur.binds (ps := ["self", "pattern", "group"]) fun _ _ _ _ _ _ us hl => match us, hl with | [_, _, _], _ => rfl
  have F_Patterns_occurring : Fun K "occurring" "Patterns.occurring" s_Patterns_occurring D.f_Patterns_occurring D.d_Patterns_occurring := fun_mk (st := s_Patterns_occurring) l_Patterns_occurring c_d_Patterns_occurring k_p_Patterns_occurring
  have B_Patterns_occurring : Binds K D.d_Patterns_occurring ["self", "axioms"] [] := F_Patterns_occurring.binds (ps := ["self", "axioms"]) fun _ _ _ _ _ _ us hl => match us, hl with | [_, _], _ => rfl
  have F_Patterns_against : Fun K "against" "Patterns.against" s_Patterns_against D.f_Patterns_against D.d_Patterns_against := fun_mk (st := s_Patterns_against) l_Patterns_against c_d_Patterns_against k_p_Patterns_against
  have B_Patterns_against : Binds K D.d_Patterns_against ["self", "pair"] [] := F_Patterns_against.binds (ps := ["self", "pair"]) fun _ _ _ _ _ _ us hl => match us, hl with | [_, _], _ => rfl
  have F_Patterns_subsumptions : Fun K "subsumptions" "Patterns.subsumptions" s_Patterns_subsumptions D.f_Patterns_subsumptions D.d_Patterns_subsumptions := fun_mk (st := s_Patterns_subsumptions) l_Patterns_subsumptions c_d_Patterns_subsumptions k_p_Patterns_subsumptions
  have B_Patterns_subsumptions : Binds K D.d_Patterns_subsumptions ["self", "pairs", "axioms"] [] := F_Patterns_subsumptions.binds (ps := ["self", "pairs", "axioms"]) fun _ _ _ _ _ _ us hl => match us, hl with | [_, _, _], _ => rfl
  have F_is_subsumed : Fun K "is_subsumed" "is_subsumed" s_is_subsumed D.f_is_subsumed D.d_is_subsumed := fun_mk (st := s_is_subsumed) l_is_subsumed c_d_is_subsumed k_p_is_subsumed
  have B_is_subsumed : Binds K D.d_is_subsumed ["pair", "axioms"] [] := F_is_subsumed.binds (ps := ["pair", "axioms"]) fun _ _ _ _ _ _ us hl => match us, hl with | [_, _], _ => rfl
  have F_all_ways : Fun K "all_ways" "all_ways" s_all_ways D.f_all_ways D.d_all_ways := fun_mk (st := s_all_ways) l_all_ways c_d_all_ways k_p_all_ways
  have B_all_ways : Binds K D.d_all_ways ["axioms"] [] := F_all_ways.binds (ps := ["axioms"]) fun _ _ _ _ _ _ us hl => match us, hl with | [_], _ => rfl
  have F_is_way : Fun K "is_way" "is_way" s_is_way D.f_is_way D.d_is_way := fun_mk (st := s_is_way) l_is_way c_d_is_way k_p_is_way
  have B_is_way : Binds K D.d_is_way ["axioms", "levels"] [] := F_is_way.binds (ps := ["axioms", "levels"]) fun _ _ _ _ _ _ us hl => match us, hl with | [_, _], _ => rfl
  have F_price_of : Fun K "price_of" "price_of" s_price_of D.f_price_of D.d_price_of := fun_mk (st := s_price_of) l_price_of c_d_price_of k_p_price_of
  have B_price_of : Binds K D.d_price_of ["axioms", "way"] [] := F_price_of.binds (ps := ["axioms", "way"]) fun _ _ _ _ _ _ us hl => match us, hl with | [_, _], _ => rfl
  have F_forms_at : Fun K "forms_at" "forms_at" s_forms_at D.f_forms_at D.d_forms_at := fun_mk (st := s_forms_at) l_forms_at c_d_forms_at k_p_forms_at
  have B_forms_at : Binds K D.d_forms_at ["axioms", "way"] [] := F_forms_at.binds (ps := ["axioms", "way"]) fun _ _ _ _ _ _ us hl => match us, hl with | [_, _], _ => rfl
  have F_is_nowhere_higher : Fun K "is_nowhere_higher" "is_nowhere_higher" s_is_nowhere_higher D.f_is_nowhere_higher D.d_is_nowhere_higher := fun_mk (st := s_is_nowhere_higher) l_is_nowhere_higher c_d_is_nowhere_higher k_p_is_nowhere_higher
  have B_is_nowhere_higher : Binds K D.d_is_nowhere_higher ["way", "other"] [] := F_is_nowhere_higher.binds (ps := ["way", "other"]) fun _ _ _ _ _ _ us hl => match us, hl with | [_, _], _ => rfl
  have F_minimal_among : Fun K "minimal_among" "minimal_among" s_minimal_among D.f_minimal_among D.d_minimal_among := fun_mk (st := s_minimal_among) l_minimal_among c_d_minimal_among k_p_minimal_among
  have B_minimal_among : Binds K D.d_minimal_among ["ways"] [] := F_minimal_among.binds (ps := ["ways"]) fun _ _ _ _ _ _ us hl => match us, hl with | [_], _ => rfl
  have F_Store_init : Fun K "__init__" "Store.__init__" s_Store_init D.f_Store_init D.d_Store_init := fun_mk (st := s_Store_init) l_Store_init c_d_Store_init k_p_Store_init
  have B_Store_init : Binds K D.d_Store_init ["self"] [] := F_Store_init.binds (ps := ["self"]) fun _ _ _ _ _ _ us hl => match us, hl with | [_], _ => rfl
  have F_Store_begins : Fun K "begins" "Store.begins" s_Store_begins D.f_Store_begins D.d_Store_begins := fun_mk (st := s_Store_begins) l_Store_begins c_d_Store_begins k_p_Store_begins
  have B_Store_begins : Binds K D.d_Store_begins ["self"] [] := F_Store_begins.binds (ps := ["self"]) fun _ _ _ _ _ _ us hl => match us, hl with | [_], _ => rfl
  have F_Store_line : Fun K "line" "Store.line" s_Store_line D.f_Store_line D.d_Store_line := fun_mk (st := s_Store_line) l_Store_line c_d_Store_line k_p_Store_line
  have B_Store_line : Binds K D.d_Store_line ["self", "price", "numbers"] [] := F_Store_line.binds (ps := ["self", "price", "numbers"]) fun _ _ _ _ _ _ us hl => match us, hl with | [_, _, _], _ => rfl
  have F_Store_less : Fun K "less" "Store.less" s_Store_less D.f_Store_less D.d_Store_less := fun_mk (st := s_Store_less) l_Store_less c_d_Store_less k_p_Store_less
  have B_Store_less : Binds K D.d_Store_less ["self", "index", "price", "numbers"] [] := F_Store_less.binds (ps := ["self", "index", "price", "numbers"]) fun _ _ _ _ _ _ us hl => match us, hl with | [_, _, _, _], _ => rfl
  have F_Store_never : Fun K "never" "Store.never" s_Store_never D.f_Store_never D.d_Store_never := fun_mk (st := s_Store_never) l_Store_never c_d_Store_never k_p_Store_never
  have B_Store_never : Binds K D.d_Store_never ["self", "numbers"] [] := F_Store_never.binds (ps := ["self", "numbers"]) fun _ _ _ _ _ _ us hl => match us, hl with | [_, _], _ => rfl
  have F_Store_keep : Fun K "keep" "Store.keep" s_Store_keep D.f_Store_keep D.d_Store_keep := fun_mk (st := s_Store_keep) l_Store_keep c_d_Store_keep k_p_Store_keep
  have B_Store_keep : Binds K D.d_Store_keep ["self", "numbers"] [] := F_Store_keep.binds (ps := ["self", "numbers"]) fun _ _ _ _ _ _ us hl => match us, hl with | [_, _], _ => rfl
  have F_Store_wish : Fun K "wish" "Store.wish" s_Store_wish D.f_Store_wish D.d_Store_wish := fun_mk (st := s_Store_wish) l_Store_wish c_d_Store_wish k_p_Store_wish
  have B_Store_wish : Binds K D.d_Store_wish ["self", "wishes", "numbers"] [] := F_Store_wish.binds (ps := ["self", "wishes", "numbers"]) fun _ _ _ _ _ _ us hl => match us, hl with | [_, _, _], _ => rfl
  have F_Store_mend : Fun K "mend" "Store.mend" s_Store_mend D.f_Store_mend D.d_Store_mend := fun_mk (st := s_Store_mend) l_Store_mend c_d_Store_mend k_p_Store_mend
  have B_Store_mend : Binds K D.d_Store_mend ["self"] [] := F_Store_mend.binds (ps := ["self"]) fun _ _ _ _ _ _ us hl => match us, hl with | [_], _ => rfl
  have F_Store_least : Fun K "least" "Store.least" s_Store_least D.f_Store_least D.d_Store_least := fun_mk (st := s_Store_least) l_Store_least c_d_Store_least k_p_Store_least
  have B_Store_least : Binds K D.d_Store_least ["self"] [] := F_Store_least.binds (ps := ["self"]) fun _ _ _ _ _ _ us hl => match us, hl with | [_], _ => rfl
  have F_Store_check : Fun K "check" "Store.check" s_Store_check D.f_Store_check D.d_Store_check := fun_mk (st := s_Store_check) l_Store_check c_d_Store_check k_p_Store_check
  have B_Store_check : Binds K D.d_Store_check ["self", "levels"] [] := F_Store_check.binds (ps := ["self", "levels"]) fun _ _ _ _ _ _ us hl => match us, hl with | [_, _], _ => rfl
  have F_Store_done : Fun K "done" "Store.done" s_Store_done D.f_Store_done D.d_Store_done := fun_mk (st := s_Store_done) l_Store_done c_d_Store_done k_p_Store_done
  have B_Store_done : Binds K D.d_Store_done ["self"] [] := F_Store_done.binds (ps := ["self"]) fun _ _ _ _ _ _ us hl => match us, hl with | [_], _ => rfl
  have F_Store_priced : Fun K "priced" "Store.priced" s_Store_priced D.f_Store_priced D.d_Store_priced := fun_mk (st := s_Store_priced) l_Store_priced c_d_Store_priced k_p_Store_priced
  have B_Store_priced : Binds K D.d_Store_priced ["self", "way"] [] := F_Store_priced.binds (ps := ["self", "way"]) fun _ _ _ _ _ _ us hl => match us, hl with | [_, _], _ => rfl
  have F_Store_repair : Fun K "repair" "Store.repair" s_Store_repair D.f_Store_repair D.d_Store_repair := fun_mk (st := s_Store_repair) l_Store_repair c_d_Store_repair k_p_Store_repair
  have B_Store_repair : Binds K D.d_Store_repair ["self"] [] := F_Store_repair.binds (ps := ["self"]) fun _ _ _ _ _ _ us hl => match us, hl with | [_], _ => rfl
  have F_Store_satisfying : Fun K "satisfying" "Store.satisfying" s_Store_satisfying D.f_Store_satisfying D.d_Store_satisfying := fun_mk (st := s_Store_satisfying) l_Store_satisfying c_d_Store_satisfying k_p_Store_satisfying
  have B_Store_satisfying : Binds K D.d_Store_satisfying ["self"] [] := F_Store_satisfying.binds (ps := ["self"]) fun _ _ _ _ _ _ us hl => match us, hl with | [_], _ => rfl
  have F_Store_held_with : Fun K "held_with" "Store.held_with" s_Store_held_with D.f_Store_held_with D.d_Store_held_with := fun_mk (st := s_Store_held_with) l_Store_held_with c_d_Store_held_with k_p_Store_held_with
  have B_Store_held_with : Binds K D.d_Store_held_with ["self", "way", "patterns"] [] := F_Store_held_with.binds (ps := ["self", "way", "patterns"]) fun _ _ _ _ _ _ us hl => match us, hl with | [_, _, _], _ => rfl
  have F_Store_satisfied_by : Fun K "satisfied_by" "Store.satisfied_by" s_Store_satisfied_by D.f_Store_satisfied_by D.d_Store_satisfied_by := fun_mk (st := s_Store_satisfied_by) l_Store_satisfied_by c_d_Store_satisfied_by k_p_Store_satisfied_by
  have B_Store_satisfied_by : Binds K D.d_Store_satisfied_by ["self", "held"] [] := F_Store_satisfied_by.binds (ps := ["self", "held"]) fun _ _ _ _ _ _ us hl => match us, hl with | [_, _], _ => rfl
  have F_Store_check_room : Fun K "check_room" "Store.check_room" s_Store_check_room D.f_Store_check_room D.d_Store_check_room := fun_mk (st := s_Store_check_room) l_Store_check_room c_d_Store_check_room k_p_Store_check_room
  have B_Store_check_room : Binds K D.d_Store_check_room ["self", "present", "most", "pair"] [] := F_Store_check_room.binds (ps := ["self", "present", "most", "pair"]) fun _ _ _ _ _ _ us hl => match us, hl with | [_, _, _, _], _ => rfl
  have F_Store_all_concepts : Fun K "all_concepts" "Store.all_concepts" s_Store_all_concepts D.f_Store_all_concepts D.d_Store_all_concepts := fun_mk (st := s_Store_all_concepts) l_Store_all_concepts c_d_Store_all_concepts k_p_Store_all_concepts
  have B_Store_all_concepts : Binds K D.d_Store_all_concepts ["self"] [] := F_Store_all_concepts.binds (ps := ["self"]) fun _ _ _ _ _ _ us hl => match us, hl with | [_], _ => rfl
  have F_check_price : Fun K "check_price" "check_price" s_check_price D.f_check_price D.d_check_price := fun_mk (st := s_check_price) l_check_price c_d_check_price k_p_check_price
  have B_check_price : Binds K D.d_check_price ["price"] [] := F_check_price.binds (ps := ["price"]) fun _ _ _ _ _ _ us hl => match us, hl with | [_], _ => rfl
  have F_Reader_init : Fun K "__init__" "Reader.__init__" s_Reader_init D.f_Reader_init D.d_Reader_init := fun_mk (st := s_Reader_init) l_Reader_init c_d_Reader_init k_p_Reader_init
  have B_Reader_init : Binds K D.d_Reader_init ["self", "calls"] [] := F_Reader_init.binds (ps := ["self", "calls"]) fun _ _ _ _ _ _ us hl => match us, hl with | [_, _], _ => rfl
  have F_Reader_at_end : Fun K "at_end" "Reader.at_end" s_Reader_at_end D.f_Reader_at_end D.d_Reader_at_end := fun_mk (st := s_Reader_at_end) l_Reader_at_end c_d_Reader_at_end k_p_Reader_at_end
  have B_Reader_at_end : Binds K D.d_Reader_at_end ["self"] [] := F_Reader_at_end.binds (ps := ["self"]) fun _ _ _ _ _ _ us hl => match us, hl with | [_], _ => rfl
  have F_Reader_take_number : Fun K "take_number" "Reader.take_number" s_Reader_take_number D.f_Reader_take_number D.d_Reader_take_number := fun_mk (st := s_Reader_take_number) l_Reader_take_number c_d_Reader_take_number k_p_Reader_take_number
  have B_Reader_take_number : Binds K D.d_Reader_take_number ["self"] [] := F_Reader_take_number.binds (ps := ["self"]) fun _ _ _ _ _ _ us hl => match us, hl with | [_], _ => rfl
  have F_Reader_take_list : Fun K "take_list" "Reader.take_list" s_Reader_take_list D.f_Reader_take_list D.d_Reader_take_list := fun_mk (st := s_Reader_take_list) l_Reader_take_list c_d_Reader_take_list k_p_Reader_take_list
  have B_Reader_take_list : Binds K D.d_Reader_take_list ["self"] [] := F_Reader_take_list.binds (ps := ["self"]) fun _ _ _ _ _ _ us hl => match us, hl with | [_], _ => rfl
  have F_answers : Fun K "answers" "answers" s_answers D.f_answers D.d_answers := fun_mk (st := s_answers) l_answers c_d_answers k_p_answers
  have B_answers : Binds K D.d_answers ["calls"] [] := F_answers.binds (ps := ["calls"]) fun _ _ _ _ _ _ us hl => match us, hl with | [_], _ => rfl
  have F_answer_of : Fun K "answer_of" "answer_of" s_answer_of D.f_answer_of D.d_answer_of := fun_mk (st := s_answer_of) l_answer_of c_d_answer_of k_p_answer_of
  have B_answer_of : Binds K D.d_answer_of ["store", "reader"] [] := F_answer_of.binds (ps := ["store", "reader"]) fun _ _ _ _ _ _ us hl => match us, hl with | [_, _], _ => rfl
  have F_result_of : Fun K "result_of" "result_of" s_result_of D.f_result_of D.d_result_of := fun_mk (st := s_result_of) l_result_of c_d_result_of k_p_result_of
  have B_result_of : Binds K D.d_result_of ["store", "reader"] [] := F_result_of.binds (ps := ["store", "reader"]) fun _ _ _ _ _ _ us hl => match us, hl with | [_, _], _ => rfl
  have T : Tx K mg D := {
    h_cr := zcr,
    b_all := PySem.W.mg_none_of X G b_all,
    b_any := PySem.W.mg_none_of X G b_any,
    b_enumerate := PySem.W.mg_none_of X G b_enumerate,
    b_int := PySem.W.mg_none_of X G b_int,
    b_len := PySem.W.mg_none_of X G b_len,
    b_list := PySem.W.mg_none_of X G b_list,
    b_min := PySem.W.mg_none_of X G b_min,
    b_range := PySem.W.mg_none_of X G b_range,
    b_reversed := PySem.W.mg_none_of X G b_reversed,
    b_sum := PySem.W.mg_none_of X G b_sum,
    b_tuple := PySem.W.mg_none_of X G b_tuple,
    b_zip := PySem.W.mg_none_of X G b_zip,
    m_EVERYTHING := ⟨_, PySem.W.mg_of X G g_EVERYTHING⟩,
    m_NOTHING := ⟨_, PySem.W.mg_of X G g_NOTHING⟩,
    m_NAME := ⟨_, PySem.W.mg_of X G g_NAME⟩,
    m_BOTH := ⟨_, PySem.W.mg_of X G g_BOTH⟩,
    m_EITHER := ⟨_, PySem.W.mg_of X G g_EITHER⟩,
    m_SOME := ⟨_, PySem.W.mg_of X G g_SOME⟩,
    m_ATOM_SIGNS := PySem.W.mg_of X G g_ATOM_SIGNS,
    q_ATOM_SIGNS := ⟨_, its_ATOM_SIGNS, nn_ATOM_SIGNS, lt_ATOM_SIGNS, rfl, rfl, sz_ATOM_SIGNS, vs_ATOM_SIGNS⟩,
    m_CHOICES := PySem.W.mg_of X G g_CHOICES,
    q_CHOICES := ⟨_, its_CHOICES, nn_CHOICES, lt_CHOICES, rfl, rfl, sz_CHOICES, vs_CHOICES⟩,
    m_FOLLOWERS := PySem.W.mg_of X G g_FOLLOWERS,
    q_FOLLOWERS := ⟨_, its_FOLLOWERS, nn_FOLLOWERS, lt_FOLLOWERS, rfl, rfl, sz_FOLLOWERS, vs_FOLLOWERS⟩,
    m_MOST_AXIOMS := ⟨_, PySem.W.mg_of X G g_MOST_AXIOMS⟩,
    m_MOST_FORMS := ⟨_, PySem.W.mg_of X G g_MOST_FORMS⟩,
    m_MOST_WISHES := ⟨_, PySem.W.mg_of X G g_MOST_WISHES⟩,
    m_MOST_ATOMS := ⟨_, PySem.W.mg_of X G g_MOST_ATOMS⟩,
    m_HIGHEST_PRICE := ⟨_, PySem.W.mg_of X G g_HIGHEST_PRICE⟩,
    m_BEGINS := ⟨_, PySem.W.mg_of X G g_BEGINS⟩,
    m_LINE := ⟨_, PySem.W.mg_of X G g_LINE⟩,
    m_LESS := ⟨_, PySem.W.mg_of X G g_LESS⟩,
    m_NEVER := ⟨_, PySem.W.mg_of X G g_NEVER⟩,
    m_KEEP := ⟨_, PySem.W.mg_of X G g_KEEP⟩,
    m_MEND := ⟨_, PySem.W.mg_of X G g_MEND⟩,
    m_LEAST := ⟨_, PySem.W.mg_of X G g_LEAST⟩,
    m_CHECK := ⟨_, PySem.W.mg_of X G g_CHECK⟩,
    m_DONE := ⟨_, PySem.W.mg_of X G g_DONE⟩,
    F_Axiom_init := F_Axiom_init,
    b_Axiom_init := B_Axiom_init,
    F_Axiom_weaken := F_Axiom_weaken,
    b_Axiom_weaken := B_Axiom_weaken,
    M_Axiom_weaken := ⟨a_m_Axiom_weaken, i_Axiom_weaken, k_p_Axiom_weaken⟩,
    F_Axiom_removal := F_Axiom_removal,
    b_Axiom_removal := B_Axiom_removal,
    M_Axiom_removal := ⟨a_m_Axiom_removal, i_Axiom_removal, k_p_Axiom_removal⟩,
    F_Axiom_price_to := F_Axiom_price_to,
    b_Axiom_price_to := B_Axiom_price_to,
    M_Axiom_price_to := ⟨a_m_Axiom_price_to, i_Axiom_price_to, k_p_Axiom_price_to⟩,
    F_Axiom_weakened_to := F_Axiom_weakened_to,
    b_Axiom_weakened_to := B_Axiom_weakened_to,
    M_Axiom_weakened_to := ⟨a_m_Axiom_weakened_to, i_Axiom_weakened_to, k_p_Axiom_weakened_to⟩,
    F_head_length := F_head_length,
    b_head_length := B_head_length,
    m_head_length := PySem.W.mg_of X G a_m_head_length,
    F_end_of := F_end_of,
    b_end_of := B_end_of,
    m_end_of := PySem.W.mg_of X G a_m_end_of,
    F_two_concepts := F_two_concepts,
    b_two_concepts := B_two_concepts,
    m_two_concepts := PySem.W.mg_of X G a_m_two_concepts,
    F_followers_of := F_followers_of,
    b_followers_of := B_followers_of,
    m_followers_of := PySem.W.mg_of X G a_m_followers_of,
    F_parts_of := F_parts_of,
    b_parts_of := B_parts_of,
    m_parts_of := PySem.W.mg_of X G a_m_parts_of,
    F_atoms_of := F_atoms_of,
    b_atoms_of := B_atoms_of,
    m_atoms_of := PySem.W.mg_of X G a_m_atoms_of,
    F_Link_init := F_Link_init,
    b_Link_init := B_Link_init,
    F_Patterns_init := F_Patterns_init,
    b_Patterns_init := B_Patterns_init,
    F_Patterns_joined := F_Patterns_joined,
    b_Patterns_joined := B_Patterns_joined,
    M_Patterns_joined := ⟨a_m_Patterns_joined, i_Patterns_joined, k_p_Patterns_joined⟩,
    F_Patterns_link_of := F_Patterns_link_of,
    b_Patterns_link_of := B_Patterns_link_of,
    M_Patterns_link_of := ⟨a_m_Patterns_link_of, i_Patterns_link_of, k_p_Patterns_link_of⟩,
    F_Patterns_relatable := F_Patterns_relatable,
    b_Patterns_relatable := B_Patterns_relatable,
    M_Patterns_relatable := ⟨a_m_Patterns_relatable, i_Patterns_relatable, k_p_Patterns_relatable⟩,
    F_Patterns_can_occur := F_Patterns_can_occur,
    b_Patterns_can_occur := B_Patterns_can_occur,
    M_Patterns_can_occur := ⟨a_m_Patterns_can_occur, i_Patterns_can_occur, k_p_Patterns_can_occur⟩,
    F_Patterns_occurring := F_Patterns_occurring,
    b_Patterns_occurring := B_Patterns_occurring,
    M_Patterns_occurring := ⟨a_m_Patterns_occurring, i_Patterns_occurring, k_p_Patterns_occurring⟩,
    F_Patterns_against := F_Patterns_against,
    b_Patterns_against := B_Patterns_against,
    M_Patterns_against := ⟨a_m_Patterns_against, i_Patterns_against, k_p_Patterns_against⟩,
    F_Patterns_subsumptions := F_Patterns_subsumptions,
    b_Patterns_subsumptions := B_Patterns_subsumptions,
    M_Patterns_subsumptions := ⟨a_m_Patterns_subsumptions, i_Patterns_subsumptions, k_p_Patterns_subsumptions⟩,
    F_is_subsumed := F_is_subsumed,
    b_is_subsumed := B_is_subsumed,
    m_is_subsumed := PySem.W.mg_of X G a_m_is_subsumed,
    F_all_ways := F_all_ways,
    b_all_ways := B_all_ways,
    m_all_ways := PySem.W.mg_of X G a_m_all_ways,
    F_is_way := F_is_way,
    b_is_way := B_is_way,
    m_is_way := PySem.W.mg_of X G a_m_is_way,
    F_price_of := F_price_of,
    b_price_of := B_price_of,
    m_price_of := PySem.W.mg_of X G a_m_price_of,
    F_forms_at := F_forms_at,
    b_forms_at := B_forms_at,
    m_forms_at := PySem.W.mg_of X G a_m_forms_at,
    F_is_nowhere_higher := F_is_nowhere_higher,
    b_is_nowhere_higher := B_is_nowhere_higher,
    m_is_nowhere_higher := PySem.W.mg_of X G a_m_is_nowhere_higher,
    F_minimal_among := F_minimal_among,
    b_minimal_among := B_minimal_among,
    m_minimal_among := PySem.W.mg_of X G a_m_minimal_among,
    F_Store_init := F_Store_init,
    b_Store_init := B_Store_init,
    F_Store_begins := F_Store_begins,
    b_Store_begins := B_Store_begins,
    M_Store_begins := ⟨a_m_Store_begins, i_Store_begins, k_p_Store_begins⟩,
    F_Store_line := F_Store_line,
    b_Store_line := B_Store_line,
    M_Store_line := ⟨a_m_Store_line, i_Store_line, k_p_Store_line⟩,
    F_Store_less := F_Store_less,
    b_Store_less := B_Store_less,
    M_Store_less := ⟨a_m_Store_less, i_Store_less, k_p_Store_less⟩,
    F_Store_never := F_Store_never,
    b_Store_never := B_Store_never,
    M_Store_never := ⟨a_m_Store_never, i_Store_never, k_p_Store_never⟩,
    F_Store_keep := F_Store_keep,
    b_Store_keep := B_Store_keep,
    M_Store_keep := ⟨a_m_Store_keep, i_Store_keep, k_p_Store_keep⟩,
    F_Store_wish := F_Store_wish,
    b_Store_wish := B_Store_wish,
    M_Store_wish := ⟨a_m_Store_wish, i_Store_wish, k_p_Store_wish⟩,
    F_Store_mend := F_Store_mend,
    b_Store_mend := B_Store_mend,
    M_Store_mend := ⟨a_m_Store_mend, i_Store_mend, k_p_Store_mend⟩,
    F_Store_least := F_Store_least,
    b_Store_least := B_Store_least,
    M_Store_least := ⟨a_m_Store_least, i_Store_least, k_p_Store_least⟩,
    F_Store_check := F_Store_check,
    b_Store_check := B_Store_check,
    M_Store_check := ⟨a_m_Store_check, i_Store_check, k_p_Store_check⟩,
    F_Store_done := F_Store_done,
    b_Store_done := B_Store_done,
    M_Store_done := ⟨a_m_Store_done, i_Store_done, k_p_Store_done⟩,
    F_Store_priced := F_Store_priced,
    b_Store_priced := B_Store_priced,
    M_Store_priced := ⟨a_m_Store_priced, i_Store_priced, k_p_Store_priced⟩,
    F_Store_repair := F_Store_repair,
    b_Store_repair := B_Store_repair,
    M_Store_repair := ⟨a_m_Store_repair, i_Store_repair, k_p_Store_repair⟩,
    F_Store_satisfying := F_Store_satisfying,
    b_Store_satisfying := B_Store_satisfying,
    M_Store_satisfying := ⟨a_m_Store_satisfying, i_Store_satisfying, k_p_Store_satisfying⟩,
    F_Store_held_with := F_Store_held_with,
    b_Store_held_with := B_Store_held_with,
    M_Store_held_with := ⟨a_m_Store_held_with, i_Store_held_with, k_p_Store_held_with⟩,
    F_Store_satisfied_by := F_Store_satisfied_by,
    b_Store_satisfied_by := B_Store_satisfied_by,
    M_Store_satisfied_by := ⟨a_m_Store_satisfied_by, i_Store_satisfied_by, k_p_Store_satisfied_by⟩,
    F_Store_check_room := F_Store_check_room,
    b_Store_check_room := B_Store_check_room,
    M_Store_check_room := ⟨a_m_Store_check_room, i_Store_check_room, k_p_Store_check_room⟩,
    F_Store_all_concepts := F_Store_all_concepts,
    b_Store_all_concepts := B_Store_all_concepts,
    M_Store_all_concepts := ⟨a_m_Store_all_concepts, i_Store_all_concepts, k_p_Store_all_concepts⟩,
    F_check_price := F_check_price,
    b_check_price := B_check_price,
    m_check_price := PySem.W.mg_of X G a_m_check_price,
    F_Reader_init := F_Reader_init,
    b_Reader_init := B_Reader_init,
    F_Reader_at_end := F_Reader_at_end,
    b_Reader_at_end := B_Reader_at_end,
    M_Reader_at_end := ⟨a_m_Reader_at_end, i_Reader_at_end, k_p_Reader_at_end⟩,
    F_Reader_take_number := F_Reader_take_number,
    b_Reader_take_number := B_Reader_take_number,
    M_Reader_take_number := ⟨a_m_Reader_take_number, i_Reader_take_number, k_p_Reader_take_number⟩,
    F_Reader_take_list := F_Reader_take_list,
    b_Reader_take_list := B_Reader_take_list,
    M_Reader_take_list := ⟨a_m_Reader_take_list, i_Reader_take_list, k_p_Reader_take_list⟩,
    F_answers := F_answers,
    b_answers := B_answers,
    m_answers := PySem.W.mg_of X G a_m_answers,
    F_answer_of := F_answer_of,
    b_answer_of := B_answer_of,
    m_answer_of := PySem.W.mg_of X G a_m_answer_of,
    F_result_of := F_result_of,
    b_result_of := B_result_of,
    m_result_of := PySem.W.mg_of X G a_m_result_of,
    c_Axiom := ⟨pg_Axiom, hd_Axiom, po_Axiom, sa_Axiom⟩,
    m_Axiom := PySem.W.mg_of X G hc_Axiom,
    M_Axiom := ⟨mk_Axiom, a_m_Axiom_init, i_Axiom_init, kc_Axiom⟩,
    n_Axiom_forms := n_Axiom_forms,
    n_Axiom_prices := n_Axiom_prices,
    c_Link := ⟨pg_Link, hd_Link, po_Link, sa_Link⟩,
    m_Link := PySem.W.mg_of X G hc_Link,
    M_Link := ⟨mk_Link, a_m_Link_init, i_Link_init, kc_Link⟩,
    n_Link_role := n_Link_role,
    n_Link_needy := n_Link_needy,
    n_Link_goal := n_Link_goal,
    c_Patterns := ⟨pg_Patterns, hd_Patterns, po_Patterns, sa_Patterns⟩,
    m_Patterns := PySem.W.mg_of X G hc_Patterns,
    M_Patterns := ⟨mk_Patterns, a_m_Patterns_init, i_Patterns_init, kc_Patterns⟩,
    n_Patterns_total := n_Patterns_total,
    n_Patterns_whole := n_Patterns_whole,
    n_Patterns_groups := n_Patterns_groups,
    n_Patterns_links := n_Patterns_links,
    c_Store := ⟨pg_Store, hd_Store, po_Store, sa_Store⟩,
    m_Store := PySem.W.mg_of X G hc_Store,
    M_Store := ⟨mk_Store, a_m_Store_init, i_Store_init, kc_Store⟩,
    n_Store_axioms := n_Store_axioms,
    n_Store_unwanted := n_Store_unwanted,
    n_Store_wanted := n_Store_wanted,
    c_Reader := ⟨pg_Reader, hd_Reader, po_Reader, sa_Reader⟩,
    m_Reader := PySem.W.mg_of X G hc_Reader,
    M_Reader := ⟨mk_Reader, a_m_Reader_init, i_Reader_init, kc_Reader⟩,
    n_Reader_calls := n_Reader_calls,
    n_Reader_place := n_Reader_place,
    m_WrongNumbers := PySem.W.mg_of X G he_WrongNumbers,
    x_WrongNumbers := x_WrongNumbers,
    k_WrongNumbers := k_WrongNumbers,
    s_WrongNumbers := s_WrongNumbers,
    y_WrongNumbers := y_WrongNumbers,
    z_WrongNumbers_WrongNumbers := exm_at s_WrongNumbers j_WrongNumbers y_WrongNumbers u_WrongNumbers_WrongNumbers,
    z_WrongNumbers_NoSuchAxiom := exm_at s_NoSuchAxiom j_NoSuchAxiom y_NoSuchAxiom u_WrongNumbers_NoSuchAxiom,
    z_WrongNumbers_NotWeaker := exm_at s_NotWeaker j_NotWeaker y_NotWeaker u_WrongNumbers_NotWeaker,
    z_WrongNumbers_NoRepair := exm_at s_NoRepair j_NoRepair y_NoRepair u_WrongNumbers_NoRepair,
    z_WrongNumbers_NoRoom := exm_at s_NoRoom j_NoRoom y_NoRoom u_WrongNumbers_NoRoom,
    z_WrongNumbers_UnknownCall := exm_at s_UnknownCall j_UnknownCall y_UnknownCall u_WrongNumbers_UnknownCall,
    m_NoSuchAxiom := PySem.W.mg_of X G he_NoSuchAxiom,
    x_NoSuchAxiom := x_NoSuchAxiom,
    k_NoSuchAxiom := k_NoSuchAxiom,
    s_NoSuchAxiom := s_NoSuchAxiom,
    y_NoSuchAxiom := y_NoSuchAxiom,
    z_NoSuchAxiom_WrongNumbers := exm_at s_WrongNumbers j_WrongNumbers y_WrongNumbers u_NoSuchAxiom_WrongNumbers,
    z_NoSuchAxiom_NoSuchAxiom := exm_at s_NoSuchAxiom j_NoSuchAxiom y_NoSuchAxiom u_NoSuchAxiom_NoSuchAxiom,
    z_NoSuchAxiom_NotWeaker := exm_at s_NotWeaker j_NotWeaker y_NotWeaker u_NoSuchAxiom_NotWeaker,
    z_NoSuchAxiom_NoRepair := exm_at s_NoRepair j_NoRepair y_NoRepair u_NoSuchAxiom_NoRepair,
    z_NoSuchAxiom_NoRoom := exm_at s_NoRoom j_NoRoom y_NoRoom u_NoSuchAxiom_NoRoom,
    z_NoSuchAxiom_UnknownCall := exm_at s_UnknownCall j_UnknownCall y_UnknownCall u_NoSuchAxiom_UnknownCall,
    m_NotWeaker := PySem.W.mg_of X G he_NotWeaker,
    x_NotWeaker := x_NotWeaker,
    k_NotWeaker := k_NotWeaker,
    s_NotWeaker := s_NotWeaker,
    y_NotWeaker := y_NotWeaker,
    z_NotWeaker_WrongNumbers := exm_at s_WrongNumbers j_WrongNumbers y_WrongNumbers u_NotWeaker_WrongNumbers,
    z_NotWeaker_NoSuchAxiom := exm_at s_NoSuchAxiom j_NoSuchAxiom y_NoSuchAxiom u_NotWeaker_NoSuchAxiom,
    z_NotWeaker_NotWeaker := exm_at s_NotWeaker j_NotWeaker y_NotWeaker u_NotWeaker_NotWeaker,
    z_NotWeaker_NoRepair := exm_at s_NoRepair j_NoRepair y_NoRepair u_NotWeaker_NoRepair,
    z_NotWeaker_NoRoom := exm_at s_NoRoom j_NoRoom y_NoRoom u_NotWeaker_NoRoom,
    z_NotWeaker_UnknownCall := exm_at s_UnknownCall j_UnknownCall y_UnknownCall u_NotWeaker_UnknownCall,
    m_NoRepair := PySem.W.mg_of X G he_NoRepair,
    x_NoRepair := x_NoRepair,
    k_NoRepair := k_NoRepair,
    s_NoRepair := s_NoRepair,
    y_NoRepair := y_NoRepair,
    z_NoRepair_WrongNumbers := exm_at s_WrongNumbers j_WrongNumbers y_WrongNumbers u_NoRepair_WrongNumbers,
    z_NoRepair_NoSuchAxiom := exm_at s_NoSuchAxiom j_NoSuchAxiom y_NoSuchAxiom u_NoRepair_NoSuchAxiom,
    z_NoRepair_NotWeaker := exm_at s_NotWeaker j_NotWeaker y_NotWeaker u_NoRepair_NotWeaker,
    z_NoRepair_NoRepair := exm_at s_NoRepair j_NoRepair y_NoRepair u_NoRepair_NoRepair,
    z_NoRepair_NoRoom := exm_at s_NoRoom j_NoRoom y_NoRoom u_NoRepair_NoRoom,
    z_NoRepair_UnknownCall := exm_at s_UnknownCall j_UnknownCall y_UnknownCall u_NoRepair_UnknownCall,
    m_NoRoom := PySem.W.mg_of X G he_NoRoom,
    x_NoRoom := x_NoRoom,
    k_NoRoom := k_NoRoom,
    s_NoRoom := s_NoRoom,
    y_NoRoom := y_NoRoom,
    z_NoRoom_WrongNumbers := exm_at s_WrongNumbers j_WrongNumbers y_WrongNumbers u_NoRoom_WrongNumbers,
    z_NoRoom_NoSuchAxiom := exm_at s_NoSuchAxiom j_NoSuchAxiom y_NoSuchAxiom u_NoRoom_NoSuchAxiom,
    z_NoRoom_NotWeaker := exm_at s_NotWeaker j_NotWeaker y_NotWeaker u_NoRoom_NotWeaker,
    z_NoRoom_NoRepair := exm_at s_NoRepair j_NoRepair y_NoRepair u_NoRoom_NoRepair,
    z_NoRoom_NoRoom := exm_at s_NoRoom j_NoRoom y_NoRoom u_NoRoom_NoRoom,
    z_NoRoom_UnknownCall := exm_at s_UnknownCall j_UnknownCall y_UnknownCall u_NoRoom_UnknownCall,
    m_UnknownCall := PySem.W.mg_of X G he_UnknownCall,
    x_UnknownCall := x_UnknownCall,
    k_UnknownCall := k_UnknownCall,
    s_UnknownCall := s_UnknownCall,
    y_UnknownCall := y_UnknownCall,
    z_UnknownCall_WrongNumbers := exm_at s_WrongNumbers j_WrongNumbers y_WrongNumbers u_UnknownCall_WrongNumbers,
    z_UnknownCall_NoSuchAxiom := exm_at s_NoSuchAxiom j_NoSuchAxiom y_NoSuchAxiom u_UnknownCall_NoSuchAxiom,
    z_UnknownCall_NotWeaker := exm_at s_NotWeaker j_NotWeaker y_NotWeaker u_UnknownCall_NotWeaker,
    z_UnknownCall_NoRepair := exm_at s_NoRepair j_NoRepair y_NoRepair u_UnknownCall_NoRepair,
    z_UnknownCall_NoRoom := exm_at s_NoRoom j_NoRoom y_NoRoom u_UnknownCall_NoRoom,
    z_UnknownCall_UnknownCall := exm_at s_UnknownCall j_UnknownCall y_UnknownCall u_UnknownCall_UnknownCall }
  exact ⟨D, T, rfl, rfl, rfl, fun s us hu => match us, hu with | [_], _ => .of_eq rfl⟩
theorem all_fin {P : Program} {w : World} {K : PySem.W.Frag} {mg : Str → Option Value} {fa cr tp : Addr} (h : ∃ D : Dt, Tx K mg D ∧ D.f_answers = fa ∧ D.cr = cr ∧ D.tp = tp ∧ ∀ (s : Shared) (us : List Value), us.length = (["calls"] : List Str).length → BindsTo s D.d_answers ⟨us, []⟩ ((["calls"] : List Str).zip us)) :
    ∃ fd : FuncData, (∀ (s : Shared) (us : List Value), us.length = (["calls"] : List Str).length → BindsTo s fd ⟨us, []⟩ ((["calls"] : List Str).zip us)) ∧ ∀ base : Heap, K.In base → base.Ns mainGlobals mg → TabB base mg cr tp → FnOk P w K mg base CX0 12 fa fd ["calls"] (spAns K tp) := by
  obtain ⟨D, T, rfl, rfl, rfl, hb⟩ := h
  exact ⟨D.d_answers, hb, fun base _ _ TB => ok_answers T TB⟩
/-! ### the same program at the empty list alone -/
def spBare (K : PySem.W.Frag) : Sp := fun vs H Q _ => ∃ a : Addr, vs = [.ref a] ∧ SqL K H a [] ∧ ∀ (H' : Hp) (p : Addr), H' p = some (.lst []) → Q (.ref p) H'
theorem ok_bare {P : Program} {w : World} {K : PySem.W.Frag} {mg : Str → Option Value} {base : Heap} {D : Dt} (T : Tx K mg D) : FnOk P w K mg base CX0 12 D.f_answers D.d_answers ["calls"] (spBare K) := by
  have ok0 : FnOk P w K mg base CX0 11 D.f_answer_of D.d_answer_of ["store", "reader"] (fun _ _ _ _ => False) := ⟨fun _ _ _ _ z => z.elim, fun _ _ _ _ _ _ _ _ _ _ _ _ _ z => z.elim⟩
  refine T.F_answers.ok sc_answers (fun vs H Q E h => ?_) (fun cdv A outer s H vs Q E hr h => ?_)
  · obtain ⟨a, rfl, _⟩ := h
    rfl
  · obtain ⟨ca, rfl, hca, k⟩ := h
    refine ⟨_, (pss_cons (ps_set (i := 1) sc_answers.nd rfl (.inl rfl) (pe_make0 T.M_Store (ok_Store_init T) (hr.mono (by decide)) (by rfl) T.m_Store T.b_Store_init .nil pass0 ))
      (pss_cons (ps_set (i := 2) sc_answers.nd rfl (.inl rfl) (pe_make T.M_Reader (ok_Reader_init T) (hr.mono (by decide)) (by rfl) T.m_Reader T.b_Reader_init .nil pass0 (pa_cons (pv 0) pa_nil)))
      (pss_cons (ps_set (i := 3) sc_answers.nd rfl (.inl rfl) (pe_lst (pa_nil)))
      (pss_cons (ps_while PassesOwn.never (pt_not (pt_val (pe_meth0 (pv 2) T.c_Reader T.M_Reader_at_end (ok_Reader_at_end T) (hr.mono (by decide)) T.b_Reader_at_end .nil pass0 )))
      (pss_cons (ps_set (i := 4) sc_answers.nd rfl (.inl rfl) (pe_call ok0 (hr.mono (by decide)) (by rfl) T.m_answer_of T.F_answer_of.kp T.b_answer_of .nil pass0 (pa_cons (pv 1) (pa_cons (pv 2) pa_nil))))
      (pss_cons (ps_expr (pe_bm PySem.F.plainAttrs_list PySem.F.slot_list_append PySem.F.type_list_append mt_append (pv 3) (pa_cons (pe_len (by rfl) T.b_len (pv 4)) pa_nil)))
      (pss_one (ps_expr (pe_bm PySem.F.plainAttrs_list PySem.F.slot_list_extend PySem.F.type_list_extend mt_extend (pv 3) (pa_cons (pv 4) pa_nil)))))))
      (pss_one (ps_ret (pv 3))))))), ?_⟩
    intro st sx nst nsx nex
    have s0 : Same H (upd (upd H sx (.own st)) st (.ins D.a_Store sx [])) := fun b o e => by
      rw [upd_ne (ne_of_none e nst), upd_ne (ne_of_none e nsx)]
      exact e
    refine ⟨st, sx, rfl, upd_same, fun H1 d hdst hS fresh keep => ⟨rfl, ?_⟩⟩
    have s1 : Same H H1 := fun b o e => keep b o (s0 b o e) (ne_of_none e nst)
    refine ⟨_, rfl, fun rd rx nrd nrx nex2 => ?_⟩
    have s2 : Same H1 (upd (upd H1 rx (.own rd)) rd (.ins D.a_Reader rx [])) := fun b o e => by
      rw [upd_ne (ne_of_none e nrd), upd_ne (ne_of_none e nrx)]
      exact e
    refine ⟨rd, rx, ca, rfl, upd_same, fun H2 hR keep2 => ⟨rfl, ?_⟩⟩
    have s3 : Same H1 H2 := fun b o e => keep2 b o (s2 b o e) (ne_of_none e nrd)
    refine ⟨by show 0 ≤ sizeLine; decide, fun tl ntl => ?_⟩
    have s4 := Same.new (o := .lst []) ntl
    have hca4 : SqL K (upd H2 tl (.lst [])) ca (([] : List Int).map V.int) := ((s1.trans s3).trans s4).seq hca
    obtain ⟨dxr, hrd⟩ := hR
    have hrd4 := s4 _ _ hrd
    refine ⟨fun _ σ H' => σ = [some (.ref ca), some (.ref st), some (.ref rd), some (.ref tl), none] ∧ H' = upd H2 tl (.lst []), ⟨0, rfl, rfl⟩, ?_⟩
    rintro m σ H5 ⟨rfl, rfl⟩
    refine ⟨_, rfl, rd, dxr, _, rfl, hrd4, no_Reader_2_at_end, rd, ca, 0, [], rfl, ⟨dxr, hrd4⟩, hca4, ?_⟩
    refine ⟨_, rfl, if_false_of rfl ⟨_, rfl, k _ tl upd_same⟩⟩
theorem bare_fin {P : Program} {w : World} {K : PySem.W.Frag} {mg : Str → Option Value} {fa cr tp : Addr} (h : ∃ D : Dt, Tx K mg D ∧ D.f_answers = fa ∧ D.cr = cr ∧ D.tp = tp ∧ ∀ (s : Shared) (us : List Value), us.length = (["calls"] : List Str).length → BindsTo s D.d_answers ⟨us, []⟩ ((["calls"] : List Str).zip us)) :
    ∃ fd : FuncData, (∀ (s : Shared) (us : List Value), us.length = (["calls"] : List Str).length → BindsTo s fd ⟨us, []⟩ ((["calls"] : List Str).zip us)) ∧ ∀ base : Heap, K.In base → base.Ns mainGlobals mg → FnOk P w K mg base CX0 12 fa fd ["calls"] (spBare K) := by
  obtain ⟨D, T, rfl, _, _, hb⟩ := h
  exact ⟨D.d_answers, hb, fun base _ _ => ok_bare T⟩
def bareRow : PySem.W.OpenSpec := PySem.W.OpenSpec.mk PySem.Challenge.pw_weakenings_s01_answers PySem.Challenge.nm_weakenings_s01_answers [.list 0 0 (.int 0 0)] (.list 0 0 (.int 0 0)) (fun _ => true) (fun _ => [])
end Wk
end
set_option Elab.async false
open PySem PySem.W PyProof.Rows
set_option maxRecDepth 100000 in
set_option maxHeartbeats 0 in
/-- the same program at the empty list alone: its head writes the heap down -/
theorem Wk.bare_holds : Wk.bareRow.Holds := by
  w_on; k_headR; (case hw => exact ⟨[.list []], by decide +kernel, by decide +kernel⟩)
  k_fillS
  refine L2.walk_specK (r := Wk.bareRow) (k := 12) (CX := L2.CX0) (ps := ["calls"]) (sp := Wk.spBare) (by decide +kernel) rfl rfl ⟨rfl, by decide, by decide⟩ (fun w h Y => PySem.W.kIn_of Y) ?F ?S (fun _ _ _ _ z => z)
  case F =>
    intro w mg fa h Y KX G hmg
    refine Wk.bare_fin (cr := 405) (tp := 401) ?_
    refine' Wk.all_mk KX G hmg ?hc_Axiom ?hc_Link ?hc_Patterns ?hc_Store ?hc_Reader ?he_WrongNumbers ?he_NoSuchAxiom ?he_NotWeaker ?he_NoRepair ?he_NoRoom ?he_UnknownCall ?a_m_Axiom_init ?i_Axiom_init ?l_Axiom_init ?c_d_Axiom_init ?k_p_Axiom_init ?a_m_Axiom_weaken ?i_Axiom_weaken ?l_Axiom_weaken ?c_d_Axiom_weaken ?k_p_Axiom_weaken ?a_m_Axiom_removal ?i_Axiom_removal ?l_Axiom_removal ?c_d_Axiom_removal ?k_p_Axiom_removal ?a_m_Axiom_price_to ?i_Axiom_price_to ?l_Axiom_price_to ?c_d_Axiom_price_to ?k_p_Axiom_price_to ?a_m_Axiom_weakened_to ?i_Axiom_weakened_to ?l_Axiom_weakened_to ?c_d_Axiom_weakened_to ?k_p_Axiom_weakened_to ?a_m_head_length ?l_head_length ?c_d_head_length ?k_p_head_length ?a_m_end_of ?l_end_of ?c_d_end_of ?k_p_end_of ?a_m_two_concepts ?l_two_concepts ?c_d_two_concepts ?k_p_two_concepts ?a_m_followers_of ?l_followers_of ?c_d_followers_of ?k_p_followers_of ?a_m_parts_of ?l_parts_of ?c_d_parts_of ?k_p_parts_of ?a_m_atoms_of ?l_atoms_of ?c_d_atoms_of ?k_p_atoms_of ?a_m_Link_init ?i_Link_init ?l_Link_init ?c_d_Link_init ?k_p_Link_init ?a_m_Patterns_init ?i_Patterns_init ?l_Patterns_init ?c_d_Patterns_init ?k_p_Patterns_init ?a_m_Patterns_joined ?i_Patterns_joined ?l_Patterns_joined ?c_d_Patterns_joined ?k_p_Patterns_joined ?a_m_Patterns_link_of ?i_Patterns_link_of ?l_Patterns_link_of ?c_d_Patterns_link_of ?k_p_Patterns_link_of ?a_m_Patterns_relatable ?i_Patterns_relatable ?l_Patterns_relatable ?c_d_Patterns_relatable ?k_p_Patterns_relatable ?a_m_Patterns_can_occur ?i_Patterns_can_occur ?l_Patterns_can_occur ?c_d_Patterns_can_occur ?k_p_Patterns_can_occur ?a_m_Patterns_occurring ?i_Patterns_occurring ?l_Patterns_occurring ?c_d_Patterns_occurring ?k_p_Patterns_occurring ?a_m_Patterns_against ?i_Patterns_against ?l_Patterns_against ?c_d_Patterns_against ?k_p_Patterns_against ?a_m_Patterns_subsumptions ?i_Patterns_subsumptions ?l_Patterns_subsumptions ?c_d_Patterns_subsumptions ?k_p_Patterns_subsumptions ?a_m_is_subsumed ?l_is_subsumed ?c_d_is_subsumed ?k_p_is_subsumed ?a_m_all_ways ?l_all_ways ?c_d_all_ways ?k_p_all_ways ?a_m_is_way ?l_is_way ?c_d_is_way ?k_p_is_way ?a_m_price_of ?l_price_of ?c_d_price_of ?k_p_price_of ?a_m_forms_at ?l_forms_at ?c_d_forms_at ?k_p_forms_at ?a_m_is_nowhere_higher ?l_is_nowhere_higher ?c_d_is_nowhere_higher ?k_p_is_nowhere_higher ?a_m_minimal_among ?l_minimal_among ?c_d_minimal_among ?k_p_minimal_among ?a_m_Store_init ?i_Store_init ?l_Store_init ?c_d_Store_init ?k_p_Store_init ?a_m_Store_begins ?i_Store_begins ?l_Store_begins ?c_d_Store_begins ?k_p_Store_begins ?a_m_Store_line ?i_Store_line ?l_Store_line ?c_d_Store_line ?k_p_Store_line ?a_m_Store_less ?i_Store_less ?l_Store_less ?c_d_Store_less ?k_p_Store_less ?a_m_Store_never ?i_Store_never ?l_Store_never ?c_d_Store_never ?k_p_Store_never ?a_m_Store_keep ?i_Store_keep ?l_Store_keep ?c_d_Store_keep ?k_p_Store_keep ?a_m_Store_wish ?i_Store_wish ?l_Store_wish ?c_d_Store_wish ?k_p_Store_wish ?a_m_Store_mend ?i_Store_mend ?l_Store_mend ?c_d_Store_mend ?k_p_Store_mend ?a_m_Store_least ?i_Store_least ?l_Store_least ?c_d_Store_least ?k_p_Store_least ?a_m_Store_check ?i_Store_check ?l_Store_check ?c_d_Store_check ?k_p_Store_check ?a_m_Store_done ?i_Store_done ?l_Store_done ?c_d_Store_done ?k_p_Store_done ?a_m_Store_priced ?i_Store_priced ?l_Store_priced ?c_d_Store_priced ?k_p_Store_priced ?a_m_Store_repair ?i_Store_repair ?l_Store_repair ?c_d_Store_repair ?k_p_Store_repair ?a_m_Store_satisfying ?i_Store_satisfying ?l_Store_satisfying ?c_d_Store_satisfying ?k_p_Store_satisfying ?a_m_Store_held_with ?i_Store_held_with ?l_Store_held_with ?c_d_Store_held_with ?k_p_Store_held_with ?a_m_Store_satisfied_by ?i_Store_satisfied_by ?l_Store_satisfied_by ?c_d_Store_satisfied_by ?k_p_Store_satisfied_by ?a_m_Store_check_room ?i_Store_check_room ?l_Store_check_room ?c_d_Store_check_room ?k_p_Store_check_room ?a_m_Store_all_concepts ?i_Store_all_concepts ?l_Store_all_concepts ?c_d_Store_all_concepts ?k_p_Store_all_concepts ?a_m_check_price ?l_check_price ?c_d_check_price ?k_p_check_price ?a_m_Reader_init ?i_Reader_init ?l_Reader_init ?c_d_Reader_init ?k_p_Reader_init ?a_m_Reader_at_end ?i_Reader_at_end ?l_Reader_at_end ?c_d_Reader_at_end ?k_p_Reader_at_end ?a_m_Reader_take_number ?i_Reader_take_number ?l_Reader_take_number ?c_d_Reader_take_number ?k_p_Reader_take_number ?a_m_Reader_take_list ?i_Reader_take_list ?l_Reader_take_list ?c_d_Reader_take_list ?k_p_Reader_take_list ?a_m_answers ?l_answers ?c_d_answers ?k_p_answers ?a_m_answer_of ?l_answer_of ?c_d_answer_of ?k_p_answer_of ?a_m_result_of ?l_result_of ?c_d_result_of ?k_p_result_of ?pg_Axiom ?hd_Axiom ?po_Axiom ?sa_Axiom ?mk_Axiom ?kc_Axiom ?n_Axiom_forms ?n_Axiom_prices ?pg_Link ?hd_Link ?po_Link ?sa_Link ?mk_Link ?kc_Link ?n_Link_role ?n_Link_needy ?n_Link_goal ?pg_Patterns ?hd_Patterns ?po_Patterns ?sa_Patterns ?mk_Patterns ?kc_Patterns ?n_Patterns_total ?n_Patterns_whole ?n_Patterns_groups ?n_Patterns_links ?pg_Store ?hd_Store ?po_Store ?sa_Store ?mk_Store ?kc_Store ?n_Store_axioms ?n_Store_unwanted ?n_Store_wanted ?pg_Reader ?hd_Reader ?po_Reader ?sa_Reader ?mk_Reader ?kc_Reader ?n_Reader_calls ?n_Reader_place ?x_WrongNumbers ?k_WrongNumbers ?s_WrongNumbers ?y_WrongNumbers ?j_WrongNumbers ?x_NoSuchAxiom ?k_NoSuchAxiom ?s_NoSuchAxiom ?y_NoSuchAxiom ?j_NoSuchAxiom ?x_NotWeaker ?k_NotWeaker ?s_NotWeaker ?y_NotWeaker ?j_NotWeaker ?x_NoRepair ?k_NoRepair ?s_NoRepair ?y_NoRepair ?j_NoRepair ?x_NoRoom ?k_NoRoom ?s_NoRoom ?y_NoRoom ?j_NoRoom ?x_UnknownCall ?k_UnknownCall ?s_UnknownCall ?y_UnknownCall ?j_UnknownCall ?u_WrongNumbers_WrongNumbers ?u_WrongNumbers_NoSuchAxiom ?u_WrongNumbers_NotWeaker ?u_WrongNumbers_NoRepair ?u_WrongNumbers_NoRoom ?u_WrongNumbers_UnknownCall ?u_NoSuchAxiom_WrongNumbers ?u_NoSuchAxiom_NoSuchAxiom ?u_NoSuchAxiom_NotWeaker ?u_NoSuchAxiom_NoRepair ?u_NoSuchAxiom_NoRoom ?u_NoSuchAxiom_UnknownCall ?u_NotWeaker_WrongNumbers ?u_NotWeaker_NoSuchAxiom ?u_NotWeaker_NotWeaker ?u_NotWeaker_NoRepair ?u_NotWeaker_NoRoom ?u_NotWeaker_UnknownCall ?u_NoRepair_WrongNumbers ?u_NoRepair_NoSuchAxiom ?u_NoRepair_NotWeaker ?u_NoRepair_NoRepair ?u_NoRepair_NoRoom ?u_NoRepair_UnknownCall ?u_NoRoom_WrongNumbers ?u_NoRoom_NoSuchAxiom ?u_NoRoom_NotWeaker ?u_NoRoom_NoRepair ?u_NoRoom_NoRoom ?u_NoRoom_UnknownCall ?u_UnknownCall_WrongNumbers ?u_UnknownCall_NoSuchAxiom ?u_UnknownCall_NotWeaker ?u_UnknownCall_NoRepair ?u_UnknownCall_NoRoom ?u_UnknownCall_UnknownCall ?g_EVERYTHING ?g_NOTHING ?g_NAME ?g_BOTH ?g_EITHER ?g_SOME ?g_ATOM_SIGNS ?lt_ATOM_SIGNS ?sz_ATOM_SIGNS ?vs_ATOM_SIGNS ?g_CHOICES ?lt_CHOICES ?sz_CHOICES ?vs_CHOICES ?g_FOLLOWERS ?lt_FOLLOWERS ?sz_FOLLOWERS ?vs_FOLLOWERS ?g_MOST_AXIOMS ?g_MOST_FORMS ?g_MOST_WISHES ?g_MOST_ATOMS ?g_HIGHEST_PRICE ?g_BEGINS ?g_LINE ?g_LESS ?g_NEVER ?g_KEEP ?g_MEND ?g_LEAST ?g_CHECK ?g_DONE ?b_all ?b_any ?b_enumerate ?b_int ?b_len ?b_list ?b_min ?b_range ?b_reversed ?b_sum ?b_tuple ?b_zip ?zcr
    (case hc_Axiom => k_is)
    (case hc_Link => k_is)
    (case hc_Patterns => k_is)
    (case hc_Store => k_is)
    (case hc_Reader => k_is)
    (case he_WrongNumbers => k_is)
    (case he_NoSuchAxiom => k_is)
    (case he_NotWeaker => k_is)
    (case he_NoRepair => k_is)
    (case he_NoRoom => k_is)
    (case he_UnknownCall => k_is)
    (case a_m_Axiom_init => k_is)
    (case i_Axiom_init => k_is)
    (case l_Axiom_init => k_is)
    (case c_d_Axiom_init => k_is)
    (case k_p_Axiom_init => k_is)
    (case a_m_Axiom_weaken => k_is)
    (case i_Axiom_weaken => k_is)
    (case l_Axiom_weaken => k_is)
    (case c_d_Axiom_weaken => k_is)
    (case k_p_Axiom_weaken => k_is)
    (case a_m_Axiom_removal => k_is)
    (case i_Axiom_removal => k_is)
    (case l_Axiom_removal => k_is)
    (case c_d_Axiom_removal => k_is)
    (case k_p_Axiom_removal => k_is)
    (case a_m_Axiom_price_to => k_is)
    (case i_Axiom_price_to => k_is)
    (case l_Axiom_price_to => k_is)
    (case c_d_Axiom_price_to => k_is)
    (case k_p_Axiom_price_to => k_is)
    (case a_m_Axiom_weakened_to => k_is)
    (case i_Axiom_weakened_to => k_is)
    (case l_Axiom_weakened_to => k_is)
    (case c_d_Axiom_weakened_to => k_is)
    (case k_p_Axiom_weakened_to => k_is)
    (case a_m_head_length => k_is)
    (case l_head_length => k_is)
    (case c_d_head_length => k_is)
    (case k_p_head_length => k_is)
    (case a_m_end_of => k_is)
    (case l_end_of => k_is)
    (case c_d_end_of => k_is)
    (case k_p_end_of => k_is)
    (case a_m_two_concepts => k_is)
    (case l_two_concepts => k_is)
    (case c_d_two_concepts => k_is)
    (case k_p_two_concepts => k_is)
    (case a_m_followers_of => k_is)
    (case l_followers_of => k_is)
    (case c_d_followers_of => k_is)
    (case k_p_followers_of => k_is)
    (case a_m_parts_of => k_is)
    (case l_parts_of => k_is)
    (case c_d_parts_of => k_is)
    (case k_p_parts_of => k_is)
    (case a_m_atoms_of => k_is)
    (case l_atoms_of => k_is)
    (case c_d_atoms_of => k_is)
    (case k_p_atoms_of => k_is)
    (case a_m_Link_init => k_is)
    (case i_Link_init => k_is)
    (case l_Link_init => k_is)
    (case c_d_Link_init => k_is)
    (case k_p_Link_init => k_is)
    (case a_m_Patterns_init => k_is)
    (case i_Patterns_init => k_is)
    (case l_Patterns_init => k_is)
    (case c_d_Patterns_init => k_is)
    (case k_p_Patterns_init => k_is)
    (case a_m_Patterns_joined => k_is)
    (case i_Patterns_joined => k_is)
    (case l_Patterns_joined => k_is)
    (case c_d_Patterns_joined => k_is)
    (case k_p_Patterns_joined => k_is)
    (case a_m_Patterns_link_of => k_is)
    (case i_Patterns_link_of => k_is)
    (case l_Patterns_link_of => k_is)
    (case c_d_Patterns_link_of => k_is)
    (case k_p_Patterns_link_of => k_is)
    (case a_m_Patterns_relatable => k_is)
    (case i_Patterns_relatable => k_is)
    (case l_Patterns_relatable => k_is)
    (case c_d_Patterns_relatable => k_is)
    (case k_p_Patterns_relatable => k_is)
    (case a_m_Patterns_can_occur => k_is)
    (case i_Patterns_can_occur => k_is)
    (case l_Patterns_can_occur => k_is)
    (case c_d_Patterns_can_occur => k_is)
    (case k_p_Patterns_can_occur => k_is)
    (case a_m_Patterns_occurring => k_is)
    (case i_Patterns_occurring => k_is)
    (case l_Patterns_occurring => k_is)
    (case c_d_Patterns_occurring => k_is)
    (case k_p_Patterns_occurring => k_is)
    (case a_m_Patterns_against => k_is)
    (case i_Patterns_against => k_is)
    (case l_Patterns_against => k_is)
    (case c_d_Patterns_against => k_is)
    (case k_p_Patterns_against => k_is)
    (case a_m_Patterns_subsumptions => k_is)
    (case i_Patterns_subsumptions => k_is)
    (case l_Patterns_subsumptions => k_is)
    (case c_d_Patterns_subsumptions => k_is)
    (case k_p_Patterns_subsumptions => k_is)
    (case a_m_is_subsumed => k_is)
    (case l_is_subsumed => k_is)
    (case c_d_is_subsumed => k_is)
    (case k_p_is_subsumed => k_is)
    (case a_m_all_ways => k_is)
    (case l_all_ways => k_is)
    (case c_d_all_ways => k_is)
    (case k_p_all_ways => k_is)
    (case a_m_is_way => k_is)
    (case l_is_way => k_is)
    (case c_d_is_way => k_is)
    (case k_p_is_way => k_is)
    (case a_m_price_of => k_is)
    (case l_price_of => k_is)
    (case c_d_price_of => k_is)
    (case k_p_price_of => k_is)
    (case a_m_forms_at => k_is)
    (case l_forms_at => k_is)
    (case c_d_forms_at => k_is)
    (case k_p_forms_at => k_is)
    (case a_m_is_nowhere_higher => k_is)
    (case l_is_nowhere_higher => k_is)
    (case c_d_is_nowhere_higher => k_is)
    (case k_p_is_nowhere_higher => k_is)
    (case a_m_minimal_among => k_is)
    (case l_minimal_among => k_is)
    (case c_d_minimal_among => k_is)
    (case k_p_minimal_among => k_is)
    (case a_m_Store_init => k_is)
    (case i_Store_init => k_is)
    (case l_Store_init => k_is)
    (case c_d_Store_init => k_is)
    (case k_p_Store_init => k_is)
    (case a_m_Store_begins => k_is)
    (case i_Store_begins => k_is)
    (case l_Store_begins => k_is)
    (case c_d_Store_begins => k_is)
    (case k_p_Store_begins => k_is)
    (case a_m_Store_line => k_is)
    (case i_Store_line => k_is)
    (case l_Store_line => k_is)
    (case c_d_Store_line => k_is)
    (case k_p_Store_line => k_is)
    (case a_m_Store_less => k_is)
    (case i_Store_less => k_is)
    (case l_Store_less => k_is)
    (case c_d_Store_less => k_is)
    (case k_p_Store_less => k_is)
    (case a_m_Store_never => k_is)
    (case i_Store_never => k_is)
    (case l_Store_never => k_is)
    (case c_d_Store_never => k_is)
    (case k_p_Store_never => k_is)
    (case a_m_Store_keep => k_is)
    (case i_Store_keep => k_is)
    (case l_Store_keep => k_is)
    (case c_d_Store_keep => k_is)
    (case k_p_Store_keep => k_is)
    (case a_m_Store_wish => k_is)
    (case i_Store_wish => k_is)
    (case l_Store_wish => k_is)
    (case c_d_Store_wish => k_is)
    (case k_p_Store_wish => k_is)
    (case a_m_Store_mend => k_is)
    (case i_Store_mend => k_is)
    (case l_Store_mend => k_is)
    (case c_d_Store_mend => k_is)
    (case k_p_Store_mend => k_is)
    (case a_m_Store_least => k_is)
    (case i_Store_least => k_is)
    (case l_Store_least => k_is)
    (case c_d_Store_least => k_is)
    (case k_p_Store_least => k_is)
    (case a_m_Store_check => k_is)
    (case i_Store_check => k_is)
    (case l_Store_check => k_is)
    (case c_d_Store_check => k_is)
    (case k_p_Store_check => k_is)
    (case a_m_Store_done => k_is)
    (case i_Store_done => k_is)
    (case l_Store_done => k_is)
    (case c_d_Store_done => k_is)
    (case k_p_Store_done => k_is)
    (case a_m_Store_priced => k_is)
    (case i_Store_priced => k_is)
    (case l_Store_priced => k_is)
    (case c_d_Store_priced => k_is)
    (case k_p_Store_priced => k_is)
    (case a_m_Store_repair => k_is)
    (case i_Store_repair => k_is)
    (case l_Store_repair => k_is)
    (case c_d_Store_repair => k_is)
    (case k_p_Store_repair => k_is)
    (case a_m_Store_satisfying => k_is)
    (case i_Store_satisfying => k_is)
    (case l_Store_satisfying => k_is)
    (case c_d_Store_satisfying => k_is)
    (case k_p_Store_satisfying => k_is)
    (case a_m_Store_held_with => k_is)
    (case i_Store_held_with => k_is)
    (case l_Store_held_with => k_is)
    (case c_d_Store_held_with => k_is)
    (case k_p_Store_held_with => k_is)
    (case a_m_Store_satisfied_by => k_is)
    (case i_Store_satisfied_by => k_is)
    (case l_Store_satisfied_by => k_is)
    (case c_d_Store_satisfied_by => k_is)
    (case k_p_Store_satisfied_by => k_is)
    (case a_m_Store_check_room => k_is)
    (case i_Store_check_room => k_is)
    (case l_Store_check_room => k_is)
    (case c_d_Store_check_room => k_is)
    (case k_p_Store_check_room => k_is)
    (case a_m_Store_all_concepts => k_is)
    (case i_Store_all_concepts => k_is)
    (case l_Store_all_concepts => k_is)
    (case c_d_Store_all_concepts => k_is)
    (case k_p_Store_all_concepts => k_is)
    (case a_m_check_price => k_is)
    (case l_check_price => k_is)
    (case c_d_check_price => k_is)
    (case k_p_check_price => k_is)
    (case a_m_Reader_init => k_is)
    (case i_Reader_init => k_is)
    (case l_Reader_init => k_is)
    (case c_d_Reader_init => k_is)
    (case k_p_Reader_init => k_is)
    (case a_m_Reader_at_end => k_is)
    (case i_Reader_at_end => k_is)
    (case l_Reader_at_end => k_is)
    (case c_d_Reader_at_end => k_is)
    (case k_p_Reader_at_end => k_is)
    (case a_m_Reader_take_number => k_is)
    (case i_Reader_take_number => k_is)
    (case l_Reader_take_number => k_is)
    (case c_d_Reader_take_number => k_is)
    (case k_p_Reader_take_number => k_is)
    (case a_m_Reader_take_list => k_is)
    (case i_Reader_take_list => k_is)
    (case l_Reader_take_list => k_is)
    (case c_d_Reader_take_list => k_is)
    (case k_p_Reader_take_list => k_is)
    (case a_m_answers => k_is)
    (case l_answers => k_is)
    (case c_d_answers => k_is)
    (case k_p_answers => k_is)
    (case a_m_answer_of => k_is)
    (case l_answer_of => k_is)
    (case c_d_answer_of => k_is)
    (case k_p_answer_of => k_is)
    (case a_m_result_of => k_is)
    (case l_result_of => k_is)
    (case c_d_result_of => k_is)
    (case k_p_result_of => k_is)
    (case pg_Axiom => k_is)
    (case hd_Axiom => k_is)
    (case po_Axiom => k_is)
    (case sa_Axiom => k_is)
    (case mk_Axiom => k_is)
    (case kc_Axiom => k_is)
    (case n_Axiom_forms => k_is)
    (case n_Axiom_prices => k_is)
    (case pg_Link => k_is)
    (case hd_Link => k_is)
    (case po_Link => k_is)
    (case sa_Link => k_is)
    (case mk_Link => k_is)
    (case kc_Link => k_is)
    (case n_Link_role => k_is)
    (case n_Link_needy => k_is)
    (case n_Link_goal => k_is)
    (case pg_Patterns => k_is)
    (case hd_Patterns => k_is)
    (case po_Patterns => k_is)
    (case sa_Patterns => k_is)
    (case mk_Patterns => k_is)
    (case kc_Patterns => k_is)
    (case n_Patterns_total => k_is)
    (case n_Patterns_whole => k_is)
    (case n_Patterns_groups => k_is)
    (case n_Patterns_links => k_is)
    (case pg_Store => k_is)
    (case hd_Store => k_is)
    (case po_Store => k_is)
    (case sa_Store => k_is)
    (case mk_Store => k_is)
    (case kc_Store => k_is)
    (case n_Store_axioms => k_is)
    (case n_Store_unwanted => k_is)
    (case n_Store_wanted => k_is)
    (case pg_Reader => k_is)
    (case hd_Reader => k_is)
    (case po_Reader => k_is)
    (case sa_Reader => k_is)
    (case mk_Reader => k_is)
    (case kc_Reader => k_is)
    (case n_Reader_calls => k_is)
    (case n_Reader_place => k_is)
    (case x_WrongNumbers => k_exc)
    (case k_WrongNumbers => k_is)
    (case s_WrongNumbers => k_is)
    (case y_WrongNumbers => k_is)
    (case j_WrongNumbers => k_is)
    (case x_NoSuchAxiom => k_exc)
    (case k_NoSuchAxiom => k_is)
    (case s_NoSuchAxiom => k_is)
    (case y_NoSuchAxiom => k_is)
    (case j_NoSuchAxiom => k_is)
    (case x_NotWeaker => k_exc)
    (case k_NotWeaker => k_is)
    (case s_NotWeaker => k_is)
    (case y_NotWeaker => k_is)
    (case j_NotWeaker => k_is)
    (case x_NoRepair => k_exc)
    (case k_NoRepair => k_is)
    (case s_NoRepair => k_is)
    (case y_NoRepair => k_is)
    (case j_NoRepair => k_is)
    (case x_NoRoom => k_exc)
    (case k_NoRoom => k_is)
    (case s_NoRoom => k_is)
    (case y_NoRoom => k_is)
    (case j_NoRoom => k_is)
    (case x_UnknownCall => k_exc)
    (case k_UnknownCall => k_is)
    (case s_UnknownCall => k_is)
    (case y_UnknownCall => k_is)
    (case j_UnknownCall => k_is)
    (case u_WrongNumbers_WrongNumbers => first | k_is | kernel_rfl)
    (case u_WrongNumbers_NoSuchAxiom => first | k_is | kernel_rfl)
    (case u_WrongNumbers_NotWeaker => first | k_is | kernel_rfl)
    (case u_WrongNumbers_NoRepair => first | k_is | kernel_rfl)
    (case u_WrongNumbers_NoRoom => first | k_is | kernel_rfl)
    (case u_WrongNumbers_UnknownCall => first | k_is | kernel_rfl)
    (case u_NoSuchAxiom_WrongNumbers => first | k_is | kernel_rfl)
    (case u_NoSuchAxiom_NoSuchAxiom => first | k_is | kernel_rfl)
    (case u_NoSuchAxiom_NotWeaker => first | k_is | kernel_rfl)
    (case u_NoSuchAxiom_NoRepair => first | k_is | kernel_rfl)
    (case u_NoSuchAxiom_NoRoom => first | k_is | kernel_rfl)
    (case u_NoSuchAxiom_UnknownCall => first | k_is | kernel_rfl)
    (case u_NotWeaker_WrongNumbers => first | k_is | kernel_rfl)
    (case u_NotWeaker_NoSuchAxiom => first | k_is | kernel_rfl)
    (case u_NotWeaker_NotWeaker => first | k_is | kernel_rfl)
    (case u_NotWeaker_NoRepair => first | k_is | kernel_rfl)
    (case u_NotWeaker_NoRoom => first | k_is | kernel_rfl)
    (case u_NotWeaker_UnknownCall => first | k_is | kernel_rfl)
    (case u_NoRepair_WrongNumbers => first | k_is | kernel_rfl)
    (case u_NoRepair_NoSuchAxiom => first | k_is | kernel_rfl)
    (case u_NoRepair_NotWeaker => first | k_is | kernel_rfl)
    (case u_NoRepair_NoRepair => first | k_is | kernel_rfl)
    (case u_NoRepair_NoRoom => first | k_is | kernel_rfl)
    (case u_NoRepair_UnknownCall => first | k_is | kernel_rfl)
    (case u_NoRoom_WrongNumbers => first | k_is | kernel_rfl)
    (case u_NoRoom_NoSuchAxiom => first | k_is | kernel_rfl)
    (case u_NoRoom_NotWeaker => first | k_is | kernel_rfl)
    (case u_NoRoom_NoRepair => first | k_is | kernel_rfl)
    (case u_NoRoom_NoRoom => first | k_is | kernel_rfl)
    (case u_NoRoom_UnknownCall => first | k_is | kernel_rfl)
    (case u_UnknownCall_WrongNumbers => first | k_is | kernel_rfl)
    (case u_UnknownCall_NoSuchAxiom => first | k_is | kernel_rfl)
    (case u_UnknownCall_NotWeaker => first | k_is | kernel_rfl)
    (case u_UnknownCall_NoRepair => first | k_is | kernel_rfl)
    (case u_UnknownCall_NoRoom => first | k_is | kernel_rfl)
    (case u_UnknownCall_UnknownCall => first | k_is | kernel_rfl)
    (case g_EVERYTHING => k_is)
    (case g_NOTHING => k_is)
    (case g_NAME => k_is)
    (case g_BOTH => k_is)
    (case g_EITHER => k_is)
    (case g_SOME => k_is)
    (case g_ATOM_SIGNS => k_is)
    (case lt_ATOM_SIGNS => k_is)
    (case sz_ATOM_SIGNS => exact Nat.le_of_ble_eq_true rfl)
    (case vs_ATOM_SIGNS => repeat (first | exact .nil | refine .cons ⟨_, rfl⟩ ?_))
    (case g_CHOICES => k_is)
    (case lt_CHOICES => k_is)
    (case sz_CHOICES => exact Nat.le_of_ble_eq_true rfl)
    (case vs_CHOICES => repeat (first | exact .nil | refine .cons ⟨_, rfl⟩ ?_))
    (case g_FOLLOWERS => k_is)
    (case lt_FOLLOWERS => k_is)
    (case sz_FOLLOWERS => exact Nat.le_of_ble_eq_true rfl)
    (case vs_FOLLOWERS => repeat (first | exact .nil | refine .cons ⟨_, rfl⟩ ?_))
    (case g_MOST_AXIOMS => k_is)
    (case g_MOST_FORMS => k_is)
    (case g_MOST_WISHES => k_is)
    (case g_MOST_ATOMS => k_is)
    (case g_HIGHEST_PRICE => k_is)
    (case g_BEGINS => k_is)
    (case g_LINE => k_is)
    (case g_LESS => k_is)
    (case g_NEVER => k_is)
    (case g_KEEP => k_is)
    (case g_MEND => k_is)
    (case g_LEAST => k_is)
    (case g_CHECK => k_is)
    (case g_DONE => k_is)
    (case b_all => k_is)
    (case b_any => k_is)
    (case b_enumerate => k_is)
    (case b_int => k_is)
    (case b_len => k_is)
    (case b_list => k_is)
    (case b_min => k_is)
    (case b_range => k_is)
    (case b_reversed => k_is)
    (case b_sum => k_is)
    (case b_tuple => k_is)
    (case b_zip => k_is)
    (case zcr => rfl)
  case S =>
    intro K H xs a hO hwi hask hx
    cases hx with
    | cons h1 h2 =>
      cases h2
      cases h1 with
      | lst hs ha =>
        have e := L2.ints_dw a.1 _ ha
        subst e
        have q : ((Codec.inLen 0 0 a.1 && a.1.all (Codec.inInt 0 0)) && true) = true := hwi
        rw [Bool.and_eq_true, Bool.and_eq_true] at q
        have z : a.1 = [] := List.length_eq_zero_iff.mp (Nat.le_zero.mp (Codec.inNat_iff.mp q.1.1).2)
        rw [z] at hs
        exact ⟨_, rfl, hs, fun H' p hp => .lst (L2.SqL.of hp) (L2.dw_ints [])⟩
/-- what the head has written down, and the table of the lambda -/
noncomputable def Wk.heapT (p : Params) : Frag := Wk.bare_holds.heap_1 p ++ [(401, { cls := .none, data := .fields #[] })]
def Wk.addrsT : List Nat := [2, 3, 15, 22, 23, 24, 25, 28, 35, 36, 37, 38, 41, 48, 49, 50, 51, 54, 61, 62, 63, 64, 67, 74, 75, 76, 77, 80, 87, 88, 89, 90, 100, 102, 103, 105, 106, 107, 109, 110, 112, 113, 114, 116, 117, 119, 120, 121, 123, 124, 126, 127, 128, 130, 131, 133, 134, 135, 136, 137, 138, 139, 142, 143, 144, 145, 147, 148, 150, 151, 152, 154, 155, 157, 158, 159, 161, 162, 164, 165, 166, 168, 169, 171, 172, 173, 175, 176, 178, 179, 180, 182, 183, 185, 186, 194, 196, 197, 199, 200, 201, 202, 203, 204, 205, 215, 218, 219, 220, 223, 224, 225, 227, 228, 230, 231, 232, 234, 235, 237, 238, 239, 241, 242, 244, 245, 246, 248, 249, 251, 252, 253, 255, 256, 258, 259, 260, 263, 264, 265, 266, 267, 268, 269, 272, 274, 275, 277, 278, 279, 281, 282, 284, 285, 286, 289, 290, 291, 294, 295, 296, 298, 299, 301, 302, 303, 306, 307, 308, 311, 312, 320, 322, 323, 325, 326, 327, 329, 330, 332, 333, 334, 336, 337, 339, 340, 341, 343, 344, 346, 347, 348, 350, 351, 353, 354, 355, 357, 358, 360, 361, 362, 364, 365, 367, 368, 369, 371, 372, 374, 375, 376, 378, 379, 381, 382, 383, 386, 387, 388, 391, 392, 393, 395, 396, 398, 399, 400, 402, 403, 405, 406, 407, 410, 411, 412, 414, 415, 417, 418, 419, 421, 422, 424, 425, 426, 428, 429, 431, 432, 433, 435, 436, 438, 439, 440, 441, 442, 443, 444, 447, 449, 450, 452, 453, 461, 463, 464, 466, 467, 468, 470, 471, 473, 474, 475, 477, 478, 480, 481, 482, 484, 485, 487, 488, 489, 490, 491, 492, 493, 496, 498, 499, 501, 502, 503, 505, 506, 508, 509, 510, 512, 513, 515, 516, 401]
set_option maxRecDepth 100000 in
theorem Wk.heapT_in {p : Params} {h : Heap} (x : (Wk.heapT p).In h) : (Wk.bare_holds.heap_1 p).In h ∧ h.get? 401 = some { cls := .none, data := .fields #[] } := by
  refine ⟨fun a o e => x a o ?_, x _ _ (by kernel_rfl)⟩
  unfold Wk.heapT
  rw [List.lookup_append, e]
  rfl
set_option maxRecDepth 100000 in
set_option maxHeartbeats 0 in
theorem PySem.Challenge.cw_weakenings_s01_answers_holds : PySem.Challenge.rw_weakenings_s01_answers.Holds := by
  w_on; o_headR (kHook Wk.heapT Wk.addrsT (fun _ => by kernel_rfl)); (case hw => exact ⟨[.list [.int 0]], by decide +kernel, by decide +kernel⟩)
  refine Wk.walk_specT (r := PySem.Challenge.rw_weakenings_s01_answers) (k := 12) (CX := L2.CX0) (ps := ["calls"]) (sp := fun K => Wk.spAns K 401) (K := Wk.bare_holds.heap_1) (c := 405) (tp := 401) (by decide +kernel) rfl rfl ⟨rfl, by decide, by decide⟩ (fun w h Y => Wk.heapT_in (PySem.W.kIn_of Y)) (fun p => by kernel_rfl) (fun p => by kernel_rfl) ?F ?S (fun _ _ _ _ z => z)
  case F =>
    intro w mg fa h Y KX G hmg
    refine Wk.all_fin (cr := 405) (tp := 401) ?_
    refine' Wk.all_mk KX G hmg ?hc_Axiom ?hc_Link ?hc_Patterns ?hc_Store ?hc_Reader ?he_WrongNumbers ?he_NoSuchAxiom ?he_NotWeaker ?he_NoRepair ?he_NoRoom ?he_UnknownCall ?a_m_Axiom_init ?i_Axiom_init ?l_Axiom_init ?c_d_Axiom_init ?k_p_Axiom_init ?a_m_Axiom_weaken ?i_Axiom_weaken ?l_Axiom_weaken ?c_d_Axiom_weaken ?k_p_Axiom_weaken ?a_m_Axiom_removal ?i_Axiom_removal ?l_Axiom_removal ?c_d_Axiom_removal ?k_p_Axiom_removal ?a_m_Axiom_price_to ?i_Axiom_price_to ?l_Axiom_price_to ?c_d_Axiom_price_to ?k_p_Axiom_price_to ?a_m_Axiom_weakened_to ?i_Axiom_weakened_to ?l_Axiom_weakened_to ?c_d_Axiom_weakened_to ?k_p_Axiom_weakened_to ?a_m_head_length ?l_head_length ?c_d_head_length ?k_p_head_length ?a_m_end_of ?l_end_of ?c_d_end_of ?k_p_end_of ?a_m_two_concepts ?l_two_concepts ?c_d_two_concepts ?k_p_two_concepts ?a_m_followers_of ?l_followers_of ?c_d_followers_of ?k_p_followers_of ?a_m_parts_of ?l_parts_of ?c_d_parts_of ?k_p_parts_of ?a_m_atoms_of ?l_atoms_of ?c_d_atoms_of ?k_p_atoms_of ?a_m_Link_init ?i_Link_init ?l_Link_init ?c_d_Link_init ?k_p_Link_init ?a_m_Patterns_init ?i_Patterns_init ?l_Patterns_init ?c_d_Patterns_init ?k_p_Patterns_init ?a_m_Patterns_joined ?i_Patterns_joined ?l_Patterns_joined ?c_d_Patterns_joined ?k_p_Patterns_joined ?a_m_Patterns_link_of ?i_Patterns_link_of ?l_Patterns_link_of ?c_d_Patterns_link_of ?k_p_Patterns_link_of ?a_m_Patterns_relatable ?i_Patterns_relatable ?l_Patterns_relatable ?c_d_Patterns_relatable ?k_p_Patterns_relatable ?a_m_Patterns_can_occur ?i_Patterns_can_occur ?l_Patterns_can_occur ?c_d_Patterns_can_occur ?k_p_Patterns_can_occur ?a_m_Patterns_occurring ?i_Patterns_occurring ?l_Patterns_occurring ?c_d_Patterns_occurring ?k_p_Patterns_occurring ?a_m_Patterns_against ?i_Patterns_against ?l_Patterns_against ?c_d_Patterns_against ?k_p_Patterns_against ?a_m_Patterns_subsumptions ?i_Patterns_subsumptions ?l_Patterns_subsumptions ?c_d_Patterns_subsumptions ?k_p_Patterns_subsumptions ?a_m_is_subsumed ?l_is_subsumed ?c_d_is_subsumed ?k_p_is_subsumed ?a_m_all_ways ?l_all_ways ?c_d_all_ways ?k_p_all_ways ?a_m_is_way ?l_is_way ?c_d_is_way ?k_p_is_way ?a_m_price_of ?l_price_of ?c_d_price_of ?k_p_price_of ?a_m_forms_at ?l_forms_at ?c_d_forms_at ?k_p_forms_at ?a_m_is_nowhere_higher ?l_is_nowhere_higher ?c_d_is_nowhere_higher ?k_p_is_nowhere_higher ?a_m_minimal_among ?l_minimal_among ?c_d_minimal_among ?k_p_minimal_among ?a_m_Store_init ?i_Store_init ?l_Store_init ?c_d_Store_init ?k_p_Store_init ?a_m_Store_begins ?i_Store_begins ?l_Store_begins ?c_d_Store_begins ?k_p_Store_begins ?a_m_Store_line ?i_Store_line ?l_Store_line ?c_d_Store_line ?k_p_Store_line ?a_m_Store_less ?i_Store_less ?l_Store_less ?c_d_Store_less ?k_p_Store_less ?a_m_Store_never ?i_Store_never ?l_Store_never ?c_d_Store_never ?k_p_Store_never ?a_m_Store_keep ?i_Store_keep ?l_Store_keep ?c_d_Store_keep ?k_p_Store_keep ?a_m_Store_wish ?i_Store_wish ?l_Store_wish ?c_d_Store_wish ?k_p_Store_wish ?a_m_Store_mend ?i_Store_mend ?l_Store_mend ?c_d_Store_mend ?k_p_Store_mend ?a_m_Store_least ?i_Store_least ?l_Store_least ?c_d_Store_least ?k_p_Store_least ?a_m_Store_check ?i_Store_check ?l_Store_check ?c_d_Store_check ?k_p_Store_check ?a_m_Store_done ?i_Store_done ?l_Store_done ?c_d_Store_done ?k_p_Store_done ?a_m_Store_priced ?i_Store_priced ?l_Store_priced ?c_d_Store_priced ?k_p_Store_priced ?a_m_Store_repair ?i_Store_repair ?l_Store_repair ?c_d_Store_repair ?k_p_Store_repair ?a_m_Store_satisfying ?i_Store_satisfying ?l_Store_satisfying ?c_d_Store_satisfying ?k_p_Store_satisfying ?a_m_Store_held_with ?i_Store_held_with ?l_Store_held_with ?c_d_Store_held_with ?k_p_Store_held_with ?a_m_Store_satisfied_by ?i_Store_satisfied_by ?l_Store_satisfied_by ?c_d_Store_satisfied_by ?k_p_Store_satisfied_by ?a_m_Store_check_room ?i_Store_check_room ?l_Store_check_room ?c_d_Store_check_room ?k_p_Store_check_room ?a_m_Store_all_concepts ?i_Store_all_concepts ?l_Store_all_concepts ?c_d_Store_all_concepts ?k_p_Store_all_concepts ?a_m_check_price ?l_check_price ?c_d_check_price ?k_p_check_price ?a_m_Reader_init ?i_Reader_init ?l_Reader_init ?c_d_Reader_init ?k_p_Reader_init ?a_m_Reader_at_end ?i_Reader_at_end ?l_Reader_at_end ?c_d_Reader_at_end ?k_p_Reader_at_end ?a_m_Reader_take_number ?i_Reader_take_number ?l_Reader_take_number ?c_d_Reader_take_number ?k_p_Reader_take_number ?a_m_Reader_take_list ?i_Reader_take_list ?l_Reader_take_list ?c_d_Reader_take_list ?k_p_Reader_take_list ?a_m_answers ?l_answers ?c_d_answers ?k_p_answers ?a_m_answer_of ?l_answer_of ?c_d_answer_of ?k_p_answer_of ?a_m_result_of ?l_result_of ?c_d_result_of ?k_p_result_of ?pg_Axiom ?hd_Axiom ?po_Axiom ?sa_Axiom ?mk_Axiom ?kc_Axiom ?n_Axiom_forms ?n_Axiom_prices ?pg_Link ?hd_Link ?po_Link ?sa_Link ?mk_Link ?kc_Link ?n_Link_role ?n_Link_needy ?n_Link_goal ?pg_Patterns ?hd_Patterns ?po_Patterns ?sa_Patterns ?mk_Patterns ?kc_Patterns ?n_Patterns_total ?n_Patterns_whole ?n_Patterns_groups ?n_Patterns_links ?pg_Store ?hd_Store ?po_Store ?sa_Store ?mk_Store ?kc_Store ?n_Store_axioms ?n_Store_unwanted ?n_Store_wanted ?pg_Reader ?hd_Reader ?po_Reader ?sa_Reader ?mk_Reader ?kc_Reader ?n_Reader_calls ?n_Reader_place ?x_WrongNumbers ?k_WrongNumbers ?s_WrongNumbers ?y_WrongNumbers ?j_WrongNumbers ?x_NoSuchAxiom ?k_NoSuchAxiom ?s_NoSuchAxiom ?y_NoSuchAxiom ?j_NoSuchAxiom ?x_NotWeaker ?k_NotWeaker ?s_NotWeaker ?y_NotWeaker ?j_NotWeaker ?x_NoRepair ?k_NoRepair ?s_NoRepair ?y_NoRepair ?j_NoRepair ?x_NoRoom ?k_NoRoom ?s_NoRoom ?y_NoRoom ?j_NoRoom ?x_UnknownCall ?k_UnknownCall ?s_UnknownCall ?y_UnknownCall ?j_UnknownCall ?u_WrongNumbers_WrongNumbers ?u_WrongNumbers_NoSuchAxiom ?u_WrongNumbers_NotWeaker ?u_WrongNumbers_NoRepair ?u_WrongNumbers_NoRoom ?u_WrongNumbers_UnknownCall ?u_NoSuchAxiom_WrongNumbers ?u_NoSuchAxiom_NoSuchAxiom ?u_NoSuchAxiom_NotWeaker ?u_NoSuchAxiom_NoRepair ?u_NoSuchAxiom_NoRoom ?u_NoSuchAxiom_UnknownCall ?u_NotWeaker_WrongNumbers ?u_NotWeaker_NoSuchAxiom ?u_NotWeaker_NotWeaker ?u_NotWeaker_NoRepair ?u_NotWeaker_NoRoom ?u_NotWeaker_UnknownCall ?u_NoRepair_WrongNumbers ?u_NoRepair_NoSuchAxiom ?u_NoRepair_NotWeaker ?u_NoRepair_NoRepair ?u_NoRepair_NoRoom ?u_NoRepair_UnknownCall ?u_NoRoom_WrongNumbers ?u_NoRoom_NoSuchAxiom ?u_NoRoom_NotWeaker ?u_NoRoom_NoRepair ?u_NoRoom_NoRoom ?u_NoRoom_UnknownCall ?u_UnknownCall_WrongNumbers ?u_UnknownCall_NoSuchAxiom ?u_UnknownCall_NotWeaker ?u_UnknownCall_NoRepair ?u_UnknownCall_NoRoom ?u_UnknownCall_UnknownCall ?g_EVERYTHING ?g_NOTHING ?g_NAME ?g_BOTH ?g_EITHER ?g_SOME ?g_ATOM_SIGNS ?lt_ATOM_SIGNS ?sz_ATOM_SIGNS ?vs_ATOM_SIGNS ?g_CHOICES ?lt_CHOICES ?sz_CHOICES ?vs_CHOICES ?g_FOLLOWERS ?lt_FOLLOWERS ?sz_FOLLOWERS ?vs_FOLLOWERS ?g_MOST_AXIOMS ?g_MOST_FORMS ?g_MOST_WISHES ?g_MOST_ATOMS ?g_HIGHEST_PRICE ?g_BEGINS ?g_LINE ?g_LESS ?g_NEVER ?g_KEEP ?g_MEND ?g_LEAST ?g_CHECK ?g_DONE ?b_all ?b_any ?b_enumerate ?b_int ?b_len ?b_list ?b_min ?b_range ?b_reversed ?b_sum ?b_tuple ?b_zip ?zcr
    (case hc_Axiom => k_is)
    (case hc_Link => k_is)
    (case hc_Patterns => k_is)
    (case hc_Store => k_is)
    (case hc_Reader => k_is)
    (case he_WrongNumbers => k_is)
    (case he_NoSuchAxiom => k_is)
    (case he_NotWeaker => k_is)
    (case he_NoRepair => k_is)
    (case he_NoRoom => k_is)
    (case he_UnknownCall => k_is)
    (case a_m_Axiom_init => k_is)
    (case i_Axiom_init => k_is)
    (case l_Axiom_init => k_is)
    (case c_d_Axiom_init => k_is)
    (case k_p_Axiom_init => k_is)
    (case a_m_Axiom_weaken => k_is)
    (case i_Axiom_weaken => k_is)
    (case l_Axiom_weaken => k_is)
    (case c_d_Axiom_weaken => k_is)
    (case k_p_Axiom_weaken => k_is)
    (case a_m_Axiom_removal => k_is)
    (case i_Axiom_removal => k_is)
    (case l_Axiom_removal => k_is)
    (case c_d_Axiom_removal => k_is)
    (case k_p_Axiom_removal => k_is)
    (case a_m_Axiom_price_to => k_is)
    (case i_Axiom_price_to => k_is)
    (case l_Axiom_price_to => k_is)
    (case c_d_Axiom_price_to => k_is)
    (case k_p_Axiom_price_to => k_is)
    (case a_m_Axiom_weakened_to => k_is)
    (case i_Axiom_weakened_to => k_is)
    (case l_Axiom_weakened_to => k_is)
    (case c_d_Axiom_weakened_to => k_is)
    (case k_p_Axiom_weakened_to => k_is)
    (case a_m_head_length => k_is)
    (case l_head_length => k_is)
    (case c_d_head_length => k_is)
    (case k_p_head_length => k_is)
    (case a_m_end_of => k_is)
    (case l_end_of => k_is)
    (case c_d_end_of => k_is)
    (case k_p_end_of => k_is)
    (case a_m_two_concepts => k_is)
    (case l_two_concepts => k_is)
    (case c_d_two_concepts => k_is)
    (case k_p_two_concepts => k_is)
    (case a_m_followers_of => k_is)
    (case l_followers_of => k_is)
    (case c_d_followers_of => k_is)
    (case k_p_followers_of => k_is)
    (case a_m_parts_of => k_is)
    (case l_parts_of => k_is)
    (case c_d_parts_of => k_is)
    (case k_p_parts_of => k_is)
    (case a_m_atoms_of => k_is)
    (case l_atoms_of => k_is)
    (case c_d_atoms_of => k_is)
    (case k_p_atoms_of => k_is)
    (case a_m_Link_init => k_is)
    (case i_Link_init => k_is)
    (case l_Link_init => k_is)
    (case c_d_Link_init => k_is)
    (case k_p_Link_init => k_is)
    (case a_m_Patterns_init => k_is)
    (case i_Patterns_init => k_is)
    (case l_Patterns_init => k_is)
    (case c_d_Patterns_init => k_is)
    (case k_p_Patterns_init => k_is)
    (case a_m_Patterns_joined => k_is)
    (case i_Patterns_joined => k_is)
    (case l_Patterns_joined => k_is)
    (case c_d_Patterns_joined => k_is)
    (case k_p_Patterns_joined => k_is)
    (case a_m_Patterns_link_of => k_is)
    (case i_Patterns_link_of => k_is)
    (case l_Patterns_link_of => k_is)
    (case c_d_Patterns_link_of => k_is)
    (case k_p_Patterns_link_of => k_is)
    (case a_m_Patterns_relatable => k_is)
    (case i_Patterns_relatable => k_is)
    (case l_Patterns_relatable => k_is)
    (case c_d_Patterns_relatable => k_is)
    (case k_p_Patterns_relatable => k_is)
    (case a_m_Patterns_can_occur => k_is)
    (case i_Patterns_can_occur => k_is)
    (case l_Patterns_can_occur => k_is)
    (case c_d_Patterns_can_occur => k_is)
    (case k_p_Patterns_can_occur => k_is)
    (case a_m_Patterns_occurring => k_is)
    (case i_Patterns_occurring => k_is)
    (case l_Patterns_occurring => k_is)
    (case c_d_Patterns_occurring => k_is)
    (case k_p_Patterns_occurring => k_is)
    (case a_m_Patterns_against => k_is)
    (case i_Patterns_against => k_is)
    (case l_Patterns_against => k_is)
    (case c_d_Patterns_against => k_is)
    (case k_p_Patterns_against => k_is)
    (case a_m_Patterns_subsumptions => k_is)
    (case i_Patterns_subsumptions => k_is)
    (case l_Patterns_subsumptions => k_is)
    (case c_d_Patterns_subsumptions => k_is)
    (case k_p_Patterns_subsumptions => k_is)
    (case a_m_is_subsumed => k_is)
    (case l_is_subsumed => k_is)
    (case c_d_is_subsumed => k_is)
    (case k_p_is_subsumed => k_is)
    (case a_m_all_ways => k_is)
    (case l_all_ways => k_is)
    (case c_d_all_ways => k_is)
    (case k_p_all_ways => k_is)
    (case a_m_is_way => k_is)
    (case l_is_way => k_is)
    (case c_d_is_way => k_is)
    (case k_p_is_way => k_is)
    (case a_m_price_of => k_is)
    (case l_price_of => k_is)
    (case c_d_price_of => k_is)
    (case k_p_price_of => k_is)
    (case a_m_forms_at => k_is)
    (case l_forms_at => k_is)
    (case c_d_forms_at => k_is)
    (case k_p_forms_at => k_is)
    (case a_m_is_nowhere_higher => k_is)
    (case l_is_nowhere_higher => k_is)
    (case c_d_is_nowhere_higher => k_is)
    (case k_p_is_nowhere_higher => k_is)
    (case a_m_minimal_among => k_is)
    (case l_minimal_among => k_is)
    (case c_d_minimal_among => k_is)
    (case k_p_minimal_among => k_is)
    (case a_m_Store_init => k_is)
    (case i_Store_init => k_is)
    (case l_Store_init => k_is)
    (case c_d_Store_init => k_is)
    (case k_p_Store_init => k_is)
    (case a_m_Store_begins => k_is)
    (case i_Store_begins => k_is)
    (case l_Store_begins => k_is)
    (case c_d_Store_begins => k_is)
    (case k_p_Store_begins => k_is)
    (case a_m_Store_line => k_is)
    (case i_Store_line => k_is)
    (case l_Store_line => k_is)
    (case c_d_Store_line => k_is)
    (case k_p_Store_line => k_is)
    (case a_m_Store_less => k_is)
    (case i_Store_less => k_is)
    (case l_Store_less => k_is)
    (case c_d_Store_less => k_is)
    (case k_p_Store_less => k_is)
    (case a_m_Store_never => k_is)
    (case i_Store_never => k_is)
    (case l_Store_never => k_is)
    (case c_d_Store_never => k_is)
    (case k_p_Store_never => k_is)
    (case a_m_Store_keep => k_is)
    (case i_Store_keep => k_is)
    (case l_Store_keep => k_is)
    (case c_d_Store_keep => k_is)
    (case k_p_Store_keep => k_is)
    (case a_m_Store_wish => k_is)
    (case i_Store_wish => k_is)
    (case l_Store_wish => k_is)
    (case c_d_Store_wish => k_is)
    (case k_p_Store_wish => k_is)
    (case a_m_Store_mend => k_is)
    (case i_Store_mend => k_is)
    (case l_Store_mend => k_is)
    (case c_d_Store_mend => k_is)
    (case k_p_Store_mend => k_is)
    (case a_m_Store_least => k_is)
    (case i_Store_least => k_is)
    (case l_Store_least => k_is)
    (case c_d_Store_least => k_is)
    (case k_p_Store_least => k_is)
    (case a_m_Store_check => k_is)
    (case i_Store_check => k_is)
    (case l_Store_check => k_is)
    (case c_d_Store_check => k_is)
    (case k_p_Store_check => k_is)
    (case a_m_Store_done => k_is)
    (case i_Store_done => k_is)
    (case l_Store_done => k_is)
    (case c_d_Store_done => k_is)
    (case k_p_Store_done => k_is)
    (case a_m_Store_priced => k_is)
    (case i_Store_priced => k_is)
    (case l_Store_priced => k_is)
    (case c_d_Store_priced => k_is)
    (case k_p_Store_priced => k_is)
    (case a_m_Store_repair => k_is)
    (case i_Store_repair => k_is)
    (case l_Store_repair => k_is)
    (case c_d_Store_repair => k_is)
    (case k_p_Store_repair => k_is)
    (case a_m_Store_satisfying => k_is)
    (case i_Store_satisfying => k_is)
    (case l_Store_satisfying => k_is)
    (case c_d_Store_satisfying => k_is)
    (case k_p_Store_satisfying => k_is)
    (case a_m_Store_held_with => k_is)
    (case i_Store_held_with => k_is)
    (case l_Store_held_with => k_is)
    (case c_d_Store_held_with => k_is)
    (case k_p_Store_held_with => k_is)
    (case a_m_Store_satisfied_by => k_is)
    (case i_Store_satisfied_by => k_is)
    (case l_Store_satisfied_by => k_is)
    (case c_d_Store_satisfied_by => k_is)
    (case k_p_Store_satisfied_by => k_is)
    (case a_m_Store_check_room => k_is)
    (case i_Store_check_room => k_is)
    (case l_Store_check_room => k_is)
    (case c_d_Store_check_room => k_is)
    (case k_p_Store_check_room => k_is)
    (case a_m_Store_all_concepts => k_is)
    (case i_Store_all_concepts => k_is)
    (case l_Store_all_concepts => k_is)
    (case c_d_Store_all_concepts => k_is)
    (case k_p_Store_all_concepts => k_is)
    (case a_m_check_price => k_is)
    (case l_check_price => k_is)
    (case c_d_check_price => k_is)
    (case k_p_check_price => k_is)
    (case a_m_Reader_init => k_is)
    (case i_Reader_init => k_is)
    (case l_Reader_init => k_is)
    (case c_d_Reader_init => k_is)
    (case k_p_Reader_init => k_is)
    (case a_m_Reader_at_end => k_is)
    (case i_Reader_at_end => k_is)
    (case l_Reader_at_end => k_is)
    (case c_d_Reader_at_end => k_is)
    (case k_p_Reader_at_end => k_is)
    (case a_m_Reader_take_number => k_is)
    (case i_Reader_take_number => k_is)
    (case l_Reader_take_number => k_is)
    (case c_d_Reader_take_number => k_is)
    (case k_p_Reader_take_number => k_is)
    (case a_m_Reader_take_list => k_is)
    (case i_Reader_take_list => k_is)
    (case l_Reader_take_list => k_is)
    (case c_d_Reader_take_list => k_is)
    (case k_p_Reader_take_list => k_is)
    (case a_m_answers => k_is)
    (case l_answers => k_is)
    (case c_d_answers => k_is)
    (case k_p_answers => k_is)
    (case a_m_answer_of => k_is)
    (case l_answer_of => k_is)
    (case c_d_answer_of => k_is)
    (case k_p_answer_of => k_is)
    (case a_m_result_of => k_is)
    (case l_result_of => k_is)
    (case c_d_result_of => k_is)
    (case k_p_result_of => k_is)
    (case pg_Axiom => k_is)
    (case hd_Axiom => k_is)
    (case po_Axiom => k_is)
    (case sa_Axiom => k_is)
    (case mk_Axiom => k_is)
    (case kc_Axiom => k_is)
    (case n_Axiom_forms => k_is)
    (case n_Axiom_prices => k_is)
    (case pg_Link => k_is)
    (case hd_Link => k_is)
    (case po_Link => k_is)
    (case sa_Link => k_is)
    (case mk_Link => k_is)
    (case kc_Link => k_is)
    (case n_Link_role => k_is)
    (case n_Link_needy => k_is)
    (case n_Link_goal => k_is)
    (case pg_Patterns => k_is)
    (case hd_Patterns => k_is)
    (case po_Patterns => k_is)
    (case sa_Patterns => k_is)
    (case mk_Patterns => k_is)
    (case kc_Patterns => k_is)
    (case n_Patterns_total => k_is)
    (case n_Patterns_whole => k_is)
    (case n_Patterns_groups => k_is)
    (case n_Patterns_links => k_is)
    (case pg_Store => k_is)
    (case hd_Store => k_is)
    (case po_Store => k_is)
    (case sa_Store => k_is)
    (case mk_Store => k_is)
    (case kc_Store => k_is)
    (case n_Store_axioms => k_is)
    (case n_Store_unwanted => k_is)
    (case n_Store_wanted => k_is)
    (case pg_Reader => k_is)
    (case hd_Reader => k_is)
    (case po_Reader => k_is)
    (case sa_Reader => k_is)
    (case mk_Reader => k_is)
    (case kc_Reader => k_is)
    (case n_Reader_calls => k_is)
    (case n_Reader_place => k_is)
    (case x_WrongNumbers => k_exc)
    (case k_WrongNumbers => k_is)
    (case s_WrongNumbers => k_is)
    (case y_WrongNumbers => k_is)
    (case j_WrongNumbers => k_is)
    (case x_NoSuchAxiom => k_exc)
    (case k_NoSuchAxiom => k_is)
    (case s_NoSuchAxiom => k_is)
    (case y_NoSuchAxiom => k_is)
    (case j_NoSuchAxiom => k_is)
    (case x_NotWeaker => k_exc)
    (case k_NotWeaker => k_is)
    (case s_NotWeaker => k_is)
    (case y_NotWeaker => k_is)
    (case j_NotWeaker => k_is)
    (case x_NoRepair => k_exc)
    (case k_NoRepair => k_is)
    (case s_NoRepair => k_is)
    (case y_NoRepair => k_is)
    (case j_NoRepair => k_is)
    (case x_NoRoom => k_exc)
    (case k_NoRoom => k_is)
    (case s_NoRoom => k_is)
    (case y_NoRoom => k_is)
    (case j_NoRoom => k_is)
    (case x_UnknownCall => k_exc)
    (case k_UnknownCall => k_is)
    (case s_UnknownCall => k_is)
    (case y_UnknownCall => k_is)
    (case j_UnknownCall => k_is)
    (case u_WrongNumbers_WrongNumbers => first | k_is | kernel_rfl)
    (case u_WrongNumbers_NoSuchAxiom => first | k_is | kernel_rfl)
    (case u_WrongNumbers_NotWeaker => first | k_is | kernel_rfl)
    (case u_WrongNumbers_NoRepair => first | k_is | kernel_rfl)
    (case u_WrongNumbers_NoRoom => first | k_is | kernel_rfl)
    (case u_WrongNumbers_UnknownCall => first | k_is | kernel_rfl)
    (case u_NoSuchAxiom_WrongNumbers => first | k_is | kernel_rfl)
    (case u_NoSuchAxiom_NoSuchAxiom => first | k_is | kernel_rfl)
    (case u_NoSuchAxiom_NotWeaker => first | k_is | kernel_rfl)
    (case u_NoSuchAxiom_NoRepair => first | k_is | kernel_rfl)
    (case u_NoSuchAxiom_NoRoom => first | k_is | kernel_rfl)
    (case u_NoSuchAxiom_UnknownCall => first | k_is | kernel_rfl)
    (case u_NotWeaker_WrongNumbers => first | k_is | kernel_rfl)
    (case u_NotWeaker_NoSuchAxiom => first | k_is | kernel_rfl)
    (case u_NotWeaker_NotWeaker => first | k_is | kernel_rfl)
    (case u_NotWeaker_NoRepair => first | k_is | kernel_rfl)
    (case u_NotWeaker_NoRoom => first | k_is | kernel_rfl)
    (case u_NotWeaker_UnknownCall => first | k_is | kernel_rfl)
    (case u_NoRepair_WrongNumbers => first | k_is | kernel_rfl)
    (case u_NoRepair_NoSuchAxiom => first | k_is | kernel_rfl)
    (case u_NoRepair_NotWeaker => first | k_is | kernel_rfl)
    (case u_NoRepair_NoRepair => first | k_is | kernel_rfl)
    (case u_NoRepair_NoRoom => first | k_is | kernel_rfl)
    (case u_NoRepair_UnknownCall => first | k_is | kernel_rfl)
    (case u_NoRoom_WrongNumbers => first | k_is | kernel_rfl)
    (case u_NoRoom_NoSuchAxiom => first | k_is | kernel_rfl)
    (case u_NoRoom_NotWeaker => first | k_is | kernel_rfl)
    (case u_NoRoom_NoRepair => first | k_is | kernel_rfl)
    (case u_NoRoom_NoRoom => first | k_is | kernel_rfl)
    (case u_NoRoom_UnknownCall => first | k_is | kernel_rfl)
    (case u_UnknownCall_WrongNumbers => first | k_is | kernel_rfl)
    (case u_UnknownCall_NoSuchAxiom => first | k_is | kernel_rfl)
    (case u_UnknownCall_NotWeaker => first | k_is | kernel_rfl)
    (case u_UnknownCall_NoRepair => first | k_is | kernel_rfl)
    (case u_UnknownCall_NoRoom => first | k_is | kernel_rfl)
    (case u_UnknownCall_UnknownCall => first | k_is | kernel_rfl)
    (case g_EVERYTHING => k_is)
    (case g_NOTHING => k_is)
    (case g_NAME => k_is)
    (case g_BOTH => k_is)
    (case g_EITHER => k_is)
    (case g_SOME => k_is)
    (case g_ATOM_SIGNS => k_is)
    (case lt_ATOM_SIGNS => k_is)
    (case sz_ATOM_SIGNS => exact Nat.le_of_ble_eq_true rfl)
    (case vs_ATOM_SIGNS => repeat (first | exact .nil | refine .cons ⟨_, rfl⟩ ?_))
    (case g_CHOICES => k_is)
    (case lt_CHOICES => k_is)
    (case sz_CHOICES => exact Nat.le_of_ble_eq_true rfl)
    (case vs_CHOICES => repeat (first | exact .nil | refine .cons ⟨_, rfl⟩ ?_))
    (case g_FOLLOWERS => k_is)
    (case lt_FOLLOWERS => k_is)
    (case sz_FOLLOWERS => exact Nat.le_of_ble_eq_true rfl)
    (case vs_FOLLOWERS => repeat (first | exact .nil | refine .cons ⟨_, rfl⟩ ?_))
    (case g_MOST_AXIOMS => k_is)
    (case g_MOST_FORMS => k_is)
    (case g_MOST_WISHES => k_is)
    (case g_MOST_ATOMS => k_is)
    (case g_HIGHEST_PRICE => k_is)
    (case g_BEGINS => k_is)
    (case g_LINE => k_is)
    (case g_LESS => k_is)
    (case g_NEVER => k_is)
    (case g_KEEP => k_is)
    (case g_MEND => k_is)
    (case g_LEAST => k_is)
    (case g_CHECK => k_is)
    (case g_DONE => k_is)
    (case b_all => k_is)
    (case b_any => k_is)
    (case b_enumerate => k_is)
    (case b_int => k_is)
    (case b_len => k_is)
    (case b_list => k_is)
    (case b_min => k_is)
    (case b_range => k_is)
    (case b_reversed => k_is)
    (case b_sum => k_is)
    (case b_tuple => k_is)
    (case b_zip => k_is)
    (case zcr => rfl)
  case S =>
    intro K H0 H xs a hO up hT hwi hask hx
    cases hx with
    | cons h1 h2 =>
      cases h2
      cases h1 with
      | lst hs ha =>
        have e := L2.ints_dw a.1 _ ha
        subst e
        have q : ((Codec.inLen 0 2100 a.1 && a.1.all (Codec.inInt 0 4294967295)) && true) = true := hwi
        rw [Bool.and_eq_true, Bool.and_eq_true] at q
        refine ⟨_, a.1, rfl, hT, ?_, (Codec.inNat_iff.mp q.1.1).2, fun x hx => ?_, hask, fun H' p hp => .lst (L2.SqL.of hp) (L2.dw_ints _)⟩
        · rcases hs with (h | ⟨o, h⟩) | h
          · exact .inl (.inl (up _ _ h))
          · exact .inl (.inr ⟨o, up _ _ h⟩)
          · exact .inr h
        · exact Codec.inInt_iff.mp (List.all_eq_true.mp q.1.2 x hx)
